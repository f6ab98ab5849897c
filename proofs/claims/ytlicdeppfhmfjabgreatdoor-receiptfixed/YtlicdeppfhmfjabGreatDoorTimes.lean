/- What words.Times gives back. -/
import Derived.Test.YtlicdeppfhmfjabGreatDoorPlus
namespace Go.Proofs.YtlicdeppfhmfjabGreatDoor.words
open Go.RowKit

theorem run_timesStep (args : Array Value) (w : World) : (callFunc 91 args).run Tryz.prog w = .ok (.enter 91 args) w := by kernel_rfl

set_option maxHeartbeats 1000000 in
theorem times_any (x : W3) (m : Int) (w : World) (hx : x.ok) (m0 : 0 ≤ m) (m1 : m < 4294967296) :
    Calls Tryz.prog 64 #[wv x, .int .u32 m] w fun e w' => e = .returned (.tuple #[wv (timesW x m), .int .u32 (timesO x m)]) ∧ Below w.heap.size w w' := by
  obtain ⟨x0, x1, x2⟩ := x
  obtain ⟨⟨h0, h0'⟩, ⟨h1, h1'⟩, h2, h2'⟩ := hx
  simp only at h0 h0' h1 h1' h2 h2'
  go_enter Tryz.func64, Tryz.ntmps64
  go_wp2_with fail
  obtain ⟨p0, p0'⟩ := prod_bd h0 h0' m0 m1
  obtain ⟨p1, p1'⟩ := prod_bd h1 h1' m0 m1
  obtain ⟨p2, p2'⟩ := prod_bd h2 h2' m0 m1
  have hc := trio_d w #[.int .u32 x0, .int .u32 x1, .int .u32 x2] (.int .u32 m) 75 (.int .u32 0) (.int .u32 0) (.int .u32 0) (.int .u64 0) 107
  have hb3 := bel4 w (.cells #[.int .u32 x0, .int .u32 x1, .int .u32 x2] 77) (.cells #[.int .u32 m] 75) (.cells #[.int .u32 0, .int .u32 0, .int .u32 0] 77) (.cells #[.int .u64 0] 107)
  have e0 : (0 : Int) + x0 * m = x0 * m := by omega
  refine (upward_any 91 #[.pointer (some ⟨w.heap.size + 1 + 1 + 1, 0, none⟩), .pointer (some ⟨w.heap.size + 1, 0, none⟩)] (w.heap.size + 1 + 1 + 1) (.int .u64 0) (.int .u64 ((x0 * m) / 4294967296)) (.int .u64 (((x0 * m) / 4294967296 + x1 * m) / 4294967296)) (.int .u64 ((((x0 * m) / 4294967296 + x1 * m) / 4294967296 + x2 * m) / 4294967296)) x0 x1 x2
    ((x0 * m) % 4294967296) (((x0 * m) / 4294967296 + x1 * m) % 4294967296) ((((x0 * m) / 4294967296 + x1 * m) / 4294967296 + x2 * m) % 4294967296) _ (Acc.refl hc.1 hc.2.1) run_timesStep
    (fun w' h => by have := timesStep_any (w.heap.size + 1 + 1 + 1) (w.heap.size + 1) 0 x0 m w' h.cell h.free (h.keep hc.2.2.2 (by omega)) (by omega) (by omega) h0 h0' m0 m1; rw [e0] at this; exact this)
    (fun w' h => timesStep_any _ _ _ _ _ w' h.cell h.free (h.keep hc.2.2.2 (by omega)) (by omega) (by omega) h1 h1' m0 m1)
    (fun w' h => timesStep_any _ _ _ _ _ w' h.cell h.free (h.keep hc.2.2.2 (by omega)) (by omega) (by omega) h2 h2' m0 m1)).mono ?_
  rintro e w1 ⟨he, hA⟩
  have hR : Trio w1 (w.heap.size + 1 + 1) (.int .u32 0) (.int .u32 0) (.int .u32 0) := hc.2.2.1.acc hA (by omega)
  have HB : Hid (Below w.heap.size w w1) := hA.below hb3 (by omega)
  have hcell := hA.cell
  have hsz : w.heap.size + 1 + 1 + 1 < w1.heap.size := Nat.lt_of_lt_of_le hA.old hA.size
  have EW : wv (timesW ⟨x0, x1, x2⟩ m) = .agg #[.int .u32 ((x0 * m) % 4294967296), .int .u32 (((x0 * m) / 4294967296 + x1 * m) % 4294967296), .int .u32 ((((x0 * m) / 4294967296 + x1 * m) / 4294967296 + x2 * m) % 4294967296)] := rfl
  have EO : timesO ⟨x0, x1, x2⟩ m = (((x0 * m) / 4294967296 + x1 * m) / 4294967296 + x2 * m) / 4294967296 := rfl
  have z0 : 0 ≤ (((x0 * m) / 4294967296 + x1 * m) / 4294967296 + x2 * m) / 4294967296 := by omega
  have z1 : (((x0 * m) / 4294967296 + x1 * m) / 4294967296 + x2 * m) / 4294967296 < 4294967296 := by omega
  have HE : Hid (.returned (.tuple #[wv (timesW ⟨x0, x1, x2⟩ m), .int .u32 (timesO ⟨x0, x1, x2⟩ m)]) = Ending.returned (.tuple #[.agg #[.int .u32 ((x0 * m) % 4294967296), .int .u32 (((x0 * m) / 4294967296 + x1 * m) % 4294967296), .int .u32 ((((x0 * m) / 4294967296 + x1 * m) / 4294967296 + x2 * m) % 4294967296)], .int .u32 ((((x0 * m) / 4294967296 + x1 * m) / 4294967296 + x2 * m) / 4294967296)])) := by
    have : Ending.returned (.tuple #[wv (timesW ⟨x0, x1, x2⟩ m), .int .u32 (timesO ⟨x0, x1, x2⟩ m)]) = Ending.returned (.tuple #[.agg #[.int .u32 ((x0 * m) % 4294967296), .int .u32 (((x0 * m) / 4294967296 + x1 * m) % 4294967296), .int .u32 ((((x0 * m) / 4294967296 + x1 * m) / 4294967296 + x2 * m) % 4294967296)], .int .u32 ((((x0 * m) / 4294967296 + x1 * m) / 4294967296 + x2 * m) / 4294967296)]) := by rw [EW, EO]
    exact this
  clear hA hc hb3 EW EO e0 p0 p0' p1 p1' p2 p2'
  have HE2 : Hid (e = .returned (.agg #[.int .u32 ((x0 * m) % 4294967296), .int .u32 (((x0 * m) / 4294967296 + x1 * m) % 4294967296), .int .u32 ((((x0 * m) / 4294967296 + x1 * m) / 4294967296 + x2 * m) % 4294967296)])) := he
  clear he
  generalize hz : (((x0 * m) / 4294967296 + x1 * m) / 4294967296 + x2 * m) / 4294967296 = z at hcell z0 z1 HE HE2
  generalize hy0 : (x0 * m) % 4294967296 = y0 at HE HE2
  generalize hy1 : ((x0 * m) / 4294967296 + x1 * m) % 4294967296 = y1 at HE HE2
  generalize hy2 : (((x0 * m) / 4294967296 + x1 * m) / 4294967296 + x2 * m) % 4294967296 = y2 at HE HE2
  clear hz hy0 hy1 hy2
  obtain rfl := HE2.out
  clear HE2
  have hR := hR.alloc (.cells #[.int .u32 y0, .int .u32 y1, .int .u32 y2] 77)
  have r0 := hR.c0
  have r1 := hR.c1
  have r2 := hR.c2
  have g0 := hR.free 0
  have g1 := hR.free 1
  have g2 := hR.free 2
  have HR : Hid (Trio (w1.alloc (.cells #[.int .u32 y0, .int .u32 y1, .int .u32 y2] 77)) (w.heap.size + 1 + 1) (.int .u32 0) (.int .u32 0) (.int .u32 0)) := hR
  clear hR
  go_wp2_with fail
  go_region
  all_goals go_wp2_with fail
  have RR := ((HR.out.set0 (.int .u32 y0)).set1 (.int .u32 y1)).set2 (.int .u32 y2)
  refine bodyPost_ret (v := .tuple #[.agg #[.int .u32 y0, .int .u32 y1, .int .u32 y2], .int .u32 z]) (by simp [results, Tryz.results64, RR.c0, RR.c1, RR.c2, go_sem]) rfl ⟨HE.out.symm, ?_⟩
  exact below_put (HB.out.alloc HB.out.size _) _ _ _ _ _ _ _ (by omega)

end Go.Proofs.YtlicdeppfhmfjabGreatDoor.words
