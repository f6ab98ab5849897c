/- What words.Plus and words.Times give back. -/
import Derived.Test.YtlicdeppfhmfjabGreatDoorAcc
import Derived.Laws.ResultCell
namespace Go.Proofs.YtlicdeppfhmfjabGreatDoor.words
open Go.RowKit

/-- A wide number as the program holds it. -/
abbrev wv (w : W3) : Value := .agg #[.int .u32 w.a, .int .u32 w.b, .int .u32 w.c]

set_option maxHeartbeats 1000000 in
theorem plus_any (x : W3) (a : Int) (w : World) (hx : x.ok) (a0 : 0 ≤ a) (a1 : a < 4294967296) :
    Calls Tryz.prog 65 #[wv x, .int .u32 a] w fun e w' => e = .returned (.tuple #[wv (plusW x a), .int .u32 (plusO x a)]) ∧ Below w.heap.size w w' := by
  obtain ⟨x0, x1, x2⟩ := x
  obtain ⟨⟨h0, h0'⟩, ⟨h1, h1'⟩, h2, h2'⟩ := hx
  simp only at h0 h0' h1 h1' h2 h2'
  go_enter Tryz.func65, Tryz.ntmps65
  go_wp2_with fail
  have hB : w.heap.size + 1 + 1 = ((w.alloc (.cells #[.int .u32 x0, .int .u32 x1, .int .u32 x2] 77)).alloc (.cells #[.int .u32 0, .int .u32 0, .int .u32 0] 77)).heap.size := by simp
  have hc := trio_c w #[.int .u32 x0, .int .u32 x1, .int .u32 x2] (.int .u32 0) (.int .u32 0) (.int .u32 0) (.int .u64 a) 107
  have hb3 := bel3 w (.cells #[.int .u32 x0, .int .u32 x1, .int .u32 x2] 77) (.cells #[.int .u32 0, .int .u32 0, .int .u32 0] 77) (.cells #[.int .u64 a] 107)
  refine (upward_any 93 #[.pointer (some ⟨w.heap.size + 1 + 1, 0, none⟩)] (w.heap.size + 1 + 1) (.int .u64 a) (.int .u64 ((a + x0) / 4294967296)) (.int .u64 (((a + x0) / 4294967296 + x1) / 4294967296)) (.int .u64 ((((a + x0) / 4294967296 + x1) / 4294967296 + x2) / 4294967296)) x0 x1 x2
    ((a + x0) % 4294967296) (((a + x0) / 4294967296 + x1) % 4294967296) ((((a + x0) / 4294967296 + x1) / 4294967296 + x2) % 4294967296) _ (Acc.refl hc.1 hc.2.1) run_plusStep
    (fun w' h => plusStep_any _ _ _ w' h.cell h.free (by omega) (by omega) h0 h0')
    (fun w' h => plusStep_any _ _ _ w' h.cell h.free (by omega) (by omega) h1 h1')
    (fun w' h => plusStep_any _ _ _ w' h.cell h.free (by omega) (by omega) h2 h2')).mono ?_
  rintro e w1 ⟨he, hA⟩
  have hR : Trio w1 (w.heap.size + 1) (.int .u32 0) (.int .u32 0) (.int .u32 0) := hc.2.2.acc hA (by omega)
  have HB : Hid (Below w.heap.size w w1) := hA.below hb3 (by omega)
  have hcell := hA.cell
  have hsz : w.heap.size + 1 + 1 < w1.heap.size := Nat.lt_of_lt_of_le hA.old hA.size
  have EW : wv (plusW ⟨x0, x1, x2⟩ a) = .agg #[.int .u32 ((a + x0) % 4294967296), .int .u32 (((a + x0) / 4294967296 + x1) % 4294967296), .int .u32 ((((a + x0) / 4294967296 + x1) / 4294967296 + x2) % 4294967296)] := rfl
  have EO : plusO ⟨x0, x1, x2⟩ a = (((a + x0) / 4294967296 + x1) / 4294967296 + x2) / 4294967296 := rfl
  have z0 : 0 ≤ (((a + x0) / 4294967296 + x1) / 4294967296 + x2) / 4294967296 := by omega
  have z1 : (((a + x0) / 4294967296 + x1) / 4294967296 + x2) / 4294967296 ≤ 1 := by omega
  have HE : Hid (.returned (.tuple #[wv (plusW ⟨x0, x1, x2⟩ a), .int .u32 (plusO ⟨x0, x1, x2⟩ a)]) = Ending.returned (.tuple #[.agg #[.int .u32 ((a + x0) % 4294967296), .int .u32 (((a + x0) / 4294967296 + x1) % 4294967296), .int .u32 ((((a + x0) / 4294967296 + x1) / 4294967296 + x2) % 4294967296)], .int .u32 ((((a + x0) / 4294967296 + x1) / 4294967296 + x2) / 4294967296)])) := by
    have : Ending.returned (.tuple #[wv (plusW ⟨x0, x1, x2⟩ a), .int .u32 (plusO ⟨x0, x1, x2⟩ a)]) = Ending.returned (.tuple #[.agg #[.int .u32 ((a + x0) % 4294967296), .int .u32 (((a + x0) / 4294967296 + x1) % 4294967296), .int .u32 ((((a + x0) / 4294967296 + x1) / 4294967296 + x2) % 4294967296)], .int .u32 ((((a + x0) / 4294967296 + x1) / 4294967296 + x2) / 4294967296)]) := by rw [EW, EO]
    exact this
  clear hA hc hb3 hB EW EO
  have HE2 : Hid (e = .returned (.agg #[.int .u32 ((a + x0) % 4294967296), .int .u32 (((a + x0) / 4294967296 + x1) % 4294967296), .int .u32 ((((a + x0) / 4294967296 + x1) / 4294967296 + x2) % 4294967296)])) := he
  clear he
  generalize hz : (((a + x0) / 4294967296 + x1) / 4294967296 + x2) / 4294967296 = z at hcell z0 z1 HE HE2
  generalize hy0 : (a + x0) % 4294967296 = y0 at HE HE2
  generalize hy1 : ((a + x0) / 4294967296 + x1) % 4294967296 = y1 at HE HE2
  generalize hy2 : (((a + x0) / 4294967296 + x1) / 4294967296 + x2) % 4294967296 = y2 at HE HE2
  clear hz hy0 hy1 hy2
  obtain rfl := HE2.out
  clear HE2
  have hR := hR.alloc (.cells #[.int .u32 y0, .int .u32 y1, .int .u32 y2] 77)
  have r0 := hR.c0
  have r1 := hR.c1
  have r2 := hR.c2
  have g0 := hR.free 0
  have g1 := hR.free 1
  have g2 := hR.free 2
  have HR : Hid (Trio (w1.alloc (.cells #[.int .u32 y0, .int .u32 y1, .int .u32 y2] 77)) (w.heap.size + 1) (.int .u32 0) (.int .u32 0) (.int .u32 0)) := hR
  clear hR
  go_wp2_with fail
  go_region
  all_goals go_wp2_with fail
  have RR := ((HR.out.set0 (.int .u32 y0)).set1 (.int .u32 y1)).set2 (.int .u32 y2)
  refine bodyPost_ret (v := .tuple #[.agg #[.int .u32 y0, .int .u32 y1, .int .u32 y2], .int .u32 z]) (by simp [results, Tryz.results65, RR.c0, RR.c1, RR.c2, go_sem]) rfl ⟨HE.out.symm, ?_⟩
  exact below_put (HB.out.alloc HB.out.size _) _ _ _ _ _ _ _ (by omega)

end Go.Proofs.YtlicdeppfhmfjabGreatDoor.words
