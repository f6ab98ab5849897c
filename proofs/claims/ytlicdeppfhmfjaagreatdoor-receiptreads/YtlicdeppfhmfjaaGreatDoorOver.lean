/- What words.Over gives back. -/
import Derived.Test.YtlicdeppfhmfjaaGreatDoorDown
import Derived.Test.YtlicdeppfhmfjaaGreatDoorTrio
import Derived.Test.YtlicdeppfhmfjaaGreatDoorBop
namespace Go.Proofs.YtlicdeppfhmfjaaGreatDoor.words
open Go.RowKit

/-- A number's word, carried on by Over. -/
theorem overStep_any (B M : Nat) (n x d : Int) (w : World) (hc : w.cell? ⟨B, 0, none⟩ = some (.int .u64 n)) (hf : w.frozen? ⟨B, 0, none⟩ = false) (hm : w.cell? ⟨M, 0, none⟩ = some (.int .u32 d)) (hBM : M ≠ B) (n0 : 0 ≤ n) (n1 : n < d) (x0 : 0 ≤ x) (x1 : x < 4294967296) (d0 : 0 < d) (d1 : d < 4294967296) :
    Calls Tryz.prog 93 #[.int .u32 x, .pointer (some ⟨B, 0, none⟩), .pointer (some ⟨M, 0, none⟩)] w fun e w' => e = .returned (.int .u32 ((n * 4294967296 + x) / d)) ∧ Acc w w' B (.int .u64 ((n * 4294967296 + x) % d)) := by
  have hA : Acc w w B (.int .u64 n) := Acc.refl hc hf
  have HA : Hid (Acc w w B (.int .u64 n)) := hA
  have hor := or_words n x n0 (by omega) x0 x1
  have q := word_div d0 n0 n1 x0 x1
  obtain ⟨q0, q1⟩ := q
  have r0 : 0 ≤ (n * 4294967296 + x) % d := Int.emod_nonneg _ (by omega)
  have r1 : (n * 4294967296 + x) % d < d := Int.emod_lt_of_pos _ d0
  clear hA
  go_enter Tryz.func93, Tryz.ntmps93
  go_wp2_with fail
  go_ret
  exact ⟨rfl, HA.out.set _⟩

theorem trio_e (w : World) (o1 o2 : Obj) (x y z : Value) : Trio (((w.alloc o1).alloc o2).alloc (.cells #[x, y, z] 85)) (w.heap.size + 1 + 1) x y z := by
  show (((w.heap.push o1).push o2).push _)[w.heap.size + 1 + 1]? = _
  have : w.heap.size + 1 + 1 = ((w.heap.push o1).push o2).size := by simp
  rw [this, Array.getElem?_push_size]

theorem run_overStep (args : Array Value) (w : World) : (callFunc 93 args).run Tryz.prog w = .ok (.enter 93 args) w := by kernel_rfl

theorem over_zero (x : W3) (w : World) :
    Calls Tryz.prog 55 #[wv x, .int .u32 0] w fun e w' => e = .returned (.tuple #[wv ⟨0, 0, 0⟩, .int .u32 0, .int .i64 4]) ∧ Below w.heap.size w w' := by
  obtain ⟨x0, x1, x2⟩ := x
  have hb := bel3 w (.cells #[.int .u32 x0, .int .u32 x1, .int .u32 x2] 85) (.cells #[.int .u32 0] 83) (.cells #[.int .u32 0, .int .u32 0, .int .u32 0] 85)
  have HB : Hid (Below w.heap.size w (((w.alloc (.cells #[.int .u32 x0, .int .u32 x1, .int .u32 x2] 85)).alloc (.cells #[.int .u32 0] 83)).alloc (.cells #[.int .u32 0, .int .u32 0, .int .u32 0] 85))) := hb
  clear hb
  go_enter Tryz.func55, Tryz.ntmps55
  go_wp2_with fail
  have RR := trio_e w (.cells #[.int .u32 x0, .int .u32 x1, .int .u32 x2] 85) (.cells #[.int .u32 0] 83) (.int .u32 0) (.int .u32 0) (.int .u32 0)
  refine bodyPost_ret (v := .tuple #[.agg #[.int .u32 0, .int .u32 0, .int .u32 0], .int .u32 0, .int .i64 4]) (by simp [results, Tryz.results55, RR.c0, RR.c1, RR.c2, go_sem]) rfl ⟨rfl, HB.out⟩

set_option maxHeartbeats 1000000 in
theorem over_any (x : W3) (d : Int) (w : World) (hx : x.ok) (d0 : 0 < d) (d1 : d < 4294967296) :
    Calls Tryz.prog 55 #[wv x, .int .u32 d] w fun e w' => e = .returned (.tuple #[wv (overW x d), .int .u32 (overR x d), .int .i64 0]) ∧ Below w.heap.size w w' := by
  obtain ⟨x0, x1, x2⟩ := x
  obtain ⟨⟨h0, h0'⟩, ⟨h1, h1'⟩, h2, h2'⟩ := hx
  simp only at h0 h0' h1 h1' h2 h2'
  have hd0 : (d == 0) = false := by simp; omega
  go_enter Tryz.func55, Tryz.ntmps55
  go_wp2_with fail
  have hc := trio_d w #[.int .u32 x0, .int .u32 x1, .int .u32 x2] (.int .u32 d) 83 (.int .u32 0) (.int .u32 0) (.int .u32 0) (.int .u64 0) 129
  have hb3 := bel4 w (.cells #[.int .u32 x0, .int .u32 x1, .int .u32 x2] 85) (.cells #[.int .u32 d] 83) (.cells #[.int .u32 0, .int .u32 0, .int .u32 0] 85) (.cells #[.int .u64 0] 129)
  have e0 : (0 : Int) * 4294967296 + x2 = x2 := by omega
  have r2 : 0 ≤ x2 % d := Int.emod_nonneg _ (by omega)
  have r2' : x2 % d < d := Int.emod_lt_of_pos _ d0
  have r1 : 0 ≤ ((x2 % d) * 4294967296 + x1) % d := Int.emod_nonneg _ (by omega)
  have r1' : ((x2 % d) * 4294967296 + x1) % d < d := Int.emod_lt_of_pos _ d0
  refine (downward_any 93 #[.pointer (some ⟨w.heap.size + 1 + 1 + 1, 0, none⟩), .pointer (some ⟨w.heap.size + 1, 0, none⟩)] (w.heap.size + 1 + 1 + 1) (.int .u64 0) (.int .u64 (x2 % d)) (.int .u64 (((x2 % d) * 4294967296 + x1) % d)) (.int .u64 (((((x2 % d) * 4294967296 + x1) % d) * 4294967296 + x0) % d)) x0 x1 x2
    (((((x2 % d) * 4294967296 + x1) % d) * 4294967296 + x0) / d) (((x2 % d) * 4294967296 + x1) / d) (x2 / d) _ (Acc.refl hc.1 hc.2.1) run_overStep
    (fun w' h => by have := overStep_any (w.heap.size + 1 + 1 + 1) (w.heap.size + 1) 0 x2 d w' h.cell h.free (h.keep hc.2.2.2 (by omega)) (by omega) (by omega) (by omega) h2 h2' d0 d1; rw [e0] at this; exact this)
    (fun w' h => overStep_any _ _ _ _ _ w' h.cell h.free (h.keep hc.2.2.2 (by omega)) (by omega) r2 r2' h1 h1' d0 d1)
    (fun w' h => overStep_any _ _ _ _ _ w' h.cell h.free (h.keep hc.2.2.2 (by omega)) (by omega) r1 r1' h0 h0' d0 d1)).mono ?_
  rintro e w1 ⟨he, hA⟩
  have hR : Trio w1 (w.heap.size + 1 + 1) (.int .u32 0) (.int .u32 0) (.int .u32 0) := hc.2.2.1.acc hA (by omega)
  have HB : Hid (Below w.heap.size w w1) := hA.below hb3 (by omega)
  have hcell := hA.cell
  have hsz : w.heap.size + 1 + 1 + 1 < w1.heap.size := Nat.lt_of_lt_of_le hA.old hA.size
  have z0 : 0 ≤ ((((x2 % d) * 4294967296 + x1) % d) * 4294967296 + x0) % d := Int.emod_nonneg _ (by omega)
  have z1 : ((((x2 % d) * 4294967296 + x1) % d) * 4294967296 + x0) % d < d := Int.emod_lt_of_pos _ d0
  have HE : Hid (Ending.returned (.tuple #[wv (overW ⟨x0, x1, x2⟩ d), .int .u32 (overR ⟨x0, x1, x2⟩ d), .int .i64 0]) = Ending.returned (.tuple #[.agg #[.int .u32 (((((x2 % d) * 4294967296 + x1) % d) * 4294967296 + x0) / d), .int .u32 (((x2 % d) * 4294967296 + x1) / d), .int .u32 (x2 / d)], .int .u32 (((((x2 % d) * 4294967296 + x1) % d) * 4294967296 + x0) % d), .int .i64 0])) := by
    have : Ending.returned (.tuple #[wv (overW ⟨x0, x1, x2⟩ d), .int .u32 (overR ⟨x0, x1, x2⟩ d), .int .i64 0]) = Ending.returned (.tuple #[.agg #[.int .u32 (((((x2 % d) * 4294967296 + x1) % d) * 4294967296 + x0) / d), .int .u32 (((x2 % d) * 4294967296 + x1) / d), .int .u32 (x2 / d)], .int .u32 (((((x2 % d) * 4294967296 + x1) % d) * 4294967296 + x0) % d), .int .i64 0]) := rfl
    exact this
  clear hA hc hb3 e0 r1 r1' r2 r2'
  have HE2 : Hid (e = .returned (.agg #[.int .u32 (((((x2 % d) * 4294967296 + x1) % d) * 4294967296 + x0) / d), .int .u32 (((x2 % d) * 4294967296 + x1) / d), .int .u32 (x2 / d)])) := he
  clear he
  generalize hz : ((((x2 % d) * 4294967296 + x1) % d) * 4294967296 + x0) % d = z at hcell z0 z1 HE HE2
  generalize hy0 : ((((x2 % d) * 4294967296 + x1) % d) * 4294967296 + x0) / d = y0 at HE HE2
  generalize hy1 : ((x2 % d) * 4294967296 + x1) / d = y1 at HE HE2
  generalize hy2 : x2 / d = y2 at HE HE2
  clear hz hy0 hy1 hy2
  obtain rfl := HE2.out
  clear HE2
  have hR := hR.alloc (.cells #[.int .u32 y0, .int .u32 y1, .int .u32 y2] 85)
  have r0 := hR.c0
  have r1 := hR.c1
  have r2 := hR.c2
  have g0 := hR.free 0
  have g1 := hR.free 1
  have g2 := hR.free 2
  have HR : Hid (Trio (w1.alloc (.cells #[.int .u32 y0, .int .u32 y1, .int .u32 y2] 85)) (w.heap.size + 1 + 1) (.int .u32 0) (.int .u32 0) (.int .u32 0)) := hR
  clear hR
  go_wp2_with fail
  go_region
  all_goals go_wp2_with fail
  have RR := ((HR.out.set0 (.int .u32 y0)).set1 (.int .u32 y1)).set2 (.int .u32 y2)
  refine bodyPost_ret (v := .tuple #[.agg #[.int .u32 y0, .int .u32 y1, .int .u32 y2], .int .u32 z, .int .i64 0]) (by simp [results, Tryz.results55, RR.c0, RR.c1, RR.c2, go_sem]) rfl ⟨HE.out.symm, ?_⟩
  exact below_put (HB.out.alloc HB.out.size _) _ _ _ _ _ _ _ (by omega)

end Go.Proofs.YtlicdeppfhmfjaaGreatDoor.words
