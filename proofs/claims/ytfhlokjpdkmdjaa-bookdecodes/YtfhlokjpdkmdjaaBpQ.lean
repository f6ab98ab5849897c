/- Are the numbers of an event as told? In the program. -/
import Derived.Test.YtfhlokjpdkmdjaaBpN
import Derived.Test.YtfhlokjpdkmdjaaBpI
import Derived.Test.YtfhlokjpdkmdjaaBlk
import Derived.Test.YtfhlokjpdkmdjaaLet
import Derived.WalkKit
import Derived.Deep.DeepCutAuto
namespace Go.Proofs.Ytfhlokjpdkmdjaa.book
open Go.RowKit
set_option maxRecDepth 100000
set_option linter.unusedVariables false
set_option linter.unusedSimpArgs false

set_option maxHeartbeats 4000000 in
theorem bnum (kd me mo id te de fe pr ch un tg ow bp : Int) (w : World) : Calls Try.prog 60 #[.agg #[.int .i64 kd, .int .i64 me, .int .i64 mo, .int .i64 id, .int .i64 te, .int .i64 de, .int .i64 fe, .int .i64 pr, .int .i64 ch, .int .i64 un, .int .i64 tg, .int .i64 ow, .int .i64 bp]] w fun e w' => YN w (Numd id tg) e w' := by
  have HX0 : Hid (Blk (w.alloc (.cells #[.int .i64 kd, .int .i64 me, .int .i64 mo, .int .i64 id, .int .i64 te, .int .i64 de, .int .i64 fe, .int .i64 pr, .int .i64 ch, .int .i64 un, .int .i64 tg, .int .i64 ow, .int .i64 bp] 27)) w.heap.size #[.int .i64 kd, .int .i64 me, .int .i64 mo, .int .i64 id, .int .i64 te, .int .i64 de, .int .i64 fe, .int .i64 pr, .int .i64 ch, .int .i64 un, .int .i64 tg, .int .i64 ow, .int .i64 bp] 27) := Blk.new _ _ _
  have HB0 : Hid (Below w.heap.size w (w.alloc (.cells #[.int .i64 kd, .int .i64 me, .int .i64 mo, .int .i64 id, .int .i64 te, .int .i64 de, .int .i64 fe, .int .i64 pr, .int .i64 ch, .int .i64 un, .int .i64 tg, .int .i64 ow, .int .i64 bp] 27))) := (Below.refl _ _).alloc (Nat.le_refl _) _
  generalize hWW : (w.alloc (.cells #[.int .i64 kd, .int .i64 me, .int .i64 mo, .int .i64 id, .int .i64 te, .int .i64 de, .int .i64 fe, .int .i64 pr, .int .i64 ch, .int .i64 un, .int .i64 tg, .int .i64 ow, .int .i64 bp] 27)) = W0 at *
  have HWW : Hid ((w.alloc (.cells #[.int .i64 kd, .int .i64 me, .int .i64 mo, .int .i64 id, .int .i64 te, .int .i64 de, .int .i64 fe, .int .i64 pr, .int .i64 ch, .int .i64 un, .int .i64 tg, .int .i64 ow, .int .i64 bp] 27)) = W0) := hWW
  clear hWW
  go_enter Try.func60, Try.ntmps60
  go_upto_region 1 with fail
  rw [HWW.out]
  clear HWW
  have c0 : W0.cell? ⟨w.heap.size, 0, none⟩ = some (.int .i64 kd) := HX0.out.cell 0
  have c1 : W0.cell? ⟨w.heap.size, 1, none⟩ = some (.int .i64 me) := HX0.out.cell 1
  have c2 : W0.cell? ⟨w.heap.size, 2, none⟩ = some (.int .i64 mo) := HX0.out.cell 2
  have c3 : W0.cell? ⟨w.heap.size, 3, none⟩ = some (.int .i64 id) := HX0.out.cell 3
  have c4 : W0.cell? ⟨w.heap.size, 4, none⟩ = some (.int .i64 te) := HX0.out.cell 4
  have c5 : W0.cell? ⟨w.heap.size, 5, none⟩ = some (.int .i64 de) := HX0.out.cell 5
  have c6 : W0.cell? ⟨w.heap.size, 6, none⟩ = some (.int .i64 fe) := HX0.out.cell 6
  have c7 : W0.cell? ⟨w.heap.size, 7, none⟩ = some (.int .i64 pr) := HX0.out.cell 7
  have c8 : W0.cell? ⟨w.heap.size, 8, none⟩ = some (.int .i64 ch) := HX0.out.cell 8
  have c9 : W0.cell? ⟨w.heap.size, 9, none⟩ = some (.int .i64 un) := HX0.out.cell 9
  have c10 : W0.cell? ⟨w.heap.size, 10, none⟩ = some (.int .i64 tg) := HX0.out.cell 10
  have c11 : W0.cell? ⟨w.heap.size, 11, none⟩ = some (.int .i64 ow) := HX0.out.cell 11
  have c12 : W0.cell? ⟨w.heap.size, 12, none⟩ = some (.int .i64 bp) := HX0.out.cell 12
  have HW0 : Hid (Calls Try.prog 43 #[.int .i64 1, .int .i64 1048575, .slice (some ⟨W0.heap.size, 0, none⟩) 1 1] (W0.alloc (.cells #[.int .i64 id] 3)) fun e w' => e = .returned (.bool (decide (1 ≤ id ∧ id ≤ 1048575))) ∧ w' = (W0.alloc (.cells #[.int .i64 id] 3))) := bki.within_one 1 1048575 id W0 _ rfl
  have HB1 : Hid (Below w.heap.size w (W0.alloc (.cells #[.int .i64 id] 3))) := HB0.out.alloc HB0.out.size _
  have HX1 : Hid (Blk (W0.alloc (.cells #[.int .i64 id] 3)) w.heap.size #[.int .i64 kd, .int .i64 me, .int .i64 mo, .int .i64 id, .int .i64 te, .int .i64 de, .int .i64 fe, .int .i64 pr, .int .i64 ch, .int .i64 un, .int .i64 tg, .int .i64 ow, .int .i64 bp] 27) := HX0.out.alloc _
  by_cases h0 : 1 ≤ id ∧ id ≤ 1048575
  case neg =>
    rw [decide_eq_false h0] at HW0
    go_wp2_with fail
    refine HW0.out.mono ?_
    rintro e W ⟨rfl, hw⟩
    subst hw
    clear HW0
    go_wp2_with fail
    go_ret
    exact YN.no (fun q => h0 q.1) HB1.out
  rw [decide_eq_true h0] at HW0
  go_wp2_with fail
  refine HW0.out.mono ?_
  rintro e W ⟨rfl, hw⟩
  subst hw
  clear HW0 HB0 HX0
  clear c0 c1 c2 c3 c4 c5 c6 c7 c8 c9 c10 c11 c12
  generalize (W0.alloc (.cells #[.int .i64 id] 3)) = W1 at *
  have c0 : W1.cell? ⟨w.heap.size, 0, none⟩ = some (.int .i64 kd) := HX1.out.cell 0
  have c1 : W1.cell? ⟨w.heap.size, 1, none⟩ = some (.int .i64 me) := HX1.out.cell 1
  have c2 : W1.cell? ⟨w.heap.size, 2, none⟩ = some (.int .i64 mo) := HX1.out.cell 2
  have c3 : W1.cell? ⟨w.heap.size, 3, none⟩ = some (.int .i64 id) := HX1.out.cell 3
  have c4 : W1.cell? ⟨w.heap.size, 4, none⟩ = some (.int .i64 te) := HX1.out.cell 4
  have c5 : W1.cell? ⟨w.heap.size, 5, none⟩ = some (.int .i64 de) := HX1.out.cell 5
  have c6 : W1.cell? ⟨w.heap.size, 6, none⟩ = some (.int .i64 fe) := HX1.out.cell 6
  have c7 : W1.cell? ⟨w.heap.size, 7, none⟩ = some (.int .i64 pr) := HX1.out.cell 7
  have c8 : W1.cell? ⟨w.heap.size, 8, none⟩ = some (.int .i64 ch) := HX1.out.cell 8
  have c9 : W1.cell? ⟨w.heap.size, 9, none⟩ = some (.int .i64 un) := HX1.out.cell 9
  have c10 : W1.cell? ⟨w.heap.size, 10, none⟩ = some (.int .i64 tg) := HX1.out.cell 10
  have c11 : W1.cell? ⟨w.heap.size, 11, none⟩ = some (.int .i64 ow) := HX1.out.cell 11
  have c12 : W1.cell? ⟨w.heap.size, 12, none⟩ = some (.int .i64 bp) := HX1.out.cell 12
  have HW1 : Hid (Calls Try.prog 43 #[.int .i64 0, .int .i64 65535, .slice (some ⟨W1.heap.size, 0, none⟩) 1 1] (W1.alloc (.cells #[.int .i64 tg] 3)) fun e w' => e = .returned (.bool (decide (0 ≤ tg ∧ tg ≤ 65535))) ∧ w' = (W1.alloc (.cells #[.int .i64 tg] 3))) := bki.within_one 0 65535 tg W1 _ rfl
  have HB2 : Hid (Below w.heap.size w (W1.alloc (.cells #[.int .i64 tg] 3))) := HB1.out.alloc HB1.out.size _
  have HX2 : Hid (Blk (W1.alloc (.cells #[.int .i64 tg] 3)) w.heap.size #[.int .i64 kd, .int .i64 me, .int .i64 mo, .int .i64 id, .int .i64 te, .int .i64 de, .int .i64 fe, .int .i64 pr, .int .i64 ch, .int .i64 un, .int .i64 tg, .int .i64 ow, .int .i64 bp] 27) := HX1.out.alloc _
  by_cases h1 : 0 ≤ tg ∧ tg ≤ 65535
  case neg =>
    rw [decide_eq_false h1] at HW1
    go_wp2_with fail
    refine HW1.out.mono ?_
    rintro e W ⟨rfl, hw⟩
    subst hw
    clear HW1
    go_wp2_with fail
    go_ret
    exact YN.no (fun q => h1 q.2) HB2.out
  rw [decide_eq_true h1] at HW1
  go_wp2_with fail
  refine HW1.out.mono ?_
  rintro e W ⟨rfl, hw⟩
  subst hw
  clear HW1 HB1 HX1
  clear c0 c1 c2 c3 c4 c5 c6 c7 c8 c9 c10 c11 c12
  generalize (W1.alloc (.cells #[.int .i64 tg] 3)) = W2 at *
  have c0 : W2.cell? ⟨w.heap.size, 0, none⟩ = some (.int .i64 kd) := HX2.out.cell 0
  have c1 : W2.cell? ⟨w.heap.size, 1, none⟩ = some (.int .i64 me) := HX2.out.cell 1
  have c2 : W2.cell? ⟨w.heap.size, 2, none⟩ = some (.int .i64 mo) := HX2.out.cell 2
  have c3 : W2.cell? ⟨w.heap.size, 3, none⟩ = some (.int .i64 id) := HX2.out.cell 3
  have c4 : W2.cell? ⟨w.heap.size, 4, none⟩ = some (.int .i64 te) := HX2.out.cell 4
  have c5 : W2.cell? ⟨w.heap.size, 5, none⟩ = some (.int .i64 de) := HX2.out.cell 5
  have c6 : W2.cell? ⟨w.heap.size, 6, none⟩ = some (.int .i64 fe) := HX2.out.cell 6
  have c7 : W2.cell? ⟨w.heap.size, 7, none⟩ = some (.int .i64 pr) := HX2.out.cell 7
  have c8 : W2.cell? ⟨w.heap.size, 8, none⟩ = some (.int .i64 ch) := HX2.out.cell 8
  have c9 : W2.cell? ⟨w.heap.size, 9, none⟩ = some (.int .i64 un) := HX2.out.cell 9
  have c10 : W2.cell? ⟨w.heap.size, 10, none⟩ = some (.int .i64 tg) := HX2.out.cell 10
  have c11 : W2.cell? ⟨w.heap.size, 11, none⟩ = some (.int .i64 ow) := HX2.out.cell 11
  have c12 : W2.cell? ⟨w.heap.size, 12, none⟩ = some (.int .i64 bp) := HX2.out.cell 12
  go_wp2_with fail
  go_ret
  exact YN.yes (⟨h0, h1⟩) HB2.out
set_option maxHeartbeats 4000000 in
theorem bunt (kd me mo id te de fe pr ch un tg ow bp : Int) (w : World) : Calls Try.prog 61 #[.agg #[.int .i64 kd, .int .i64 me, .int .i64 mo, .int .i64 id, .int .i64 te, .int .i64 de, .int .i64 fe, .int .i64 pr, .int .i64 ch, .int .i64 un, .int .i64 tg, .int .i64 ow, .int .i64 bp]] w fun e w' => YN w (Unt un) e w' := by
  have HX0 : Hid (Blk (w.alloc (.cells #[.int .i64 kd, .int .i64 me, .int .i64 mo, .int .i64 id, .int .i64 te, .int .i64 de, .int .i64 fe, .int .i64 pr, .int .i64 ch, .int .i64 un, .int .i64 tg, .int .i64 ow, .int .i64 bp] 27)) w.heap.size #[.int .i64 kd, .int .i64 me, .int .i64 mo, .int .i64 id, .int .i64 te, .int .i64 de, .int .i64 fe, .int .i64 pr, .int .i64 ch, .int .i64 un, .int .i64 tg, .int .i64 ow, .int .i64 bp] 27) := Blk.new _ _ _
  have HB0 : Hid (Below w.heap.size w (w.alloc (.cells #[.int .i64 kd, .int .i64 me, .int .i64 mo, .int .i64 id, .int .i64 te, .int .i64 de, .int .i64 fe, .int .i64 pr, .int .i64 ch, .int .i64 un, .int .i64 tg, .int .i64 ow, .int .i64 bp] 27))) := (Below.refl _ _).alloc (Nat.le_refl _) _
  generalize hWW : (w.alloc (.cells #[.int .i64 kd, .int .i64 me, .int .i64 mo, .int .i64 id, .int .i64 te, .int .i64 de, .int .i64 fe, .int .i64 pr, .int .i64 ch, .int .i64 un, .int .i64 tg, .int .i64 ow, .int .i64 bp] 27)) = W0 at *
  have HWW : Hid ((w.alloc (.cells #[.int .i64 kd, .int .i64 me, .int .i64 mo, .int .i64 id, .int .i64 te, .int .i64 de, .int .i64 fe, .int .i64 pr, .int .i64 ch, .int .i64 un, .int .i64 tg, .int .i64 ow, .int .i64 bp] 27)) = W0) := hWW
  clear hWW
  go_enter Try.func61, Try.ntmps61
  go_upto_region 1 with fail
  rw [HWW.out]
  clear HWW
  have c0 : W0.cell? ⟨w.heap.size, 0, none⟩ = some (.int .i64 kd) := HX0.out.cell 0
  have c1 : W0.cell? ⟨w.heap.size, 1, none⟩ = some (.int .i64 me) := HX0.out.cell 1
  have c2 : W0.cell? ⟨w.heap.size, 2, none⟩ = some (.int .i64 mo) := HX0.out.cell 2
  have c3 : W0.cell? ⟨w.heap.size, 3, none⟩ = some (.int .i64 id) := HX0.out.cell 3
  have c4 : W0.cell? ⟨w.heap.size, 4, none⟩ = some (.int .i64 te) := HX0.out.cell 4
  have c5 : W0.cell? ⟨w.heap.size, 5, none⟩ = some (.int .i64 de) := HX0.out.cell 5
  have c6 : W0.cell? ⟨w.heap.size, 6, none⟩ = some (.int .i64 fe) := HX0.out.cell 6
  have c7 : W0.cell? ⟨w.heap.size, 7, none⟩ = some (.int .i64 pr) := HX0.out.cell 7
  have c8 : W0.cell? ⟨w.heap.size, 8, none⟩ = some (.int .i64 ch) := HX0.out.cell 8
  have c9 : W0.cell? ⟨w.heap.size, 9, none⟩ = some (.int .i64 un) := HX0.out.cell 9
  have c10 : W0.cell? ⟨w.heap.size, 10, none⟩ = some (.int .i64 tg) := HX0.out.cell 10
  have c11 : W0.cell? ⟨w.heap.size, 11, none⟩ = some (.int .i64 ow) := HX0.out.cell 11
  have c12 : W0.cell? ⟨w.heap.size, 12, none⟩ = some (.int .i64 bp) := HX0.out.cell 12
  have HW0 : Hid (Calls Try.prog 43 #[.int .i64 1, .int .i64 2097151, .slice (some ⟨W0.heap.size, 0, none⟩) 1 1] (W0.alloc (.cells #[.int .i64 un] 3)) fun e w' => e = .returned (.bool (decide (1 ≤ un ∧ un ≤ 2097151))) ∧ w' = (W0.alloc (.cells #[.int .i64 un] 3))) := bki.within_one 1 2097151 un W0 _ rfl
  have HB1 : Hid (Below w.heap.size w (W0.alloc (.cells #[.int .i64 un] 3))) := HB0.out.alloc HB0.out.size _
  have HX1 : Hid (Blk (W0.alloc (.cells #[.int .i64 un] 3)) w.heap.size #[.int .i64 kd, .int .i64 me, .int .i64 mo, .int .i64 id, .int .i64 te, .int .i64 de, .int .i64 fe, .int .i64 pr, .int .i64 ch, .int .i64 un, .int .i64 tg, .int .i64 ow, .int .i64 bp] 27) := HX0.out.alloc _
  by_cases h0 : 1 ≤ un ∧ un ≤ 2097151
  case neg =>
    rw [decide_eq_false h0] at HW0
    go_wp2_with fail
    refine HW0.out.mono ?_
    rintro e W ⟨rfl, hw⟩
    subst hw
    clear HW0
    go_wp2_with fail
    go_ret
    exact YN.no (fun q => h0 q) HB1.out
  rw [decide_eq_true h0] at HW0
  go_wp2_with fail
  refine HW0.out.mono ?_
  rintro e W ⟨rfl, hw⟩
  subst hw
  clear HW0 HB0 HX0
  clear c0 c1 c2 c3 c4 c5 c6 c7 c8 c9 c10 c11 c12
  generalize (W0.alloc (.cells #[.int .i64 un] 3)) = W1 at *
  have c0 : W1.cell? ⟨w.heap.size, 0, none⟩ = some (.int .i64 kd) := HX1.out.cell 0
  have c1 : W1.cell? ⟨w.heap.size, 1, none⟩ = some (.int .i64 me) := HX1.out.cell 1
  have c2 : W1.cell? ⟨w.heap.size, 2, none⟩ = some (.int .i64 mo) := HX1.out.cell 2
  have c3 : W1.cell? ⟨w.heap.size, 3, none⟩ = some (.int .i64 id) := HX1.out.cell 3
  have c4 : W1.cell? ⟨w.heap.size, 4, none⟩ = some (.int .i64 te) := HX1.out.cell 4
  have c5 : W1.cell? ⟨w.heap.size, 5, none⟩ = some (.int .i64 de) := HX1.out.cell 5
  have c6 : W1.cell? ⟨w.heap.size, 6, none⟩ = some (.int .i64 fe) := HX1.out.cell 6
  have c7 : W1.cell? ⟨w.heap.size, 7, none⟩ = some (.int .i64 pr) := HX1.out.cell 7
  have c8 : W1.cell? ⟨w.heap.size, 8, none⟩ = some (.int .i64 ch) := HX1.out.cell 8
  have c9 : W1.cell? ⟨w.heap.size, 9, none⟩ = some (.int .i64 un) := HX1.out.cell 9
  have c10 : W1.cell? ⟨w.heap.size, 10, none⟩ = some (.int .i64 tg) := HX1.out.cell 10
  have c11 : W1.cell? ⟨w.heap.size, 11, none⟩ = some (.int .i64 ow) := HX1.out.cell 11
  have c12 : W1.cell? ⟨w.heap.size, 12, none⟩ = some (.int .i64 bp) := HX1.out.cell 12
  go_wp2_with fail
  go_ret
  exact YN.yes (h0) HB1.out
set_option maxHeartbeats 4000000 in
theorem bmony (id te de fe pr ch un : Int) (w : World) : Calls Try.prog 62 #[.agg #[.int .i64 id, .int .i64 te, .int .i64 de, .int .i64 fe, .int .i64 pr, .int .i64 ch, .int .i64 un]] w fun e w' => YN w (Mony te de fe pr ch) e w' := by
  have HX0 : Hid (Blk (w.alloc (.cells #[.int .i64 id, .int .i64 te, .int .i64 de, .int .i64 fe, .int .i64 pr, .int .i64 ch, .int .i64 un] 23)) w.heap.size #[.int .i64 id, .int .i64 te, .int .i64 de, .int .i64 fe, .int .i64 pr, .int .i64 ch, .int .i64 un] 23) := Blk.new _ _ _
  have HB0 : Hid (Below w.heap.size w (w.alloc (.cells #[.int .i64 id, .int .i64 te, .int .i64 de, .int .i64 fe, .int .i64 pr, .int .i64 ch, .int .i64 un] 23))) := (Below.refl _ _).alloc (Nat.le_refl _) _
  generalize hWW : (w.alloc (.cells #[.int .i64 id, .int .i64 te, .int .i64 de, .int .i64 fe, .int .i64 pr, .int .i64 ch, .int .i64 un] 23)) = W0 at *
  have HWW : Hid ((w.alloc (.cells #[.int .i64 id, .int .i64 te, .int .i64 de, .int .i64 fe, .int .i64 pr, .int .i64 ch, .int .i64 un] 23)) = W0) := hWW
  clear hWW
  go_enter Try.func62, Try.ntmps62
  go_upto_region 1 with fail
  rw [HWW.out]
  clear HWW
  have c0 : W0.cell? ⟨w.heap.size, 0, none⟩ = some (.int .i64 id) := HX0.out.cell 0
  have c1 : W0.cell? ⟨w.heap.size, 1, none⟩ = some (.int .i64 te) := HX0.out.cell 1
  have c2 : W0.cell? ⟨w.heap.size, 2, none⟩ = some (.int .i64 de) := HX0.out.cell 2
  have c3 : W0.cell? ⟨w.heap.size, 3, none⟩ = some (.int .i64 fe) := HX0.out.cell 3
  have c4 : W0.cell? ⟨w.heap.size, 4, none⟩ = some (.int .i64 pr) := HX0.out.cell 4
  have c5 : W0.cell? ⟨w.heap.size, 5, none⟩ = some (.int .i64 ch) := HX0.out.cell 5
  have c6 : W0.cell? ⟨w.heap.size, 6, none⟩ = some (.int .i64 un) := HX0.out.cell 6
  have HW0 : Hid (Calls Try.prog 43 #[.int .i64 1, .int .i64 100000000, .slice (some ⟨W0.heap.size, 0, none⟩) 1 1] (W0.alloc (.cells #[.int .i64 te] 3)) fun e w' => e = .returned (.bool (decide (1 ≤ te ∧ te ≤ 100000000))) ∧ w' = (W0.alloc (.cells #[.int .i64 te] 3))) := bki.within_one 1 100000000 te W0 _ rfl
  have HB1 : Hid (Below w.heap.size w (W0.alloc (.cells #[.int .i64 te] 3))) := HB0.out.alloc HB0.out.size _
  have HX1 : Hid (Blk (W0.alloc (.cells #[.int .i64 te] 3)) w.heap.size #[.int .i64 id, .int .i64 te, .int .i64 de, .int .i64 fe, .int .i64 pr, .int .i64 ch, .int .i64 un] 23) := HX0.out.alloc _
  by_cases h0 : 1 ≤ te ∧ te ≤ 100000000
  case neg =>
    rw [decide_eq_false h0] at HW0
    go_wp2_with fail
    refine HW0.out.mono ?_
    rintro e W ⟨rfl, hw⟩
    subst hw
    clear HW0
    go_wp2_with fail
    go_ret
    exact YN.no (fun q => h0 q.1) HB1.out
  rw [decide_eq_true h0] at HW0
  go_wp2_with fail
  refine HW0.out.mono ?_
  rintro e W ⟨rfl, hw⟩
  subst hw
  clear HW0 HB0 HX0
  clear c0 c1 c2 c3 c4 c5 c6
  generalize (W0.alloc (.cells #[.int .i64 te] 3)) = W1 at *
  have c0 : W1.cell? ⟨w.heap.size, 0, none⟩ = some (.int .i64 id) := HX1.out.cell 0
  have c1 : W1.cell? ⟨w.heap.size, 1, none⟩ = some (.int .i64 te) := HX1.out.cell 1
  have c2 : W1.cell? ⟨w.heap.size, 2, none⟩ = some (.int .i64 de) := HX1.out.cell 2
  have c3 : W1.cell? ⟨w.heap.size, 3, none⟩ = some (.int .i64 fe) := HX1.out.cell 3
  have c4 : W1.cell? ⟨w.heap.size, 4, none⟩ = some (.int .i64 pr) := HX1.out.cell 4
  have c5 : W1.cell? ⟨w.heap.size, 5, none⟩ = some (.int .i64 ch) := HX1.out.cell 5
  have c6 : W1.cell? ⟨w.heap.size, 6, none⟩ = some (.int .i64 un) := HX1.out.cell 6
  have HW1 : Hid (Calls Try.prog 43 #[.int .i64 0, .int .i64 100000000, .slice (some ⟨W1.heap.size, 0, none⟩) 4 4] (W1.alloc (.cells #[.int .i64 de, .int .i64 fe, .int .i64 pr, .int .i64 ch] 3)) fun e w' => e = .returned (.bool (bki.okAll 0 100000000 [de, fe, pr, ch])) ∧ w' = (W1.alloc (.cells #[.int .i64 de, .int .i64 fe, .int .i64 pr, .int .i64 ch] 3))) := bki.within_any 0 100000000 _ 4 4 [de, fe, pr, ch] _ (bki.row_four W1 de fe pr ch 3) (by decide)
  have HB2 : Hid (Below w.heap.size w (W1.alloc (.cells #[.int .i64 de, .int .i64 fe, .int .i64 pr, .int .i64 ch] 3))) := HB1.out.alloc HB1.out.size _
  have HX2 : Hid (Blk (W1.alloc (.cells #[.int .i64 de, .int .i64 fe, .int .i64 pr, .int .i64 ch] 3)) w.heap.size #[.int .i64 id, .int .i64 te, .int .i64 de, .int .i64 fe, .int .i64 pr, .int .i64 ch, .int .i64 un] 23) := HX1.out.alloc _
  by_cases h1 : bki.okAll 0 100000000 [de, fe, pr, ch] = true
  case neg =>
    rw [show bki.okAll 0 100000000 [de, fe, pr, ch] = false by simpa using h1] at HW1
    go_wp2_with fail
    refine HW1.out.mono ?_
    rintro e W ⟨rfl, hw⟩
    subst hw
    clear HW1
    go_wp2_with fail
    go_ret
    exact YN.no (fun q => h1 (by simpa [bki.okAll] using q.2.1)) HB2.out
  rw [h1] at HW1
  go_wp2_with fail
  refine HW1.out.mono ?_
  rintro e W ⟨rfl, hw⟩
  subst hw
  clear HW1 HB1 HX1
  clear c0 c1 c2 c3 c4 c5 c6
  generalize (W1.alloc (.cells #[.int .i64 de, .int .i64 fe, .int .i64 pr, .int .i64 ch] 3)) = W2 at *
  have c0 : W2.cell? ⟨w.heap.size, 0, none⟩ = some (.int .i64 id) := HX2.out.cell 0
  have c1 : W2.cell? ⟨w.heap.size, 1, none⟩ = some (.int .i64 te) := HX2.out.cell 1
  have c2 : W2.cell? ⟨w.heap.size, 2, none⟩ = some (.int .i64 de) := HX2.out.cell 2
  have c3 : W2.cell? ⟨w.heap.size, 3, none⟩ = some (.int .i64 fe) := HX2.out.cell 3
  have c4 : W2.cell? ⟨w.heap.size, 4, none⟩ = some (.int .i64 pr) := HX2.out.cell 4
  have c5 : W2.cell? ⟨w.heap.size, 5, none⟩ = some (.int .i64 ch) := HX2.out.cell 5
  have c6 : W2.cell? ⟨w.heap.size, 6, none⟩ = some (.int .i64 un) := HX2.out.cell 6
  have hh : (0 ≤ de ∧ de ≤ 100000000) ∧ (0 ≤ fe ∧ fe ≤ 100000000) ∧ (0 ≤ pr ∧ pr ≤ 100000000) ∧ 0 ≤ ch ∧ ch ≤ 100000000 := by simpa [bki.okAll] using h1
  have e1 : IntKind.i64.wrap (de + fe) = de + fe := by rw [IntKind.wrap_i64]; omega
  have e2 : IntKind.i64.wrap (de + fe + pr) = de + fe + pr := by rw [IntKind.wrap_i64]; omega
  have e3 : IntKind.i64.wrap (de + fe + pr + ch) = de + fe + pr + ch := by rw [IntKind.wrap_i64]; omega
  have HH : Hid ((0 ≤ de ∧ de ≤ 100000000) ∧ (0 ≤ fe ∧ fe ≤ 100000000) ∧ (0 ≤ pr ∧ pr ≤ 100000000) ∧ 0 ≤ ch ∧ ch ≤ 100000000) := hh
  have H0 : Hid (1 ≤ te ∧ te ≤ 100000000) := h0
  clear hh h1 h0
  by_cases h2 : de + fe + pr + ch = te
  · have hq : ((de + fe + pr + ch) == te) = true := by simpa using h2
    have H2 : Hid (de + fe + pr + ch = te) := h2
    clear h2
    go_wp2_with fail
    go_ret
    exact YN.yes ⟨H0.out, HH.out, H2.out⟩ HB2.out
  · have hq : ((de + fe + pr + ch) == te) = false := by simpa using h2
    have H2 : Hid (¬ de + fe + pr + ch = te) := h2
    clear h2
    go_wp2_with fail
    go_ret
    exact YN.no (fun q => H2.out q.2.2) HB2.out

end Go.Proofs.Ytfhlokjpdkmdjaa.book
