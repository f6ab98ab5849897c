import Derived.Test.YtomibnggmhjdfaaGreatVVRrs25
set_option linter.unusedVariables false
set_option linter.unusedSimpArgs false
namespace Go.Proofs.YtomibnggmhjdfaaGreat
namespace book
open Go.RowKit
set_option maxRecDepth 100000
set_option maxHeartbeats 4000000 in
theorem bnum (kd me mo id te de fe pr ch un tg ow bp : Int) (w : World) : Calls Tryz.prog 97 #[.agg #[.int .i64 kd, .int .i64 me, .int .i64 mo, .int .i64 id, .int .i64 te, .int .i64 de, .int .i64 fe, .int .i64 pr, .int .i64 ch, .int .i64 un, .int .i64 tg, .int .i64 ow, .int .i64 bp]] w fun e w' => YN w (Numd id tg) e w' := by
 obtain ⟨W0, HWW, HX0, HB0, -⟩ := sh1 w #[.int .i64 kd, .int .i64 me, .int .i64 mo, .int .i64 id, .int .i64 te, .int .i64 de, .int .i64 fe, .int .i64 pr, .int .i64 ch, .int .i64 un, .int .i64 tg, .int .i64 ow, .int .i64 bp] 71
 go_enter Tryz.func97, Tryz.ntmps97
 go_upto_region 1 with fail
 rw [HWW.out]
 clear HWW
 have c0 : W0.cell? ⟨w.heap.size, 0, none⟩ = some (.int .i64 kd) := HX0.out.cell 0
 have c1 : W0.cell? ⟨w.heap.size, 1, none⟩ = some (.int .i64 me) := HX0.out.cell 1
 have c2 : W0.cell? ⟨w.heap.size, 2, none⟩ = some (.int .i64 mo) := HX0.out.cell 2
 have c3 : W0.cell? ⟨w.heap.size, 3, none⟩ = some (.int .i64 id) := HX0.out.cell 3
 have c4 : W0.cell? ⟨w.heap.size, 4, none⟩ = some (.int .i64 te) := HX0.out.cell 4
 have c5 : W0.cell? ⟨w.heap.size, 5, none⟩ = some (.int .i64 de) := HX0.out.cell 5
 have c6 : W0.cell? ⟨w.heap.size, 6, none⟩ = some (.int .i64 fe) := HX0.out.cell 6
 have c7 : W0.cell? ⟨w.heap.size, 7, none⟩ = some (.int .i64 pr) := HX0.out.cell 7
 have c8 : W0.cell? ⟨w.heap.size, 8, none⟩ = some (.int .i64 ch) := HX0.out.cell 8
 have c9 : W0.cell? ⟨w.heap.size, 9, none⟩ = some (.int .i64 un) := HX0.out.cell 9
 have c10 : W0.cell? ⟨w.heap.size, 10, none⟩ = some (.int .i64 tg) := HX0.out.cell 10
 have c11 : W0.cell? ⟨w.heap.size, 11, none⟩ = some (.int .i64 ow) := HX0.out.cell 11
 have c12 : W0.cell? ⟨w.heap.size, 12, none⟩ = some (.int .i64 bp) := HX0.out.cell 12
 have HW0 : Hid (Calls Tryz.prog 84 #[.int .i64 1, .int .i64 1048575, .slice (some ⟨W0.heap.size, 0, none⟩) 1 1] (W0.alloc (.cells #[.int .i64 id] 3)) fun e w' => e = .returned (.bool (decide (1 ≤ id ∧ id ≤ 1048575))) ∧ w' = (W0.alloc (.cells #[.int .i64 id] 3))) := bki.within_one 1 1048575 id W0 _ rfl
 have HB1 : Hid (Below w.heap.size w (W0.alloc (.cells #[.int .i64 id] 3))) := HB0.out.alloc HB0.out.size _
 have HX1 : Hid (Blk (W0.alloc (.cells #[.int .i64 id] 3)) w.heap.size #[.int .i64 kd, .int .i64 me, .int .i64 mo, .int .i64 id, .int .i64 te, .int .i64 de, .int .i64 fe, .int .i64 pr, .int .i64 ch, .int .i64 un, .int .i64 tg, .int .i64 ow, .int .i64 bp] 71) := HX0.out.alloc _
 by_cases h0 : 1 ≤ id ∧ id ≤ 1048575
 case neg =>
  rw [decide_eq_false h0] at HW0
  go_wp2_with fail
  refine HW0.out.mono ?_
  rintro e W ⟨rfl, hw⟩
  subst hw
  clear HW0
  go_wp2_with fail
  go_ret
  exact YN.no (fun q => h0 q.1) HB1.out
 rw [decide_eq_true h0] at HW0
 go_wp2_with fail
 refine HW0.out.mono ?_
 rintro e W ⟨rfl, hw⟩
 subst hw
 clear HW0 HB0 HX0
 clear c0 c1 c2 c3 c4 c5 c6 c7 c8 c9 c10 c11 c12
 generalize (W0.alloc (.cells #[.int .i64 id] 3)) = W1 at *
 have c0 : W1.cell? ⟨w.heap.size, 0, none⟩ = some (.int .i64 kd) := HX1.out.cell 0
 have c1 : W1.cell? ⟨w.heap.size, 1, none⟩ = some (.int .i64 me) := HX1.out.cell 1
 have c2 : W1.cell? ⟨w.heap.size, 2, none⟩ = some (.int .i64 mo) := HX1.out.cell 2
 have c3 : W1.cell? ⟨w.heap.size, 3, none⟩ = some (.int .i64 id) := HX1.out.cell 3
 have c4 : W1.cell? ⟨w.heap.size, 4, none⟩ = some (.int .i64 te) := HX1.out.cell 4
 have c5 : W1.cell? ⟨w.heap.size, 5, none⟩ = some (.int .i64 de) := HX1.out.cell 5
 have c6 : W1.cell? ⟨w.heap.size, 6, none⟩ = some (.int .i64 fe) := HX1.out.cell 6
 have c7 : W1.cell? ⟨w.heap.size, 7, none⟩ = some (.int .i64 pr) := HX1.out.cell 7
 have c8 : W1.cell? ⟨w.heap.size, 8, none⟩ = some (.int .i64 ch) := HX1.out.cell 8
 have c9 : W1.cell? ⟨w.heap.size, 9, none⟩ = some (.int .i64 un) := HX1.out.cell 9
 have c10 : W1.cell? ⟨w.heap.size, 10, none⟩ = some (.int .i64 tg) := HX1.out.cell 10
 have c11 : W1.cell? ⟨w.heap.size, 11, none⟩ = some (.int .i64 ow) := HX1.out.cell 11
 have c12 : W1.cell? ⟨w.heap.size, 12, none⟩ = some (.int .i64 bp) := HX1.out.cell 12
 have HW1 : Hid (Calls Tryz.prog 84 #[.int .i64 0, .int .i64 65535, .slice (some ⟨W1.heap.size, 0, none⟩) 1 1] (W1.alloc (.cells #[.int .i64 tg] 3)) fun e w' => e = .returned (.bool (decide (0 ≤ tg ∧ tg ≤ 65535))) ∧ w' = (W1.alloc (.cells #[.int .i64 tg] 3))) := bki.within_one 0 65535 tg W1 _ rfl
 have HB2 : Hid (Below w.heap.size w (W1.alloc (.cells #[.int .i64 tg] 3))) := HB1.out.alloc HB1.out.size _
 have HX2 : Hid (Blk (W1.alloc (.cells #[.int .i64 tg] 3)) w.heap.size #[.int .i64 kd, .int .i64 me, .int .i64 mo, .int .i64 id, .int .i64 te, .int .i64 de, .int .i64 fe, .int .i64 pr, .int .i64 ch, .int .i64 un, .int .i64 tg, .int .i64 ow, .int .i64 bp] 71) := HX1.out.alloc _
 by_cases h1 : 0 ≤ tg ∧ tg ≤ 65535
 case neg =>
  rw [decide_eq_false h1] at HW1
  go_wp2_with fail
  refine HW1.out.mono ?_
  rintro e W ⟨rfl, hw⟩
  subst hw
  clear HW1
  go_wp2_with fail
  go_ret
  exact YN.no (fun q => h1 q.2) HB2.out
 rw [decide_eq_true h1] at HW1
 go_wp2_with fail
 refine HW1.out.mono ?_
 rintro e W ⟨rfl, hw⟩
 subst hw
 clear HW1 HB1 HX1
 clear c0 c1 c2 c3 c4 c5 c6 c7 c8 c9 c10 c11 c12
 generalize (W1.alloc (.cells #[.int .i64 tg] 3)) = W2 at *
 have c0 : W2.cell? ⟨w.heap.size, 0, none⟩ = some (.int .i64 kd) := HX2.out.cell 0
 have c1 : W2.cell? ⟨w.heap.size, 1, none⟩ = some (.int .i64 me) := HX2.out.cell 1
 have c2 : W2.cell? ⟨w.heap.size, 2, none⟩ = some (.int .i64 mo) := HX2.out.cell 2
 have c3 : W2.cell? ⟨w.heap.size, 3, none⟩ = some (.int .i64 id) := HX2.out.cell 3
 have c4 : W2.cell? ⟨w.heap.size, 4, none⟩ = some (.int .i64 te) := HX2.out.cell 4
 have c5 : W2.cell? ⟨w.heap.size, 5, none⟩ = some (.int .i64 de) := HX2.out.cell 5
 have c6 : W2.cell? ⟨w.heap.size, 6, none⟩ = some (.int .i64 fe) := HX2.out.cell 6
 have c7 : W2.cell? ⟨w.heap.size, 7, none⟩ = some (.int .i64 pr) := HX2.out.cell 7
 have c8 : W2.cell? ⟨w.heap.size, 8, none⟩ = some (.int .i64 ch) := HX2.out.cell 8
 have c9 : W2.cell? ⟨w.heap.size, 9, none⟩ = some (.int .i64 un) := HX2.out.cell 9
 have c10 : W2.cell? ⟨w.heap.size, 10, none⟩ = some (.int .i64 tg) := HX2.out.cell 10
 have c11 : W2.cell? ⟨w.heap.size, 11, none⟩ = some (.int .i64 ow) := HX2.out.cell 11
 have c12 : W2.cell? ⟨w.heap.size, 12, none⟩ = some (.int .i64 bp) := HX2.out.cell 12
 go_wp2_with fail
 go_ret
 exact YN.yes (⟨h0, h1⟩) HB2.out
set_option maxHeartbeats 4000000 in
theorem bunt (kd me mo id te de fe pr ch un tg ow bp : Int) (w : World) : Calls Tryz.prog 98 #[.agg #[.int .i64 kd, .int .i64 me, .int .i64 mo, .int .i64 id, .int .i64 te, .int .i64 de, .int .i64 fe, .int .i64 pr, .int .i64 ch, .int .i64 un, .int .i64 tg, .int .i64 ow, .int .i64 bp]] w fun e w' => YN w (Unt un) e w' := by
 obtain ⟨W0, HWW, HX0, HB0, -⟩ := sh1 w #[.int .i64 kd, .int .i64 me, .int .i64 mo, .int .i64 id, .int .i64 te, .int .i64 de, .int .i64 fe, .int .i64 pr, .int .i64 ch, .int .i64 un, .int .i64 tg, .int .i64 ow, .int .i64 bp] 71
 go_enter Tryz.func98, Tryz.ntmps98
 go_upto_region 1 with fail
 rw [HWW.out]
 clear HWW
 have c0 : W0.cell? ⟨w.heap.size, 0, none⟩ = some (.int .i64 kd) := HX0.out.cell 0
 have c1 : W0.cell? ⟨w.heap.size, 1, none⟩ = some (.int .i64 me) := HX0.out.cell 1
 have c2 : W0.cell? ⟨w.heap.size, 2, none⟩ = some (.int .i64 mo) := HX0.out.cell 2
 have c3 : W0.cell? ⟨w.heap.size, 3, none⟩ = some (.int .i64 id) := HX0.out.cell 3
 have c4 : W0.cell? ⟨w.heap.size, 4, none⟩ = some (.int .i64 te) := HX0.out.cell 4
 have c5 : W0.cell? ⟨w.heap.size, 5, none⟩ = some (.int .i64 de) := HX0.out.cell 5
 have c6 : W0.cell? ⟨w.heap.size, 6, none⟩ = some (.int .i64 fe) := HX0.out.cell 6
 have c7 : W0.cell? ⟨w.heap.size, 7, none⟩ = some (.int .i64 pr) := HX0.out.cell 7
 have c8 : W0.cell? ⟨w.heap.size, 8, none⟩ = some (.int .i64 ch) := HX0.out.cell 8
 have c9 : W0.cell? ⟨w.heap.size, 9, none⟩ = some (.int .i64 un) := HX0.out.cell 9
 have c10 : W0.cell? ⟨w.heap.size, 10, none⟩ = some (.int .i64 tg) := HX0.out.cell 10
 have c11 : W0.cell? ⟨w.heap.size, 11, none⟩ = some (.int .i64 ow) := HX0.out.cell 11
 have c12 : W0.cell? ⟨w.heap.size, 12, none⟩ = some (.int .i64 bp) := HX0.out.cell 12
 have HW0 : Hid (Calls Tryz.prog 84 #[.int .i64 1, .int .i64 2097151, .slice (some ⟨W0.heap.size, 0, none⟩) 1 1] (W0.alloc (.cells #[.int .i64 un] 3)) fun e w' => e = .returned (.bool (decide (1 ≤ un ∧ un ≤ 2097151))) ∧ w' = (W0.alloc (.cells #[.int .i64 un] 3))) := bki.within_one 1 2097151 un W0 _ rfl
 have HB1 : Hid (Below w.heap.size w (W0.alloc (.cells #[.int .i64 un] 3))) := HB0.out.alloc HB0.out.size _
 have HX1 : Hid (Blk (W0.alloc (.cells #[.int .i64 un] 3)) w.heap.size #[.int .i64 kd, .int .i64 me, .int .i64 mo, .int .i64 id, .int .i64 te, .int .i64 de, .int .i64 fe, .int .i64 pr, .int .i64 ch, .int .i64 un, .int .i64 tg, .int .i64 ow, .int .i64 bp] 71) := HX0.out.alloc _
 by_cases h0 : 1 ≤ un ∧ un ≤ 2097151
 case neg =>
  rw [decide_eq_false h0] at HW0
  go_wp2_with fail
  refine HW0.out.mono ?_
  rintro e W ⟨rfl, hw⟩
  subst hw
  clear HW0
  go_wp2_with fail
  go_ret
  exact YN.no (fun q => h0 q) HB1.out
 rw [decide_eq_true h0] at HW0
 go_wp2_with fail
 refine HW0.out.mono ?_
 rintro e W ⟨rfl, hw⟩
 subst hw
 clear HW0 HB0 HX0
 clear c0 c1 c2 c3 c4 c5 c6 c7 c8 c9 c10 c11 c12
 generalize (W0.alloc (.cells #[.int .i64 un] 3)) = W1 at *
 have c0 : W1.cell? ⟨w.heap.size, 0, none⟩ = some (.int .i64 kd) := HX1.out.cell 0
 have c1 : W1.cell? ⟨w.heap.size, 1, none⟩ = some (.int .i64 me) := HX1.out.cell 1
 have c2 : W1.cell? ⟨w.heap.size, 2, none⟩ = some (.int .i64 mo) := HX1.out.cell 2
 have c3 : W1.cell? ⟨w.heap.size, 3, none⟩ = some (.int .i64 id) := HX1.out.cell 3
 have c4 : W1.cell? ⟨w.heap.size, 4, none⟩ = some (.int .i64 te) := HX1.out.cell 4
 have c5 : W1.cell? ⟨w.heap.size, 5, none⟩ = some (.int .i64 de) := HX1.out.cell 5
 have c6 : W1.cell? ⟨w.heap.size, 6, none⟩ = some (.int .i64 fe) := HX1.out.cell 6
 have c7 : W1.cell? ⟨w.heap.size, 7, none⟩ = some (.int .i64 pr) := HX1.out.cell 7
 have c8 : W1.cell? ⟨w.heap.size, 8, none⟩ = some (.int .i64 ch) := HX1.out.cell 8
 have c9 : W1.cell? ⟨w.heap.size, 9, none⟩ = some (.int .i64 un) := HX1.out.cell 9
 have c10 : W1.cell? ⟨w.heap.size, 10, none⟩ = some (.int .i64 tg) := HX1.out.cell 10
 have c11 : W1.cell? ⟨w.heap.size, 11, none⟩ = some (.int .i64 ow) := HX1.out.cell 11
 have c12 : W1.cell? ⟨w.heap.size, 12, none⟩ = some (.int .i64 bp) := HX1.out.cell 12
 go_wp2_with fail
 go_ret
 exact YN.yes (h0) HB1.out
set_option maxHeartbeats 4000000 in
theorem bmony (id te de fe pr ch un : Int) (w : World) : Calls Tryz.prog 99 #[.agg #[.int .i64 id, .int .i64 te, .int .i64 de, .int .i64 fe, .int .i64 pr, .int .i64 ch, .int .i64 un]] w fun e w' => YN w (Mony te de fe pr ch) e w' := by
 obtain ⟨W0, HWW, HX0, HB0, -⟩ := sh1 w #[.int .i64 id, .int .i64 te, .int .i64 de, .int .i64 fe, .int .i64 pr, .int .i64 ch, .int .i64 un] 69
 go_enter Tryz.func99, Tryz.ntmps99
 go_upto_region 1 with fail
 rw [HWW.out]
 clear HWW
 obtain ⟨c0, c1, c2, c3, c4, c5, c6⟩ := scl7 HX0
 have HW0 : Hid (Calls Tryz.prog 84 #[.int .i64 1, .int .i64 100000000, .slice (some ⟨W0.heap.size, 0, none⟩) 1 1] (W0.alloc (.cells #[.int .i64 te] 3)) fun e w' => e = .returned (.bool (decide (1 ≤ te ∧ te ≤ 100000000))) ∧ w' = (W0.alloc (.cells #[.int .i64 te] 3))) := bki.within_one 1 100000000 te W0 _ rfl
 have HB1 : Hid (Below w.heap.size w (W0.alloc (.cells #[.int .i64 te] 3))) := HB0.out.alloc HB0.out.size _
 have HX1 : Hid (Blk (W0.alloc (.cells #[.int .i64 te] 3)) w.heap.size #[.int .i64 id, .int .i64 te, .int .i64 de, .int .i64 fe, .int .i64 pr, .int .i64 ch, .int .i64 un] 69) := HX0.out.alloc _
 by_cases h0 : 1 ≤ te ∧ te ≤ 100000000
 case neg =>
  rw [decide_eq_false h0] at HW0
  go_wp2_with fail
  refine HW0.out.mono ?_
  rintro e W ⟨rfl, hw⟩
  subst hw
  clear HW0
  go_wp2_with fail
  go_ret
  exact YN.no (fun q => h0 q.1) HB1.out
 rw [decide_eq_true h0] at HW0
 go_wp2_with fail
 refine HW0.out.mono ?_
 rintro e W ⟨rfl, hw⟩
 subst hw
 clear HW0 HB0 HX0
 clear c0 c1 c2 c3 c4 c5 c6
 generalize (W0.alloc (.cells #[.int .i64 te] 3)) = W1 at *
 obtain ⟨c0, c1, c2, c3, c4, c5, c6⟩ := scl7 HX1
 have HW1 : Hid (Calls Tryz.prog 84 #[.int .i64 0, .int .i64 100000000, .slice (some ⟨W1.heap.size, 0, none⟩) 4 4] (W1.alloc (.cells #[.int .i64 de, .int .i64 fe, .int .i64 pr, .int .i64 ch] 3)) fun e w' => e = .returned (.bool (bki.okAll 0 100000000 [de, fe, pr, ch])) ∧ w' = (W1.alloc (.cells #[.int .i64 de, .int .i64 fe, .int .i64 pr, .int .i64 ch] 3))) := bki.within_any 0 100000000 _ 4 4 [de, fe, pr, ch] _ (bki.row_four W1 de fe pr ch 3) (by decide)
 have HB2 : Hid (Below w.heap.size w (W1.alloc (.cells #[.int .i64 de, .int .i64 fe, .int .i64 pr, .int .i64 ch] 3))) := HB1.out.alloc HB1.out.size _
 have HX2 : Hid (Blk (W1.alloc (.cells #[.int .i64 de, .int .i64 fe, .int .i64 pr, .int .i64 ch] 3)) w.heap.size #[.int .i64 id, .int .i64 te, .int .i64 de, .int .i64 fe, .int .i64 pr, .int .i64 ch, .int .i64 un] 69) := HX1.out.alloc _
 by_cases h1 : bki.okAll 0 100000000 [de, fe, pr, ch] = true
 case neg =>
  rw [show bki.okAll 0 100000000 [de, fe, pr, ch] = false by simpa using h1] at HW1
  go_wp2_with fail
  refine HW1.out.mono ?_
  rintro e W ⟨rfl, hw⟩
  subst hw
  clear HW1
  go_wp2_with fail
  go_ret
  exact YN.no (fun q => h1 (by simpa [bki.okAll] using q.2.1)) HB2.out
 rw [h1] at HW1
 go_wp2_with fail
 refine HW1.out.mono ?_
 rintro e W ⟨rfl, hw⟩
 subst hw
 clear HW1 HB1 HX1
 clear c0 c1 c2 c3 c4 c5 c6
 generalize (W1.alloc (.cells #[.int .i64 de, .int .i64 fe, .int .i64 pr, .int .i64 ch] 3)) = W2 at *
 obtain ⟨c0, c1, c2, c3, c4, c5, c6⟩ := scl7 HX2
 have hh : (0 ≤ de ∧ de ≤ 100000000) ∧ (0 ≤ fe ∧ fe ≤ 100000000) ∧ (0 ≤ pr ∧ pr ≤ 100000000) ∧ 0 ≤ ch ∧ ch ≤ 100000000 := by simpa [bki.okAll] using h1
 have e1 : IntKind.i64.wrap (de + fe) = de + fe := by rw [IntKind.wrap_i64]; omega
 have e2 : IntKind.i64.wrap (de + fe + pr) = de + fe + pr := by rw [IntKind.wrap_i64]; omega
 have e3 : IntKind.i64.wrap (de + fe + pr + ch) = de + fe + pr + ch := by rw [IntKind.wrap_i64]; omega
 have HH : Hid ((0 ≤ de ∧ de ≤ 100000000) ∧ (0 ≤ fe ∧ fe ≤ 100000000) ∧ (0 ≤ pr ∧ pr ≤ 100000000) ∧ 0 ≤ ch ∧ ch ≤ 100000000) := hh
 have H0 : Hid (1 ≤ te ∧ te ≤ 100000000) := h0
 clear hh h1 h0
 by_cases h2 : de + fe + pr + ch = te
 ·have hq : ((de + fe + pr + ch) == te) = true := by simpa using h2
  have H2 : Hid (de + fe + pr + ch = te) := h2
  clear h2
  go_wp2_with fail
  go_ret
  exact YN.yes ⟨H0.out, HH.out, H2.out⟩ HB2.out
 ·have hq : ((de + fe + pr + ch) == te) = false := by simpa using h2
  have H2 : Hid (¬ de + fe + pr + ch = te) := h2
  clear h2
  go_wp2_with fail
  go_ret
  exact YN.no (fun q => H2.out q.2.2) HB2.out
set_option maxHeartbeats 4000000 in
theorem bkind (kd me mo id te de fe pr ch un tg ow bp : Int) (w : World) : Calls Tryz.prog 85 #[.agg #[.int .i64 kd, .int .i64 me, .int .i64 mo, .int .i64 id, .int .i64 te, .int .i64 de, .int .i64 fe, .int .i64 pr, .int .i64 ch, .int .i64 un, .int .i64 tg, .int .i64 ow, .int .i64 bp]] w fun e w' => YN w (KindR ⟨kd, me, mo, id, te, de, fe, pr, ch, un, tg, ow, bp⟩) e w' := by
 obtain ⟨W0, HWW, HX0, HB0, -⟩ := sh1 w #[.int .i64 kd, .int .i64 me, .int .i64 mo, .int .i64 id, .int .i64 te, .int .i64 de, .int .i64 fe, .int .i64 pr, .int .i64 ch, .int .i64 un, .int .i64 tg, .int .i64 ow, .int .i64 bp] 71
 go_enter Tryz.func85, Tryz.ntmps85
 go_upto_region 1 with fail
 rw [HWW.out]
 clear HWW
 obtain ⟨c0, c1, c2, c3, c4, c5, c6, c7, c8, c9, c10, c11, c12⟩ := scl13 HX0
 by_cases k1 : kd = 1
 case pos =>
  have q1 : (kd == 1) = true := by simpa using k1
  have HK : Hid (kd = 1) := k1
  clear k1
  go_wp2_with fail
  go_ret
  exact YN.yes (Or.inl HK.out) HB0.out
 have q1 : (kd == 1) = false := by simpa using k1
 by_cases k2 : kd = 2
 case pos =>
  have q2 : (kd == 2) = true := by simpa using k2
  have HK : Hid (kd = 2) := k2
  clear k1 k2
  have HW0 : Hid (Calls Tryz.prog 84 #[.int .i64 0, .int .i64 2399, .slice (some ⟨W0.heap.size, 0, none⟩) 1 1] (W0.alloc (.cells #[.int .i64 mo] 3)) fun e w' => e = .returned (.bool (decide (0 ≤ mo ∧ mo ≤ 2399))) ∧ w' = (W0.alloc (.cells #[.int .i64 mo] 3))) := bki.within_one 0 2399 mo W0 _ rfl
  have HB1 : Hid (Below w.heap.size w (W0.alloc (.cells #[.int .i64 mo] 3))) := HB0.out.alloc HB0.out.size _
  have HX1 : Hid (Blk (W0.alloc (.cells #[.int .i64 mo] 3)) w.heap.size #[.int .i64 kd, .int .i64 me, .int .i64 mo, .int .i64 id, .int .i64 te, .int .i64 de, .int .i64 fe, .int .i64 pr, .int .i64 ch, .int .i64 un, .int .i64 tg, .int .i64 ow, .int .i64 bp] 71) := HX0.out.alloc _
  by_cases h0 : 0 ≤ mo ∧ mo ≤ 2399
  case neg =>
   rw [decide_eq_false h0] at HW0
   go_wp2_with fail
   refine HW0.out.mono ?_
   rintro e W ⟨rfl, hw⟩
   subst hw
   clear HW0
   go_wp2_with fail
   go_ret
   exact YN.no (fun q => (fun q => h0 q.1) ((kind_2 (v := ⟨kd, me, mo, id, te, de, fe, pr, ch, un, tg, ow, bp⟩) HK.out).1 q)) HB1.out
  rw [decide_eq_true h0] at HW0
  go_wp2_with fail
  refine HW0.out.mono ?_
  rintro e W ⟨rfl, hw⟩
  subst hw
  clear HW0 HB0 HX0
  clear c0 c1 c2 c3 c4 c5 c6 c7 c8 c9 c10 c11 c12
  generalize (W0.alloc (.cells #[.int .i64 mo] 3)) = W1 at *
  obtain ⟨c0, c1, c2, c3, c4, c5, c6, c7, c8, c9, c10, c11, c12⟩ := scl13 HX1
  have HC1 : Hid (∀ W, Calls Tryz.prog 97 #[.agg #[.int .i64 kd, .int .i64 me, .int .i64 mo, .int .i64 id, .int .i64 te, .int .i64 de, .int .i64 fe, .int .i64 pr, .int .i64 ch, .int .i64 un, .int .i64 tg, .int .i64 ow, .int .i64 bp]] W fun e w' => YN W (Numd id tg) e w') := fun W => bnum kd me mo id te de fe pr ch un tg ow bp W
  go_wp2_with fail
  refine (HC1.out _).mono ?_
  rintro e W2 ⟨B, rfl, hB, hb⟩
  have HB2 := shB HB1 hb
  have HX2 := shN HX1 hb
  clear hb HC1 HB1 HX1
  clear c0 c1 c2 c3 c4 c5 c6 c7 c8 c9 c10 c11 c12
  obtain ⟨c0, c1, c2, c3, c4, c5, c6, c7, c8, c9, c10, c11, c12⟩ := scl13 HX2
  cases B
  case false =>
   have HQ : Hid (¬ (Numd id tg)) := fun q => absurd (hB.2 q) (by decide)
   clear hB
   go_wp2_with fail
   go_ret
   exact YN.no (fun q => (fun q => HQ.out q.2.1) ((kind_2 (v := ⟨kd, me, mo, id, te, de, fe, pr, ch, un, tg, ow, bp⟩) HK.out).1 q)) HB2.out
  have H1 : Hid (Numd id tg) := hB.1 rfl
  clear hB
  have HC2 : Hid (∀ W, Calls Tryz.prog 98 #[.agg #[.int .i64 kd, .int .i64 me, .int .i64 mo, .int .i64 id, .int .i64 te, .int .i64 de, .int .i64 fe, .int .i64 pr, .int .i64 ch, .int .i64 un, .int .i64 tg, .int .i64 ow, .int .i64 bp]] W fun e w' => YN W (Unt un) e w') := fun W => bunt kd me mo id te de fe pr ch un tg ow bp W
  go_wp2_with fail
  refine (HC2.out _).mono ?_
  rintro e W3 ⟨B, rfl, hB, hb⟩
  have HB3 := shB HB2 hb
  have HX3 := shN HX2 hb
  clear hb HC2 HB2 HX2
  clear c0 c1 c2 c3 c4 c5 c6 c7 c8 c9 c10 c11 c12
  obtain ⟨c0, c1, c2, c3, c4, c5, c6, c7, c8, c9, c10, c11, c12⟩ := scl13 HX3
  cases B
  case false =>
   have HQ : Hid (¬ (Unt un)) := fun q => absurd (hB.2 q) (by decide)
   clear hB
   go_wp2_with fail
   go_ret
   exact YN.no (fun q => (fun q => HQ.out q.2.2.1) ((kind_2 (v := ⟨kd, me, mo, id, te, de, fe, pr, ch, un, tg, ow, bp⟩) HK.out).1 q)) HB3.out
  have H2 : Hid (Unt un) := hB.1 rfl
  clear hB
  have HC3 : Hid (∀ W, Calls Tryz.prog 99 #[.agg #[.int .i64 id, .int .i64 te, .int .i64 de, .int .i64 fe, .int .i64 pr, .int .i64 ch, .int .i64 un]] W fun e w' => YN W (Mony te de fe pr ch) e w') := fun W => bmony id te de fe pr ch un W
  go_wp2_with fail
  refine (HC3.out _).mono ?_
  rintro e W4 ⟨B, rfl, hB, hb⟩
  have HB4 := shB HB3 hb
  have HX4 := shN HX3 hb
  clear hb HC3 HB3 HX3
  clear c0 c1 c2 c3 c4 c5 c6 c7 c8 c9 c10 c11 c12
  obtain ⟨c0, c1, c2, c3, c4, c5, c6, c7, c8, c9, c10, c11, c12⟩ := scl13 HX4
  cases B
  case false =>
   have HQ : Hid (¬ (Mony te de fe pr ch)) := fun q => absurd (hB.2 q) (by decide)
   clear hB
   go_wp2_with fail
   go_ret
   exact YN.no (fun q => (fun q => HQ.out q.2.2.2) ((kind_2 (v := ⟨kd, me, mo, id, te, de, fe, pr, ch, un, tg, ow, bp⟩) HK.out).1 q)) HB4.out
  have H3 : Hid (Mony te de fe pr ch) := hB.1 rfl
  clear hB
  go_wp2_with fail
  go_ret
  exact YN.yes ((kind_2 (v := ⟨kd, me, mo, id, te, de, fe, pr, ch, un, tg, ow, bp⟩) HK.out).2 ⟨h0, H1.out, H2.out, H3.out⟩) HB4.out
 have q2 : (kd == 2) = false := by simpa using k2
 by_cases k3 : kd = 3
 case pos =>
  have q3 : (kd == 3) = true := by simpa using k3
  have HK : Hid (kd = 3) := k3
  clear k1 k2 k3
  have HW0 : Hid (Calls Tryz.prog 84 #[.int .i64 0, .int .i64 2399, .slice (some ⟨W0.heap.size, 0, none⟩) 1 1] (W0.alloc (.cells #[.int .i64 mo] 3)) fun e w' => e = .returned (.bool (decide (0 ≤ mo ∧ mo ≤ 2399))) ∧ w' = (W0.alloc (.cells #[.int .i64 mo] 3))) := bki.within_one 0 2399 mo W0 _ rfl
  have HB1 : Hid (Below w.heap.size w (W0.alloc (.cells #[.int .i64 mo] 3))) := HB0.out.alloc HB0.out.size _
  have HX1 : Hid (Blk (W0.alloc (.cells #[.int .i64 mo] 3)) w.heap.size #[.int .i64 kd, .int .i64 me, .int .i64 mo, .int .i64 id, .int .i64 te, .int .i64 de, .int .i64 fe, .int .i64 pr, .int .i64 ch, .int .i64 un, .int .i64 tg, .int .i64 ow, .int .i64 bp] 71) := HX0.out.alloc _
  by_cases h0 : 0 ≤ mo ∧ mo ≤ 2399
  case neg =>
   rw [decide_eq_false h0] at HW0
   go_wp2_with fail
   refine HW0.out.mono ?_
   rintro e W ⟨rfl, hw⟩
   subst hw
   clear HW0
   go_wp2_with fail
   go_ret
   exact YN.no (fun q => (fun q => h0 q.1) ((kind_3 (v := ⟨kd, me, mo, id, te, de, fe, pr, ch, un, tg, ow, bp⟩) HK.out).1 q)) HB1.out
  rw [decide_eq_true h0] at HW0
  go_wp2_with fail
  refine HW0.out.mono ?_
  rintro e W ⟨rfl, hw⟩
  subst hw
  clear HW0 HB0 HX0
  clear c0 c1 c2 c3 c4 c5 c6 c7 c8 c9 c10 c11 c12
  generalize (W0.alloc (.cells #[.int .i64 mo] 3)) = W1 at *
  obtain ⟨c0, c1, c2, c3, c4, c5, c6, c7, c8, c9, c10, c11, c12⟩ := scl13 HX1
  have HC1 : Hid (∀ W, Calls Tryz.prog 97 #[.agg #[.int .i64 kd, .int .i64 me, .int .i64 mo, .int .i64 id, .int .i64 te, .int .i64 de, .int .i64 fe, .int .i64 pr, .int .i64 ch, .int .i64 un, .int .i64 tg, .int .i64 ow, .int .i64 bp]] W fun e w' => YN W (Numd id tg) e w') := fun W => bnum kd me mo id te de fe pr ch un tg ow bp W
  go_wp2_with fail
  refine (HC1.out _).mono ?_
  rintro e W2 ⟨B, rfl, hB, hb⟩
  have HB2 := shB HB1 hb
  have HX2 := shN HX1 hb
  clear hb HC1 HB1 HX1
  clear c0 c1 c2 c3 c4 c5 c6 c7 c8 c9 c10 c11 c12
  obtain ⟨c0, c1, c2, c3, c4, c5, c6, c7, c8, c9, c10, c11, c12⟩ := scl13 HX2
  cases B
  case false =>
   have HQ : Hid (¬ (Numd id tg)) := fun q => absurd (hB.2 q) (by decide)
   clear hB
   go_wp2_with fail
   go_ret
   exact YN.no (fun q => (fun q => HQ.out q.2.1) ((kind_3 (v := ⟨kd, me, mo, id, te, de, fe, pr, ch, un, tg, ow, bp⟩) HK.out).1 q)) HB2.out
  have H1 : Hid (Numd id tg) := hB.1 rfl
  clear hB
  have HC2 : Hid (∀ W, Calls Tryz.prog 98 #[.agg #[.int .i64 kd, .int .i64 me, .int .i64 mo, .int .i64 id, .int .i64 te, .int .i64 de, .int .i64 fe, .int .i64 pr, .int .i64 ch, .int .i64 un, .int .i64 tg, .int .i64 ow, .int .i64 bp]] W fun e w' => YN W (Unt un) e w') := fun W => bunt kd me mo id te de fe pr ch un tg ow bp W
  go_wp2_with fail
  refine (HC2.out _).mono ?_
  rintro e W3 ⟨B, rfl, hB, hb⟩
  have HB3 := shB HB2 hb
  have HX3 := shN HX2 hb
  clear hb HC2 HB2 HX2
  clear c0 c1 c2 c3 c4 c5 c6 c7 c8 c9 c10 c11 c12
  obtain ⟨c0, c1, c2, c3, c4, c5, c6, c7, c8, c9, c10, c11, c12⟩ := scl13 HX3
  cases B
  case false =>
   have HQ : Hid (¬ (Unt un)) := fun q => absurd (hB.2 q) (by decide)
   clear hB
   go_wp2_with fail
   go_ret
   exact YN.no (fun q => (fun q => HQ.out q.2.2) ((kind_3 (v := ⟨kd, me, mo, id, te, de, fe, pr, ch, un, tg, ow, bp⟩) HK.out).1 q)) HB3.out
  have H2 : Hid (Unt un) := hB.1 rfl
  clear hB
  go_wp2_with fail
  go_ret
  exact YN.yes ((kind_3 (v := ⟨kd, me, mo, id, te, de, fe, pr, ch, un, tg, ow, bp⟩) HK.out).2 ⟨h0, H1.out, H2.out⟩) HB3.out
 have q3 : (kd == 3) = false := by simpa using k3
 by_cases k4 : kd = 4
 case pos =>
  have q4 : (kd == 4) = true := by simpa using k4
  have HK : Hid (kd = 4) := k4
  clear k1 k2 k3 k4
  have HC0 : Hid (∀ W, Calls Tryz.prog 97 #[.agg #[.int .i64 kd, .int .i64 me, .int .i64 mo, .int .i64 id, .int .i64 te, .int .i64 de, .int .i64 fe, .int .i64 pr, .int .i64 ch, .int .i64 un, .int .i64 tg, .int .i64 ow, .int .i64 bp]] W fun e w' => YN W (Numd id tg) e w') := fun W => bnum kd me mo id te de fe pr ch un tg ow bp W
  go_wp2_with fail
  refine (HC0.out _).mono ?_
  rintro e W1 ⟨B, rfl, hB, hb⟩
  have HB1 := shB HB0 hb
  have HX1 := shN HX0 hb
  clear hb HC0 HB0 HX0
  clear c0 c1 c2 c3 c4 c5 c6 c7 c8 c9 c10 c11 c12
  obtain ⟨c0, c1, c2, c3, c4, c5, c6, c7, c8, c9, c10, c11, c12⟩ := scl13 HX1
  cases B
  case false =>
   have HQ : Hid (¬ (Numd id tg)) := fun q => absurd (hB.2 q) (by decide)
   clear hB
   go_wp2_with fail
   go_ret
   exact YN.no (fun q => (fun q => HQ.out q) ((kind_4 (v := ⟨kd, me, mo, id, te, de, fe, pr, ch, un, tg, ow, bp⟩) HK.out).1 q)) HB1.out
  have H1 : Hid (Numd id tg) := hB.1 rfl
  clear hB
  go_wp2_with fail
  go_ret
  exact YN.yes ((kind_4 (v := ⟨kd, me, mo, id, te, de, fe, pr, ch, un, tg, ow, bp⟩) HK.out).2 H1.out) HB1.out
 have q4 : (kd == 4) = false := by simpa using k4
 by_cases k5 : kd = 5
 case pos =>
  have q5 : (kd == 5) = true := by simpa using k5
  have HK : Hid (kd = 5) := k5
  clear k1 k2 k3 k4 k5
  have HW0 : Hid (Calls Tryz.prog 84 #[.int .i64 1, .int .i64 1000000000, .slice (some ⟨W0.heap.size, 0, none⟩) 1 1] (W0.alloc (.cells #[.int .i64 ow] 3)) fun e w' => e = .returned (.bool (decide (1 ≤ ow ∧ ow ≤ 1000000000))) ∧ w' = (W0.alloc (.cells #[.int .i64 ow] 3))) := bki.within_one 1 1000000000 ow W0 _ rfl
  have HB1 : Hid (Below w.heap.size w (W0.alloc (.cells #[.int .i64 ow] 3))) := HB0.out.alloc HB0.out.size _
  have HX1 : Hid (Blk (W0.alloc (.cells #[.int .i64 ow] 3)) w.heap.size #[.int .i64 kd, .int .i64 me, .int .i64 mo, .int .i64 id, .int .i64 te, .int .i64 de, .int .i64 fe, .int .i64 pr, .int .i64 ch, .int .i64 un, .int .i64 tg, .int .i64 ow, .int .i64 bp] 71) := HX0.out.alloc _
  by_cases h0 : 1 ≤ ow ∧ ow ≤ 1000000000
  case neg =>
   rw [decide_eq_false h0] at HW0
   go_wp2_with fail
   refine HW0.out.mono ?_
   rintro e W ⟨rfl, hw⟩
   subst hw
   clear HW0
   go_wp2_with fail
   go_ret
   exact YN.no (fun q => (fun q => h0 q.1) ((kind_5 (v := ⟨kd, me, mo, id, te, de, fe, pr, ch, un, tg, ow, bp⟩) HK.out).1 q)) HB1.out
  rw [decide_eq_true h0] at HW0
  go_wp2_with fail
  refine HW0.out.mono ?_
  rintro e W ⟨rfl, hw⟩
  subst hw
  clear HW0 HB0 HX0
  clear c0 c1 c2 c3 c4 c5 c6 c7 c8 c9 c10 c11 c12
  generalize (W0.alloc (.cells #[.int .i64 ow] 3)) = W1 at *
  obtain ⟨c0, c1, c2, c3, c4, c5, c6, c7, c8, c9, c10, c11, c12⟩ := scl13 HX1
  have HW1 : Hid (Calls Tryz.prog 84 #[.int .i64 0, .int .i64 10000, .slice (some ⟨W1.heap.size, 0, none⟩) 1 1] (W1.alloc (.cells #[.int .i64 bp] 3)) fun e w' => e = .returned (.bool (decide (0 ≤ bp ∧ bp ≤ 10000))) ∧ w' = (W1.alloc (.cells #[.int .i64 bp] 3))) := bki.within_one 0 10000 bp W1 _ rfl
  have HB2 : Hid (Below w.heap.size w (W1.alloc (.cells #[.int .i64 bp] 3))) := HB1.out.alloc HB1.out.size _
  have HX2 : Hid (Blk (W1.alloc (.cells #[.int .i64 bp] 3)) w.heap.size #[.int .i64 kd, .int .i64 me, .int .i64 mo, .int .i64 id, .int .i64 te, .int .i64 de, .int .i64 fe, .int .i64 pr, .int .i64 ch, .int .i64 un, .int .i64 tg, .int .i64 ow, .int .i64 bp] 71) := HX1.out.alloc _
  by_cases h1 : 0 ≤ bp ∧ bp ≤ 10000
  case neg =>
   rw [decide_eq_false h1] at HW1
   go_wp2_with fail
   refine HW1.out.mono ?_
   rintro e W ⟨rfl, hw⟩
   subst hw
   clear HW1
   go_wp2_with fail
   go_ret
   exact YN.no (fun q => (fun q => h1 q.2) ((kind_5 (v := ⟨kd, me, mo, id, te, de, fe, pr, ch, un, tg, ow, bp⟩) HK.out).1 q)) HB2.out
  rw [decide_eq_true h1] at HW1
  go_wp2_with fail
  refine HW1.out.mono ?_
  rintro e W ⟨rfl, hw⟩
  subst hw
  clear HW1 HB1 HX1
  clear c0 c1 c2 c3 c4 c5 c6 c7 c8 c9 c10 c11 c12
  generalize (W1.alloc (.cells #[.int .i64 bp] 3)) = W2 at *
  obtain ⟨c0, c1, c2, c3, c4, c5, c6, c7, c8, c9, c10, c11, c12⟩ := scl13 HX2
  go_wp2_with fail
  go_ret
  exact YN.yes ((kind_5 (v := ⟨kd, me, mo, id, te, de, fe, pr, ch, un, tg, ow, bp⟩) HK.out).2 ⟨h0, h1⟩) HB2.out
 have q5 : (kd == 5) = false := by simpa using k5
 have HK : Hid (¬ KindR ⟨kd, me, mo, id, te, de, fe, pr, ch, un, tg, ow, bp⟩) := fun q => by
  rcases q with q | q | q | q | q
  ·exact k1 q
  ·exact k2 q.1
  ·exact k3 q.1
  ·exact k4 q.1
  ·exact k5 q.1
 clear k1 k2 k3 k4 k5
 go_wp2_with fail
 go_ret
 exact YN.no HK.out HB0.out
set_option maxHeartbeats 4000000 in
theorem bleft2 (kd me mo id te de fe pr ch un tg ow bp : Int) (w : World) (q2 : (kd == 2) = true) : Calls Tryz.prog 86 #[.agg #[.int .i64 kd, .int .i64 me, .int .i64 mo, .int .i64 id, .int .i64 te, .int .i64 de, .int .i64 fe, .int .i64 pr, .int .i64 ch, .int .i64 un, .int .i64 tg, .int .i64 ow, .int .i64 bp]] w fun e w' => e = .returned (.agg #[.int .i64 0, .int .i64 0, .int .i64 0, .int .i64 0, .int .i64 0, .int .i64 0, .int .i64 0, .int .i64 0, .int .i64 0, .int .i64 0, .int .i64 0, .int .i64 ow, .int .i64 bp]) ∧ Below w.heap.size w w' := by
 go_enter Tryz.func86, Tryz.ntmps86
 go_wp2
 exact bodyPost_ret (v := .agg #[.int .i64 0, .int .i64 0, .int .i64 0, .int .i64 0, .int .i64 0, .int .i64 0, .int .i64 0, .int .i64 0, .int .i64 0, .int .i64 0, .int .i64 0, .int .i64 ow, .int .i64 bp]) (by simp [results, Tryz.results86, go_sem]) rfl ⟨rfl, bki.bel2 _ _ _⟩
set_option maxHeartbeats 4000000 in
theorem bleft3 (kd me mo id te de fe pr ch un tg ow bp : Int) (w : World) (q2 : (kd == 2) = false) (q3 : (kd == 3) = true) : Calls Tryz.prog 86 #[.agg #[.int .i64 kd, .int .i64 me, .int .i64 mo, .int .i64 id, .int .i64 te, .int .i64 de, .int .i64 fe, .int .i64 pr, .int .i64 ch, .int .i64 un, .int .i64 tg, .int .i64 ow, .int .i64 bp]] w fun e w' => e = .returned (.agg #[.int .i64 0, .int .i64 0, .int .i64 0, .int .i64 0, .int .i64 te, .int .i64 de, .int .i64 fe, .int .i64 pr, .int .i64 ch, .int .i64 0, .int .i64 0, .int .i64 ow, .int .i64 bp]) ∧ Below w.heap.size w w' := by
 go_enter Tryz.func86, Tryz.ntmps86
 go_wp2
 exact bodyPost_ret (v := .agg #[.int .i64 0, .int .i64 0, .int .i64 0, .int .i64 0, .int .i64 te, .int .i64 de, .int .i64 fe, .int .i64 pr, .int .i64 ch, .int .i64 0, .int .i64 0, .int .i64 ow, .int .i64 bp]) (by simp [results, Tryz.results86, go_sem]) rfl ⟨rfl, bki.bel2 _ _ _⟩
set_option maxHeartbeats 4000000 in
theorem bleft4 (kd me mo id te de fe pr ch un tg ow bp : Int) (w : World) (q2 : (kd == 2) = false) (q3 : (kd == 3) = false) (q4 : (kd == 4) = true) : Calls Tryz.prog 86 #[.agg #[.int .i64 kd, .int .i64 me, .int .i64 mo, .int .i64 id, .int .i64 te, .int .i64 de, .int .i64 fe, .int .i64 pr, .int .i64 ch, .int .i64 un, .int .i64 tg, .int .i64 ow, .int .i64 bp]] w fun e w' => e = .returned (.agg #[.int .i64 0, .int .i64 0, .int .i64 mo, .int .i64 0, .int .i64 te, .int .i64 de, .int .i64 fe, .int .i64 pr, .int .i64 ch, .int .i64 un, .int .i64 0, .int .i64 ow, .int .i64 bp]) ∧ Below w.heap.size w w' := by
 go_enter Tryz.func86, Tryz.ntmps86
 go_wp2
 exact bodyPost_ret (v := .agg #[.int .i64 0, .int .i64 0, .int .i64 mo, .int .i64 0, .int .i64 te, .int .i64 de, .int .i64 fe, .int .i64 pr, .int .i64 ch, .int .i64 un, .int .i64 0, .int .i64 ow, .int .i64 bp]) (by simp [results, Tryz.results86, go_sem]) rfl ⟨rfl, bki.bel2 _ _ _⟩
set_option maxHeartbeats 4000000 in
theorem bleft5 (kd me mo id te de fe pr ch un tg ow bp : Int) (w : World) (q2 : (kd == 2) = false) (q3 : (kd == 3) = false) (q4 : (kd == 4) = false) (q5 : (kd == 5) = true) : Calls Tryz.prog 86 #[.agg #[.int .i64 kd, .int .i64 me, .int .i64 mo, .int .i64 id, .int .i64 te, .int .i64 de, .int .i64 fe, .int .i64 pr, .int .i64 ch, .int .i64 un, .int .i64 tg, .int .i64 ow, .int .i64 bp]] w fun e w' => e = .returned (.agg #[.int .i64 0, .int .i64 0, .int .i64 mo, .int .i64 id, .int .i64 te, .int .i64 de, .int .i64 fe, .int .i64 pr, .int .i64 ch, .int .i64 un, .int .i64 tg, .int .i64 0, .int .i64 0]) ∧ Below w.heap.size w w' := by
 go_enter Tryz.func86, Tryz.ntmps86
 go_wp2
 exact bodyPost_ret (v := .agg #[.int .i64 0, .int .i64 0, .int .i64 mo, .int .i64 id, .int .i64 te, .int .i64 de, .int .i64 fe, .int .i64 pr, .int .i64 ch, .int .i64 un, .int .i64 tg, .int .i64 0, .int .i64 0]) (by simp [results, Tryz.results86, go_sem]) rfl ⟨rfl, bki.bel2 _ _ _⟩
set_option maxHeartbeats 4000000 in
theorem bleft0 (kd me mo id te de fe pr ch un tg ow bp : Int) (w : World) (q2 : (kd == 2) = false) (q3 : (kd == 3) = false) (q4 : (kd == 4) = false) (q5 : (kd == 5) = false) : Calls Tryz.prog 86 #[.agg #[.int .i64 kd, .int .i64 me, .int .i64 mo, .int .i64 id, .int .i64 te, .int .i64 de, .int .i64 fe, .int .i64 pr, .int .i64 ch, .int .i64 un, .int .i64 tg, .int .i64 ow, .int .i64 bp]] w fun e w' => e = .returned (.agg #[.int .i64 0, .int .i64 0, .int .i64 mo, .int .i64 id, .int .i64 te, .int .i64 de, .int .i64 fe, .int .i64 pr, .int .i64 ch, .int .i64 un, .int .i64 tg, .int .i64 ow, .int .i64 bp]) ∧ Below w.heap.size w w' := by
 go_enter Tryz.func86, Tryz.ntmps86
 go_wp2
 exact bodyPost_ret (v := .agg #[.int .i64 0, .int .i64 0, .int .i64 mo, .int .i64 id, .int .i64 te, .int .i64 de, .int .i64 fe, .int .i64 pr, .int .i64 ch, .int .i64 un, .int .i64 tg, .int .i64 ow, .int .i64 bp]) (by simp [results, Tryz.results86, go_sem]) rfl ⟨rfl, bki.bel2 _ _ _⟩
theorem bleft (v : Ev) (w : World) : Calls Tryz.prog 86 #[v.v] w fun e w' => e = .returned (leftE v).v ∧ Below w.heap.size w w' := by
 obtain ⟨kd, me, mo, id, te, de, fe, pr, ch, un, tg, ow, bp⟩ := v
 unfold leftE Ev.v
 simp only
 by_cases k2 : kd = 2
 ·rw [if_pos k2]
  exact bleft2 kd me mo id te de fe pr ch un tg ow bp w (by simpa using k2)
 rw [if_neg k2]
 by_cases k3 : kd = 3
 ·rw [if_pos k3]
  exact bleft3 kd me mo id te de fe pr ch un tg ow bp w (by simpa using k2) (by simpa using k3)
 rw [if_neg k3]
 by_cases k4 : kd = 4
 ·rw [if_pos k4]
  exact bleft4 kd me mo id te de fe pr ch un tg ow bp w (by simpa using k2) (by simpa using k3) (by simpa using k4)
 rw [if_neg k4]
 by_cases k5 : kd = 5
 ·rw [if_pos k5]
  exact bleft5 kd me mo id te de fe pr ch un tg ow bp w (by simpa using k2) (by simpa using k3) (by simpa using k4) (by simpa using k5)
 rw [if_neg k5]
 exact bleft0 kd me mo id te de fe pr ch un tg ow bp w (by simpa using k2) (by simpa using k3) (by simpa using k4) (by simpa using k5)
end book
end Go.Proofs.YtomibnggmhjdfaaGreat
