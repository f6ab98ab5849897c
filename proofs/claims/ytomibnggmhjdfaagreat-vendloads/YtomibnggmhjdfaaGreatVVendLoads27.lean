import Derived.Test.YtomibnggmhjdfaaGreatVVendLoads1
import Derived.Test.YtomibnggmhjdfaaGreatVVendLoads6
import Derived.Test.YtomibnggmhjdfaaGreatVVendLoads26
set_option linter.unusedVariables false
set_option linter.unusedSimpArgs false
namespace Go.Proofs.YtomibnggmhjdfaaGreat
namespace book
open Go.RowKit
set_option maxRecDepth 100000
set_option maxHeartbeats 4000000 in
theorem bkind (kd me mo id te de fe pr ch un tg ow bp : Int) (w : World) : Calls Tryz.prog 85 #[.agg #[.int .i64 kd, .int .i64 me, .int .i64 mo, .int .i64 id, .int .i64 te, .int .i64 de, .int .i64 fe, .int .i64 pr, .int .i64 ch, .int .i64 un, .int .i64 tg, .int .i64 ow, .int .i64 bp]] w fun e w' => YN w (KindR ⟨kd, me, mo, id, te, de, fe, pr, ch, un, tg, ow, bp⟩) e w' := by
 obtain ⟨W0, HWW, HX0, HB0, -⟩ := sh1 w #[.int .i64 kd, .int .i64 me, .int .i64 mo, .int .i64 id, .int .i64 te, .int .i64 de, .int .i64 fe, .int .i64 pr, .int .i64 ch, .int .i64 un, .int .i64 tg, .int .i64 ow, .int .i64 bp] 71
 go_enter Tryz.func85, Tryz.ntmps85
 go_upto_region 1 with fail
 rw [HWW.out]
 clear HWW
 obtain ⟨c0, c1, c2, c3, c4, c5, c6, c7, c8, c9, c10, c11, c12⟩ := scl13 HX0
 by_cases k1 : kd = 1
 case pos =>
  have q1 : (kd == 1) = true := by simpa using k1
  have HK : Hid (kd = 1) := k1
  clear k1
  go_wp2_with fail
  go_ret
  exact YN.yes (Or.inl HK.out) HB0.out
 have q1 : (kd == 1) = false := by simpa using k1
 by_cases k2 : kd = 2
 case pos =>
  have q2 : (kd == 2) = true := by simpa using k2
  have HK : Hid (kd = 2) := k2
  clear k1 k2
  have HW0 : Hid (Calls Tryz.prog 84 #[.int .i64 0, .int .i64 2399, .slice (some ⟨W0.heap.size, 0, none⟩) 1 1] (W0.alloc (.cells #[.int .i64 mo] 3)) fun e w' => e = .returned (.bool (decide (0 ≤ mo ∧ mo ≤ 2399))) ∧ w' = (W0.alloc (.cells #[.int .i64 mo] 3))) := bki.within_one 0 2399 mo W0 _ rfl
  have HB1 : Hid (Below w.heap.size w (W0.alloc (.cells #[.int .i64 mo] 3))) := HB0.out.alloc HB0.out.size _
  have HX1 : Hid (Blk (W0.alloc (.cells #[.int .i64 mo] 3)) w.heap.size #[.int .i64 kd, .int .i64 me, .int .i64 mo, .int .i64 id, .int .i64 te, .int .i64 de, .int .i64 fe, .int .i64 pr, .int .i64 ch, .int .i64 un, .int .i64 tg, .int .i64 ow, .int .i64 bp] 71) := HX0.out.alloc _
  by_cases h0 : 0 ≤ mo ∧ mo ≤ 2399
  case neg =>
   rw [decide_eq_false h0] at HW0
   go_wp2_with fail
   refine HW0.out.mono ?_
   rintro e W ⟨rfl, hw⟩
   subst hw
   clear HW0
   go_wp2_with fail
   go_ret
   exact YN.no (fun q => (fun q => h0 q.1) ((kind_2 (v := ⟨kd, me, mo, id, te, de, fe, pr, ch, un, tg, ow, bp⟩) HK.out).1 q)) HB1.out
  rw [decide_eq_true h0] at HW0
  go_wp2_with fail
  refine HW0.out.mono ?_
  rintro e W ⟨rfl, hw⟩
  subst hw
  clear HW0 HB0 HX0
  clear c0 c1 c2 c3 c4 c5 c6 c7 c8 c9 c10 c11 c12
  generalize (W0.alloc (.cells #[.int .i64 mo] 3)) = W1 at *
  obtain ⟨c0, c1, c2, c3, c4, c5, c6, c7, c8, c9, c10, c11, c12⟩ := scl13 HX1
  have HC1 : Hid (∀ W, Calls Tryz.prog 97 #[.agg #[.int .i64 kd, .int .i64 me, .int .i64 mo, .int .i64 id, .int .i64 te, .int .i64 de, .int .i64 fe, .int .i64 pr, .int .i64 ch, .int .i64 un, .int .i64 tg, .int .i64 ow, .int .i64 bp]] W fun e w' => YN W (Numd id tg) e w') := fun W => bnum kd me mo id te de fe pr ch un tg ow bp W
  go_wp2_with fail
  refine (HC1.out _).mono ?_
  rintro e W2 ⟨B, rfl, hB, hb⟩
  have HB2 := shB HB1 hb
  have HX2 := shN HX1 hb
  clear hb HC1 HB1 HX1
  clear c0 c1 c2 c3 c4 c5 c6 c7 c8 c9 c10 c11 c12
  obtain ⟨c0, c1, c2, c3, c4, c5, c6, c7, c8, c9, c10, c11, c12⟩ := scl13 HX2
  cases B
  case false =>
   have HQ : Hid (¬ (Numd id tg)) := fun q => absurd (hB.2 q) (by decide)
   clear hB
   go_wp2_with fail
   go_ret
   exact YN.no (fun q => (fun q => HQ.out q.2.1) ((kind_2 (v := ⟨kd, me, mo, id, te, de, fe, pr, ch, un, tg, ow, bp⟩) HK.out).1 q)) HB2.out
  have H1 : Hid (Numd id tg) := hB.1 rfl
  clear hB
  have HC2 : Hid (∀ W, Calls Tryz.prog 98 #[.agg #[.int .i64 kd, .int .i64 me, .int .i64 mo, .int .i64 id, .int .i64 te, .int .i64 de, .int .i64 fe, .int .i64 pr, .int .i64 ch, .int .i64 un, .int .i64 tg, .int .i64 ow, .int .i64 bp]] W fun e w' => YN W (Unt un) e w') := fun W => bunt kd me mo id te de fe pr ch un tg ow bp W
  go_wp2_with fail
  refine (HC2.out _).mono ?_
  rintro e W3 ⟨B, rfl, hB, hb⟩
  have HB3 := shB HB2 hb
  have HX3 := shN HX2 hb
  clear hb HC2 HB2 HX2
  clear c0 c1 c2 c3 c4 c5 c6 c7 c8 c9 c10 c11 c12
  obtain ⟨c0, c1, c2, c3, c4, c5, c6, c7, c8, c9, c10, c11, c12⟩ := scl13 HX3
  cases B
  case false =>
   have HQ : Hid (¬ (Unt un)) := fun q => absurd (hB.2 q) (by decide)
   clear hB
   go_wp2_with fail
   go_ret
   exact YN.no (fun q => (fun q => HQ.out q.2.2.1) ((kind_2 (v := ⟨kd, me, mo, id, te, de, fe, pr, ch, un, tg, ow, bp⟩) HK.out).1 q)) HB3.out
  have H2 : Hid (Unt un) := hB.1 rfl
  clear hB
  have HC3 : Hid (∀ W, Calls Tryz.prog 99 #[.agg #[.int .i64 id, .int .i64 te, .int .i64 de, .int .i64 fe, .int .i64 pr, .int .i64 ch, .int .i64 un]] W fun e w' => YN W (Mony te de fe pr ch) e w') := fun W => bmony id te de fe pr ch un W
  go_wp2_with fail
  refine (HC3.out _).mono ?_
  rintro e W4 ⟨B, rfl, hB, hb⟩
  have HB4 := shB HB3 hb
  have HX4 := shN HX3 hb
  clear hb HC3 HB3 HX3
  clear c0 c1 c2 c3 c4 c5 c6 c7 c8 c9 c10 c11 c12
  obtain ⟨c0, c1, c2, c3, c4, c5, c6, c7, c8, c9, c10, c11, c12⟩ := scl13 HX4
  cases B
  case false =>
   have HQ : Hid (¬ (Mony te de fe pr ch)) := fun q => absurd (hB.2 q) (by decide)
   clear hB
   go_wp2_with fail
   go_ret
   exact YN.no (fun q => (fun q => HQ.out q.2.2.2) ((kind_2 (v := ⟨kd, me, mo, id, te, de, fe, pr, ch, un, tg, ow, bp⟩) HK.out).1 q)) HB4.out
  have H3 : Hid (Mony te de fe pr ch) := hB.1 rfl
  clear hB
  go_wp2_with fail
  go_ret
  exact YN.yes ((kind_2 (v := ⟨kd, me, mo, id, te, de, fe, pr, ch, un, tg, ow, bp⟩) HK.out).2 ⟨h0, H1.out, H2.out, H3.out⟩) HB4.out
 have q2 : (kd == 2) = false := by simpa using k2
 by_cases k3 : kd = 3
 case pos =>
  have q3 : (kd == 3) = true := by simpa using k3
  have HK : Hid (kd = 3) := k3
  clear k1 k2 k3
  have HW0 : Hid (Calls Tryz.prog 84 #[.int .i64 0, .int .i64 2399, .slice (some ⟨W0.heap.size, 0, none⟩) 1 1] (W0.alloc (.cells #[.int .i64 mo] 3)) fun e w' => e = .returned (.bool (decide (0 ≤ mo ∧ mo ≤ 2399))) ∧ w' = (W0.alloc (.cells #[.int .i64 mo] 3))) := bki.within_one 0 2399 mo W0 _ rfl
  have HB1 : Hid (Below w.heap.size w (W0.alloc (.cells #[.int .i64 mo] 3))) := HB0.out.alloc HB0.out.size _
  have HX1 : Hid (Blk (W0.alloc (.cells #[.int .i64 mo] 3)) w.heap.size #[.int .i64 kd, .int .i64 me, .int .i64 mo, .int .i64 id, .int .i64 te, .int .i64 de, .int .i64 fe, .int .i64 pr, .int .i64 ch, .int .i64 un, .int .i64 tg, .int .i64 ow, .int .i64 bp] 71) := HX0.out.alloc _
  by_cases h0 : 0 ≤ mo ∧ mo ≤ 2399
  case neg =>
   rw [decide_eq_false h0] at HW0
   go_wp2_with fail
   refine HW0.out.mono ?_
   rintro e W ⟨rfl, hw⟩
   subst hw
   clear HW0
   go_wp2_with fail
   go_ret
   exact YN.no (fun q => (fun q => h0 q.1) ((kind_3 (v := ⟨kd, me, mo, id, te, de, fe, pr, ch, un, tg, ow, bp⟩) HK.out).1 q)) HB1.out
  rw [decide_eq_true h0] at HW0
  go_wp2_with fail
  refine HW0.out.mono ?_
  rintro e W ⟨rfl, hw⟩
  subst hw
  clear HW0 HB0 HX0
  clear c0 c1 c2 c3 c4 c5 c6 c7 c8 c9 c10 c11 c12
  generalize (W0.alloc (.cells #[.int .i64 mo] 3)) = W1 at *
  obtain ⟨c0, c1, c2, c3, c4, c5, c6, c7, c8, c9, c10, c11, c12⟩ := scl13 HX1
  have HC1 : Hid (∀ W, Calls Tryz.prog 97 #[.agg #[.int .i64 kd, .int .i64 me, .int .i64 mo, .int .i64 id, .int .i64 te, .int .i64 de, .int .i64 fe, .int .i64 pr, .int .i64 ch, .int .i64 un, .int .i64 tg, .int .i64 ow, .int .i64 bp]] W fun e w' => YN W (Numd id tg) e w') := fun W => bnum kd me mo id te de fe pr ch un tg ow bp W
  go_wp2_with fail
  refine (HC1.out _).mono ?_
  rintro e W2 ⟨B, rfl, hB, hb⟩
  have HB2 := shB HB1 hb
  have HX2 := shN HX1 hb
  clear hb HC1 HB1 HX1
  clear c0 c1 c2 c3 c4 c5 c6 c7 c8 c9 c10 c11 c12
  obtain ⟨c0, c1, c2, c3, c4, c5, c6, c7, c8, c9, c10, c11, c12⟩ := scl13 HX2
  cases B
  case false =>
   have HQ : Hid (¬ (Numd id tg)) := fun q => absurd (hB.2 q) (by decide)
   clear hB
   go_wp2_with fail
   go_ret
   exact YN.no (fun q => (fun q => HQ.out q.2.1) ((kind_3 (v := ⟨kd, me, mo, id, te, de, fe, pr, ch, un, tg, ow, bp⟩) HK.out).1 q)) HB2.out
  have H1 : Hid (Numd id tg) := hB.1 rfl
  clear hB
  have HC2 : Hid (∀ W, Calls Tryz.prog 98 #[.agg #[.int .i64 kd, .int .i64 me, .int .i64 mo, .int .i64 id, .int .i64 te, .int .i64 de, .int .i64 fe, .int .i64 pr, .int .i64 ch, .int .i64 un, .int .i64 tg, .int .i64 ow, .int .i64 bp]] W fun e w' => YN W (Unt un) e w') := fun W => bunt kd me mo id te de fe pr ch un tg ow bp W
  go_wp2_with fail
  refine (HC2.out _).mono ?_
  rintro e W3 ⟨B, rfl, hB, hb⟩
  have HB3 := shB HB2 hb
  have HX3 := shN HX2 hb
  clear hb HC2 HB2 HX2
  clear c0 c1 c2 c3 c4 c5 c6 c7 c8 c9 c10 c11 c12
  obtain ⟨c0, c1, c2, c3, c4, c5, c6, c7, c8, c9, c10, c11, c12⟩ := scl13 HX3
  cases B
  case false =>
   have HQ : Hid (¬ (Unt un)) := fun q => absurd (hB.2 q) (by decide)
   clear hB
   go_wp2_with fail
   go_ret
   exact YN.no (fun q => (fun q => HQ.out q.2.2) ((kind_3 (v := ⟨kd, me, mo, id, te, de, fe, pr, ch, un, tg, ow, bp⟩) HK.out).1 q)) HB3.out
  have H2 : Hid (Unt un) := hB.1 rfl
  clear hB
  go_wp2_with fail
  go_ret
  exact YN.yes ((kind_3 (v := ⟨kd, me, mo, id, te, de, fe, pr, ch, un, tg, ow, bp⟩) HK.out).2 ⟨h0, H1.out, H2.out⟩) HB3.out
 have q3 : (kd == 3) = false := by simpa using k3
 by_cases k4 : kd = 4
 case pos =>
  have q4 : (kd == 4) = true := by simpa using k4
  have HK : Hid (kd = 4) := k4
  clear k1 k2 k3 k4
  have HC0 : Hid (∀ W, Calls Tryz.prog 97 #[.agg #[.int .i64 kd, .int .i64 me, .int .i64 mo, .int .i64 id, .int .i64 te, .int .i64 de, .int .i64 fe, .int .i64 pr, .int .i64 ch, .int .i64 un, .int .i64 tg, .int .i64 ow, .int .i64 bp]] W fun e w' => YN W (Numd id tg) e w') := fun W => bnum kd me mo id te de fe pr ch un tg ow bp W
  go_wp2_with fail
  refine (HC0.out _).mono ?_
  rintro e W1 ⟨B, rfl, hB, hb⟩
  have HB1 := shB HB0 hb
  have HX1 := shN HX0 hb
  clear hb HC0 HB0 HX0
  clear c0 c1 c2 c3 c4 c5 c6 c7 c8 c9 c10 c11 c12
  obtain ⟨c0, c1, c2, c3, c4, c5, c6, c7, c8, c9, c10, c11, c12⟩ := scl13 HX1
  cases B
  case false =>
   have HQ : Hid (¬ (Numd id tg)) := fun q => absurd (hB.2 q) (by decide)
   clear hB
   go_wp2_with fail
   go_ret
   exact YN.no (fun q => (fun q => HQ.out q) ((kind_4 (v := ⟨kd, me, mo, id, te, de, fe, pr, ch, un, tg, ow, bp⟩) HK.out).1 q)) HB1.out
  have H1 : Hid (Numd id tg) := hB.1 rfl
  clear hB
  go_wp2_with fail
  go_ret
  exact YN.yes ((kind_4 (v := ⟨kd, me, mo, id, te, de, fe, pr, ch, un, tg, ow, bp⟩) HK.out).2 H1.out) HB1.out
 have q4 : (kd == 4) = false := by simpa using k4
 by_cases k5 : kd = 5
 case pos =>
  have q5 : (kd == 5) = true := by simpa using k5
  have HK : Hid (kd = 5) := k5
  clear k1 k2 k3 k4 k5
  have HW0 : Hid (Calls Tryz.prog 84 #[.int .i64 1, .int .i64 1000000000, .slice (some ⟨W0.heap.size, 0, none⟩) 1 1] (W0.alloc (.cells #[.int .i64 ow] 3)) fun e w' => e = .returned (.bool (decide (1 ≤ ow ∧ ow ≤ 1000000000))) ∧ w' = (W0.alloc (.cells #[.int .i64 ow] 3))) := bki.within_one 1 1000000000 ow W0 _ rfl
  have HB1 : Hid (Below w.heap.size w (W0.alloc (.cells #[.int .i64 ow] 3))) := HB0.out.alloc HB0.out.size _
  have HX1 : Hid (Blk (W0.alloc (.cells #[.int .i64 ow] 3)) w.heap.size #[.int .i64 kd, .int .i64 me, .int .i64 mo, .int .i64 id, .int .i64 te, .int .i64 de, .int .i64 fe, .int .i64 pr, .int .i64 ch, .int .i64 un, .int .i64 tg, .int .i64 ow, .int .i64 bp] 71) := HX0.out.alloc _
  by_cases h0 : 1 ≤ ow ∧ ow ≤ 1000000000
  case neg =>
   rw [decide_eq_false h0] at HW0
   go_wp2_with fail
   refine HW0.out.mono ?_
   rintro e W ⟨rfl, hw⟩
   subst hw
   clear HW0
   go_wp2_with fail
   go_ret
   exact YN.no (fun q => (fun q => h0 q.1) ((kind_5 (v := ⟨kd, me, mo, id, te, de, fe, pr, ch, un, tg, ow, bp⟩) HK.out).1 q)) HB1.out
  rw [decide_eq_true h0] at HW0
  go_wp2_with fail
  refine HW0.out.mono ?_
  rintro e W ⟨rfl, hw⟩
  subst hw
  clear HW0 HB0 HX0
  clear c0 c1 c2 c3 c4 c5 c6 c7 c8 c9 c10 c11 c12
  generalize (W0.alloc (.cells #[.int .i64 ow] 3)) = W1 at *
  obtain ⟨c0, c1, c2, c3, c4, c5, c6, c7, c8, c9, c10, c11, c12⟩ := scl13 HX1
  have HW1 : Hid (Calls Tryz.prog 84 #[.int .i64 0, .int .i64 10000, .slice (some ⟨W1.heap.size, 0, none⟩) 1 1] (W1.alloc (.cells #[.int .i64 bp] 3)) fun e w' => e = .returned (.bool (decide (0 ≤ bp ∧ bp ≤ 10000))) ∧ w' = (W1.alloc (.cells #[.int .i64 bp] 3))) := bki.within_one 0 10000 bp W1 _ rfl
  have HB2 : Hid (Below w.heap.size w (W1.alloc (.cells #[.int .i64 bp] 3))) := HB1.out.alloc HB1.out.size _
  have HX2 : Hid (Blk (W1.alloc (.cells #[.int .i64 bp] 3)) w.heap.size #[.int .i64 kd, .int .i64 me, .int .i64 mo, .int .i64 id, .int .i64 te, .int .i64 de, .int .i64 fe, .int .i64 pr, .int .i64 ch, .int .i64 un, .int .i64 tg, .int .i64 ow, .int .i64 bp] 71) := HX1.out.alloc _
  by_cases h1 : 0 ≤ bp ∧ bp ≤ 10000
  case neg =>
   rw [decide_eq_false h1] at HW1
   go_wp2_with fail
   refine HW1.out.mono ?_
   rintro e W ⟨rfl, hw⟩
   subst hw
   clear HW1
   go_wp2_with fail
   go_ret
   exact YN.no (fun q => (fun q => h1 q.2) ((kind_5 (v := ⟨kd, me, mo, id, te, de, fe, pr, ch, un, tg, ow, bp⟩) HK.out).1 q)) HB2.out
  rw [decide_eq_true h1] at HW1
  go_wp2_with fail
  refine HW1.out.mono ?_
  rintro e W ⟨rfl, hw⟩
  subst hw
  clear HW1 HB1 HX1
  clear c0 c1 c2 c3 c4 c5 c6 c7 c8 c9 c10 c11 c12
  generalize (W1.alloc (.cells #[.int .i64 bp] 3)) = W2 at *
  obtain ⟨c0, c1, c2, c3, c4, c5, c6, c7, c8, c9, c10, c11, c12⟩ := scl13 HX2
  go_wp2_with fail
  go_ret
  exact YN.yes ((kind_5 (v := ⟨kd, me, mo, id, te, de, fe, pr, ch, un, tg, ow, bp⟩) HK.out).2 ⟨h0, h1⟩) HB2.out
 have q5 : (kd == 5) = false := by simpa using k5
 have HK : Hid (¬ KindR ⟨kd, me, mo, id, te, de, fe, pr, ch, un, tg, ow, bp⟩) := fun q => by
  rcases q with q | q | q | q | q
  ·exact k1 q
  ·exact k2 q.1
  ·exact k3 q.1
  ·exact k4 q.1
  ·exact k5 q.1
 clear k1 k2 k3 k4 k5
 go_wp2_with fail
 go_ret
 exact YN.no HK.out HB0.out
end book
namespace book
open Go.RowKit
set_option maxRecDepth 100000
set_option maxHeartbeats 4000000 in
theorem bleft2 (kd me mo id te de fe pr ch un tg ow bp : Int) (w : World) (q2 : (kd == 2) = true) : Calls Tryz.prog 86 #[.agg #[.int .i64 kd, .int .i64 me, .int .i64 mo, .int .i64 id, .int .i64 te, .int .i64 de, .int .i64 fe, .int .i64 pr, .int .i64 ch, .int .i64 un, .int .i64 tg, .int .i64 ow, .int .i64 bp]] w fun e w' => e = .returned (.agg #[.int .i64 0, .int .i64 0, .int .i64 0, .int .i64 0, .int .i64 0, .int .i64 0, .int .i64 0, .int .i64 0, .int .i64 0, .int .i64 0, .int .i64 0, .int .i64 ow, .int .i64 bp]) ∧ Below w.heap.size w w' := by
 go_enter Tryz.func86, Tryz.ntmps86
 go_wp2
 exact bodyPost_ret (v := .agg #[.int .i64 0, .int .i64 0, .int .i64 0, .int .i64 0, .int .i64 0, .int .i64 0, .int .i64 0, .int .i64 0, .int .i64 0, .int .i64 0, .int .i64 0, .int .i64 ow, .int .i64 bp]) (by simp [results, Tryz.results86, go_sem]) rfl ⟨rfl, bki.bel2 _ _ _⟩
set_option maxHeartbeats 4000000 in
theorem bleft3 (kd me mo id te de fe pr ch un tg ow bp : Int) (w : World) (q2 : (kd == 2) = false) (q3 : (kd == 3) = true) : Calls Tryz.prog 86 #[.agg #[.int .i64 kd, .int .i64 me, .int .i64 mo, .int .i64 id, .int .i64 te, .int .i64 de, .int .i64 fe, .int .i64 pr, .int .i64 ch, .int .i64 un, .int .i64 tg, .int .i64 ow, .int .i64 bp]] w fun e w' => e = .returned (.agg #[.int .i64 0, .int .i64 0, .int .i64 0, .int .i64 0, .int .i64 te, .int .i64 de, .int .i64 fe, .int .i64 pr, .int .i64 ch, .int .i64 0, .int .i64 0, .int .i64 ow, .int .i64 bp]) ∧ Below w.heap.size w w' := by
 go_enter Tryz.func86, Tryz.ntmps86
 go_wp2
 exact bodyPost_ret (v := .agg #[.int .i64 0, .int .i64 0, .int .i64 0, .int .i64 0, .int .i64 te, .int .i64 de, .int .i64 fe, .int .i64 pr, .int .i64 ch, .int .i64 0, .int .i64 0, .int .i64 ow, .int .i64 bp]) (by simp [results, Tryz.results86, go_sem]) rfl ⟨rfl, bki.bel2 _ _ _⟩
set_option maxHeartbeats 4000000 in
theorem bleft4 (kd me mo id te de fe pr ch un tg ow bp : Int) (w : World) (q2 : (kd == 2) = false) (q3 : (kd == 3) = false) (q4 : (kd == 4) = true) : Calls Tryz.prog 86 #[.agg #[.int .i64 kd, .int .i64 me, .int .i64 mo, .int .i64 id, .int .i64 te, .int .i64 de, .int .i64 fe, .int .i64 pr, .int .i64 ch, .int .i64 un, .int .i64 tg, .int .i64 ow, .int .i64 bp]] w fun e w' => e = .returned (.agg #[.int .i64 0, .int .i64 0, .int .i64 mo, .int .i64 0, .int .i64 te, .int .i64 de, .int .i64 fe, .int .i64 pr, .int .i64 ch, .int .i64 un, .int .i64 0, .int .i64 ow, .int .i64 bp]) ∧ Below w.heap.size w w' := by
 go_enter Tryz.func86, Tryz.ntmps86
 go_wp2
 exact bodyPost_ret (v := .agg #[.int .i64 0, .int .i64 0, .int .i64 mo, .int .i64 0, .int .i64 te, .int .i64 de, .int .i64 fe, .int .i64 pr, .int .i64 ch, .int .i64 un, .int .i64 0, .int .i64 ow, .int .i64 bp]) (by simp [results, Tryz.results86, go_sem]) rfl ⟨rfl, bki.bel2 _ _ _⟩
set_option maxHeartbeats 4000000 in
theorem bleft5 (kd me mo id te de fe pr ch un tg ow bp : Int) (w : World) (q2 : (kd == 2) = false) (q3 : (kd == 3) = false) (q4 : (kd == 4) = false) (q5 : (kd == 5) = true) : Calls Tryz.prog 86 #[.agg #[.int .i64 kd, .int .i64 me, .int .i64 mo, .int .i64 id, .int .i64 te, .int .i64 de, .int .i64 fe, .int .i64 pr, .int .i64 ch, .int .i64 un, .int .i64 tg, .int .i64 ow, .int .i64 bp]] w fun e w' => e = .returned (.agg #[.int .i64 0, .int .i64 0, .int .i64 mo, .int .i64 id, .int .i64 te, .int .i64 de, .int .i64 fe, .int .i64 pr, .int .i64 ch, .int .i64 un, .int .i64 tg, .int .i64 0, .int .i64 0]) ∧ Below w.heap.size w w' := by
 go_enter Tryz.func86, Tryz.ntmps86
 go_wp2
 exact bodyPost_ret (v := .agg #[.int .i64 0, .int .i64 0, .int .i64 mo, .int .i64 id, .int .i64 te, .int .i64 de, .int .i64 fe, .int .i64 pr, .int .i64 ch, .int .i64 un, .int .i64 tg, .int .i64 0, .int .i64 0]) (by simp [results, Tryz.results86, go_sem]) rfl ⟨rfl, bki.bel2 _ _ _⟩
set_option maxHeartbeats 4000000 in
theorem bleft0 (kd me mo id te de fe pr ch un tg ow bp : Int) (w : World) (q2 : (kd == 2) = false) (q3 : (kd == 3) = false) (q4 : (kd == 4) = false) (q5 : (kd == 5) = false) : Calls Tryz.prog 86 #[.agg #[.int .i64 kd, .int .i64 me, .int .i64 mo, .int .i64 id, .int .i64 te, .int .i64 de, .int .i64 fe, .int .i64 pr, .int .i64 ch, .int .i64 un, .int .i64 tg, .int .i64 ow, .int .i64 bp]] w fun e w' => e = .returned (.agg #[.int .i64 0, .int .i64 0, .int .i64 mo, .int .i64 id, .int .i64 te, .int .i64 de, .int .i64 fe, .int .i64 pr, .int .i64 ch, .int .i64 un, .int .i64 tg, .int .i64 ow, .int .i64 bp]) ∧ Below w.heap.size w w' := by
 go_enter Tryz.func86, Tryz.ntmps86
 go_wp2
 exact bodyPost_ret (v := .agg #[.int .i64 0, .int .i64 0, .int .i64 mo, .int .i64 id, .int .i64 te, .int .i64 de, .int .i64 fe, .int .i64 pr, .int .i64 ch, .int .i64 un, .int .i64 tg, .int .i64 ow, .int .i64 bp]) (by simp [results, Tryz.results86, go_sem]) rfl ⟨rfl, bki.bel2 _ _ _⟩
theorem bleft (v : Ev) (w : World) : Calls Tryz.prog 86 #[v.v] w fun e w' => e = .returned (leftE v).v ∧ Below w.heap.size w w' := by
 obtain ⟨kd, me, mo, id, te, de, fe, pr, ch, un, tg, ow, bp⟩ := v
 unfold leftE Ev.v
 simp only
 by_cases k2 : kd = 2
 ·rw [if_pos k2]
  exact bleft2 kd me mo id te de fe pr ch un tg ow bp w (by simpa using k2)
 rw [if_neg k2]
 by_cases k3 : kd = 3
 ·rw [if_pos k3]
  exact bleft3 kd me mo id te de fe pr ch un tg ow bp w (by simpa using k2) (by simpa using k3)
 rw [if_neg k3]
 by_cases k4 : kd = 4
 ·rw [if_pos k4]
  exact bleft4 kd me mo id te de fe pr ch un tg ow bp w (by simpa using k2) (by simpa using k3) (by simpa using k4)
 rw [if_neg k4]
 by_cases k5 : kd = 5
 ·rw [if_pos k5]
  exact bleft5 kd me mo id te de fe pr ch un tg ow bp w (by simpa using k2) (by simpa using k3) (by simpa using k4) (by simpa using k5)
 rw [if_neg k5]
 exact bleft0 kd me mo id te de fe pr ch un tg ow bp w (by simpa using k2) (by simpa using k3) (by simpa using k4) (by simpa using k5)
end book
namespace book
open Go.RowKit
set_option maxRecDepth 100000
def refV (f : Int) : Value := .iface 127 (.agg #[.int .i64 f])
def thrown (f : Int) : List PanicEntry := [{ v := refV f, recovered := false }]
theorem insist_ok (w : World) : Calls Tryz.prog 87 #[.int .i64 0] w fun e w' => e = .returned (.tuple #[]) ∧ w' = w := by
 go_enter Tryz.func87, Tryz.ntmps87
 go_wp2
 go_end0
 exact ⟨rfl, rfl⟩
theorem insist_no (f : Int) (hf : f ≠ 0) (w : World) : Calls Tryz.prog 87 #[.int .i64 f] w fun e w' => e = .panicked (thrown f) ∧ w' = w := by
 have nf : (f != 0) = true := by simpa using hf
 clear hf
 go_enter Tryz.func87, Tryz.ntmps87
 go_wp2
 exact ⟨rfl, rfl, rfl⟩
theorem reason_nil (w : World) : Calls Tryz.prog 53 #[.nilIface] w fun e w' => e = .returned (.int .i64 0) ∧ w' = w := by
 have hq : ∀ w : World, (binOp BinOp.eql 20 .nilIface .nilIface).run Tryz.prog w = .ok (.bool true) w := fun _ => by kernel_rfl
 go_enter Tryz.func53, Tryz.ntmps53
 go_wp2
 go_ret
 exact ⟨rfl, rfl⟩
theorem reason_is (f : Int) (w : World) : Calls Tryz.prog 53 #[refV f] w fun e w' => e = .returned (.int .i64 f) ∧ Below w.heap.size w w' := by
 have hq : ∀ w : World, (binOp BinOp.eql 20 (refV f) .nilIface).run Tryz.prog w = .ok (.bool false) w := fun _ => by kernel_rfl
 have h1 : ∀ w : World, (Instr.typeAssert (refV f) 20 125 false).run Tryz.prog w = .ok (refV f) w := fun _ => by kernel_rfl
 have h2 : ∀ w : World, (Instr.typeAssert (refV f) 125 127 true).run Tryz.prog w = .ok (.tuple #[.agg #[.int .i64 f], .bool true]) w := fun _ => by kernel_rfl
 have HB : Hid (Below w.heap.size w (w.alloc (.cells #[.int .i64 f] 127))) := (Below.refl _ _).alloc (Nat.le_refl _) _
 unfold refV at *
 go_enter Tryz.func53, Tryz.ntmps53
 go_wp2
 go_ret
 exact ⟨rfl, HB.out⟩
set_option maxHeartbeats 1000000 in
theorem decode_caught (g : Nat) (f0 f : Int) (w : World) (hb : Blk w g #[.int .i64 f0] 30) :
  CallsD Tryz.prog 73 #[.pointer (some ⟨g, 0, none⟩)] (.panicking (thrown f)) w fun e u' w' => e = .returned (.tuple #[]) ∧ settle u' = .returning ∧ ∃ W, Below w.heap.size w W ∧ Upd W w' g #[.int .i64 f] 30 := by
 refine callsD_of_wpS Tryz.func73 rfl fun c₀ cs hu => ?_
 apply wpS_region
 simp only [thrown] at hu
 simp [wpOpsS, go_sem, recoverD, hu, Tryz.ntmps73, Exit.thenS]
 refine (reason_is f w).mono ?_
 rintro e w1 ⟨rfl, hb1⟩
 have hB := hb.next hb1
 have hc : w1.cell? ⟨g, 0, none⟩ = some (.int .i64 f0) := hB.cell 0
 have hz : w1.frozen? ⟨g, 0, none⟩ = false := hB.free 0
 have hU : Upd w1 (w1.setCell ⟨g, 0, none⟩ (.int .i64 f)) g #[.int .i64 f] 30 := upd_cells g _ [.int .i64 f] 0 w1 _ hB
 simp [go_sem, hc, hz, bodyPostS, results, Tryz.results73, settle]
 exact ⟨w1, hb1, hU⟩
set_option maxHeartbeats 1000000 in
theorem decode_idle (g : Nat) (f0 : Int) (w : World) (hb : Blk w g #[.int .i64 f0] 30) :
  CallsD Tryz.prog 73 #[.pointer (some ⟨g, 0, none⟩)] .returning w fun e u' w' => e = .returned (.tuple #[]) ∧ settle u' = .returning ∧ ∃ W, Below w.heap.size w W ∧ Upd W w' g #[.int .i64 0] 30 := by
 refine callsD_of_wpS Tryz.func73 rfl fun c₀ cs hu => ?_
 apply wpS_region
 simp [wpOpsS, go_sem, recoverD, hu, Tryz.ntmps73, Exit.thenS]
 refine (reason_nil w).mono ?_
 rintro e w1 ⟨rfl, rfl⟩
 have hc : w1.cell? ⟨g, 0, none⟩ = some (.int .i64 f0) := hb.cell 0
 have hz : w1.frozen? ⟨g, 0, none⟩ = false := hb.free 0
 have hU : Upd w1 (w1.setCell ⟨g, 0, none⟩ (.int .i64 0)) g #[.int .i64 0] 30 := upd_cells g _ [.int .i64 0] 0 w1 _ hb
 simp [go_sem, hc, hz, bodyPostS, results, Tryz.results73, hu, settle]
 exact ⟨.returning, (by cases c₀; simp_all), rfl, w1, Below.refl _ _, hU⟩
end book
section
open Go.RowKit
theorem run_neOp {P : Program} {o : Oper} {a : Act} {w : World} (ty rt : TypeId) (x y : Operand) (ho : o.op = .binOp .neq ty x y rt) (ca cb : Array Value) (hx : a.eval x = .agg ca) (hy : a.eval y = .agg cb) (hg : P.eqGuardType P.depth ty = false) (b : Bool)
  (hr : (Op.equalIn 10000 ty (.agg ca) (.agg cb)).run P w = .ok b w) : (execOp a.eval o).run P w = .ok (.value (.bool (!b))) w := by
 have hr' : (Op.equal ty (.agg ca) (.agg cb)).run P w = .ok b w := hr
 unfold execOp
 simp only [ho, hx, hy]
 have hp : ∀ w' : World, (program : Sem Program).run P w' = .ok P w' := fun _ => rfl
 simp [eqGuard, hg, binOp, hr', hp, Sem.run_bind]
theorem wp_neE {P : Program} {ops : Array Oper} {rest : List Oper} {o : Oper} {a : Act} {w : World} {Q : Exit → Act → World → Prop} (hw : Region.wanted o (yielded ops a.tmps) = true) (ty rt : TypeId) (x y : Operand) (ho : o.op = .binOp .neq ty x y rt) (ca cb : Array Value) (hx : a.eval x = .agg ca) (hy : a.eval y = .agg cb) (hg : P.eqGuardType P.depth ty = false) (b : Bool)
  (hr : (Op.equalIn 10000 ty (.agg ca) (.agg cb)).run P w = .ok b w) (d : Nat) (hd : o.dst = some d) (h : wpList P ops Q rest (a.put (some d) (.bool (!b))) w) : wpList P ops Q (o :: rest) a w :=
 wpList_step fun K hK => by
  rw [if_pos hw]
  exact wp_runOp d hd (run_neOp ty rt x y ho ca cb hx hy hg b hr) (hK _ _ h)
end
namespace book
open Go.RowKit
set_option maxRecDepth 100000
def MustPost (w : World) (v : Ev) (e : Ending) (w' : World) : Prop := ((EMay v ∧ e = .returned (.tuple #[])) ∨ (¬ EMay v ∧ e = .panicked (thrown 5))) ∧ Below w.heap.size w w'
theorem eqEv_any (a b : Ev) (w : World) : ∃ B, (Op.equalIn 10000 71 (.agg a.cs) (.agg b.cs)).run Tryz.prog w = .ok B w ∧ (B = true ↔ a = b) := by
 obtain ⟨a0, a1, a2, a3, a4, a5, a6, a7, a8, a9, a10, a11, a12⟩ := a
 obtain ⟨b0, b1, b2, b3, b4, b5, b6, b7, b8, b9, b10, b11, b12⟩ := b
 refine ⟨_, eqEv 9997 a0 a1 a2 a3 a4 a5 a6 a7 a8 a9 a10 a11 a12 b0 b1 b2 b3 b4 b5 b6 b7 b8 b9 b10 b11 b12 w, ?_⟩
 rw [decide_eq_true_iff]
 constructor
 ·rintro ⟨rfl, rfl, rfl, rfl, rfl, rfl, rfl, rfl, rfl, rfl, rfl, rfl, rfl⟩; rfl
 ·intro h; cases h; exact ⟨rfl, rfl, rfl, rfl, rfl, rfl, rfl, rfl, rfl, rfl, rfl, rfl, rfl⟩
set_option maxHeartbeats 4000000 in
theorem bmust (v : Ev) (w : World) : Calls Tryz.prog 63 #[.agg #[.int .i64 v.kd, .int .i64 v.me, .int .i64 v.mo, .int .i64 v.id, .int .i64 v.te, .int .i64 v.de, .int .i64 v.fe, .int .i64 v.pr, .int .i64 v.ch, .int .i64 v.un, .int .i64 v.tg, .int .i64 v.ow, .int .i64 v.bp]] w fun e w' => MustPost w v e w' := by
 have HMI : Hid (EMay v ↔ (0 ≤ v.me ∧ v.me ≤ 49) ∧ KindR v ∧ leftE v = ev0) := may_iff v
 obtain ⟨W0, HWW, HX0, HB0, -⟩ := sh1 w #[.int .i64 v.kd, .int .i64 v.me, .int .i64 v.mo, .int .i64 v.id, .int .i64 v.te, .int .i64 v.de, .int .i64 v.fe, .int .i64 v.pr, .int .i64 v.ch, .int .i64 v.un, .int .i64 v.tg, .int .i64 v.ow, .int .i64 v.bp] 71
 have HNO : Hid (∀ W, Calls Tryz.prog 87 #[.int .i64 5] W fun e w' => e = .panicked (thrown 5) ∧ w' = W) := fun W => insist_no 5 (by decide) W
 have HKR : Hid (∀ W, Calls Tryz.prog 85 #[.agg #[.int .i64 v.kd, .int .i64 v.me, .int .i64 v.mo, .int .i64 v.id, .int .i64 v.te, .int .i64 v.de, .int .i64 v.fe, .int .i64 v.pr, .int .i64 v.ch, .int .i64 v.un, .int .i64 v.tg, .int .i64 v.ow, .int .i64 v.bp]] W fun e w' => YN W (KindR v) e w') := fun W => bkind v.kd v.me v.mo v.id v.te v.de v.fe v.pr v.ch v.un v.tg v.ow v.bp W
 have HLE : Hid (∀ W, Calls Tryz.prog 86 #[.agg #[.int .i64 v.kd, .int .i64 v.me, .int .i64 v.mo, .int .i64 v.id, .int .i64 v.te, .int .i64 v.de, .int .i64 v.fe, .int .i64 v.pr, .int .i64 v.ch, .int .i64 v.un, .int .i64 v.tg, .int .i64 v.ow, .int .i64 v.bp]] W fun e w' => e = .returned (leftE v).v ∧ Below W.heap.size W w') := fun W => bleft v W
 go_enter Tryz.func63, Tryz.ntmps63
 go_upto_region 1 with fail
 rw [HWW.out]
 clear HWW
 obtain ⟨c0, c1, c2, c3, c4, c5, c6, c7, c8, c9, c10, c11, c12⟩ := scl13 HX0
 have HW : Hid (Calls Tryz.prog 84 #[.int .i64 0, .int .i64 49, .slice (some ⟨W0.heap.size, 0, none⟩) 1 1] (W0.alloc (.cells #[.int .i64 v.me] 3)) fun e w' => e = .returned (.bool (decide (0 ≤ v.me ∧ v.me ≤ 49))) ∧ w' = (W0.alloc (.cells #[.int .i64 v.me] 3))) := bki.within_one 0 49 v.me W0 _ rfl
 have HB1 : Hid (Below w.heap.size w (W0.alloc (.cells #[.int .i64 v.me] 3))) := HB0.out.alloc HB0.out.size _
 have HX1 : Hid (Blk (W0.alloc (.cells #[.int .i64 v.me] 3)) w.heap.size #[.int .i64 v.kd, .int .i64 v.me, .int .i64 v.mo, .int .i64 v.id, .int .i64 v.te, .int .i64 v.de, .int .i64 v.fe, .int .i64 v.pr, .int .i64 v.ch, .int .i64 v.un, .int .i64 v.tg, .int .i64 v.ow, .int .i64 v.bp] 71) := HX0.out.alloc _
 by_cases h0 : 0 ≤ v.me ∧ v.me ≤ 49
 case neg =>
  rw [decide_eq_false h0] at HW
  have HN : Hid (¬ EMay v) := fun q => h0 (HMI.out.1 q).1
  clear h0
  go_wp2_with fail
  refine HW.out.mono ?_
  rintro e W ⟨rfl, hw⟩
  subst hw
  clear HW
  clear HX0 HB0 c0 c1 c2 c3 c4 c5 c6 c7 c8 c9 c10 c11 c12
  generalize (W0.alloc (.cells #[.int .i64 v.me] 3)) = W1 at *
  obtain ⟨c0, c1, c2, c3, c4, c5, c6, c7, c8, c9, c10, c11, c12⟩ := scl13 HX1
  go_wp2_with fail
  refine (HNO.out _).mono ?_
  rintro e W9 ⟨rfl, rfl⟩
  exact ⟨rfl, .inr ⟨HN.out, rfl⟩, HB1.out⟩
 rw [decide_eq_true h0] at HW
 have H0 : Hid (0 ≤ v.me ∧ v.me ≤ 49) := h0
 clear h0
 go_wp2_with fail
 refine HW.out.mono ?_
 rintro e W ⟨rfl, hw⟩
 subst hw
 clear HW HX0 HB0
 clear c0 c1 c2 c3 c4 c5 c6 c7 c8 c9 c10 c11 c12
 generalize (W0.alloc (.cells #[.int .i64 v.me] 3)) = W1 at *
 obtain ⟨c0, c1, c2, c3, c4, c5, c6, c7, c8, c9, c10, c11, c12⟩ := scl13 HX1
 go_wp2_with fail
 refine (HKR.out _).mono ?_
 rintro e W2 ⟨B, rfl, hB, hb⟩
 have HB2 := shB HB1 hb
 have HX2 := shN HX1 hb
 clear hb HKR HB1 HX1
 clear c0 c1 c2 c3 c4 c5 c6 c7 c8 c9 c10 c11 c12
 obtain ⟨c0, c1, c2, c3, c4, c5, c6, c7, c8, c9, c10, c11, c12⟩ := scl13 HX2
 cases B
 case false =>
  have HN : Hid (¬ EMay v) := fun q => absurd (hB.2 (HMI.out.1 q).2.1) (by decide)
  clear hB
  go_wp2_with fail
  refine (HNO.out _).mono ?_
  rintro e W9 ⟨rfl, rfl⟩
  exact ⟨rfl, .inr ⟨HN.out, rfl⟩, HB2.out⟩
 have HK : Hid (KindR v) := hB.1 rfl
 clear hB
 go_wp2_with fail
 refine (HLE.out _).mono ?_
 rintro e W3 ⟨rfl, hb⟩
 have HB3 := shB HB2 hb
 clear hb HLE HB2 HX2
 clear c0 c1 c2 c3 c4 c5 c6 c7 c8 c9 c10 c11 c12
 obtain ⟨B, hB, hBi⟩ := eqEv_any (leftE v) ev0 W3
 have HEQ : Hid ((Op.equalIn 10000 71 (.agg (leftE v).cs) (.agg ev0.cs)).run Tryz.prog W3 = .ok B W3) := hB
 have HBI : Hid (B = true ↔ leftE v = ev0) := hBi
 clear hB hBi
 unfold Ev.v
 cases B
 case false =>
  have HN : Hid (¬ EMay v) := fun q => absurd (HBI.out.2 (HMI.out.1 q).2.2) (by decide)
  go_wp2_with (first | (refine wp_neE (by rfl) 71 _ _ _ rfl (leftE v).cs ev0.cs rfl rfl (by kernel_rfl) false HEQ.out _ rfl ?_) | fail)
  go_wp2_with fail
  refine (HNO.out _).mono ?_
  rintro e W9 ⟨rfl, rfl⟩
  exact ⟨rfl, .inr ⟨HN.out, rfl⟩, HB3.out⟩
 case true =>
  have HY : Hid (EMay v) := HMI.out.2 ⟨H0.out, HK.out, HBI.out.1 rfl⟩
  go_wp2_with (first | (refine wp_neE (by rfl) 71 _ _ _ rfl (leftE v).cs ev0.cs rfl rfl (by kernel_rfl) true HEQ.out _ rfl ?_) | fail)
  go_end0
  exact ⟨.inl ⟨HY.out, rfl⟩, HB3.out⟩
end book
end Go.Proofs.YtomibnggmhjdfaaGreat
