/- Oracles: the program and the document agree. -/
import Derived.Test.YtllnafjfbmhimaaOrL
import Derived.Test.YtllnafjfbmhimaaOrSm
import Derived.Test.YtllnafjfbmhimaaOrT
namespace Go.Proofs.Ytllnafjfbmhimaa.ora
open Go.RowKit
set_option maxRecDepth 100000
set_option linter.unusedVariables false

set_option maxHeartbeats 1000000 in
theorem mays_walk (K : OKit) (a : Option Addr) (n cap : Nat) (l : List Pr) (w : World) (h : Came w a n cap l) :
    Calls Try.prog 3 #[.agg #[.slice a n cap]] w fun e w' => e = .returned (.bool true) ∧ Below w.heap.size w w' := by
  have HX : Hid (Bc w (w.alloc (.cells #[.slice a n cap] 24)) w.heap.size a n cap l) := Bc.new h (Below.refl _ _)
  have HCP : Hid (∀ W, Came W a n cap l → Calls Try.prog 8 #[.agg #[.slice a n cap]] W fun e w' => Copied W n l e w') := fun W h => oracles_row a n cap l W h
  have HA : Hid (∀ W a' cap', Came W a' n cap' l → Calls Try.prog 9 #[.agg #[.slice a' n cap']] W fun e w' => Told W (May l) e w') := fun W a' cap' h => K.may W a' n cap' l h.row
  have HB : Hid (∀ W, Came W a n cap l → Calls Try.prog 10 #[.agg #[.slice a n cap]] W fun e w' => Told W (May l) e w') := fun W h => omay_any a n cap l W h.row
  have HS : Hid (∀ W a' cap', Came W a' n cap' l → Came W a n cap l → Calls Try.prog 11 #[.agg #[.slice a' n cap'], .agg #[.slice a n cap]] W fun e w' => e = .returned (.bool true) ∧ Below W.heap.size W w') := fun W a' cap' h h' => same_any a' a n cap' cap l W h.row h'.row h.small
  clear h K
  have c0 := HX.out.box.cell 0
  go_enter Try.func3, Try.ntmps3
  go_wp2_with fail
  refine (HCP.out _ HX.out.came).mono ?_
  rintro e w1 ⟨a1, cap1, rfl, h1, hb1⟩
  have HX1 : Hid (Bc w (w1.alloc (.cells #[.slice a1 n cap1] 24)) w.heap.size a n cap l) := (HX.out.next hb1).alloc _
  have HY1 : Hid (Bc w (w1.alloc (.cells #[.slice a1 n cap1] 24)) w1.heap.size a1 n cap1 l) := Bc.new h1 (HX.out.next hb1).bel
  clear h1 hb1 c0 HX
  have d0 := HY1.out.box.cell 0
  go_wp2_with fail
  refine (HA.out _ _ _ HY1.out.came).mono ?_
  rintro e w2 ⟨r1, rfl, hr1, hb2⟩
  have HX2 : Hid (Bc w w2 w.heap.size a n cap l) := HX1.out.next hb2
  have HY2 : Hid (Bc w w2 w1.heap.size a1 n cap1 l) := HY1.out.next hb2
  have HR1 : Hid (r1 = true ↔ May l) := hr1
  clear hb2 d0 HX1 HY1 hr1
  generalize w1.heap.size = g1 at *
  have c0 := HX2.out.box.cell 0
  go_wp2_with fail
  refine (HB.out _ HX2.out.came).mono ?_
  rintro e w3 ⟨r2, rfl, hr2, hb3⟩
  have hrr : r2 = r1 := by
    have h1 := HR1.out
    cases r1 <;> cases r2 <;> simp_all
  subst hrr
  have HX3 : Hid (Bc w w3 w.heap.size a n cap l) := HX2.out.next hb3
  have HY3 : Hid (Bc w w3 g1 a1 n cap1 l) := HY2.out.next hb3
  clear hb3 hr2 c0 HX2 HY2 HR1
  have c0 := HX3.out.box.cell 0
  have d0 := HY3.out.box.cell 0
  have HS3 : Hid (Calls Try.prog 11 #[.agg #[.slice a1 n cap1], .agg #[.slice a n cap]] w3 fun e w' => e = .returned (.bool true) ∧ Below w3.heap.size w3 w') := HS.out w3 a1 cap1 HY3.out.came HX3.out.came
  have hq : (r2 == r2) = true := beq_self_eq_true r2
  go_wp2_with fail
  refine HS3.out.mono ?_
  rintro e w4 ⟨rfl, hb4⟩
  have HF : Hid (Below w.heap.size w w4) := bel_step HX3.out.bel hb4
  clear hb4
  go_wp2_with fail
  go_ret
  exact ⟨rfl, HF.out⟩
set_option maxHeartbeats 1000000 in
theorem verifies_walk (K : OKit) (a : Option Addr) (n cap : Nat) (l : List Pr) (m r b t : Int) (w : World) (h : Came w a n cap l) :
    Calls Try.prog 5 #[.agg #[.slice a n cap], .int .i64 m, .int .i64 r, .int .i64 b, .int .i64 t] w fun e w' => e = .returned (.bool true) ∧ Below w.heap.size w w' := by
  have HX : Hid (Bc w (w.alloc (.cells #[.slice a n cap] 24)) w.heap.size a n cap l) := Bc.new h (Below.refl _ _)
  have HCP : Hid (∀ W, Came W a n cap l → Calls Try.prog 8 #[.agg #[.slice a n cap]] W fun e w' => Copied W n l e w') := fun W h => oracles_row a n cap l W h
  have HA : Hid (∀ W a' cap', Came W a' n cap' l → Calls Try.prog 14 #[.agg #[.slice a' n cap'], .int .i64 m, .int .i64 r, .int .i64 b, .int .i64 t] W fun e w' => Told W (Is l m r b t) e w') := fun W a' cap' h => K.verify W a' n cap' l m r b t h.row
  have HB : Hid (∀ W, Came W a n cap l → Calls Try.prog 15 #[.agg #[.slice a n cap], .int .i64 m, .int .i64 r, .int .i64 b, .int .i64 t] W fun e w' => Told W (Is l m r b t) e w') := fun W h => verified_any a n cap l m r b t W h.row
  clear h K
  have c0 := HX.out.box.cell 0
  go_enter Try.func5, Try.ntmps5
  go_wp2_with fail
  refine (HCP.out _ HX.out.came).mono ?_
  rintro e w1 ⟨a1, cap1, rfl, h1, hb1⟩
  have HX1 : Hid (Bc w w1 w.heap.size a n cap l) := HX.out.next hb1
  have H1 : Hid (Came w1 a1 n cap1 l) := h1
  clear h1 hb1 c0 HX
  go_wp2_with fail
  refine (HA.out _ _ _ H1.out).mono ?_
  rintro e w2 ⟨r1, rfl, hr1, hb2⟩
  have HX2 : Hid (Bc w w2 w.heap.size a n cap l) := HX1.out.next hb2
  have HR1 : Hid (r1 = true ↔ Is l m r b t) := hr1
  clear hb2 HX1 H1 hr1
  have c0 := HX2.out.box.cell 0
  go_wp2_with fail
  refine (HB.out _ HX2.out.came).mono ?_
  rintro e w3 ⟨r2, rfl, hr2, hb3⟩
  have hrr : r2 = r1 := by
    have h1 := HR1.out
    cases r1 <;> cases r2 <;> simp_all
  subst hrr
  have HF : Hid (Below w.heap.size w w3) := bel_step HX2.out.bel hb3
  have hq : (r2 == r2) = true := beq_self_eq_true r2
  clear hb3 hr2 c0 HX2 HR1
  go_wp2_with fail
  go_ret
  exact ⟨rfl, HF.out⟩
set_option maxHeartbeats 2000000 in
theorem issues_walk (K : OKit) (a : Option Addr) (n cap : Nat) (l : List Pr) (m r b d : Int) (w : World) (h : Came w a n cap l) :
    Calls Try.prog 4 #[.agg #[.slice a n cap], .int .i64 m, .int .i64 r, .int .i64 b, .int .i64 d] w fun e w' => e = .returned (.bool true) ∧ Below w.heap.size w w' := by
  have HX : Hid (Bc w (w.alloc (.cells #[.slice a n cap] 24)) w.heap.size a n cap l) := Bc.new h (Below.refl _ _)
  have HCP : Hid (∀ W, Came W a n cap l → Calls Try.prog 8 #[.agg #[.slice a n cap]] W fun e w' => Copied W n l e w') := fun W h => oracles_row a n cap l W h
  have HA : Hid (∀ W a' cap', Came W a' n cap' l → Calls Try.prog 12 #[.agg #[.slice a' n cap'], .int .i64 m, .int .i64 r, .int .i64 b, .int .i64 d] W fun e w' => IssuePost W l m r b d e w') := fun W a' cap' h => K.issue W a' n cap' l m r b d h.row h.nil h.le
  have HB : Hid (∀ W, Came W a n cap l → Calls Try.prog 13 #[.agg #[.slice a n cap], .int .i64 m, .int .i64 r, .int .i64 b, .int .i64 d] W fun e w' => IssuePost W l m r b d e w') := fun W h => issued_any a n cap l m r b d W h.row
  have HS : Hid (∀ W a' cap' b' capb n' l', Came W a' n' cap' l' → Came W b' n' capb l' → Calls Try.prog 11 #[.agg #[.slice a' n' cap'], .agg #[.slice b' n' capb]] W fun e w' => e = .returned (.bool true) ∧ Below W.heap.size W w') := fun W a' cap' b' capb n' l' h h' => same_any a' b' n' cap' capb l' W h.row h'.row h.small
  clear h K
  have c0 := HX.out.box.cell 0
  go_enter Try.func4, Try.ntmps4
  go_wp2_with fail
  refine (HCP.out _ HX.out.came).mono ?_
  rintro e w1 ⟨a1, cap1, rfl, h1, hb1⟩
  have HX1 : Hid (Bc w (w1.alloc (.cells #[.slice a1 n cap1] 24)) w.heap.size a n cap l) := (HX.out.next hb1).alloc _
  have HY1 : Hid (Bc w (w1.alloc (.cells #[.slice a1 n cap1] 24)) w1.heap.size a1 n cap1 l) := Bc.new h1 (HX.out.next hb1).bel
  clear h1 hb1 c0 HX
  have d0 := HY1.out.box.cell 0
  go_wp2_with fail
  refine (HA.out _ _ _ HY1.out.came).mono ?_
  rintro e w2 ⟨a2, n2, cap2, ls, x, c, rfl, hr2, hnil2, hle2, hi2, hb2⟩
  have hs2 : n2 * 32 ≤ 140737488351232 := by have := few_small hi2; have := hr2.1; omega
  have HZ2 : Hid (Bc w (w2.alloc (.cells #[.slice a2 n2 cap2] 24)) w2.heap.size a2 n2 cap2 ls) := Bc.new ⟨hr2, hnil2, hle2, hs2⟩ (HX1.out.next hb2).bel
  have HX2 : Hid (Bc w (w2.alloc (.cells #[.slice a2 n2 cap2] 24)) w.heap.size a n cap l) := (HX1.out.next hb2).alloc _
  have HY2 : Hid (Bc w (w2.alloc (.cells #[.slice a2 n2 cap2] 24)) w1.heap.size a1 n cap1 l) := (HY1.out.next hb2).alloc _
  have HI2 : Hid (IssueIs l m r b d ls x c) := hi2
  clear hb2 d0 HX1 HY1 hr2 hnil2 hle2 hs2 hi2
  generalize w1.heap.size = g1 at *
  have c0 := HX2.out.box.cell 0
  go_wp2_with fail
  refine (HB.out _ HX2.out.came).mono ?_
  rintro e w3 ⟨a3, n3, cap3, ls', x', c', rfl, hr3, hnil3, hle3, hi3, hb3⟩
  obtain ⟨rfl, rfl, rfl⟩ := HI2.out.one hi3
  have hn3 : n3 = n2 := by rw [← hr3.1, ← HZ2.out.came.row.1]
  subst hn3
  have HX3 : Hid (Bc w (w3.alloc (.cells #[.slice a3 n3 cap3] 24)) w.heap.size a n cap l) := (HX2.out.next hb3).alloc _
  have HY3 : Hid (Bc w (w3.alloc (.cells #[.slice a3 n3 cap3] 24)) g1 a1 n cap1 l) := (HY2.out.next hb3).alloc _
  have HZ3 : Hid (Bc w (w3.alloc (.cells #[.slice a3 n3 cap3] 24)) w2.heap.size a2 n3 cap2 ls) := (HZ2.out.next hb3).alloc _
  have HT3 : Hid (Bc w (w3.alloc (.cells #[.slice a3 n3 cap3] 24)) w3.heap.size a3 n3 cap3 ls) := Bc.new ⟨hr3, hnil3, hle3, HZ2.out.came.small⟩ (HX2.out.next hb3).bel
  clear hb3 c0 HX2 HY2 HZ2 hr3 hnil3 hle3 hi3 HI2
  generalize w2.heap.size = g2 at *
  have q1 : (x == x) = true := beq_self_eq_true x
  have q2 : (c == c) = true := beq_self_eq_true c
  have z0 := HZ3.out.box.cell 0
  have t0 := HT3.out.box.cell 0
  have HS3 : Hid (Calls Try.prog 11 #[.agg #[.slice a2 n3 cap2], .agg #[.slice a3 n3 cap3]] (w3.alloc (.cells #[.slice a3 n3 cap3] 24)) fun e w' => e = .returned (.bool true) ∧ Below (w3.alloc (.cells #[.slice a3 n3 cap3] 24)).heap.size (w3.alloc (.cells #[.slice a3 n3 cap3] 24)) w') := HS.out _ _ _ _ _ _ _ HZ3.out.came HT3.out.came
  go_wp2_with fail
  refine HS3.out.mono ?_
  rintro e w4 ⟨rfl, hb4⟩
  have HX4 : Hid (Bc w w4 w.heap.size a n cap l) := HX3.out.next hb4
  have HY4 : Hid (Bc w w4 g1 a1 n cap1 l) := HY3.out.next hb4
  clear hb4 z0 t0 HX3 HY3 HZ3 HT3 HS3
  have y0 := HY4.out.box.cell 0
  have x0 := HX4.out.box.cell 0
  have HS4 : Hid (Calls Try.prog 11 #[.agg #[.slice a1 n cap1], .agg #[.slice a n cap]] w4 fun e w' => e = .returned (.bool true) ∧ Below w4.heap.size w4 w') := HS.out _ _ _ _ _ _ _ HY4.out.came HX4.out.came
  go_wp2_with fail
  refine HS4.out.mono ?_
  rintro e w5 ⟨rfl, hb5⟩
  have HF : Hid (Below w.heap.size w w5) := bel_step HX4.out.bel hb5
  clear hb5
  go_wp2_with fail
  go_ret
  exact ⟨rfl, HF.out⟩

end Go.Proofs.Ytllnafjfbmhimaa.ora
