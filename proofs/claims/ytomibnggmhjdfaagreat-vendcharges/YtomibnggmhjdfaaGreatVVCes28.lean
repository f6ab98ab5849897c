import Derived.Test.YtomibnggmhjdfaaGreatVVCes12
import Derived.Test.YtomibnggmhjdfaaGreatVVCes15
import Derived.Test.YtomibnggmhjdfaaGreatVVCes19
import Derived.Test.YtomibnggmhjdfaaGreatVVCes27
set_option linter.unusedVariables false
set_option linter.unusedSimpArgs false
namespace Go.Proofs.YtomibnggmhjdfaaGreat
namespace book
open Go.RowKit
set_option maxRecDepth 100000
def cellsE : List Ev → List Value
 | [] => []
 | x :: l => x.cl ++ cellsE l
theorem cellsE_len (l : List Ev) : (cellsE l).length = l.length * 13 := by
 induction l with
 | nil => rfl
 | cons e l ih => rw [cellsE, List.length_append, ih, List.length_cons]; show 13 + _ = _; omega
theorem oneE (l : List Ev) : ∀ u ∈ cellsE l, u.oneCell' = true := by
 induction l with
 | nil => intro u hu; cases hu
 | cons e l ih =>
  intro u hu
  rw [cellsE] at hu
  rcases List.mem_append.1 hu with hu | hu
  ·simp only [Ev.cl, List.mem_cons, List.not_mem_nil, or_false] at hu
   rcases hu with rfl | rfl | rfl | rfl | rfl | rfl | rfl | rfl | rfl | rfl | rfl | rfl | rfl <;> rfl
  ·exact ih u hu
theorem cellsE_at (l : List Ev) (k j : Nat) (hk : k < l.length) (hj : j < 13) : (cellsE l)[k * 13 + j]? = (l.getD k ev0).cl[j]? := by
 induction l generalizing k with
 | nil => simp at hk
 | cons x l ih =>
  have h8 : x.cl.length = 13 := rfl
  cases k with
  | zero => rw [Nat.zero_mul, Nat.zero_add, cellsE, List.getElem?_append_left (by omega)]; rfl
  | succ k =>
   rw [show (k + 1) * 13 + j = x.cl.length + (k * 13 + j) by omega, cellsE, List.getElem?_append_right (by omega), Nat.add_sub_cancel_left]
   exact ih k (by simpa using hk)
structure ECame (w : World) (a : Option Addr) (n cap : Nat) (l : List Ev) : Prop where
 row : RowE w a n l
 nil : a = none → cap = 0
 room : n ≤ cap
 bytes : n * 104 ≤ 140737488351232
 wf : ∀ v ∈ l, wf13 v
theorem evI : (Tryz.prog.info? 71).map (fun i => (i.zero, i.size, i.bytes)) = some (some (.agg ev0.cl.toArray), 13, 104) := by kernel_rfl
end book
namespace vnd
open disk (RepIs repD lenAt itD)
open book (Ev ev0 evOf ECame)
open Go.RowKit
set_option maxRecDepth 100000
theorem it_in (c : List Int) (k : Nat) : ∀ z ∈ (disk.itD c k).1, ∀ x ∈ z, x ∈ c := by
 induction k with
 | zero => intro z hz; simp [disk.itD] at hz
 | succ k ih =>
  intro z hz x hx
  by_cases h : 0 < disk.lenAt c (disk.itD c k).2
  ·rw [disk.it_live h] at hz
   rcases List.mem_append.1 hz with hz | hz
   ·exact ih z hz x hx
   ·rw [List.mem_singleton.1 hz] at hx
    exact List.mem_of_mem_drop (List.mem_of_mem_take hx)
  ·have e := disk.it_dead h 1
   rw [e] at hz
   exact ih z hz x hx
theorem rep_in {c : List Int} {o : List (List Int)} {x f : Int} (h : RepIs c o x f) : ∀ z ∈ o, ∀ y ∈ z, y ∈ c := by
 rcases h with ⟨_, rfl, _⟩ | ⟨_, _, rfl, _⟩ | ⟨_, _, rfl, _⟩
 ·intro z hz; cases hz
 ·intro z hz; cases hz
 ·exact it_in c _
theorem rep_len {c : List Int} {o : List (List Int)} {x f : Int} (h : RepIs c o x f) : o.length ≤ 2048 := (disk.rep_few h).1
theorem getD_inR {o : List (List Int)} {j : Nat} (h : j < o.length) : o.getD j [] ∈ o := by
 have e : o.getD j [] = o[j] := by simp [List.getD, List.getElem?_eq_getElem h]
 rw [e]; exact List.getElem_mem _
theorem take_mapE (o : List (List Int)) (k : Nat) (h : k < o.length) : (o.take k).map evOf ++ [evOf (o.getD k [])] = (o.take (k + 1)).map evOf := by
 have e : o.getD k [] = o[k] := by simp [List.getD, List.getElem?_eq_getElem h]
 rw [List.take_succ_eq_append_getElem h, List.map_append, e]; rfl
def KeptPost (w : World) (c : List Int) (e : Ending) (w' : World) : Prop := ∃ p m cp l f, e = .returned (.tuple #[.slice p m cp, .int .i64 f]) ∧ KeptIs c l f ∧ ECame w' p m cp l ∧ m ≤ 2048 ∧ Below w.heap.size w w'
theorem ecame_nil (w : World) : ECame w none 0 0 [] := ⟨⟨rfl, .inl rfl⟩, fun _ => rfl, Nat.le_refl _, by omega, fun v hv => by cases hv⟩
end vnd
namespace book
open Go.RowKit
set_option maxRecDepth 100000
set_option maxHeartbeats 4000000 in
theorem bkind (kd me mo id te de fe pr ch un tg ow bp : Int) (w : World) : Calls Tryz.prog 85 #[.agg #[.int .i64 kd, .int .i64 me, .int .i64 mo, .int .i64 id, .int .i64 te, .int .i64 de, .int .i64 fe, .int .i64 pr, .int .i64 ch, .int .i64 un, .int .i64 tg, .int .i64 ow, .int .i64 bp]] w fun e w' => YN w (KindR ⟨kd, me, mo, id, te, de, fe, pr, ch, un, tg, ow, bp⟩) e w' := by
 obtain ⟨W0, HWW, HX0, HB0, -⟩ := sh1 w #[.int .i64 kd, .int .i64 me, .int .i64 mo, .int .i64 id, .int .i64 te, .int .i64 de, .int .i64 fe, .int .i64 pr, .int .i64 ch, .int .i64 un, .int .i64 tg, .int .i64 ow, .int .i64 bp] 71
 go_enter Tryz.func85, Tryz.ntmps85
 go_upto_region 1 with fail
 rw [HWW.out]
 clear HWW
 obtain ⟨c0, c1, c2, c3, c4, c5, c6, c7, c8, c9, c10, c11, c12⟩ := scl13 HX0
 by_cases k1 : kd = 1
 case pos =>
  have q1 : (kd == 1) = true := by simpa using k1
  have HK : Hid (kd = 1) := k1
  clear k1
  go_wp2_with fail
  go_ret
  exact YN.yes (Or.inl HK.out) HB0.out
 have q1 : (kd == 1) = false := by simpa using k1
 by_cases k2 : kd = 2
 case pos =>
  have q2 : (kd == 2) = true := by simpa using k2
  have HK : Hid (kd = 2) := k2
  clear k1 k2
  have HW0 : Hid (Calls Tryz.prog 84 #[.int .i64 0, .int .i64 2399, .slice (some ⟨W0.heap.size, 0, none⟩) 1 1] (W0.alloc (.cells #[.int .i64 mo] 3)) fun e w' => e = .returned (.bool (decide (0 ≤ mo ∧ mo ≤ 2399))) ∧ w' = (W0.alloc (.cells #[.int .i64 mo] 3))) := bki.within_one 0 2399 mo W0 _ rfl
  have HB1 : Hid (Below w.heap.size w (W0.alloc (.cells #[.int .i64 mo] 3))) := HB0.out.alloc HB0.out.size _
  have HX1 : Hid (Blk (W0.alloc (.cells #[.int .i64 mo] 3)) w.heap.size #[.int .i64 kd, .int .i64 me, .int .i64 mo, .int .i64 id, .int .i64 te, .int .i64 de, .int .i64 fe, .int .i64 pr, .int .i64 ch, .int .i64 un, .int .i64 tg, .int .i64 ow, .int .i64 bp] 71) := HX0.out.alloc _
  by_cases h0 : 0 ≤ mo ∧ mo ≤ 2399
  case neg =>
   rw [decide_eq_false h0] at HW0
   go_wp2_with fail
   refine HW0.out.mono ?_
   rintro e W ⟨rfl, hw⟩
   subst hw
   clear HW0
   go_wp2_with fail
   go_ret
   exact YN.no (fun q => (fun q => h0 q.1) ((kind_2 (v := ⟨kd, me, mo, id, te, de, fe, pr, ch, un, tg, ow, bp⟩) HK.out).1 q)) HB1.out
  rw [decide_eq_true h0] at HW0
  go_wp2_with fail
  refine HW0.out.mono ?_
  rintro e W ⟨rfl, hw⟩
  subst hw
  clear HW0 HB0 HX0
  clear c0 c1 c2 c3 c4 c5 c6 c7 c8 c9 c10 c11 c12
  generalize (W0.alloc (.cells #[.int .i64 mo] 3)) = W1 at *
  obtain ⟨c0, c1, c2, c3, c4, c5, c6, c7, c8, c9, c10, c11, c12⟩ := scl13 HX1
  have HC1 : Hid (∀ W, Calls Tryz.prog 97 #[.agg #[.int .i64 kd, .int .i64 me, .int .i64 mo, .int .i64 id, .int .i64 te, .int .i64 de, .int .i64 fe, .int .i64 pr, .int .i64 ch, .int .i64 un, .int .i64 tg, .int .i64 ow, .int .i64 bp]] W fun e w' => YN W (Numd id tg) e w') := fun W => bnum kd me mo id te de fe pr ch un tg ow bp W
  go_wp2_with fail
  refine (HC1.out _).mono ?_
  rintro e W2 ⟨B, rfl, hB, hb⟩
  have HB2 := shB HB1 hb
  have HX2 := shN HX1 hb
  clear hb HC1 HB1 HX1
  clear c0 c1 c2 c3 c4 c5 c6 c7 c8 c9 c10 c11 c12
  obtain ⟨c0, c1, c2, c3, c4, c5, c6, c7, c8, c9, c10, c11, c12⟩ := scl13 HX2
  cases B
  case false =>
   have HQ : Hid (¬ (Numd id tg)) := fun q => absurd (hB.2 q) (by decide)
   clear hB
   go_wp2_with fail
   go_ret
   exact YN.no (fun q => (fun q => HQ.out q.2.1) ((kind_2 (v := ⟨kd, me, mo, id, te, de, fe, pr, ch, un, tg, ow, bp⟩) HK.out).1 q)) HB2.out
  have H1 : Hid (Numd id tg) := hB.1 rfl
  clear hB
  have HC2 : Hid (∀ W, Calls Tryz.prog 98 #[.agg #[.int .i64 kd, .int .i64 me, .int .i64 mo, .int .i64 id, .int .i64 te, .int .i64 de, .int .i64 fe, .int .i64 pr, .int .i64 ch, .int .i64 un, .int .i64 tg, .int .i64 ow, .int .i64 bp]] W fun e w' => YN W (Unt un) e w') := fun W => bunt kd me mo id te de fe pr ch un tg ow bp W
  go_wp2_with fail
  refine (HC2.out _).mono ?_
  rintro e W3 ⟨B, rfl, hB, hb⟩
  have HB3 := shB HB2 hb
  have HX3 := shN HX2 hb
  clear hb HC2 HB2 HX2
  clear c0 c1 c2 c3 c4 c5 c6 c7 c8 c9 c10 c11 c12
  obtain ⟨c0, c1, c2, c3, c4, c5, c6, c7, c8, c9, c10, c11, c12⟩ := scl13 HX3
  cases B
  case false =>
   have HQ : Hid (¬ (Unt un)) := fun q => absurd (hB.2 q) (by decide)
   clear hB
   go_wp2_with fail
   go_ret
   exact YN.no (fun q => (fun q => HQ.out q.2.2.1) ((kind_2 (v := ⟨kd, me, mo, id, te, de, fe, pr, ch, un, tg, ow, bp⟩) HK.out).1 q)) HB3.out
  have H2 : Hid (Unt un) := hB.1 rfl
  clear hB
  have HC3 : Hid (∀ W, Calls Tryz.prog 99 #[.agg #[.int .i64 id, .int .i64 te, .int .i64 de, .int .i64 fe, .int .i64 pr, .int .i64 ch, .int .i64 un]] W fun e w' => YN W (Mony te de fe pr ch) e w') := fun W => bmony id te de fe pr ch un W
  go_wp2_with fail
  refine (HC3.out _).mono ?_
  rintro e W4 ⟨B, rfl, hB, hb⟩
  have HB4 := shB HB3 hb
  have HX4 := shN HX3 hb
  clear hb HC3 HB3 HX3
  clear c0 c1 c2 c3 c4 c5 c6 c7 c8 c9 c10 c11 c12
  obtain ⟨c0, c1, c2, c3, c4, c5, c6, c7, c8, c9, c10, c11, c12⟩ := scl13 HX4
  cases B
  case false =>
   have HQ : Hid (¬ (Mony te de fe pr ch)) := fun q => absurd (hB.2 q) (by decide)
   clear hB
   go_wp2_with fail
   go_ret
   exact YN.no (fun q => (fun q => HQ.out q.2.2.2) ((kind_2 (v := ⟨kd, me, mo, id, te, de, fe, pr, ch, un, tg, ow, bp⟩) HK.out).1 q)) HB4.out
  have H3 : Hid (Mony te de fe pr ch) := hB.1 rfl
  clear hB
  go_wp2_with fail
  go_ret
  exact YN.yes ((kind_2 (v := ⟨kd, me, mo, id, te, de, fe, pr, ch, un, tg, ow, bp⟩) HK.out).2 ⟨h0, H1.out, H2.out, H3.out⟩) HB4.out
 have q2 : (kd == 2) = false := by simpa using k2
 by_cases k3 : kd = 3
 case pos =>
  have q3 : (kd == 3) = true := by simpa using k3
  have HK : Hid (kd = 3) := k3
  clear k1 k2 k3
  have HW0 : Hid (Calls Tryz.prog 84 #[.int .i64 0, .int .i64 2399, .slice (some ⟨W0.heap.size, 0, none⟩) 1 1] (W0.alloc (.cells #[.int .i64 mo] 3)) fun e w' => e = .returned (.bool (decide (0 ≤ mo ∧ mo ≤ 2399))) ∧ w' = (W0.alloc (.cells #[.int .i64 mo] 3))) := bki.within_one 0 2399 mo W0 _ rfl
  have HB1 : Hid (Below w.heap.size w (W0.alloc (.cells #[.int .i64 mo] 3))) := HB0.out.alloc HB0.out.size _
  have HX1 : Hid (Blk (W0.alloc (.cells #[.int .i64 mo] 3)) w.heap.size #[.int .i64 kd, .int .i64 me, .int .i64 mo, .int .i64 id, .int .i64 te, .int .i64 de, .int .i64 fe, .int .i64 pr, .int .i64 ch, .int .i64 un, .int .i64 tg, .int .i64 ow, .int .i64 bp] 71) := HX0.out.alloc _
  by_cases h0 : 0 ≤ mo ∧ mo ≤ 2399
  case neg =>
   rw [decide_eq_false h0] at HW0
   go_wp2_with fail
   refine HW0.out.mono ?_
   rintro e W ⟨rfl, hw⟩
   subst hw
   clear HW0
   go_wp2_with fail
   go_ret
   exact YN.no (fun q => (fun q => h0 q.1) ((kind_3 (v := ⟨kd, me, mo, id, te, de, fe, pr, ch, un, tg, ow, bp⟩) HK.out).1 q)) HB1.out
  rw [decide_eq_true h0] at HW0
  go_wp2_with fail
  refine HW0.out.mono ?_
  rintro e W ⟨rfl, hw⟩
  subst hw
  clear HW0 HB0 HX0
  clear c0 c1 c2 c3 c4 c5 c6 c7 c8 c9 c10 c11 c12
  generalize (W0.alloc (.cells #[.int .i64 mo] 3)) = W1 at *
  obtain ⟨c0, c1, c2, c3, c4, c5, c6, c7, c8, c9, c10, c11, c12⟩ := scl13 HX1
  have HC1 : Hid (∀ W, Calls Tryz.prog 97 #[.agg #[.int .i64 kd, .int .i64 me, .int .i64 mo, .int .i64 id, .int .i64 te, .int .i64 de, .int .i64 fe, .int .i64 pr, .int .i64 ch, .int .i64 un, .int .i64 tg, .int .i64 ow, .int .i64 bp]] W fun e w' => YN W (Numd id tg) e w') := fun W => bnum kd me mo id te de fe pr ch un tg ow bp W
  go_wp2_with fail
  refine (HC1.out _).mono ?_
  rintro e W2 ⟨B, rfl, hB, hb⟩
  have HB2 := shB HB1 hb
  have HX2 := shN HX1 hb
  clear hb HC1 HB1 HX1
  clear c0 c1 c2 c3 c4 c5 c6 c7 c8 c9 c10 c11 c12
  obtain ⟨c0, c1, c2, c3, c4, c5, c6, c7, c8, c9, c10, c11, c12⟩ := scl13 HX2
  cases B
  case false =>
   have HQ : Hid (¬ (Numd id tg)) := fun q => absurd (hB.2 q) (by decide)
   clear hB
   go_wp2_with fail
   go_ret
   exact YN.no (fun q => (fun q => HQ.out q.2.1) ((kind_3 (v := ⟨kd, me, mo, id, te, de, fe, pr, ch, un, tg, ow, bp⟩) HK.out).1 q)) HB2.out
  have H1 : Hid (Numd id tg) := hB.1 rfl
  clear hB
  have HC2 : Hid (∀ W, Calls Tryz.prog 98 #[.agg #[.int .i64 kd, .int .i64 me, .int .i64 mo, .int .i64 id, .int .i64 te, .int .i64 de, .int .i64 fe, .int .i64 pr, .int .i64 ch, .int .i64 un, .int .i64 tg, .int .i64 ow, .int .i64 bp]] W fun e w' => YN W (Unt un) e w') := fun W => bunt kd me mo id te de fe pr ch un tg ow bp W
  go_wp2_with fail
  refine (HC2.out _).mono ?_
  rintro e W3 ⟨B, rfl, hB, hb⟩
  have HB3 := shB HB2 hb
  have HX3 := shN HX2 hb
  clear hb HC2 HB2 HX2
  clear c0 c1 c2 c3 c4 c5 c6 c7 c8 c9 c10 c11 c12
  obtain ⟨c0, c1, c2, c3, c4, c5, c6, c7, c8, c9, c10, c11, c12⟩ := scl13 HX3
  cases B
  case false =>
   have HQ : Hid (¬ (Unt un)) := fun q => absurd (hB.2 q) (by decide)
   clear hB
   go_wp2_with fail
   go_ret
   exact YN.no (fun q => (fun q => HQ.out q.2.2) ((kind_3 (v := ⟨kd, me, mo, id, te, de, fe, pr, ch, un, tg, ow, bp⟩) HK.out).1 q)) HB3.out
  have H2 : Hid (Unt un) := hB.1 rfl
  clear hB
  go_wp2_with fail
  go_ret
  exact YN.yes ((kind_3 (v := ⟨kd, me, mo, id, te, de, fe, pr, ch, un, tg, ow, bp⟩) HK.out).2 ⟨h0, H1.out, H2.out⟩) HB3.out
 have q3 : (kd == 3) = false := by simpa using k3
 by_cases k4 : kd = 4
 case pos =>
  have q4 : (kd == 4) = true := by simpa using k4
  have HK : Hid (kd = 4) := k4
  clear k1 k2 k3 k4
  have HC0 : Hid (∀ W, Calls Tryz.prog 97 #[.agg #[.int .i64 kd, .int .i64 me, .int .i64 mo, .int .i64 id, .int .i64 te, .int .i64 de, .int .i64 fe, .int .i64 pr, .int .i64 ch, .int .i64 un, .int .i64 tg, .int .i64 ow, .int .i64 bp]] W fun e w' => YN W (Numd id tg) e w') := fun W => bnum kd me mo id te de fe pr ch un tg ow bp W
  go_wp2_with fail
  refine (HC0.out _).mono ?_
  rintro e W1 ⟨B, rfl, hB, hb⟩
  have HB1 := shB HB0 hb
  have HX1 := shN HX0 hb
  clear hb HC0 HB0 HX0
  clear c0 c1 c2 c3 c4 c5 c6 c7 c8 c9 c10 c11 c12
  obtain ⟨c0, c1, c2, c3, c4, c5, c6, c7, c8, c9, c10, c11, c12⟩ := scl13 HX1
  cases B
  case false =>
   have HQ : Hid (¬ (Numd id tg)) := fun q => absurd (hB.2 q) (by decide)
   clear hB
   go_wp2_with fail
   go_ret
   exact YN.no (fun q => (fun q => HQ.out q) ((kind_4 (v := ⟨kd, me, mo, id, te, de, fe, pr, ch, un, tg, ow, bp⟩) HK.out).1 q)) HB1.out
  have H1 : Hid (Numd id tg) := hB.1 rfl
  clear hB
  go_wp2_with fail
  go_ret
  exact YN.yes ((kind_4 (v := ⟨kd, me, mo, id, te, de, fe, pr, ch, un, tg, ow, bp⟩) HK.out).2 H1.out) HB1.out
 have q4 : (kd == 4) = false := by simpa using k4
 by_cases k5 : kd = 5
 case pos =>
  have q5 : (kd == 5) = true := by simpa using k5
  have HK : Hid (kd = 5) := k5
  clear k1 k2 k3 k4 k5
  have HW0 : Hid (Calls Tryz.prog 84 #[.int .i64 1, .int .i64 1000000000, .slice (some ⟨W0.heap.size, 0, none⟩) 1 1] (W0.alloc (.cells #[.int .i64 ow] 3)) fun e w' => e = .returned (.bool (decide (1 ≤ ow ∧ ow ≤ 1000000000))) ∧ w' = (W0.alloc (.cells #[.int .i64 ow] 3))) := bki.within_one 1 1000000000 ow W0 _ rfl
  have HB1 : Hid (Below w.heap.size w (W0.alloc (.cells #[.int .i64 ow] 3))) := HB0.out.alloc HB0.out.size _
  have HX1 : Hid (Blk (W0.alloc (.cells #[.int .i64 ow] 3)) w.heap.size #[.int .i64 kd, .int .i64 me, .int .i64 mo, .int .i64 id, .int .i64 te, .int .i64 de, .int .i64 fe, .int .i64 pr, .int .i64 ch, .int .i64 un, .int .i64 tg, .int .i64 ow, .int .i64 bp] 71) := HX0.out.alloc _
  by_cases h0 : 1 ≤ ow ∧ ow ≤ 1000000000
  case neg =>
   rw [decide_eq_false h0] at HW0
   go_wp2_with fail
   refine HW0.out.mono ?_
   rintro e W ⟨rfl, hw⟩
   subst hw
   clear HW0
   go_wp2_with fail
   go_ret
   exact YN.no (fun q => (fun q => h0 q.1) ((kind_5 (v := ⟨kd, me, mo, id, te, de, fe, pr, ch, un, tg, ow, bp⟩) HK.out).1 q)) HB1.out
  rw [decide_eq_true h0] at HW0
  go_wp2_with fail
  refine HW0.out.mono ?_
  rintro e W ⟨rfl, hw⟩
  subst hw
  clear HW0 HB0 HX0
  clear c0 c1 c2 c3 c4 c5 c6 c7 c8 c9 c10 c11 c12
  generalize (W0.alloc (.cells #[.int .i64 ow] 3)) = W1 at *
  obtain ⟨c0, c1, c2, c3, c4, c5, c6, c7, c8, c9, c10, c11, c12⟩ := scl13 HX1
  have HW1 : Hid (Calls Tryz.prog 84 #[.int .i64 0, .int .i64 10000, .slice (some ⟨W1.heap.size, 0, none⟩) 1 1] (W1.alloc (.cells #[.int .i64 bp] 3)) fun e w' => e = .returned (.bool (decide (0 ≤ bp ∧ bp ≤ 10000))) ∧ w' = (W1.alloc (.cells #[.int .i64 bp] 3))) := bki.within_one 0 10000 bp W1 _ rfl
  have HB2 : Hid (Below w.heap.size w (W1.alloc (.cells #[.int .i64 bp] 3))) := HB1.out.alloc HB1.out.size _
  have HX2 : Hid (Blk (W1.alloc (.cells #[.int .i64 bp] 3)) w.heap.size #[.int .i64 kd, .int .i64 me, .int .i64 mo, .int .i64 id, .int .i64 te, .int .i64 de, .int .i64 fe, .int .i64 pr, .int .i64 ch, .int .i64 un, .int .i64 tg, .int .i64 ow, .int .i64 bp] 71) := HX1.out.alloc _
  by_cases h1 : 0 ≤ bp ∧ bp ≤ 10000
  case neg =>
   rw [decide_eq_false h1] at HW1
   go_wp2_with fail
   refine HW1.out.mono ?_
   rintro e W ⟨rfl, hw⟩
   subst hw
   clear HW1
   go_wp2_with fail
   go_ret
   exact YN.no (fun q => (fun q => h1 q.2) ((kind_5 (v := ⟨kd, me, mo, id, te, de, fe, pr, ch, un, tg, ow, bp⟩) HK.out).1 q)) HB2.out
  rw [decide_eq_true h1] at HW1
  go_wp2_with fail
  refine HW1.out.mono ?_
  rintro e W ⟨rfl, hw⟩
  subst hw
  clear HW1 HB1 HX1
  clear c0 c1 c2 c3 c4 c5 c6 c7 c8 c9 c10 c11 c12
  generalize (W1.alloc (.cells #[.int .i64 bp] 3)) = W2 at *
  obtain ⟨c0, c1, c2, c3, c4, c5, c6, c7, c8, c9, c10, c11, c12⟩ := scl13 HX2
  go_wp2_with fail
  go_ret
  exact YN.yes ((kind_5 (v := ⟨kd, me, mo, id, te, de, fe, pr, ch, un, tg, ow, bp⟩) HK.out).2 ⟨h0, h1⟩) HB2.out
 have q5 : (kd == 5) = false := by simpa using k5
 have HK : Hid (¬ KindR ⟨kd, me, mo, id, te, de, fe, pr, ch, un, tg, ow, bp⟩) := fun q => by
  rcases q with q | q | q | q | q
  ·exact k1 q
  ·exact k2 q.1
  ·exact k3 q.1
  ·exact k4 q.1
  ·exact k5 q.1
 clear k1 k2 k3 k4 k5
 go_wp2_with fail
 go_ret
 exact YN.no HK.out HB0.out
end book
namespace acc
open tar (Du du0 Came RowD Ld PairT)
open Go.RowKit
set_option maxRecDepth 100000
set_option maxHeartbeats 1000000 in
theorem pgrant1 (B0 B1 g : Nat) (x : Ac) (p : Option Addr) (len cap : Nat) (t : Tm) (pt : Option Addr) (lt ct : Nat) (m : Int) (w : World) (hB0 : Blk w B0 #[.slice pt lt ct, .int .i64 t.ff, .int .i64 t.fb, .int .i64 t.db, .int .i64 t.al] 24) (hB1 : Blk w B1 #[.int .i64 m] 3) (hw : Blk w g (wcs x bi0 p len cap) 121) (hd : deb.Fresh w (g + 1) p len cap x.ds) (ha : AMay x) (ht : Came w pt lt ct t.ts) (hwf : wf4 t) (hfar : Far pt lt g) : Calls Tryz.prog 110 #[.pointer (some ⟨g, 0, none⟩), .pointer (some ⟨B0, 0, none⟩), .pointer (some ⟨B1, 0, none⟩)] w fun e w' => WPost w g (Or0 (GrantIs x t m)) e w' := by
 have HIN : Hid (Calls Tryz.prog 111 #[.pointer (some ⟨g, 0, none⟩), .agg #[.slice pt lt ct, .int .i64 t.ff, .int .i64 t.fb, .int .i64 t.db, .int .i64 t.al], .int .i64 m] w fun e w' => WPost w g (Or0 (GrantIs x t m)) e w') := (pgrant g x p len cap t pt lt ct m w hw hd ha ht hwf hfar).mono fun e w' h => h.w (Nat.le_of_lt hw.lt)
 have HK0 : Hid (Blk w B0 #[.slice pt lt ct, .int .i64 t.ff, .int .i64 t.fb, .int .i64 t.db, .int .i64 t.al] 24) := hB0
 have HK1 : Hid (Blk w B1 #[.int .i64 m] 3) := hB1
 have qB1 : w.cell? ⟨B1, 0, none⟩ = some (.int .i64 m) := hB1.cell 0
 clear hw ha hd ht hwf hfar
 go_enter Tryz.func110, Tryz.ntmps110
 go_wp2_with (first | (refine zqw rfl rfl rfl HK0 zqu24 ?_) | fail)
 refine HIN.out.mono ?_
 rintro e w1 hx
 have HX : Hid (WPost w g (Or0 (GrantIs x t m)) e w1) := hx
 obtain ⟨y, b, q, n, c, f, rfl, _⟩ := hx
 clear HIN
 go_wp2_with fail
 go_ret
 exact HX.out
set_option maxHeartbeats 4000000 in
theorem kgrant : KcGrant := by
 intro w x p len cap t pt lt ct m ha ht hm
 unfold Ac.v Ac.cs Tm.v
 obtain ⟨W0, HWW, H0d, H0t, H0m, H0r, H0l, H0B, hs0⟩ := sh5 w #[.int .i64 x.me, .int .i64 x.rv, .int .i64 x.nx, .int .i64 x.mo, .int .i64 x.bo, .int .i64 x.fr, .slice p len cap] 59 #[.slice pt lt ct, .int .i64 t.ff, .int .i64 t.fb, .int .i64 t.db, .int .i64 t.al] 24 #[.int .i64 m] 3 #[.int .i64 0, .int .i64 0, .int .i64 0, .int .i64 0, .int .i64 0, .int .i64 0, .slice none 0 0] 59 #[.int .i64 0, .int .i64 0, .int .i64 0, .int .i64 0, .int .i64 0, .int .i64 0, .int .i64 0] 69
 have H0R : Hid (Came W0 p len cap x.ds) := ha.ds.below H0B.out
 go_enter Tryz.func103, Tryz.ntmps103
 go_upto_region 1 with fail
 rw [HWW.out]
 clear HWW
 have HXt : Hid (∀ W, Below W0.heap.size W0 W → Blk W (w.heap.size + 1) #[.slice pt lt ct, .int .i64 t.ff, .int .i64 t.fb, .int .i64 t.db, .int .i64 t.al] 24) := fun W hW => H0t.out.next hW
 have HXm : Hid (∀ W, Below W0.heap.size W0 W → Blk W (w.heap.size + 1 + 1) #[.int .i64 m] 3) := fun W hW => H0m.out.next hW
 have HTC : Hid (Came w pt lt ct t.ts) := ht.ts
 have HBW : Hid (Below w.heap.size w W0) := H0B.out
 have hbw : w.heap.size ≤ W0.heap.size := H0B.out.size
 have HWK : Hid (Calls Tryz.prog 44 #[.agg #[.int .i64 x.me, .int .i64 x.rv, .int .i64 x.nx, .int .i64 x.mo, .int .i64 x.bo, .int .i64 x.fr, .slice p len cap], .func (.func 110) #[] #[.pointer (some ⟨w.heap.size + 1, 0, none⟩), .pointer (some ⟨w.heap.size + 1 + 1, 0, none⟩)]] W0 fun e w' => BPost W0 (GrantIs x t m) e w') := by
  refine pwork 110 #[.pointer (some ⟨w.heap.size + 1, 0, none⟩), .pointer (some ⟨w.heap.size + 1 + 1, 0, none⟩)] (GrantIs x t m) x p len cap W0 H0R.out (fun h => .inl ⟨.inl ⟨h, rfl⟩, rfl, rfl⟩) (fun _ _ => by kernel_rfl) ?_
  intro hm W g p' cap' hB hg hblk hld
  have HFR : deb.Fresh W (g + 1) p' len cap' x.ds := by
   obtain ⟨a0, c0, hv, hfr⟩ := deb.ld_fresh hld hm.1
   injection hv with h1 h2 h3
   rw [h1, h2, h3]; exact hfr
  have hfar : Far pt lt g := fun hn y hy => by have := came_lt HTC.out hn y hy; omega
  exact pgrant1 _ _ g x p' len cap' t pt lt ct m W (HXt.out W hB) (HXm.out W hB) hblk HFR hm (HTC.out.below (HBW.out.trans (hB.mono hbw))) ht.wf hfar
 clear ha ht HXt HXm
 go_wp2_with (first
  | (refine zqw rfl rfl rfl H0d zqu59 ?_)
  | (refine zqw rfl rfl rfl H0t zqu24 ?_)
  | (refine wp_whole rfl 3 _ rfl _ rfl 3 _ _ H0m.out Tryz.underlying3 rfl (by kernel_rfl) ?_)
  | (refine zqw rfl rfl rfl H0r zqu59 ?_)
  | (refine zqw rfl rfl rfl H0l zqu69 ?_)
  | fail)
 refine HWK.out.mono ?_
 rintro e w1 ⟨b, l, pr, lr, cr, fz, rfl, hi, hf, hb1⟩
 have H1d := shN H0d hb1
 have H1t := shN H0t hb1
 have H1m := shN H0m hb1
 have H1r := shN H0r hb1
 have H1l := shN H0l hb1
 have H1R : Hid (Came w1 p len cap x.ds) := H0R.out.below hb1
 have H1B := shB H0B hb1
 have hsw1 : W0.heap.size ≤ w1.heap.size := hb1.size
 clear hb1 H0d H0t H0m H0r H0l H0R H0B
 unfold Ac.v Ac.cs Bi.v
 clear HWK
 have H2F : Hid (deb.Fresh w1 W0.heap.size pr lr cr b.ds) := hf
 have HUPF : Hid (0 < lr → ∀ y, pr = some y → y.block < w1.heap.size) := came_lt H2F.out.came
 have HV : Hid (GrantIs x t m b l fz) := hi
 clear hf hi
 go_wp2_with (first
  | (refine zql rfl rfl rfl rfl zqu59 (by simp [Value.oneCell']) H1r rfl ?_)
  | (refine zqw rfl rfl rfl H1d zqu59 ?_)
  | (refine zqw rfl rfl rfl H1t zqu24 ?_)
  | (refine wp_whole rfl 3 _ rfl _ rfl 3 _ _ H1m.out Tryz.underlying3 rfl (by kernel_rfl) ?_)
  | (refine zqw rfl rfl rfl H1r zqu59 ?_)
  | (refine zqw rfl rfl rfl H1l zqu69 ?_)
  | fail)
 intro W4 hU
 have H3d := shK hU H1d (by omega)
 have H3t := shK hU H1t (by omega)
 have H3m := shK hU H1m (by omega)
 have H3r : Hid (Blk W4 (w.heap.size + 1 + 1 + 1) #[.int .i64 b.me, .int .i64 b.rv, .int .i64 b.nx, .int .i64 b.mo, .int .i64 b.bo, .int .i64 b.fr, .slice pr lr cr] 59) := hU.blk
 have H3l := shK hU H1l (by omega)
 have H3F : Hid (deb.Fresh W4 W0.heap.size pr lr cr b.ds) := fresh_updN H2F.out hU (fun hn y hy => by have f1 := H2F.out.new hn y hy; have f2 := HUPF.out hn y hy; omega)
 have H3B := shV hU H1B (by omega)
 have hsW4 : W4.heap.size = w1.heap.size := hU.size
 clear hU H1d H1t H1m H1r H1l H2F H1B
 go_wp2_with (first
  | (refine zql rfl rfl rfl rfl zqu69 (by simp [Value.oneCell']) H3l rfl ?_)
  | (refine zqw rfl rfl rfl H3d zqu59 ?_)
  | (refine zqw rfl rfl rfl H3t zqu24 ?_)
  | (refine wp_whole rfl 3 _ rfl _ rfl 3 _ _ H3m.out Tryz.underlying3 rfl (by kernel_rfl) ?_)
  | (refine zqw rfl rfl rfl H3r zqu59 ?_)
  | (refine zqw rfl rfl rfl H3l zqu69 ?_)
  | fail)
 intro W5 hU
 have H4d := shK hU H3d (by omega)
 have H4t := shK hU H3t (by omega)
 have H4m := shK hU H3m (by omega)
 have H4r := shK hU H3r (by omega)
 have H4l : Hid (Blk W5 (w.heap.size + 1 + 1 + 1 + 1) #[.int .i64 l.id, .int .i64 l.te, .int .i64 l.de, .int .i64 l.fe, .int .i64 l.pr, .int .i64 l.ch, .int .i64 l.un] 69) := hU.blk
 have H4F : Hid (deb.Fresh W5 W0.heap.size pr lr cr b.ds) := fresh_updN H3F.out hU (fun hn y hy => by have f1 := H3F.out.new hn y hy; have f2 := HUPF.out hn y hy; omega)
 have H4B := shV hU H3B (by omega)
 have hsW5 : W5.heap.size = W4.heap.size := hU.size
 clear hU H3d H3t H3m H3r H3l H3F H3B
 obtain ⟨Rr0, Rr1, Rr2, Rr3, Rr4, Rr5, Rr6⟩ := shc7 H4r
 obtain ⟨Rl0, Rl1, Rl2, Rl3, Rl4, Rl5, Rl6⟩ := shc7 H4l
 go_wp2_with fail
 exact bodyPost_ret (v := .tuple #[.agg #[.int .i64 b.me, .int .i64 b.rv, .int .i64 b.nx, .int .i64 b.mo, .int .i64 b.bo, .int .i64 b.fr, .slice pr lr cr], .agg #[.int .i64 l.id, .int .i64 l.te, .int .i64 l.de, .int .i64 l.fe, .int .i64 l.pr, .int .i64 l.ch, .int .i64 l.un], .int .i64 fz]) (by simp [results, Tryz.results103, Rr0.out, Rr1.out, Rr2.out, Rr3.out, Rr4.out, Rr5.out, Rr6.out, Rl0.out, Rl1.out, Rl2.out, Rl3.out, Rl4.out, Rl5.out, Rl6.out, go_sem]) rfl ⟨b, l, pr, lr, cr, fz, rfl, HV.out, H4F.out.low (by omega), H4B.out⟩
end acc
namespace book
open Go.RowKit
set_option maxRecDepth 100000
set_option maxHeartbeats 1000000 in
theorem of_caught (ge gn ga : Nat) (f0 m0 a0 f : Int) (hf : f ≠ 0) (w : World) (he : Blk w ge #[.int .i64 f0] 30) (hn : Blk w gn #[.int .i64 m0] 3) (ha : Blk w ga #[.int .i64 a0] 3) (h1 : gn ≠ ge) (h2 : ga ≠ ge) :
  CallsD Tryz.prog 52 #[.pointer (some ⟨ge, 0, none⟩), .pointer (some ⟨gn, 0, none⟩), .pointer (some ⟨ga, 0, none⟩)] (.panicking (thrown f)) w fun e u' w' => e = .returned (.tuple #[]) ∧ settle u' = .returning ∧ ∃ W W2, Below w.heap.size w W ∧ Upd W W2 ge #[.int .i64 f] 30 ∧ Upd W2 w' ga #[.int .i64 m0] 3 := by
 refine callsD_of_wpS Tryz.func52 rfl fun c₀ cs hu => ?_
 apply wpS_seq
 apply wpS_region
 simp only [thrown] at hu
 simp [wpOpsS, go_sem, recoverD, hu, Tryz.ntmps52, Exit.thenS]
 refine (reason_is f w).mono ?_
 rintro e w1 ⟨rfl, hb1⟩
 have hE := he.next hb1
 have hN := hn.next hb1
 have hA := ha.next hb1
 have hc : w1.cell? ⟨ge, 0, none⟩ = some (.int .i64 f0) := hE.cell 0
 have hz : w1.frozen? ⟨ge, 0, none⟩ = false := hE.free 0
 have hU : Upd w1 (w1.setCell ⟨ge, 0, none⟩ (.int .i64 f)) ge #[.int .i64 f] 30 := upd_cells ge _ [.int .i64 f] 0 w1 _ hE
 simp [go_sem, hc, hz, Exit.thenS]
 generalize w1.setCell ⟨ge, 0, none⟩ (.int .i64 f) = W2 at *
 have hE2 := hU.blk
 have hN2 := hU.keep hN h1
 have hA2 := hU.keep hA h2
 have q0 : W2.cell? ⟨ge, 0, none⟩ = some (.int .i64 f) := hE2.cell 0
 have q1 : W2.cell? ⟨gn, 0, none⟩ = some (.int .i64 m0) := hN2.cell 0
 have nf : (f != 0) = true := by simpa using hf
 change Code.wpS _ _ _ { tmps := #[.pointer (some ⟨ge, 0, none⟩), .pointer (some ⟨gn, 0, none⟩), .pointer (some ⟨ga, 0, none⟩), refV f, .int .i64 f, undef, undef, undef], defers := [] } _ _
 apply wpS_of_wp
 have HA2 : Hid (Blk W2 ga #[.int .i64 a0] 3) := hA2
 have HU : Hid (Upd w1 W2 ge #[.int .i64 f] 30) := hU
 have HB : Hid (Below w.heap.size w w1) := hb1
 clear hf he hn ha hE hN hA hc hz hU hE2 hN2 hA2 hb1 hu
 go_wp2_with (first | (refine wp_let1 rfl 3 _ _ rfl ga 0 rfl .i64 m0 rfl (by kernel_rfl) #[.int .i64 a0] 3 HA2.out (by simp) ?_) | fail)
 intro W3 hU3
 have HU3 : Hid (Upd W2 W3 ga #[.int .i64 m0] 3) := hU3
 clear hU3
 go_wp2_with fail
 simp [bodyPostS, results, Tryz.results52, settle]
 exact ⟨w1, HB.out, W2, HU.out, HU3.out⟩
set_option maxHeartbeats 1000000 in
theorem of_idle (ge gn ga : Nat) (f0 : Int) (w : World) (he : Blk w ge #[.int .i64 f0] 30) :
  CallsD Tryz.prog 52 #[.pointer (some ⟨ge, 0, none⟩), .pointer (some ⟨gn, 0, none⟩), .pointer (some ⟨ga, 0, none⟩)] .returning w fun e u' w' => e = .returned (.tuple #[]) ∧ settle u' = .returning ∧ ∃ W, Below w.heap.size w W ∧ Upd W w' ge #[.int .i64 0] 30 := by
 refine callsD_of_wpS Tryz.func52 rfl fun c₀ cs hu => ?_
 apply wpS_seq
 apply wpS_region
 simp [wpOpsS, go_sem, recoverD, hu, Tryz.ntmps52, Exit.thenS]
 refine (reason_nil w).mono ?_
 rintro e w1 ⟨rfl, rfl⟩
 have hc : w1.cell? ⟨ge, 0, none⟩ = some (.int .i64 f0) := he.cell 0
 have hz : w1.frozen? ⟨ge, 0, none⟩ = false := he.free 0
 have hU : Upd w1 (w1.setCell ⟨ge, 0, none⟩ (.int .i64 0)) ge #[.int .i64 0] 30 := upd_cells ge _ [.int .i64 0] 0 w1 _ he
 simp [go_sem, hc, hz, Exit.thenS]
 generalize w1.setCell ⟨ge, 0, none⟩ (.int .i64 0) = W2 at *
 have q0 : W2.cell? ⟨ge, 0, none⟩ = some (.int .i64 0) := hU.blk.cell 0
 change Code.wpS _ _ _ { tmps := #[.pointer (some ⟨ge, 0, none⟩), .pointer (some ⟨gn, 0, none⟩), .pointer (some ⟨ga, 0, none⟩), .nilIface, .int .i64 0, undef, undef, undef], defers := [] } _ _
 apply wpS_of_wp
 have HU : Hid (Upd w1 W2 ge #[.int .i64 0] 30) := hU
 have HH : Hid (c₀.mode = .returning) := hu
 clear he hc hz hU hu
 go_wp2_with fail
 have hu := HH.out
 have hU := HU.out
 simp [bodyPostS, results, Tryz.results52, hu, settle]
 exact ⟨.returning, (by cases c₀; simp_all), rfl, w1, Below.refl _ _, hU⟩
end book
end Go.Proofs.YtomibnggmhjdfaaGreat
