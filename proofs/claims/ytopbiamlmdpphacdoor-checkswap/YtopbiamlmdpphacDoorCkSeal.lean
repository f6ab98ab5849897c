/- Digits with their check digit behind, and what a slip makes of them. -/
import Derived.Test.YtopbiamlmdpphacDoorCkDigT
import Derived.Test.YtopbiamlmdpphacDoorCkSlip
namespace Go.Proofs.YtopbiamlmdpphacDoor.check
open Go.RowKit

theorem RowB.below {w w' : World} {a : Option Addr} {n : Nat} {zs : List Int} (h : RowB w a n zs) (hb : Below w.heap.size w w') : RowB w' a n zs := by
  refine ⟨h.1, h.2.1, ?_⟩
  rcases h.2.2 with h0 | ⟨b, off, rfl, hc⟩
  · exact .inl h0
  · refine .inr ⟨b, off, rfl, fun i hi => ?_⟩
    have h1 := hc i hi
    rw [hb.cell (p := ⟨b, off + i, none⟩) (World.block_lt_of_cell? w _ h1)]
    exact h1

theorem behind_good {s : ByteArray} (h1 : 1 ≤ s.size) (h2 : s.size ≤ 199) (hd : allD s.data.toList = true) {d : Nat} (h : d < 10) :
    (2 ≤ (s ++ digT d).size ∧ (s ++ digT d).size ≤ 200) ∧ allD (s ++ digT d).data.toList = true ∧ (goodR (s ++ digT d).data.toList = decide (d = invN (sumR s.data.toList 1))) := by
  obtain ⟨k1, k2⟩ := sum_behind hd h
  have hl : (s ++ digT d).data.toList.length = s.size + 1 := by simp [digT]
  have hsz : (s ++ digT d).size = s.size + 1 := by rw [← len_eq]; exact hl
  refine ⟨by omega, k1, ?_⟩
  rw [good_iff (by omega) (flaw_good (by omega) (by omega) k1)]
  by_cases e : d = invN (sumR s.data.toList 1)
  · rw [k2.2 e, decide_eq_true e]; rfl
  · rw [decide_eq_false e, beq_eq_false_iff_ne.2 fun h => e (k2.1 h)]

/-- A text that is good was given back. -/
def SealPost (w : World) (e : Ending) (w' : World) : Prop :=
  ∃ t : ByteArray, e = .returned (.tuple #[.string t, .bool true]) ∧ (2 ≤ t.size ∧ t.size ≤ 200) ∧ allD t.data.toList = true ∧ goodR t.data.toList = true ∧ Below w.heap.size w w'

theorem pick_same (d : Nat) (h : d < 10) : pick (d : Int) 10 = (d : Int) := by unfold pick; rw [if_neg (by omega)]; omega
theorem wf_small (d : Nat) (h : d < 10) : (Lit.int .i64 (d : Int)).wf = true := by
  have hd : d = 0 ∨ d = 1 ∨ d = 2 ∨ d = 3 ∨ d = 4 ∨ d = 5 ∨ d = 6 ∨ d = 7 ∨ d = 8 ∨ d = 9 := by omega
  clear h
  rcases hd with rfl | rfl | rfl | rfl | rfl | rfl | rfl | rfl | rfl | rfl <;> decide

set_option maxHeartbeats 1000000 in
theorem sealed_any (a : Option Addr) (len cap : Nat) (zs : List Int) (w : World) (hr : RowB w a len zs) (hl : len ≤ maxLen) (ht : MTab w) :
    Calls Tryd.prog 6 #[.slice a len cap] w fun e w' => SealPost w e w' := by
  have HN : Hid (Calls Tryd.prog 10 #[.slice a len cap, .int .i64 199] w fun e w' => NumPost w 199 e w') := numerals_any a len cap zs 199 w hr hl (by omega) (by omega)
  have HT : Hid (MTab w) := ht
  clear hr hl ht
  go_enter Tryd.func6, Tryd.ntmps6
  go_wp2_with fail
  refine HN.out.mono ?_
  rintro e w1 ⟨s, rfl, s1, s2, sd, hb1⟩
  have HB1 : Hid (Below w.heap.size w w1) := hb1
  have hf := flaw_good (l := s.data.toList) (by rw [len_eq]; omega) (by rw [len_eq]; omega) sd
  have HDg := digit_any s w1 (HT.out.below hb1)
  rw [hf, show digitR s.data.toList = ((invN (sumR s.data.toList 1) : Nat) : Int) by unfold digitR; rw [if_pos hf]] at HDg
  have hm := inv_lt _ (sumR_lt sd 1)
  obtain ⟨g1, g2, g3⟩ := behind_good s1 s2 sd hm
  rw [decide_eq_true rfl] at g3
  generalize invN (sumR s.data.toList 1) = m at *
  have HPK : Hid (∀ w, Calls Tryd.prog 12 #[.int .i64 (m : Int), .int .i64 10] w fun e w' => e = .returned (.int .i64 (m : Int)) ∧ w' = w) := fun w => by
    have := picked_any (m : Int) 10 w (wf_small m hm) (by omega) (by omega)
    rwa [pick_same m hm] at this
  have HG : Hid ((2 ≤ (s ++ digT m).size ∧ (s ++ digT m).size ≤ 200) ∧ allD (s ++ digT m).data.toList = true ∧ goodR (s ++ digT m).data.toList = true) := ⟨g1, g2, g3⟩
  have HDD : Hid (Calls Tryd.prog 11 #[.string s] w1 fun e w' => e = .returned (.tuple #[.int .i64 (m : Int), .int .i64 0]) ∧ Below w1.heap.size w1 w') := HDg
  clear hb1 sd hf HDg g1 g2 g3 HN
  go_wp2_with fail
  refine HDD.out.mono ?_
  rintro e w2 ⟨rfl, hb2⟩
  have HB2 : Hid (Below w.heap.size w w2) := HB1.out.trans (hb2.mono HB1.out.size)
  clear hb2
  go_wp2_with fail
  refine (HPK.out _).mono ?_
  rintro e w3 ⟨rfl, rfl⟩
  have hc := conv_one w3 (48 + m)
  rw [show ((48 : Int) + (m : Int)).toNat = 48 + m by omega] at hc
  have hc' : (convert 22 9 (.slice (some ⟨w3.heap.size, 0, none⟩) 1 1)).run Tryd.prog (w3.alloc (.cells #[.int .u8 (48 + (m : Int))] 5)) = .ok (.string (digT m)) (w3.alloc (.cells #[.int .u8 (48 + (m : Int))] 5)) := hc
  have hts : (digT m).size = 1 := rfl
  have HP : Hid (SealPost w (.returned (.tuple #[.string (s ++ digT m), .bool true])) (w3.alloc (.cells #[.int .u8 (48 + (m : Int))] 5))) := ⟨_, rfl, HG.out.1, HG.out.2.1, HG.out.2.2, HB2.out.alloc HB2.out.size _⟩
  clear hc HG
  generalize digT m = T at *
  go_wp2_with fail
  go_ret2
  exact HP.out

theorem digs_mid (A B : List UInt8) (c : UInt8) : (digs (A ++ c :: B)).reverse = (digs B).reverse ++ (c.toNat - 48) :: (digs A).reverse := by
  simp [digs]
theorem digs_two (A B : List UInt8) (c c' : UInt8) : (digs (A ++ c :: c' :: B)).reverse = (digs B).reverse ++ (c'.toNat - 48) :: (c.toNat - 48) :: (digs A).reverse := by
  simp [digs]
theorem allD_mid {A B : List UInt8} {c : UInt8} (h : allD (A ++ c :: B) = true) : allD A = true ∧ isD c = true ∧ allD B = true := by
  rw [allD_append, Bool.and_eq_true] at h
  have h2 := h.2
  simp only [allD, List.all_cons, Bool.and_eq_true] at h2
  exact ⟨h.1, h2.1, h2.2⟩
theorem allD_mk {A B : List UInt8} {c : UInt8} (h1 : allD A = true) (h2 : isD c = true) (h3 : allD B = true) : allD (A ++ c :: B) = true := by
  rw [allD_append, h1]
  simp only [allD, List.all_cons, Bool.true_and, Bool.and_eq_true]
  exact ⟨h2, h3⟩
theorem dig_ne {c c' : UInt8} (hc : isD c = true) (hc' : isD c' = true) (h : c ≠ c') : c.toNat - 48 ≠ c'.toNat - 48 := by
  have h1 := isD_bd hc
  have h2 := isD_bd hc'
  intro e
  exact h (UInt8.toNat_inj.1 (by omega))
theorem dig_lt {c : UInt8} (hc : isD c = true) : c.toNat - 48 < 10 := by have := isD_bd hc; omega

theorem slip_good {s t A B : List UInt8} {c c' : UInt8} (s1 : 2 ≤ s.length) (s2 : s.length ≤ 200) (sd : allD s = true) (sg : goodR s = true) (hs : s = A ++ c :: B) (ht : t = A ++ c' :: B) (hc' : isD c' = true) (hne : c ≠ c') : goodR t = false := by
  have h3 := allD_mid (by rw [← hs]; exact sd)
  have td : allD t = true := by rw [ht]; exact allD_mk h3.1 hc' h3.2.2
  have tl : t.length = s.length := by rw [hs, ht]; simp
  rw [good_iff s1 (flaw_good (by omega) s2 sd)] at sg
  rw [good_iff (by omega) (flaw_good (by omega) (by omega) td), beq_eq_false_iff_ne]
  intro e
  have e0 : sumR s 0 = 0 := by simpa using sg
  have e1 := e0.trans e.symm
  unfold sumR at e1
  rw [hs, ht, digs_mid, digs_mid] at e1
  exact dig_ne h3.2.1 hc' hne (fold_slip _ _ _ _ 0 0 (by decide) (by rw [← digs_mid, ← hs]; exact (digs_ok sd).rev) (dig_lt hc') e1)
theorem swap_good {s t A B : List UInt8} {c c' : UInt8} (s1 : 2 ≤ s.length) (s2 : s.length ≤ 200) (sd : allD s = true) (sg : goodR s = true) (hs : s = A ++ c :: c' :: B) (ht : t = A ++ c' :: c :: B) : goodR t = (s == t) := by
  have h3 := allD_mid (by rw [← hs]; exact sd)
  have h4 : isD c' = true ∧ allD B = true := by
    have := h3.2.2
    simp only [allD, List.all_cons, Bool.and_eq_true] at this
    exact this
  have td : allD t = true := by rw [ht]; exact allD_mk h3.1 h4.1 (by simp only [allD, List.all_cons, Bool.and_eq_true]; exact ⟨h3.2.1, h4.2⟩)
  have tl : t.length = s.length := by rw [hs, ht]; simp
  by_cases hcc : c = c'
  · have est : t = s := by rw [hs, ht, hcc]
    rw [est, sg]; simp
  · have hst : s ≠ t := by
      intro e
      rw [hs, ht] at e
      have := List.append_cancel_left e
      simp at this
      exact hcc this.1
    rw [beq_eq_false_iff_ne.2 hst]
    rw [good_iff s1 (flaw_good (by omega) s2 sd)] at sg
    rw [good_iff (by omega) (flaw_good (by omega) (by omega) td), beq_eq_false_iff_ne]
    intro e
    have e0 : sumR s 0 = 0 := by simpa using sg
    have e1 := e0.trans e.symm
    unfold sumR at e1
    rw [hs, ht, digs_two, digs_two] at e1
    exact dig_ne h4.1 h3.2.1 (Ne.symm hcc) (fold_swap _ _ _ _ 0 0 (by decide) (by rw [← digs_two, ← hs]; exact (digs_ok sd).rev) e1)

end Go.Proofs.YtopbiamlmdpphacDoor.check
