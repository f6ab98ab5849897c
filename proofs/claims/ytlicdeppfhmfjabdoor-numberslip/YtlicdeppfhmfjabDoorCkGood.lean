/- What check.Digit and check.Good give back. -/
import Derived.Test.YtlicdeppfhmfjabDoorCkGdN
import Derived.Test.YtlicdeppfhmfjabDoorCkSum
namespace Go.Proofs.YtlicdeppfhmfjabDoor.check
open Go.RowKit

set_option maxHeartbeats 400000 in
theorem digit_any (s : ByteArray) (w : World) (ht : MTab w) :
    Calls Tryd.prog 22 #[.string s] w fun e w' => e = .returned (.tuple #[.int .i64 (digitR s.data.toList), .int .i64 (flawR s.data.toList)]) ∧ Below w.heap.size w w' := by
  have HF := flaw_any s w
  by_cases h0 : flawR s.data.toList = 0
  · have e : digitR s.data.toList = ((invN (sumR s.data.toList 1) : Nat) : Int) := by unfold digitR; rw [if_pos h0]
    rw [e, h0]
    rw [h0] at HF
    obtain ⟨⟨l1, l2⟩, hd⟩ := flawR_zero h0
    rw [len_eq] at l1 l2
    have HU : Hid (∀ w, Calls Tryd.prog 46 #[.int .i64 ((sumR s.data.toList 1 : Nat) : Int)] w fun e w' => e = .returned (.int .i64 ((invN (sumR s.data.toList 1) : Nat) : Int)) ∧ w' = w) := fun w => undo_any _ w (sumR_lt hd 1)
    have HS : Hid (∀ w', Below w.heap.size w w' → Calls Tryd.prog 45 #[.string s, .int .i64 1] w' fun e w'' => e = .returned (.int .i64 ((sumR s.data.toList 1 : Nat) : Int)) ∧ Below w'.heap.size w' w'') := fun w' hb => sum_any s 1 w' l1 l2 hd (by omega) (ht.below hb)
    clear e h0 hd ht
    generalize ((invN (sumR s.data.toList 1) : Nat) : Int) = y at *
    generalize ((sumR s.data.toList 1 : Nat) : Int) = x at *
    go_enter Tryd.func22, Tryd.ntmps22
    go_wp2_with fail
    refine HF.mono ?_
    rintro e w1 ⟨rfl, hb⟩
    have HB : Hid (Below w.heap.size w w1) := hb
    clear hb HF
    go_wp2_with fail
    refine (HS.out _ HB.out).mono ?_
    rintro e w2 ⟨rfl, hb2⟩
    have HB2 : Hid (Below w.heap.size w w2) := HB.out.trans (hb2.mono HB.out.size)
    clear hb2
    go_wp2_with fail
    refine (HU.out _).mono ?_
    rintro e w3 ⟨rfl, rfl⟩
    go_wp2_with fail
    go_ret2
    exact ⟨rfl, HB2.out⟩
  · have e : digitR s.data.toList = 0 := by unfold digitR; rw [if_neg h0]
    rw [e]
    have hne : (flawR s.data.toList != 0) = true := by simpa using h0
    clear e h0 ht
    generalize flawR s.data.toList = f at *
    go_enter Tryd.func22, Tryd.ntmps22
    go_wp2_with fail
    refine HF.mono ?_
    rintro e w1 ⟨rfl, hb⟩
    clear HF
    go_wp2_with fail
    go_ret2
    exact ⟨rfl, hb⟩

set_option maxHeartbeats 400000 in
theorem good_any (s : ByteArray) (w : World) (ht : MTab w) :
    Calls Tryd.prog 24 #[.string s] w fun e w' => e = .returned (.bool (goodR s.data.toList)) ∧ Below w.heap.size w w' := by
  have HF := flaw_any s w
  by_cases h2 : 2 ≤ s.size
  · have h2' : (2 : Int) ≤ (s.size : Int) := by omega
    by_cases h0 : flawR s.data.toList = 0
    · have e : goodR s.data.toList = (sumR s.data.toList 0 == 0) := by unfold goodR; rw [len_eq, h0]; simp [h2]
      rw [e]
      rw [h0] at HF
      obtain ⟨⟨l1, l2⟩, hd⟩ := flawR_zero h0
      rw [len_eq] at l1 l2
      have HS : Hid (∀ w', Below w.heap.size w w' → Calls Tryd.prog 45 #[.string s, .int .i64 0] w' fun e w'' => e = .returned (.int .i64 ((sumR s.data.toList 0 : Nat) : Int)) ∧ Below w'.heap.size w' w'') := fun w' hb => sum_any s 0 w' l1 l2 hd (by omega) (ht.below hb)
      have e2 : (sumR s.data.toList 0 == 0) = (((sumR s.data.toList 0 : Nat) : Int) == 0) := by
        by_cases h : sumR s.data.toList 0 = 0
        · rw [h]; rfl
        · rw [beq_eq_false_iff_ne.2 h, beq_eq_false_iff_ne.2 (by omega)]
      rw [e2]
      clear e h0 hd ht e2
      generalize ((sumR s.data.toList 0 : Nat) : Int) = x at *
      go_enter Tryd.func24, Tryd.ntmps24
      go_wp2_with fail
      refine HF.mono ?_
      rintro e w1 ⟨rfl, hb⟩
      have HB : Hid (Below w.heap.size w w1) := hb
      clear hb HF
      go_wp2_with fail
      refine (HS.out _ HB.out).mono ?_
      rintro e w2 ⟨rfl, hb2⟩
      have HB2 : Hid (Below w.heap.size w w2) := HB.out.trans (hb2.mono HB.out.size)
      clear hb2
      go_wp2_with fail
      go_ret
      exact ⟨rfl, HB2.out⟩
    · have e : goodR s.data.toList = false := by unfold goodR; rw [beq_eq_false_iff_ne.2 h0]; simp
      rw [e]
      have hne : (flawR s.data.toList == 0) = false := by simpa using h0
      clear e h0 ht
      generalize flawR s.data.toList = f at *
      go_enter Tryd.func24, Tryd.ntmps24
      go_wp2_with fail
      refine HF.mono ?_
      rintro e w1 ⟨rfl, hb⟩
      clear HF
      go_wp2_with fail
      go_ret
      exact ⟨rfl, hb⟩
  · have e : goodR s.data.toList = false := by unfold goodR; rw [len_eq]; simp [h2]
    rw [e]
    have h2' : decide ((2 : Int) ≤ (s.size : Int)) = false := by simp; omega
    clear e HF ht
    go_enter Tryd.func24, Tryd.ntmps24
    go_wp2_with fail
    go_ret
    exact ⟨rfl, Below.refl _ _⟩

end Go.Proofs.YtlicdeppfhmfjabDoor.check
