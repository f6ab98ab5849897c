/- One digit turned, at a place that is known; a pair that is doubled wrongly. -/
import Derived.Test.YtmpjmcfgikmgnabDoorCkSlip
import Derived.Test.YtmpjmcfgikmgnabDoorTkSlip
namespace Go.Proofs.YtmpjmcfgikmgnabDoor.check
open Go.RowKit

/-- The text with another digit at the place i was given back. -/
def SlipAt (w : World) (s : ByteArray) (i : Nat) (e : Ending) (w' : World) : Prop :=
  ∃ (t : ByteArray) (c c' : UInt8), e = .returned (.string t) ∧ i < s.size ∧ s.data.toList = s.data.toList.take i ++ c :: s.data.toList.drop (i + 1) ∧ t.data.toList = s.data.toList.take i ++ c' :: s.data.toList.drop (i + 1) ∧ isD c' = true ∧ c ≠ c' ∧ Below w.heap.size w w'
theorem SlipAt.mk {w w' : World} {s : ByteArray} {i : Nat} {c : UInt8} {dg : Int} (hi : i < s.size) (hx : s.data.toList = s.data.toList.take i ++ c :: s.data.toList.drop (i + 1)) (d0 : 0 ≤ dg) (d1 : dg < 10) (hne : dg ≠ ((c.toNat : Nat) : Int) - 48) (hb : Below w.heap.size w w') :
    SlipAt w s i (.returned (.string (s.extract 0 i ++ ⟨#[UInt8.ofNat (48 + dg).toNat]⟩ ++ s.extract (i + 1) s.size))) w' := by
  have hv : (UInt8.ofNat (48 + dg).toNat).toNat = (48 + dg).toNat := by simp only [UInt8.toNat_ofNat']; omega
  refine ⟨_, c, UInt8.ofNat (48 + dg).toNat, rfl, hi, hx, ?_, isD_yes (by rw [hv]; omega) (by rw [hv]; omega), ?_, hb⟩
  · rw [cat_list, cat_list, ext0, ext2]; simp
  · intro e
    rw [e, hv] at hne
    omega

set_option maxHeartbeats 1000000 in
theorem slipped_at (s : ByteArray) (at0 by0 : Int) (w : World) (h1 : 1 ≤ s.size) (h2 : s.size ≤ 200) (hd : allD s.data.toList = true) (w1 : (Lit.int .i64 at0).wf = true) (w2 : (Lit.int .i64 by0).wf = true) :
    Calls Tryd.prog 10 #[.string s, .int .i64 at0, .int .i64 by0] w fun e w' => SlipAt w s (pick at0 s.size).toNat e w' := by
  have hi := pick_toNat at0 s.size (by omega)
  have hp := pick_toNat by0 9 (by omega)
  have HP : Hid (∀ w, Calls Tryd.prog 12 #[.int .i64 at0, .int .i64 (s.size : Int)] w fun e w' => e = .returned (.int .i64 (((pick at0 s.size).toNat : Nat) : Int)) ∧ w' = w) := fun w => picked_nat at0 s.size w w1 (by omega) (by omega)
  have HQ : Hid (∀ w, Calls Tryd.prog 12 #[.int .i64 by0, .int .i64 9] w fun e w' => e = .returned (.int .i64 (((pick by0 ((9 : Nat) : Int)).toNat : Nat) : Int)) ∧ w' = w) := fun w => picked_nat by0 9 w w2 (by omega) (by omega)
  generalize (pick at0 s.size).toNat = i at *
  generalize (pick by0 ((9 : Nat) : Int)).toNat = p at *
  have hcb := isD_bd (take_parts s i hi hd).2.1
  have HX : Hid (s.data.toList = s.data.toList.take i ++ s[i] :: s.data.toList.drop (i + 1)) := split_at s i hi
  obtain ⟨c1, c2⟩ := hcb
  have hii : (i : Int) < (s.size : Int) := by omega
  have hii1 : (i : Int) + 1 ≤ (s.size : Int) := by omega
  have hii0 : (i : Int) ≤ (s.size : Int) := by omega
  clear w1 w2 hd
  go_enter Tryd.func10, Tryd.ntmps10
  go_wp2_with fail
  refine (HP.out _).mono ?_
  rintro e w1 ⟨rfl, rfl⟩
  go_wp2_with fail
  go_quiet ((go_at_call 12; exact Calls.quiet_of_same (HQ.out _)))
  go_wp2_with fail
  have d0 : 0 ≤ (((s[i].toNat : Nat) : Int) - 48 + 1 + (p : Int)) % 10 := by omega
  have d1 : (((s[i].toNat : Nat) : Int) - 48 + 1 + (p : Int)) % 10 < 10 := by omega
  have HNE : Hid ((((s[i].toNat : Nat) : Int) - 48 + 1 + (p : Int)) % 10 ≠ ((s[i].toNat : Nat) : Int) - 48) := by
    show _ ≠ _
    omega
  generalize (((s[i].toNat : Nat) : Int) - 48 + 1 + (p : Int)) % 10 = dg at *
  generalize s[i] = c at *
  have hcv : (convert 50 9 (.slice (some ⟨w1.heap.size, 0, none⟩) 1 1)).run Tryd.prog ((w1.drewN (nq + 1)).alloc (.cells #[.int .u8 (48 + dg)] 5)) = .ok (.string ⟨#[UInt8.ofNat (48 + dg).toNat]⟩) ((w1.drewN (nq + 1)).alloc (.cells #[.int .u8 (48 + dg)] 5)) := conv_one (w1.drewN (nq + 1)) (48 + dg)
  go_region
  all_goals go_wp2_with fail
  go_ret
  exact SlipAt.mk hi HX.out d0 d1 HNE.out (((below_drewN (Below.refl _ w1) (nq + 1))).alloc (Nat.le_refl _) _)

/-- What is made of a text that has another digit at the place i: the next one is made like it. -/
theorem twin_list {s t : ByteArray} {i : Nat} {c c' : UInt8} (hi : i + 1 < s.size) (hs : s.data.toList = s.data.toList.take i ++ c :: s.data.toList.drop (i + 1)) (ht : t.data.toList = s.data.toList.take i ++ c' :: s.data.toList.drop (i + 1)) (heq : s[i] = s[i + 1]) :
    t.size = s.size ∧ s.data.toList = s.data.toList.take i ++ c :: c :: s.data.toList.drop (i + 2) ∧ (t.extract 0 (i + 1) ++ t.extract i (i + 1) ++ t.extract (i + 2) t.size).data.toList = s.data.toList.take i ++ c' :: c' :: s.data.toList.drop (i + 2) := by
  have hl := len_eq s
  have hti : (s.data.toList.take i).length = i := by rw [List.length_take]; omega
  have hsz : t.size = s.size := by
    rw [← len_eq, ht, ← len_eq, List.length_append, List.length_cons, List.length_drop, hti]; omega
  have h2 := drop_cons s (i + 1) hi
  have h1 := split_at s i (by omega)
  have hc : c = s[i] := by
    have := List.append_cancel_left (hs.symm.trans h1)
    simpa using this
  refine ⟨hsz, ?_, ?_⟩
  · rw [hc]
    conv => lhs; rw [h1, h2, ← heq]
  · rw [cat_list, cat_list, ext0, ext1, ext2, ht, h2]
    have e1 : (s.data.toList.take i ++ c' :: s[i + 1] :: s.data.toList.drop (i + 1 + 1)).take (i + 1) = s.data.toList.take i ++ [c'] := by
      rw [List.take_append, List.take_of_length_le (by omega), hti, show i + 1 - i = 1 by omega]; rfl
    have e2 : (s.data.toList.take i ++ c' :: s[i + 1] :: s.data.toList.drop (i + 1 + 1)).drop i = c' :: s[i + 1] :: s.data.toList.drop (i + 1 + 1) := by
      rw [List.drop_append_of_le_length (by omega), List.drop_eq_nil_of_le (by omega)]; rfl
    have e3 : (s.data.toList.take i ++ c' :: s[i + 1] :: s.data.toList.drop (i + 1 + 1)).drop (i + 2) = s.data.toList.drop (i + 2) := by
      rw [List.drop_append, List.drop_eq_nil_of_le (by omega), hti, show i + 2 - i = 2 by omega]; rfl
    rw [e1, e2, e3, show i + 1 - i = 1 by omega]
    simp

end Go.Proofs.YtmpjmcfgikmgnabDoor.check
