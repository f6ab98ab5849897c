/- One digit turned, and two that change places. -/
import Derived.Test.YtnhidiefchamlaaDoorCkTxt
import Derived.Test.YtnhidiefchamlaaDoorCkPick
import Derived.OwnWalk
import Derived.BigRegion
import Derived.DataReads
import Derived.Deep.QuietTactic
import Derived.BigQuiet
import Derived.Laws.BytesArg
import Derived.Laws.AppendOwnNone
import Derived.WalkSpells
import Derived.WalkLawsBesides
import Derived.Lib.Strings
import Derived.Lib.IndexBytes
namespace Go.Proofs.YtnhidiefchamlaaDoor.check
open Go.RowKit

theorem conv_one (w : World) (z : Int) :
    (convert 58 9 (.slice (some ⟨w.heap.size, 0, none⟩) 1 1)).run Tryd.prog (w.alloc (.cells #[.int .u8 z] 5)) = .ok (.string ⟨#[UInt8.ofNat z.toNat]⟩) (w.alloc (.cells #[.int .u8 z] 5)) := by
  rw [run_convert_bytes_string _ _ _ _ _ _ _ Tryd.underlying58 Tryd.underlying5 Tryd.underlying9, run_bytesToString _ _ _ _ [z] (by simp [loadCells, loadCellsFrom, go_sem])]
  rfl

theorem split_at (s : ByteArray) (i : Nat) (h : i < s.size) : s.data.toList = s.data.toList.take i ++ s[i] :: s.data.toList.drop (i + 1) := by
  rw [← drop_cons s i h, List.take_append_drop]

/-- The text with another digit at one place was given back. -/
def SlipPost (w : World) (s : ByteArray) (e : Ending) (w' : World) : Prop :=
  ∃ (t : ByteArray) (A B : List UInt8) (c c' : UInt8), e = .returned (.string t) ∧ s.data.toList = A ++ c :: B ∧ t.data.toList = A ++ c' :: B ∧ isD c' = true ∧ c ≠ c' ∧ Below w.heap.size w w'

theorem ext0 (s : ByteArray) (i : Nat) : (s.extract 0 i).data.toList = s.data.toList.take i := by rw [Lib.extract_data]; simp
theorem ext1 (s : ByteArray) (i j : Nat) : (s.extract i j).data.toList = (s.data.toList.drop i).take (j - i) := Lib.extract_data s i j
theorem ext2 (s : ByteArray) (i : Nat) : (s.extract i s.size).data.toList = s.data.toList.drop i := Lib.extract_to_end s i
theorem cat_list (a b : ByteArray) : (a ++ b).data.toList = a.data.toList ++ b.data.toList := by simp

theorem below_drewN {w0 w : World} (h : Below w0.heap.size w0 w) (q : Nat) : Below w0.heap.size w0 (w.drewN q) := ⟨h.os, h.tape, h.output, h.size, h.block⟩
theorem SlipPost.mk {w w' : World} {s : ByteArray} {i : Nat} {c : UInt8} {dg : Int} (hx : s.data.toList = s.data.toList.take i ++ c :: s.data.toList.drop (i + 1)) (d0 : 0 ≤ dg) (d1 : dg < 10) (hne : dg ≠ ((c.toNat : Nat) : Int) - 48) (hb : Below w.heap.size w w') :
    SlipPost w s (.returned (.string (s.extract 0 i ++ ⟨#[UInt8.ofNat (48 + dg).toNat]⟩ ++ s.extract (i + 1) s.size))) w' := by
  have hv : (UInt8.ofNat (48 + dg).toNat).toNat = (48 + dg).toNat := by simp only [UInt8.toNat_ofNat']; omega
  refine ⟨_, s.data.toList.take i, s.data.toList.drop (i + 1), c, UInt8.ofNat (48 + dg).toNat, rfl, hx, ?_, isD_yes (by rw [hv]; omega) (by rw [hv]; omega), ?_, hb⟩
  · rw [cat_list, cat_list, ext0, ext2]; simp
  · intro e
    rw [e, hv] at hne
    omega

set_option maxHeartbeats 1000000 in
theorem slipped_any (s : ByteArray) (at0 by0 : Int) (w : World) (h1 : 1 ≤ s.size) (h2 : s.size ≤ 200) (hd : allD s.data.toList = true) (w1 : (Lit.int .i64 at0).wf = true) (w2 : (Lit.int .i64 by0).wf = true) :
    Calls Tryd.prog 13 #[.string s, .int .i64 at0, .int .i64 by0] w fun e w' => SlipPost w s e w' := by
  have hi := pick_toNat at0 s.size (by omega)
  have hp := pick_toNat by0 9 (by omega)
  have HP : Hid (∀ w, Calls Tryd.prog 12 #[.int .i64 at0, .int .i64 (s.size : Int)] w fun e w' => e = .returned (.int .i64 (((pick at0 s.size).toNat : Nat) : Int)) ∧ w' = w) := fun w => picked_nat at0 s.size w w1 (by omega) (by omega)
  have HQ : Hid (∀ w, Calls Tryd.prog 12 #[.int .i64 by0, .int .i64 9] w fun e w' => e = .returned (.int .i64 (((pick by0 ((9 : Nat) : Int)).toNat : Nat) : Int)) ∧ w' = w) := fun w => picked_nat by0 9 w w2 (by omega) (by omega)
  generalize (pick at0 s.size).toNat = i at *
  generalize (pick by0 ((9 : Nat) : Int)).toNat = p at *
  have hcb := isD_bd (take_parts s i hi hd).2.1
  have HX : Hid (s.data.toList = s.data.toList.take i ++ s[i] :: s.data.toList.drop (i + 1)) := split_at s i hi
  obtain ⟨c1, c2⟩ := hcb
  have hii : (i : Int) < (s.size : Int) := by omega
  have hii1 : (i : Int) + 1 ≤ (s.size : Int) := by omega
  have hii0 : (i : Int) ≤ (s.size : Int) := by omega
  clear w1 w2 hd
  go_enter Tryd.func13, Tryd.ntmps13
  go_wp2_with fail
  refine (HP.out _).mono ?_
  rintro e w1 ⟨rfl, rfl⟩
  go_wp2_with fail
  go_quiet ((go_at_call 12; exact Calls.quiet_of_same (HQ.out _)))
  go_wp2_with fail
  have d0 : 0 ≤ (((s[i].toNat : Nat) : Int) - 48 + 1 + (p : Int)) % 10 := by omega
  have d1 : (((s[i].toNat : Nat) : Int) - 48 + 1 + (p : Int)) % 10 < 10 := by omega
  have HNE : Hid ((((s[i].toNat : Nat) : Int) - 48 + 1 + (p : Int)) % 10 ≠ ((s[i].toNat : Nat) : Int) - 48) := by
    show _ ≠ _
    omega
  generalize (((s[i].toNat : Nat) : Int) - 48 + 1 + (p : Int)) % 10 = dg at *
  generalize s[i] = c at *
  have hcv : (convert 58 9 (.slice (some ⟨w1.heap.size, 0, none⟩) 1 1)).run Tryd.prog ((w1.drewN (nq + 1)).alloc (.cells #[.int .u8 (48 + dg)] 5)) = .ok (.string ⟨#[UInt8.ofNat (48 + dg).toNat]⟩) ((w1.drewN (nq + 1)).alloc (.cells #[.int .u8 (48 + dg)] 5)) := conv_one (w1.drewN (nq + 1)) (48 + dg)
  go_region
  all_goals go_wp2_with fail
  go_ret
  exact SlipPost.mk HX.out d0 d1 HNE.out (((below_drewN (Below.refl _ w1) (nq + 1))).alloc (Nat.le_refl _) _)

/-- The text with two digits that changed places was given back. -/
def SwapPost (w : World) (s : ByteArray) (far : Nat) (e : Ending) (w' : World) : Prop :=
  ∃ (t : ByteArray) (A m B : List UInt8) (c c' : UInt8), e = .returned (.string t) ∧ s.data.toList = A ++ c :: (m ++ c' :: B) ∧ t.data.toList = A ++ c' :: (m ++ c :: B) ∧ m.length + 1 = far ∧ Below w.heap.size w w'
theorem SwapPost.mk {w w' : World} {s : ByteArray} {i far : Nat} (hf : 1 ≤ far) (hi : i + far < s.size) (hb : Below w.heap.size w w') :
    SwapPost w s far (.returned (.string (s.extract 0 i ++ s.extract (i + far) (i + far + 1) ++ s.extract (i + 1) (i + far) ++ s.extract i (i + 1) ++ s.extract (i + far + 1) s.size))) w' := by
  have h1 := split_at s i (by omega)
  have h2 := drop_cons s (i + far) hi
  have h3 : s.data.toList.drop (i + 1) = (s.data.toList.drop (i + 1)).take (far - 1) ++ s[i + far] :: s.data.toList.drop (i + far + 1) := by
    rw [← h2, show s.data.toList.drop (i + far) = (s.data.toList.drop (i + 1)).drop (far - 1) by rw [List.drop_drop]; congr 1; omega, List.take_append_drop]
  refine ⟨_, s.data.toList.take i, (s.data.toList.drop (i + 1)).take (far - 1), s.data.toList.drop (i + far + 1), s[i], s[i + far], rfl, ?_, ?_, ?_, hb⟩
  · rw [← h3]; exact h1
  · rw [cat_list, cat_list, cat_list, cat_list, ext0, ext1, ext1, ext1, ext2, drop_cons s i (by omega), h2]
    rw [show i + far + 1 - (i + far) = 1 by omega, show i + 1 - i = 1 by omega, show i + far - (i + 1) = far - 1 by omega]
    simp
  · rw [List.length_take, List.length_drop, len_eq]; omega

set_option maxHeartbeats 1000000 in
theorem swapped_any (s : ByteArray) (at0 : Int) (far : Nat) (w : World) (h1 : far < s.size) (h2 : s.size ≤ 200) (hf : 1 ≤ far) (w1 : (Lit.int .i64 at0).wf = true) :
    Calls Tryd.prog 14 #[.string s, .int .i64 at0, .int .i64 (far : Int)] w fun e w' => SwapPost w s far e w' := by
  have hi := pick_toNat at0 (s.size - far) (by omega)
  have eL : (s.size : Int) - (far : Int) = ((s.size - far : Nat) : Int) := by omega
  have HP : Hid (∀ w, Calls Tryd.prog 12 #[.int .i64 at0, .int .i64 ((s.size : Int) - (far : Int))] w fun e w' => e = .returned (.int .i64 (((pick at0 ((s.size - far : Nat) : Int)).toNat : Nat) : Int)) ∧ w' = w) := fun w => by
    rw [eL]; exact picked_nat at0 (s.size - far) w w1 (by omega) (by omega)
  generalize (pick at0 ((s.size - far : Nat) : Int)).toNat = i at *
  have hif : i + far < s.size := by omega
  clear w1 hi eL
  have HF : Hid (∀ w', Below w.heap.size w w' → SwapPost w s far (.returned (.string (s.extract 0 i ++ s.extract (i + far) (i + far + 1) ++ s.extract (i + 1) (i + far) ++ s.extract i (i + 1) ++ s.extract (i + far + 1) s.size))) w') := fun w' hb => SwapPost.mk hf hif hb
  have b1 : (i : Int) ≤ (s.size : Int) := by omega
  have b2 : (i : Int) + (far : Int) + 1 ≤ (s.size : Int) := by omega
  have b3 : (i : Int) + 1 ≤ (i : Int) + (far : Int) := by omega
  have b4 : (i : Int) + (far : Int) ≤ (s.size : Int) := by omega
  have b5 : (i : Int) + 1 ≤ (s.size : Int) := by omega
  go_enter Tryd.func14, Tryd.ntmps14
  go_wp2_with fail
  refine (HP.out _).mono ?_
  rintro e w1 ⟨rfl, rfl⟩
  go_wp2_with fail
  go_quiet (fail)
  go_wp2_with fail
  go_ret
  exact HF.out _ (below_drewN (Below.refl _ w1) _)

end Go.Proofs.YtnhidiefchamlaaDoor.check
