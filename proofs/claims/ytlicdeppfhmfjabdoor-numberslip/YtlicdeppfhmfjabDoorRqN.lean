/- A meter's number, in the program. -/
import Derived.Test.YtlicdeppfhmfjabDoorKrN
import Derived.Test.YtlicdeppfhmfjabDoorRqI
import Derived.Test.YtlicdeppfhmfjabDoorCkGood
import Derived.Test.YtlicdeppfhmfjabDoorTkRep
import Derived.Test.YtlicdeppfhmfjabDoorShelf
namespace Go.Proofs.YtlicdeppfhmfjabDoor.rcp
open Go.Proofs.YtlicdeppfhmfjabDoor.check (digitR MTab digit_any flawR)
open Go.RowKit
set_option maxRecDepth 100000
set_option linter.unusedVariables false

theorem rep_noughts (k : Nat) : Lib.repeatL [48] k = List.replicate k 48 := by
  induction k with
  | zero => rfl
  | succ k ih => simp [Lib.repeatL, List.replicate_succ] at *; exact ih
theorem dec_len2 : ∀ m : Nat, m < 50 → (Lib.decDigits m).length = (if m < 10 then 1 else 2) := by decide +kernel
theorem digit_bd : ∀ m : Nat, m < 50 → 0 ≤ digitR (pad m 10) ∧ digitR (pad m 10) < 10 := by decide +kernel
theorem itoa_2 (n : Int) (w : World) (h0 : 0 ≤ n) (h1 : n < 100) :
    Calls Tryd.prog 20 #[.int .i64 n] w fun e w' => e = .returned (.string ⟨(Lib.decDigits n.toNat).toArray⟩) ∧ w' = w := by
  obtain ⟨i, rfl⟩ := Int.eq_ofNat_of_zero_le h0
  exact Tryd.strconv_Itoa_small i (by omega) w

set_option maxHeartbeats 1000000 in
theorem number_abs (m d : Nat) (f : Int) (X Y Z PX : ByteArray) (w : World) (hm : m ≤ 49) (hX : X.size = (if m < 10 then 1 else 2)) (hY : Y.size ≤ 10) (hZ : Z.size ≤ 10) (hPX : PX = Y ++ X)
    (hI : ∀ w, Calls Tryd.prog 15 #[.int .i64 (m : Int)] w fun e w' => e = .returned (.bool true) ∧ Below w.heap.size w w')
    (hA : ∀ w, Calls Tryd.prog 20 #[.int .i64 (m : Int)] w fun e w' => e = .returned (.string X) ∧ w' = w)
    (hR : ∀ (w : World) (k : Int), k = ((10 - X.size : Nat) : Int) → Calls Tryd.prog 21 #[.string ⟨#[48]⟩, .int .i64 k] w fun e w' => e = .returned (.string Y) ∧ Below w.heap.size w w')
    (hD : ∀ w', Below w.heap.size w w' → Calls Tryd.prog 22 #[.string PX] w' fun e w'' => e = .returned (.tuple #[.int .i64 (d : Int), .int .i64 f]) ∧ Below w'.heap.size w' w'')
    (hB : ∀ w, Calls Tryd.prog 20 #[.int .i64 (d : Int)] w fun e w' => e = .returned (.string Z) ∧ w' = w) :
    Calls Tryd.prog 9 #[.int .i64 (m : Int)] w fun e w' => e = .returned (.tuple #[.string (PX ++ Z), .int .i64 0]) ∧ Below w.heap.size w w' := by
  have HI : Hid (∀ w, Calls Tryd.prog 15 #[.int .i64 (m : Int)] w fun e w' => e = .returned (.bool true) ∧ Below w.heap.size w w') := hI
  have HA : Hid (∀ w, Calls Tryd.prog 20 #[.int .i64 (m : Int)] w fun e w' => e = .returned (.string X) ∧ w' = w) := hA
  have HR : Hid (∀ (w : World) (k : Int), k = ((10 - X.size : Nat) : Int) → Calls Tryd.prog 21 #[.string ⟨#[48]⟩, .int .i64 k] w fun e w' => e = .returned (.string Y) ∧ Below w.heap.size w w') := hR
  have HD : Hid (∀ w', Below w.heap.size w w' → Calls Tryd.prog 22 #[.string (Y ++ X)] w' fun e w'' => e = .returned (.tuple #[.int .i64 (d : Int), .int .i64 f]) ∧ Below w'.heap.size w' w'') := hPX ▸ hD
  have HB : Hid (∀ w, Calls Tryd.prog 20 #[.int .i64 (d : Int)] w fun e w' => e = .returned (.string Z) ∧ w' = w) := hB
  have hX2 : X.size ≤ 2 := by split at hX <;> omega
  have hw : IntKind.i64.wrap (10 - (X.size : Int)) = 10 - (X.size : Int) := by rw [IntKind.wrap_i64]; omega
  have HK : Hid (10 - (X.size : Int) = ((10 - X.size : Nat) : Int)) := by show _ = _; omega
  have hs1 : ¬ (9223372036854775807 < Y.size + X.size) := by omega
  have hs2 : ¬ (9223372036854775807 < Y.size + X.size + Z.size) := by omega
  subst hPX
  clear hI hA hR hD hB hX hm
  go_enter Tryd.func9, Tryd.ntmps9
  go_wp2_with fail
  refine (HI.out _).mono ?_
  rintro e w1 ⟨rfl, hb⟩
  have HB1 : Hid (Below w.heap.size w w1) := hb
  clear hb HI
  go_wp2_with fail
  refine (HA.out _).mono ?_
  rintro e w1' ⟨rfl, rfl⟩
  clear HA
  go_wp2_with fail
  refine (HR.out _ _ HK.out).mono ?_
  rintro e w2 ⟨rfl, hb⟩
  have HB2 : Hid (Below w.heap.size w w2) := HB1.out.trans (hb.mono HB1.out.size)
  clear hb HR HB1
  go_wp2_with fail
  refine (HD.out _ HB2.out).mono ?_
  rintro e w3 ⟨rfl, hb⟩
  have HB3 : Hid (Below w.heap.size w w3) := HB2.out.trans (hb.mono HB2.out.size)
  clear hb HD HB2
  go_wp2_with fail
  refine (HB.out _).mono ?_
  rintro e w3' ⟨rfl, rfl⟩
  clear HB
  go_wp2_with fail
  go_ret2
  exact ⟨rfl, HB3.out⟩

set_option maxHeartbeats 1000000 in
theorem number_no (m : Int) (w : World) (h : ¬ MMay m) :
    Calls Tryd.prog 9 #[.int .i64 m] w fun e w' => e = .returned (.tuple #[.string ⟨#[]⟩, .int .i64 18]) ∧ Below w.heap.size w w' := by
  have HI := rci.isMeter_any m w
  rw [decide_eq_false (show ¬ (0 ≤ m ∧ m ≤ 49) from h)] at HI
  clear h
  go_enter Tryd.func9, Tryd.ntmps9
  go_wp2_with fail
  refine HI.mono ?_
  rintro e w1 ⟨rfl, hb⟩
  clear HI
  go_wp2_with fail
  go_ret2
  exact ⟨rfl, hb⟩

theorem pnumber_any (m : Int) (w : World) (ht : MTab w) : Calls Tryd.prog 9 #[.int .i64 m] w fun e w' => NumPost w m e w' := by
  by_cases h : MMay m
  · obtain ⟨n, rfl⟩ : ∃ n : Nat, m = (n : Int) := ⟨m.toNat, by have := h.1; omega⟩
    have hn : n ≤ 49 := by have := h.2; omega
    obtain ⟨d0, d1⟩ := digit_bd n (by omega)
    obtain ⟨d, hd⟩ : ∃ d : Nat, digitR (pad n 10) = (d : Int) := ⟨(digitR (pad n 10)).toNat, by omega⟩
    have hl := dec_len2 n (by omega)
    have hxs : (⟨(Lib.decDigits n).toArray⟩ : ByteArray).size = (if n < 10 then 1 else 2) := hl
    have hx2 : (if n < 10 then 1 else 2) ≤ 2 := by split <;> omega
    have hk : 10 - (Lib.decDigits n).length ≤ 10 := by omega
    have hrl : ∀ k, (Lib.repeatL [48] k).length = k := fun k => by rw [rep_noughts, List.length_replicate]
    refine (number_abs n d (flawR (pad n 10)) ⟨(Lib.decDigits n).toArray⟩ ⟨(Lib.repeatL [48] (10 - (Lib.decDigits n).length)).toArray⟩ ⟨(Lib.decDigits d).toArray⟩ ⟨(pad n 10).toArray⟩ w hn hxs
      (by show (Lib.repeatL [48] _).length ≤ 10; rw [hrl]; omega) ?_ ?_ (fun w => ?_) (fun w => itoa_2 (n : Int) w (by omega) (by omega)) (fun w k hk' => ?_) (fun w' hb => ?_) (fun w => itoa_2 (d : Int) w (by omega) (by omega))).mono ?_
    · have : ∀ d, d < 10 → (Lib.decDigits d).length ≤ 10 := by decide +kernel
      exact this d (by omega)
    · apply ByteArray.ext
      show (pad n 10).toArray = _
      rw [rep_noughts]
      simp [pad]
    · have := rci.isMeter_any (n : Int) w
      rw [decide_eq_true (show 0 ≤ (n : Int) ∧ (n : Int) ≤ 49 from h)] at this
      exact this
    · subst hk'
      exact Tryd.strings_Repeat ⟨#[48]⟩ (10 - (Lib.decDigits n).length) w (by omega) (by show 1 * _ ≤ _; omega)
    · have := digit_any ⟨(pad n 10).toArray⟩ w' (ht.below hb)
      simp only at this
      rw [hd] at this
      exact this
    · rintro e w' ⟨rfl, hb⟩
      refine ⟨numL n, 0, ?_, .inl ⟨h, ?_, rfl⟩, hb⟩
      · have e : ((⟨(pad n 10).toArray⟩ : ByteArray) ++ ⟨(Lib.decDigits d).toArray⟩) = ⟨(numL n).toArray⟩ := by
          apply ByteArray.ext
          simp [numL, hd]
        rw [e]
      · simp
  · refine (number_no m w h).mono ?_
    rintro e w' ⟨rfl, hb⟩
    exact ⟨[], 18, rfl, .inr ⟨h, rfl, rfl⟩, hb⟩
theorem knumber {w : World} (ht : MTab w) : KrNumber w := fun W m hb _ => pnumber_any m W (ht.below hb)

end Go.Proofs.YtlicdeppfhmfjabDoor.rcp
