/- A meter's number, as the document has it. -/
import Derived.Test.YtlicdeppfhmfjaaDoorRcN
import Derived.Test.YtlicdeppfhmfjaaDoorDec
import Derived.Test.YtlicdeppfhmfjaaDoorCkFolded
namespace Go.Proofs.YtlicdeppfhmfjaaDoor.rcp
open Go.Proofs.YtlicdeppfhmfjaaDoor.cents (dec_any str_cat)
open Go.RowKit
set_option maxRecDepth 100000
set_option linter.unusedVariables false
set_option linter.unusedSimpArgs false

theorem dec_small (u : Nat) (h : u ≤ 2097151) : (Lib.decDigits u).length ≤ 7 := (dec_len7 u h).2
set_option maxHeartbeats 1000000 in
theorem padded_any (n : Nat) (k : Nat) (w : World) (hn : n ≤ 2097151) (hk : k ≤ 20) : Calls Tryd.prog 17 #[.int .i64 (n : Int), .int .i64 (k : Int)] w fun e w' => e = .returned (.string ⟨(pad n k).toArray⟩) ∧ Below w.heap.size w w' := by
  have HD : Hid (Calls Tryd.prog 19 #[.int .i64 (n : Int)] w fun e w' => e = .returned (.string ⟨(Lib.decDigits n).toArray⟩) ∧ Below w.heap.size w w') := by
    have h := dec_any n (n : Int) w (by omega) (by omega) (by omega)
    rw [Int.toNat_natCast] at h
    exact h
  have hl := dec_small n hn
  have HP : Hid (pad n k = List.replicate (k - (Lib.decDigits n).length) 48 ++ Lib.decDigits n) := rfl
  generalize Lib.decDigits n = D at *
  go_enter Tryd.func17, Tryd.ntmps17
  go_wp2_with fail
  refine HD.out.mono ?_
  rintro e w1 ⟨rfl, hb1⟩
  clear HD
  go_wp2_with fail
  go_loopw [5] (fun v wr => ∃ j : Nat, (j = 0 ∨ j + D.length ≤ k) ∧ v = .string ⟨(List.replicate j 48 ++ D).toArray⟩ ∧ wr = w1) (fun v _ => k - (match v with | .string s => s.size | _ => 0))
  case atStart => exact ⟨0, .inl rfl, rfl, rfl⟩
  case round =>
    obtain ⟨j, hj, rfl, hwr⟩ := hrel
    subst wr
    have hsz : (List.replicate j (48 : UInt8) ++ D).length = j + D.length := by simp
    have hj20 : j + D.length ≤ 20 := by omega
    have HN : Hid ((⟨#[48]⟩ : ByteArray) ++ ⟨(List.replicate j 48 ++ D).toArray⟩ = ⟨(List.replicate (j + 1) 48 ++ D).toArray⟩) := by
      show _ = _
      have := str_cat [48] (List.replicate j 48 ++ D)
      rw [List.replicate_succ]
      exact this
    have HSZ : Hid (ByteArray.size ⟨(List.replicate j (48 : UInt8) ++ D).toArray⟩ = j + D.length) := by show (List.replicate j (48 : UInt8) ++ D).toArray.size = _; rw [List.size_toArray]; exact hsz
    have HSZ2 : Hid (ByteArray.size ⟨(List.replicate (j + 1) (48 : UInt8) ++ D).toArray⟩ = j + 1 + D.length) := by show (List.replicate (j + 1) (48 : UInt8) ++ D).toArray.size = _; rw [List.size_toArray]; simp
    have HE : Hid (¬ j + D.length < k → List.replicate j (48 : UInt8) ++ D = pad n k) := fun h => by
      rw [HP.out]
      have : j = k - D.length := by omega
      rw [this]
    clear HP
    by_cases hlt : j + D.length < k
    · have hd : decide (((j + D.length : Nat) : Int) < (k : Int)) = true := by simp; omega
      clear HE hsz
      generalize hS : (⟨(List.replicate j (48 : UInt8) ++ D).toArray⟩ : ByteArray) = S at *
      have hs := HSZ.out
      generalize hT : (⟨(List.replicate (j + 1) (48 : UInt8) ++ D).toArray⟩ : ByteArray) = T at *
      clear hS
      go_wp2_with fail
      go_roundw
      case rel => exact ⟨j + 1, .inr (by omega), by rw [HN.out, hT], by first | rfl | trivial⟩
      case measure => rw [HN.out]; show k - T.size < k - S.size; rw [HSZ.out, HSZ2.out]; omega
    · have hd : decide (((j + D.length : Nat) : Int) < (k : Int)) = false := by simp; omega
      have he := HE.out hlt
      have hs := HSZ.out
      rw [he] at hs ⊢
      clear HE HN HSZ HSZ2 hsz he
      generalize hS : (⟨(pad n k).toArray⟩ : ByteArray) = S at *
      go_wp2_with fail
      go_ret
      exact ⟨by rw [hS]; rfl, hb1⟩

set_option maxHeartbeats 1000000 in
theorem number_any (m : Int) (w : World) : Calls Tryd.prog 7 #[.int .i64 m] w fun e w' => ∃ l f, e = .returned (.tuple #[.string ⟨l.toArray⟩, .int .i64 f]) ∧ NumIs m l f ∧ Below w.heap.size w w' := by
  by_cases hm : MMay m
  · have hm' := hm
    obtain ⟨m0, m1⟩ := hm
    have HI : Hid (∀ W, Calls Tryd.prog 16 #[.int .i64 m, .int .i64 0, .int .i64 49] W fun e w' => e = .returned (.bool true) ∧ w' = W) := fun W => cents.in_yes _ _ _ _ m0 m1
    obtain ⟨k, rfl⟩ : ∃ k : Nat, m = (k : Int) := ⟨m.toNat, by omega⟩
    have hk : k < 50 := by omega
    have HP : Hid (∀ W, Calls Tryd.prog 17 #[.int .i64 (k : Int), .int .i64 10] W fun e w' => e = .returned (.string ⟨(pad k 10).toArray⟩) ∧ Below W.heap.size W w') := fun W => padded_any k 10 W (by omega) (by decide)
    have HC : Hid (∀ W, Calls Tryd.prog 18 #[.string ⟨(pad k 10).toArray⟩] W fun e w' => e = .returned (.tuple #[.int .i64 (check.digitR (pad k 10)), .int .i64 (check.flawR (pad k 10))]) ∧ Below W.heap.size W w') := fun W => check.checkDigit_any ⟨(pad k 10).toArray⟩ W
    have hd0 : ∀ x, x < 50 → (0 ≤ check.digitR (pad x 10) ∧ check.digitR (pad x 10) ≤ 9) ∧ (pad x 10).length = 10 := by decide +kernel
    obtain ⟨⟨d0, d1⟩, hpl⟩ := hd0 k hk
    have HD : Hid (∀ W, Calls Tryd.prog 19 #[.int .i64 (check.digitR (pad k 10))] W fun e w' => e = .returned (.string ⟨(Lib.decDigits (check.digitR (pad k 10)).toNat).toArray⟩) ∧ Below W.heap.size W w') := fun W => dec_any 9 _ W d0 (by omega) (by omega)
    have hdl := dec_small (check.digitR (pad k 10)).toNat (by omega)
    have HV : Hid ((⟨(pad k 10).toArray⟩ : ByteArray) ++ ⟨(Lib.decDigits (check.digitR (pad k 10)).toNat).toArray⟩ = ⟨(numL k).toArray⟩) := str_cat _ _
    have HN : Hid (NumIs (k : Int) (numL k) 0) := .inl ⟨hm', rfl, rfl⟩
    have hs1 : ByteArray.size ⟨(pad k 10).toArray⟩ = 10 := by show (pad k 10).toArray.size = _; rw [List.size_toArray]; exact hpl
    have hs2 : ByteArray.size ⟨(Lib.decDigits (check.digitR (pad k 10)).toNat).toArray⟩ ≤ 7 := by show (Lib.decDigits (check.digitR (pad k 10)).toNat).toArray.size ≤ _; rw [List.size_toArray]; exact hdl
    clear hd0 hpl hdl hm'
    generalize (⟨(Lib.decDigits (check.digitR (pad k 10)).toNat).toArray⟩ : ByteArray) = E at *
    generalize check.digitR (pad k 10) = d at *
    generalize check.flawR (pad k 10) = f at *
    generalize (⟨(pad k 10).toArray⟩ : ByteArray) = S at *
    go_enter Tryd.func7, Tryd.ntmps7
    go_wp2_with fail
    refine (HI.out _).mono ?_
    rintro e wz ⟨rfl, hwz⟩
    subst wz
    go_wp2_with fail
    refine (HP.out _).mono ?_
    rintro e w1 ⟨rfl, hb1⟩
    go_wp2_with fail
    refine (HC.out _).mono ?_
    rintro e w2 ⟨rfl, hb2⟩
    go_wp2_with fail
    refine (HD.out _).mono ?_
    rintro e w3 ⟨rfl, hb3⟩
    have HB : Hid (Below w.heap.size w w3) := (hb1.trans (hb2.mono hb1.size)).trans (hb3.mono (hb1.trans (hb2.mono hb1.size)).size)
    clear hb1 hb2 hb3
    go_wp2_with fail
    go_ret2
    exact ⟨numL k, 0, by rw [← HV.out]; rfl, HN.out, HB.out⟩
  · have HI : Hid (∀ W, Calls Tryd.prog 16 #[.int .i64 m, .int .i64 0, .int .i64 49] W fun e w' => e = .returned (.bool false) ∧ w' = W) := fun W => cents.in_no _ _ _ _ (by unfold MMay at hm; omega)
    have HN : Hid (NumIs m [] 18) := .inr ⟨hm, rfl, rfl⟩
    clear hm
    go_enter Tryd.func7, Tryd.ntmps7
    go_wp2_with fail
    refine (HI.out _).mono ?_
    rintro e wz ⟨rfl, hwz⟩
    subst wz
    go_wp2_with fail
    go_ret2
    exact ⟨[], 18, rfl, HN.out, Below.refl _ _⟩

end Go.Proofs.YtlicdeppfhmfjaaDoor.rcp
