/- The document's small functions over lines: ActWord, In, Digit, numberPart, next, plain. -/
import Derived.Test.YtlianhienbhbgaaDoorOdG
import Derived.Test.YtlianhienbhbgaaDoorDec
namespace Go.Proofs.YtlianhienbhbgaaDoor.odr
open Go.RowKit
set_option maxRecDepth 100000
set_option linter.unusedVariables false
set_option linter.unusedSimpArgs false

theorem rin (n lo hi : Int) (w : World) : Calls Tryd.prog 17 #[.int .i64 n, .int .i64 lo, .int .i64 hi] w fun e w' => e = .returned (.bool (inB lo hi n)) ∧ w' = w := by
  by_cases h1 : lo ≤ n
  · by_cases h2 : n ≤ hi
    · have : inB lo hi n = true := by simp [inB]; omega
      rw [this]
      exact cents.in_yes n lo hi w h1 h2
    · have : inB lo hi n = false := by simp [inB]; omega
      rw [this]
      exact cents.in_no n lo hi w (by omega)
  · have : inB lo hi n = false := by simp [inB]; omega
    rw [this]
    exact cents.in_no n lo hi w (by omega)
set_option maxHeartbeats 2000000 in
theorem rword (k : Int) (w : World) : Calls Tryd.prog 16 #[.int .i64 k] w fun e w' => e = .returned (.tuple #[.string (ba (wd k)), .bool (hA k), .bool (hB k), .bool (hC k)]) ∧ w' = w := by
  by_cases hk : inB 1 7 k = true
  · rcases kinds hk with rfl | rfl | rfl | rfl | rfl | rfl | rfl
    all_goals
      clear hk
      go_enter Tryd.func16, Tryd.ntmps16
      go_wp2_with fail
      exact bodyPost_ret (by simp [results, Tryd.results16, go_sem]; rfl) rfl ⟨by rfl, rfl⟩
  · have h1 : ¬ (1 ≤ k ∧ k ≤ 7) := by simpa [inB] using hk
    have d1 : (k == 1) = false := by simp; omega
    have d2 : (k == 2) = false := by simp; omega
    have d3 : (k == 3) = false := by simp; omega
    have d4 : (k == 4) = false := by simp; omega
    have d5 : (k == 5) = false := by simp; omega
    have d6 : (k == 6) = false := by simp; omega
    have d7 : (k == 7) = false := by simp; omega
    have e0 : wd k = [] := by unfold wd; rw [if_neg (by omega), if_neg (by omega), if_neg (by omega), if_neg (by omega), if_neg (by omega), if_neg (by omega), if_neg (by omega)]
    have e1 : hA k = false := by unfold hA; rw [d2, d3, d5, d7]; rfl
    have e2 : hB k = false := by unfold hB; rw [d2, d5]; rfl
    have e3 : hC k = false := by unfold hC; rw [d2, d3, d4]; rfl
    rw [e0, e1, e2, e3]
    clear e0 e1 e2 e3 h1 hk
    go_enter Tryd.func16, Tryd.ntmps16
    go_wp2_with fail
    exact bodyPost_ret (by simp [results, Tryd.results16, go_sem]; rfl) rfl ⟨by rfl, rfl⟩

/-- A blank and a number, where there is one. -/
def part (h : Bool) (n : Int) : List UInt8 := if h = true then 32 :: Lib.itoa n else []
theorem rdec (n : Int) (w : World) (h : 0 ≤ n ∧ n ≤ 1000000000000) : Calls Tryd.prog 18 #[.int .i64 n] w fun e w' => e = .returned (.string (ba (Lib.itoa n))) ∧ Below w.heap.size w w' := by
  rw [itoa_of n h.1]
  exact cents.dec_any n.toNat n w h.1 (by omega) (by omega)
theorem itoa_len (n : Int) (h : 0 ≤ n ∧ n ≤ 1000000000000) : (Lib.itoa n).length ≤ 13 := by
  rw [itoa_of n h.1]
  exact (dd_len n.toNat (by omega)).2
set_option maxHeartbeats 1000000 in
theorem rpart (h : Bool) (n : Int) (w : World) (hn : h = true → 0 ≤ n ∧ n ≤ 1000000000000) : Calls Tryd.prog 19 #[.bool h, .int .i64 n] w fun e w' => e = .returned (.string (ba (part h n))) ∧ Below w.heap.size w w' := by
  cases h with
  | false =>
    clear hn
    go_enter Tryd.func19, Tryd.ntmps19
    go_wp2_with fail
    go_ret
    exact ⟨rfl, Below.refl _ _⟩
  | true =>
    have HD : Hid (Calls Tryd.prog 18 #[.int .i64 n] w fun e w' => e = .returned (.string (ba (Lib.itoa n))) ∧ Below w.heap.size w w') := rdec n w (hn rfl)
    have hl := itoa_len n (hn rfl)
    have HE : Hid ((⟨#[32]⟩ : ByteArray) ++ ba (Lib.itoa n) = ba (part true n)) := by
      show _ = _
      unfold part ba
      apply ByteArray.ext
      simp
    have hs : (ba (Lib.itoa n)).size ≤ 13 := by rw [ba_size]; exact hl
    have hs1 : ¬ (9223372036854775807 < (⟨#[32]⟩ : ByteArray).size + (ba (Lib.itoa n)).size) := by
      have : (⟨#[32]⟩ : ByteArray).size = 1 := rfl
      omega
    clear hn hl hs
    generalize ba (Lib.itoa n) = D at *
    go_enter Tryd.func19, Tryd.ntmps19
    go_wp2_with fail
    refine HD.out.mono ?_
    rintro e w1 ⟨rfl, hb⟩
    have HB : Hid (Below w.heap.size w w1) := hb
    clear hb HD
    go_wp2_with fail
    go_ret
    exact ⟨by rw [← HE.out]; rfl, HB.out⟩

theorem rdigit (c : UInt8) (w : World) : Calls Tryd.prog 32 #[.int .u8 ((c.toNat : Nat) : Int)] w fun e w' => e = .returned (.bool (isD c)) ∧ w' = w := by
  obtain ⟨z, hz⟩ : ∃ z : Int, ((c.toNat : Nat) : Int) = z := ⟨_, rfl⟩
  by_cases h1 : 48 ≤ z
  · by_cases h2 : z ≤ 57
    · have e : isD c = true := by simp [isD]; omega
      rw [e, hz]
      clear e hz
      go_enter Tryd.func32, Tryd.ntmps32
      go_wp2
      go_ret
      exact ⟨rfl, rfl⟩
    · have e : isD c = false := by simp [isD]; omega
      have d2 : decide (z ≤ 57) = false := by simp; omega
      rw [e, hz]
      clear e hz h2
      go_enter Tryd.func32, Tryd.ntmps32
      go_wp2
      go_ret
      exact ⟨rfl, rfl⟩
  · have e : isD c = false := by simp [isD]; omega
    have d2 : decide (48 ≤ z) = false := by simp; omega
    rw [e, hz]
    clear e hz h1
    go_enter Tryd.func32, Tryd.ntmps32
    go_wp2
    go_ret
    exact ⟨rfl, rfl⟩

/- next. -/
theorem at_list (s : ByteArray) (i : Nat) (h : i < s.size) : s.data.toList.getD i 0 = s[i] := by
  simp [List.getD, List.getElem?_eq_getElem (show i < s.data.toList.length by rw [Array.length_toList]; exact h)]
  rfl
theorem drop_cons (l : List UInt8) (i : Nat) (h : i < l.length) : l.drop i = l.getD i 0 :: l.drop (i + 1) := by
  rw [List.drop_eq_getElem_cons h]
  simp [List.getD, h]
theorem not_take (l : List UInt8) (f i : Nat) (hn : ∀ j, f ≤ j → j < i → l.getD j 0 ≠ 32) : Not 32 ((l.drop f).take (i - f)) := by
  intro x hx
  obtain ⟨k, hk, rfl⟩ := List.getElem_of_mem hx
  simp only [List.length_take, List.length_drop] at hk
  have := hn (f + k) (by omega) (by omega)
  have e : l.getD (f + k) 0 = l[f + k]'(by omega) := by simp [List.getD, show f + k < l.length by omega]
  rw [e] at this
  simpa using this
theorem next_hit {l : List UInt8} {f i : Nat} (hf : f ≤ i) (hi : i < l.length) (hn : ∀ j, f ≤ j → j < i → l.getD j 0 ≠ 32) (h : l.getD i 0 = 32) : cutB (l.drop f) = ((l.drop f).take (i - f), l.drop (i + 1), true) := by
  have e : l.drop f = (l.drop f).take (i - f) ++ 32 :: l.drop (i + 1) := by
    have h1 := (List.take_append_drop (i - f) (l.drop f)).symm
    rw [List.drop_drop, show f + (i - f) = i by omega, drop_cons l i hi, h] at h1
    exact h1
  rw [e, cut_line _ _ (not_take l f i hn), ← e]
theorem next_end {l : List UInt8} {f : Nat} (hn : ∀ j, f ≤ j → j < l.length → l.getD j 0 ≠ 32) : cutB (l.drop f) = (l.drop f, [], false) := by
  refine cut_none _ ?_
  have := not_take l f l.length hn
  rw [List.take_of_length_le (by rw [List.length_drop]; omega)] at this
  exact this
/-- Where the next piece begins; -1: nowhere. -/
def nextI (l : List UInt8) (f : Nat) : Int := if (cutB (l.drop f)).2.2 = true then ((f + (cutB (l.drop f)).1.length + 1 : Nat) : Int) else -1
theorem next_facts (l : List UInt8) (f : Nat) (hf : f ≤ l.length) : (nextI l f = -1 ∧ left (l.drop f) = none) ∨ ∃ t : Nat, nextI l f = (t : Int) ∧ 0 < t ∧ t ≤ l.length ∧ left (l.drop f) = some (l.drop t) := by
  unfold nextI left
  cases hc : (cutB (l.drop f)).2.2 with
  | false => exact .inl ⟨rfl, rfl⟩
  | true =>
    refine .inr ⟨f + (cutB (l.drop f)).1.length + 1, by simp, by omega, ?_, ?_⟩
    · unfold cutB Lib.cut at hc ⊢
      split at hc
      · rename_i h
        rw [if_pos h]
        simp only
        have := Lib.index_room (l.drop f) [32] h
        simp only [List.length_take]
        simp only [List.length_drop, List.length_cons, List.length_nil] at this ⊢
        omega
      · cases hc
    · unfold cutB Lib.cut at hc ⊢
      split at hc
      · rename_i h
        rw [if_pos h]
        simp only [if_true]
        have := Lib.index_room (l.drop f) [32] h
        rw [List.drop_drop, List.length_take]
        congr 2
        simp only [List.length_drop, List.length_cons, List.length_nil] at this ⊢
        omega
      · cases hc

end Go.Proofs.YtlianhienbhbgaaDoor.odr
