/- What is wrong with debts, as the document has it. -/
import Derived.Test.YtfhlokjpdkmdjaaDbD
import Derived.Test.YtfhlokjpdkmdjaaCaIn
namespace Go.Proofs.Ytfhlokjpdkmdjaa.deb
open Go.Proofs.Ytfhlokjpdkmdjaa.tar (Du du0 Came RowD Ld ErrPost TwoPost PairT GaveD)
open Go.RowKit
set_option maxRecDepth 100000
set_option linter.unusedVariables false
set_option linter.unusedSimpArgs false

set_option maxHeartbeats 2000000 in
theorem rfault (a : Option Addr) (n cap : Nat) (ls : List Du) (w : World) (hr : RowD w a n ls) (hn : n ≤ maxLen) : Calls Try.prog 81 #[.slice a n cap] w fun e w' => ∃ f, e = .returned (.int .i64 f) ∧ FaultIs ls f ∧ w' = w := by
  have hlen := hr.1
  have HIU : Hid (∀ x W, Calls Try.prog 47 #[.int .i64 x, .int .i64 0, .int .i64 1000000000] W fun e w' => e = .returned (.bool (decide (0 ≤ x ∧ x ≤ 1000000000))) ∧ w' = W) := fun x W => cal.cin x 0 1000000000 W
  have HIP : Hid (∀ x W, Calls Try.prog 47 #[.int .i64 x, .int .i64 0, .int .i64 10000] W fun e w' => e = .returned (.bool (decide (0 ≤ x ∧ x ≤ 10000))) ∧ w' = W) := fun x W => cal.cin x 0 10000 W
  have hnm : n ≤ 9223372036854775807 := by unfold maxLen at hn; omega
  by_cases hs : n ≤ 8
  · have HS : Hid (ls.length ≤ 8) := by show _ ≤ _; rw [hlen]; exact hs
    have hd8 : decide (8 < (n : Int)) = false := decide_eq_false (by omega)
    have HROW : Hid (RowD w a n ls) := hr
    have HLEN : Hid (ls.length = n) := hlen
    clear hr hn hlen
    go_enter Try.func81, Try.ntmps81
    go_wp2_with fail
    go_loopw [3] (fun x wr => ∃ k : Nat, k ≤ n ∧ x = .int .i64 (k : Int) ∧ (∀ i, i < k → Ok1 (ls.getD i du0)) ∧ wr = w) (fun x _ => n - (intOf x).toNat)
    case atStart => exact ⟨0, Nat.zero_le _, rfl, fun i hi => absurd hi (Nat.not_lt_zero _), rfl⟩
    case round =>
      obtain ⟨k, hk, rfl, hf, hwr⟩ := hrel
      have HF : Hid (∀ i, i < k → Ok1 (ls.getD i du0)) := hf
      subst wr
      clear hf
      by_cases hlt : k < n
      · have hdl : decide ((k : Int) < (n : Int)) = true := by simp; omega
        obtain ⟨b, off, rfl, hbl, hc⟩ := HROW.out.at (by omega)
        have c0 := (hc k hlt).1
        have c1 := (hc k hlt).2
        have HU := HIU.out (ls.getD k du0).a
        have HP := HIP.out (ls.getD k du0).b
        clear hc
        by_cases hu : 0 ≤ (ls.getD k du0).a ∧ (ls.getD k du0).a ≤ 1000000000
        · rw [decide_eq_true hu] at HU
          have HU2 : Hid (∀ W, Calls Try.prog 47 #[.int .i64 (ls.getD k du0).a, .int .i64 0, .int .i64 1000000000] W fun e w' => e = .returned (.bool true) ∧ w' = W) := HU
          by_cases hp : 0 ≤ (ls.getD k du0).b ∧ (ls.getD k du0).b ≤ 10000
          · rw [decide_eq_true hp] at HP
            have HF2 : Hid (∀ i, i < k + 1 → Ok1 (ls.getD i du0)) := fun i hi => by
              by_cases e : i = k
              · subst e; exact ⟨hu, hp⟩
              · exact HF.out i (by omega)
            have HP2 : Hid (∀ W, Calls Try.prog 47 #[.int .i64 (ls.getD k du0).b, .int .i64 0, .int .i64 10000] W fun e w' => e = .returned (.bool true) ∧ w' = W) := HP
            clear HU HP hu hp HF
            generalize (ls.getD k du0).a = x at *
            generalize (ls.getD k du0).b = y at *
            go_wp2_with fail
            refine (HU2.out _).mono ?_
            rintro e w2 ⟨rfl, hw2⟩
            subst hw2
            go_wp2_with fail
            refine (HP2.out _).mono ?_
            rintro e w2 ⟨rfl, hw2⟩
            subst hw2
            go_wp2_with fail
            go_roundw
            case rel => exact ⟨k + 1, by omega, by go_num, HF2.out, by first | rfl | trivial⟩
            case measure => simp [intOf]; omega
          · rw [decide_eq_false hp] at HP
            have HN : Hid (¬ DFits ls) := fun h => hp (h k (by rw [HLEN.out]; exact hlt)).2
            have HP2 : Hid (∀ W, Calls Try.prog 47 #[.int .i64 (ls.getD k du0).b, .int .i64 0, .int .i64 10000] W fun e w' => e = .returned (.bool false) ∧ w' = W) := HP
            clear HU HP hu hp HF
            generalize (ls.getD k du0).a = x at *
            generalize (ls.getD k du0).b = y at *
            go_wp2_with fail
            refine (HU2.out _).mono ?_
            rintro e w2 ⟨rfl, hw2⟩
            subst hw2
            go_wp2_with fail
            refine (HP2.out _).mono ?_
            rintro e w2 ⟨rfl, hw2⟩
            subst hw2
            go_wp2_with fail
            go_ret
            exact ⟨_, rfl, .inr (.inl ⟨HS.out, HN.out, rfl⟩), rfl⟩
        · rw [decide_eq_false hu] at HU
          have HN : Hid (¬ DFits ls) := fun h => hu (h k (by rw [HLEN.out]; exact hlt)).1
          have HU2 : Hid (∀ W, Calls Try.prog 47 #[.int .i64 (ls.getD k du0).a, .int .i64 0, .int .i64 1000000000] W fun e w' => e = .returned (.bool false) ∧ w' = W) := HU
          clear HU HP hu HF
          generalize (ls.getD k du0).a = x at *
          generalize (ls.getD k du0).b = y at *
          go_wp2_with fail
          refine (HU2.out _).mono ?_
          rintro e w2 ⟨rfl, hw2⟩
          subst hw2
          go_wp2_with fail
          go_ret
          exact ⟨_, rfl, .inr (.inl ⟨HS.out, HN.out, rfl⟩), rfl⟩
      · obtain rfl : k = n := by omega
        have hdl : decide ((k : Int) < (k : Int)) = false := by simp
        have HFT : Hid (DFits ls) := fun i hi => HF.out i (by rw [HLEN.out] at hi; exact hi)
        clear HF HIU HIP
        go_wp2_with fail
        go_ret
        exact ⟨_, rfl, .inr (.inr ⟨⟨HS.out, HFT.out⟩, rfl⟩), rfl⟩
  · have HS : Hid (¬ ls.length ≤ 8) := by show ¬ _ ≤ _; rw [hlen]; exact hs
    have hd8 : decide (8 < (n : Int)) = true := decide_eq_true (by omega)
    clear hs hr hlen hn
    go_enter Try.func81, Try.ntmps81
    go_wp2_with fail
    go_ret
    exact ⟨_, rfl, .inl ⟨HS.out, rfl⟩, rfl⟩

end Go.Proofs.Ytfhlokjpdkmdjaa.deb
