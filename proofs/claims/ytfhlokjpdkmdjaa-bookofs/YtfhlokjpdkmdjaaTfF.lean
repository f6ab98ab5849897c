/- What is wrong with a tariff, as the document has it. -/
import Derived.Test.YtfhlokjpdkmdjaaTfD
import Derived.Test.YtfhlokjpdkmdjaaCaIn
namespace Go.Proofs.Ytfhlokjpdkmdjaa.tar
open Go.RowKit
set_option maxRecDepth 100000
set_option linter.unusedVariables false
set_option linter.unusedSimpArgs false

set_option maxHeartbeats 2000000 in
theorem rfault (a : Option Addr) (n cap : Nat) (ls : List Du) (w : World) (hr : RowD w a n ls) (hn : n ≤ maxLen) : Calls Try.prog 54 #[.slice a n cap] w fun e w' => ErrPost w (FaultIs ls) e w' := by
  have hlen := hr.1
  have HIS : Hid (∀ W, Calls Try.prog 47 #[.int .i64 (n : Int), .int .i64 1, .int .i64 8] W fun e w' => e = .returned (.bool (decide (1 ≤ (n : Int) ∧ (n : Int) ≤ 8))) ∧ w' = W) := fun W => cal.cin n 1 8 W
  have HIU : Hid (∀ x W, Calls Try.prog 47 #[.int .i64 x, .int .i64 1, .int .i64 10000000] W fun e w' => e = .returned (.bool (decide (1 ≤ x ∧ x ≤ 10000000))) ∧ w' = W) := fun x W => cal.cin x 1 10000000 W
  have HIP : Hid (∀ x W, Calls Try.prog 47 #[.int .i64 x, .int .i64 1, .int .i64 100000] W fun e w' => e = .returned (.bool (decide (1 ≤ x ∧ x ≤ 100000))) ∧ w' = W) := fun x W => cal.cin x 1 100000 W
  by_cases hs : 1 ≤ n ∧ n ≤ 8
  · have HS : Hid (Sized ls) := by show 1 ≤ ls.length ∧ ls.length ≤ 8; rw [hlen]; exact hs
    rw [decide_eq_true (show 1 ≤ (n : Int) ∧ (n : Int) ≤ 8 by omega)] at HIS
    obtain ⟨hs1, hs2⟩ := hs
    obtain ⟨b, off, rfl, hbl, hc⟩ := hr.at hs1
    have HC : Hid (∀ i, i < n → w.cell? ⟨b, off + i * 2, none⟩ = some (.int .i64 (ls.getD i du0).a) ∧ w.cell? ⟨b, off + i * 2 + 1, none⟩ = some (.int .i64 (ls.getD i du0).b)) := hc
    have HLEN : Hid (ls.length = n) := hlen
    have hnm : n ≤ 9223372036854775807 := by omega
    clear hc hr hn hlen
    go_enter Try.func54, Try.ntmps54
    go_wp2_with fail
    refine (HIS.out _).mono ?_
    rintro e w1 ⟨rfl, hw1⟩
    subst hw1
    go_wp2_with fail
    go_loopw [3] (fun x wr => ∃ k : Nat, k ≤ n ∧ x = .int .i64 (k : Int) ∧ (∀ i, i < k → (1 ≤ (ls.getD i du0).a ∧ (ls.getD i du0).a ≤ 10000000) ∧ 1 ≤ (ls.getD i du0).b ∧ (ls.getD i du0).b ≤ 100000) ∧ wr = w1) (fun x _ => n - (intOf x).toNat)
    case atStart => exact ⟨0, Nat.zero_le _, rfl, fun i hi => absurd hi (Nat.not_lt_zero _), rfl⟩
    case round =>
      obtain ⟨k, hk, rfl, hf, hwr⟩ := hrel
      have HF : Hid (∀ i, i < k → (1 ≤ (ls.getD i du0).a ∧ (ls.getD i du0).a ≤ 10000000) ∧ 1 ≤ (ls.getD i du0).b ∧ (ls.getD i du0).b ≤ 100000) := hf
      subst wr
      clear hf
      by_cases hlt : k < n
      · have hdl : decide ((k : Int) < (n : Int)) = true := by simp; omega
        have c0 := (HC.out k hlt).1
        have c1 := (HC.out k hlt).2
        have HU := HIU.out (ls.getD k du0).a
        have HP := HIP.out (ls.getD k du0).b
        by_cases hu : 1 ≤ (ls.getD k du0).a ∧ (ls.getD k du0).a ≤ 10000000
        · rw [decide_eq_true hu] at HU
          by_cases hp : 1 ≤ (ls.getD k du0).b ∧ (ls.getD k du0).b ≤ 100000
          · rw [decide_eq_true hp] at HP
            have HF2 : Hid (∀ i, i < k + 1 → (1 ≤ (ls.getD i du0).a ∧ (ls.getD i du0).a ≤ 10000000) ∧ 1 ≤ (ls.getD i du0).b ∧ (ls.getD i du0).b ≤ 100000) := fun i hi => by
              by_cases e : i = k
              · subst e; exact ⟨hu, hp⟩
              · exact HF.out i (by omega)
            have HU2 : Hid (∀ W, Calls Try.prog 47 #[.int .i64 (ls.getD k du0).a, .int .i64 1, .int .i64 10000000] W fun e w' => e = .returned (.bool true) ∧ w' = W) := HU
            have HP2 : Hid (∀ W, Calls Try.prog 47 #[.int .i64 (ls.getD k du0).b, .int .i64 1, .int .i64 100000] W fun e w' => e = .returned (.bool true) ∧ w' = W) := HP
            clear HU HP hu hp HF
            generalize (ls.getD k du0).a = x at *
            generalize (ls.getD k du0).b = y at *
            go_wp2_with fail
            refine (HU2.out _).mono ?_
            rintro e w2 ⟨rfl, hw2⟩
            subst hw2
            go_wp2_with fail
            refine (HP2.out _).mono ?_
            rintro e w2 ⟨rfl, hw2⟩
            subst hw2
            go_wp2_with fail
            go_roundw
            case rel => exact ⟨k + 1, by omega, by go_num, HF2.out, by first | rfl | trivial⟩
            case measure => simp [intOf]; omega
          · rw [decide_eq_false hp] at HP
            have HN : Hid (¬ Fits ls) := fun h => hp (h k (by rw [HLEN.out]; exact hlt)).2
            have HU2 : Hid (∀ W, Calls Try.prog 47 #[.int .i64 (ls.getD k du0).a, .int .i64 1, .int .i64 10000000] W fun e w' => e = .returned (.bool true) ∧ w' = W) := HU
            have HP2 : Hid (∀ W, Calls Try.prog 47 #[.int .i64 (ls.getD k du0).b, .int .i64 1, .int .i64 100000] W fun e w' => e = .returned (.bool false) ∧ w' = W) := HP
            clear HU HP hu hp HF
            generalize (ls.getD k du0).a = x at *
            generalize (ls.getD k du0).b = y at *
            go_wp2_with fail
            refine (HU2.out _).mono ?_
            rintro e w2 ⟨rfl, hw2⟩
            subst hw2
            go_wp2_with fail
            refine (HP2.out _).mono ?_
            rintro e w2 ⟨rfl, hw2⟩
            subst hw2
            go_wp2_with fail
            go_ret
            exact ⟨_, rfl, .inr (.inl ⟨HS.out, HN.out, rfl⟩), Below.refl _ _⟩
        · rw [decide_eq_false hu] at HU
          have HN : Hid (¬ Fits ls) := fun h => hu (h k (by rw [HLEN.out]; exact hlt)).1
          have HU2 : Hid (∀ W, Calls Try.prog 47 #[.int .i64 (ls.getD k du0).a, .int .i64 1, .int .i64 10000000] W fun e w' => e = .returned (.bool false) ∧ w' = W) := HU
          clear HU HP hu HF
          generalize (ls.getD k du0).a = x at *
          generalize (ls.getD k du0).b = y at *
          go_wp2_with fail
          refine (HU2.out _).mono ?_
          rintro e w2 ⟨rfl, hw2⟩
          subst hw2
          go_wp2_with fail
          go_ret
          exact ⟨_, rfl, .inr (.inl ⟨HS.out, HN.out, rfl⟩), Below.refl _ _⟩
      · obtain rfl : k = n := by omega
        have hdl : decide ((k : Int) < (k : Int)) = false := by simp
        have HFT : Hid (Fits ls) := fun i hi => HF.out i (by rw [HLEN.out] at hi; exact hi)
        clear HF HIU HIP HIS
        go_wp2_with fail
        go_loopw [4] (fun x wr2 => ∃ j : Nat, 1 ≤ j ∧ j ≤ k ∧ x = .int .i64 (j : Int) ∧ (∀ i, 1 ≤ i → i < j → (ls.getD (i - 1) du0).a < (ls.getD i du0).a) ∧ Below w1.heap.size w1 wr2) (fun x _ => k - (intOf x).toNat)
        case atStart => exact ⟨1, Nat.le_refl _, hs1, rfl, fun i h1 h2 => absurd h2 (by omega), Below.refl _ _⟩
        case round =>
          obtain ⟨j, hj1, hj, rfl, hf, hb⟩ := hrel
          have HF : Hid (∀ i, 1 ≤ i → i < j → (ls.getD (i - 1) du0).a < (ls.getD i du0).a) := hf
          have HB : Hid (Below w1.heap.size w1 wr) := hb
          by_cases hlt2 : j < k
          · have hdl2 : decide ((j : Int) < (k : Int)) = true := by simp; omega
            have c0 : wr.cell? ⟨b, off + j * 2, none⟩ = some (.int .i64 (ls.getD j du0).a) := (hb.cell (p := ⟨b, off + j * 2, none⟩) hbl).trans (HC.out j hlt2).1
            have c1 : wr.cell? ⟨b, off + (j - 1) * 2, none⟩ = some (.int .i64 (ls.getD (j - 1) du0).a) := (hb.cell (p := ⟨b, off + (j - 1) * 2, none⟩) hbl).trans (HC.out (j - 1) (by omega)).1
            have hs2' : wr.drew.cell? ⟨b, off + j * 2, none⟩ = some (.int .i64 (ls.getD j du0).a) := c0
            have HBD : Hid (Below w1.heap.size w1 wr.drew) := hb.drew
            have hsub : ((j : Int) - 1) = ((j - 1 : Nat) : Int) := by omega
            have hjm : j - 1 < k := by omega
            clear hb hf
            by_cases hle : (ls.getD j du0).a ≤ (ls.getD (j - 1) du0).a
            · have hde : decide ((ls.getD j du0).a ≤ (ls.getD (j - 1) du0).a) = true := decide_eq_true hle
              have HN : Hid (¬ (Rises ls ∧ Ends ls)) := rise_not hj1 (by rw [HLEN.out]; exact hlt2) hle
              clear hle
              generalize (ls.getD j du0).a = x at *
              generalize (ls.getD (j - 1) du0).a = y at *
              generalize j - 1 = j1 at *
              go_wp2_with fail
              go_region
              all_goals go_wp2_with fail
              go_ret
              exact ⟨_, rfl, .inr (.inr (.inl ⟨HS.out, HFT.out, HN.out, rfl⟩)), HBD.out⟩
            · have hde : decide ((ls.getD j du0).a ≤ (ls.getD (j - 1) du0).a) = false := decide_eq_false hle
              have HF2 : Hid (∀ i, 1 ≤ i → i < j + 1 → (ls.getD (i - 1) du0).a < (ls.getD i du0).a) := fun i h1 h2 => by
                by_cases e : i = j
                · subst e; omega
                · exact HF.out i h1 (by omega)
              clear hle
              generalize (ls.getD j du0).a = x at *
              generalize (ls.getD (j - 1) du0).a = y at *
              generalize j - 1 = j1 at *
              go_wp2_with fail
              go_region
              all_goals go_wp2_with fail
              go_roundw
              case rel => exact ⟨j + 1, by omega, by omega, by go_num, HF2.out, HBD.out⟩
              case measure => simp [intOf]; omega
          · obtain rfl : j = k := by omega
            have hdl2 : decide ((j : Int) < (j : Int)) = false := by simp
            have HR : Hid (Rises ls) := fun i h1 h2 => HF.out i h1 (by rw [HLEN.out] at h2; exact h2)
            have c1 : wr.cell? ⟨b, off + (j - 1) * 2, none⟩ = some (.int .i64 (ls.getD (j - 1) du0).a) := (hb.cell (p := ⟨b, off + (j - 1) * 2, none⟩) hbl).trans (HC.out (j - 1) (by omega)).1
            have hsub : ((j : Int) - 1) = ((j - 1 : Nat) : Int) := by omega
            have hjm : j - 1 < j := by omega
            have HE : Hid (Ends ls ↔ (ls.getD (j - 1) du0).a = 10000000) := by show Ends ls ↔ _; unfold Ends; rw [HLEN.out]
            clear hb hf
            by_cases he : (ls.getD (j - 1) du0).a = 10000000
            · have HR2 : Hid (Right ls) := ⟨HS.out, HFT.out, HR.out, HE.out.2 he⟩
              have hne : ((ls.getD (j - 1) du0).a != 10000000) = false := by rw [he]; rfl
              clear he HE
              generalize (ls.getD (j - 1) du0).a = y at *
              generalize j - 1 = j1 at *
              go_wp2_with fail
              go_ret
              exact ⟨_, rfl, .inr (.inr (.inr ⟨HR2.out, rfl⟩)), HB.out⟩
            · have HN : Hid (¬ (Rises ls ∧ Ends ls)) := fun h => he (HE.out.1 h.2)
              have hne : ((ls.getD (j - 1) du0).a != 10000000) = true := by simpa using he
              clear he HE
              generalize (ls.getD (j - 1) du0).a = y at *
              generalize j - 1 = j1 at *
              go_wp2_with fail
              go_ret
              exact ⟨_, rfl, .inr (.inr (.inl ⟨HS.out, HFT.out, HN.out, rfl⟩)), HB.out⟩
  · have HS : Hid (¬ Sized ls) := by show ¬ (1 ≤ ls.length ∧ ls.length ≤ 8); rw [hlen]; exact hs
    rw [decide_eq_false (show ¬ (1 ≤ (n : Int) ∧ (n : Int) ≤ 8) by omega)] at HIS
    have hnm : n ≤ 9223372036854775807 := by unfold maxLen at hn; omega
    clear hs hr hlen hn
    go_enter Try.func54, Try.ntmps54
    go_wp2_with fail
    refine (HIS.out _).mono ?_
    rintro e w1 ⟨rfl, hw1⟩
    subst hw1
    go_wp2_with fail
    go_ret
    exact ⟨_, rfl, .inl ⟨HS.out, rfl⟩, Below.refl _ _⟩

end Go.Proofs.Ytfhlokjpdkmdjaa.tar
