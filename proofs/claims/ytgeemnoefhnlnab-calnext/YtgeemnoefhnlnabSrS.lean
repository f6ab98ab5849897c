/- sort.Search, over any function that is told by its answers. -/
import Derived.WalkKit
import Derived.Below
import Derived.Test.YtgeemnoefhnlnabProg
namespace Go.Proofs.Ytgeemnoefhnlnab.srt
open Go.RowKit
set_option maxRecDepth 100000
set_option linter.unusedVariables false
set_option linter.unusedSimpArgs false

/-- Where the search ends. -/
def At (p : Nat → Bool) (n k : Nat) : Prop := k ≤ n ∧ (k = 0 ∨ p (k - 1) = false) ∧ (k = n ∨ p k = true)
def SPost (I : World → Prop) (p : Nat → Bool) (n : Nat) (e : Ending) (w' : World) : Prop := ∃ k : Nat, At p n k ∧ e = .returned (.int .i64 (k : Int)) ∧ I w'
set_option maxHeartbeats 1000000 in
theorem search_any (K : Nat) (caps : Array Value) (I : World → Prop) (p : Nat → Bool) (n : Nat) (hn : n ≤ 4000000000000) (w : World) (hI : I w) (hK : ∀ args w, (callFunc K args).run Try.prog w = .ok (.enter K args) w)
    (hf : ∀ (i : Nat) W, i < n → I W → Calls Try.prog K (#[.int .i64 (i : Int)] ++ caps) W fun e w' => e = .returned (.bool (p i)) ∧ I w') :
    Calls Try.prog 15 #[.int .i64 (n : Int), .func (.func K) #[] caps] w fun e w' => SPost I p n e w' := by
  have HF : Hid (∀ (i : Nat) W, i < n → I W → Calls Try.prog K (#[.int .i64 (i : Int)] ++ caps) W fun e w' => e = .returned (.bool (p i)) ∧ I w') := hf
  have HI : Hid (I w) := hI
  clear hf hI
  go_enter Try.func15, Try.ntmps15
  go_wp2_with fail
  go_loopw [5, 6] (fun u v wr => ∃ i j : Nat, i ≤ j ∧ j ≤ n ∧ u = .int .i64 (i : Int) ∧ v = .int .i64 (j : Int) ∧ (i = 0 ∨ p (i - 1) = false) ∧ (j = n ∨ p j = true) ∧ I wr) (fun u v _ => (intOf v).toNat - (intOf u).toNat)
  case atStart => exact ⟨0, n, Nat.zero_le _, Nat.le_refl _, rfl, rfl, .inl rfl, .inl rfl, HI.out⟩
  case round =>
    obtain ⟨i, j, hij, hj, rfl, rfl, hi1, hj1, hw⟩ := hrel
    have H1 : Hid (i = 0 ∨ p (i - 1) = false) := hi1
    have H2 : Hid (j = n ∨ p j = true) := hj1
    have HW : Hid (I wr) := hw
    clear hi1 hj1 hw
    by_cases hlt : i < j
    · have hdl : decide ((i : Int) < (j : Int)) = true := by simp; omega
      have hm1 : i ≤ (i + j) / 2 := by omega
      have hm2 : (i + j) / 2 < j := by omega
      have hs : ((i : Int) + (j : Int)) / 2 = (((i + j) / 2 : Nat) : Int) := by omega
      have hu : IntKind.u64.wrap ((i : Int) + (j : Int)) = (i : Int) + (j : Int) := by simp [IntKind.wrap, IntKind.bits, IntKind.signed]; omega
      generalize (i + j) / 2 = m at *
      have HM := HF.out m wr (by omega) HW.out
      cases hp : p m with
      | true =>
        rw [hp] at HM
        have HP : Hid (p m = true) := hp
        have HMH : Hid (Calls Try.prog K (#[.int .i64 (m : Int)] ++ caps) wr fun e w' => e = .returned (.bool true) ∧ I w') := HM
        clear hp HM
        go_wp2_with fail
        refine HMH.out.mono ?_
        rintro e w1 ⟨rfl, hw1⟩
        have HW1 : Hid (I w1) := hw1
        clear hw1
        go_wp2_with fail
        go_roundw
        case rel => exact ⟨i, m, hm1, by omega, rfl, rfl, H1.out, .inr HP.out, HW1.out⟩
        case measure => simp only [intOf]; omega
      | false =>
        rw [hp] at HM
        have HP : Hid (p m = false) := hp
        have HMH : Hid (Calls Try.prog K (#[.int .i64 (m : Int)] ++ caps) wr fun e w' => e = .returned (.bool false) ∧ I w') := HM
        clear hp HM
        go_wp2_with fail
        refine HMH.out.mono ?_
        rintro e w1 ⟨rfl, hw1⟩
        have HW1 : Hid (I w1) := hw1
        clear hw1
        go_wp2_with fail
        go_roundw
        case rel => exact ⟨m + 1, j, by omega, hj, by go_num, rfl, .inr (by rw [Nat.add_sub_cancel]; exact HP.out), H2.out, HW1.out⟩
        case measure => simp only [intOf]; omega
    · obtain rfl : i = j := by omega
      have hdl : decide ((i : Int) < (i : Int)) = false := by simp
      go_wp2_with fail
      go_ret
      exact ⟨i, ⟨hj, H1.out, H2.out⟩, rfl, HW.out⟩

end Go.Proofs.Ytgeemnoefhnlnab.srt
