/- What is owed in all, as the document has it. -/
import Derived.Test.YtodnlecccgiogaaDbFa
namespace Go.Proofs.Ytodnlecccgiogaa.deb
open Go.Proofs.Ytodnlecccgiogaa.tar (Du du0 Came RowD Ld ErrPost TwoPost PairT GaveD)
open Go.RowKit
set_option maxRecDepth 100000
set_option linter.unusedVariables false
set_option linter.unusedSimpArgs false

set_option maxHeartbeats 2000000 in
theorem rowed (a : Option Addr) (len cap : Nat) (ls : List Du) (w : World) (hr : RowD w a len ls) (hl : len ≤ maxLen) : Calls Try.prog 11 #[.slice a len cap] w fun e w' => ∃ x f, e = .returned (.tuple #[.int .i64 x, .int .i64 f]) ∧ OwedIs ls x f ∧ w' = w := by
  have HFA : Hid (Calls Try.prog 25 #[.slice a len cap] w fun e w' => ∃ f, e = .returned (.int .i64 f) ∧ FaultIs ls f ∧ w' = w) := rfault a len cap ls w hr hl
  have hlen := hr.1
  go_enter Try.func11, Try.ntmps11
  go_wp2_with fail
  refine HFA.out.mono ?_
  rintro e w1 ⟨f, rfl, hf, hw1⟩
  subst hw1
  have HF : Hid (FaultIs ls f) := hf
  by_cases h0 : f = 0
  · subst h0
    have hm := hf.ok.1 rfl
    have HM : Hid (Mays ls) := hm
    have HLEN : Hid (ls.length = len) := hlen
    have hl8 : len ≤ 8 := by have := hm.1; omega
    have HROW : Hid (RowD w1 a len ls) := hr
    clear hf hm hr hl HFA hlen
    go_wp2_with fail
    go_loopw [5, 6] (fun v x wr => ∃ k : Nat, k ≤ len ∧ x = .int .i64 (k : Int) ∧ v = .int .i64 (sumK ls k) ∧ wr = w1) (fun _ x _ => len - (intOf x).toNat)
    case atStart => exact ⟨0, Nat.zero_le _, rfl, rfl, rfl⟩
    case round =>
      obtain ⟨k, hk, rfl, rfl, hwr⟩ := hrel
      subst wr
      have hsb := sumK_bd HM.out k (by rw [HLEN.out]; exact hk)
      by_cases hlt : k < len
      · have hdl : decide ((k : Int) < (len : Int)) = true := by simp; omega
        obtain ⟨b, off, rfl, hbl, hc⟩ := HROW.out.at (by omega)
        have c0 := (hc k hlt).1
        have ho := (HM.out.2 k (by rw [HLEN.out]; exact hlt)).1
        have HN : Hid (sumK ls k + (ls.getD k du0).a = sumK ls (k + 1)) := (sumK_next ls k).symm
        clear hc
        generalize sumK ls k = s at *
        generalize (ls.getD k du0).a = x at *
        go_wp2_with fail
        go_roundw
        case rel => exact ⟨k + 1, by omega, by go_num, by rw [← HN.out], by first | rfl | trivial⟩
        case measure => simp [intOf]; omega
      · obtain rfl : k = len := by omega
        have hdl : decide ((k : Int) < (k : Int)) = false := by simp
        have HV : Hid (sumK ls k = sumD ls) := by have := sumK_all ls; rw [HLEN.out] at this; exact this
        generalize sumK ls k = s at *
        go_wp2_with fail
        go_ret2
        exact ⟨_, _, rfl, ⟨HF.out, .inl ⟨rfl, HV.out⟩⟩, rfl⟩
  · have hne : (f != 0) = true := by simpa using h0
    have HN : Hid (f ≠ 0) := h0
    clear hf h0 hr hl HFA
    go_wp2_with fail
    go_ret2
    exact ⟨_, _, rfl, ⟨HF.out, .inr ⟨HN.out, rfl⟩⟩, rfl⟩

end Go.Proofs.Ytodnlecccgiogaa.deb
