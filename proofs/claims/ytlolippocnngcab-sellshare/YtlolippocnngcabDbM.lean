/- sumOf: what is owed in all. -/
import Derived.Test.YtlolippocnngcabDbD
import Derived.Test.YtlolippocnngcabProg
import Derived.WalkKit
namespace Go.Proofs.Ytlolippocnngcab.deb
open Go.Proofs.Ytlolippocnngcab.tar (Du du0 Came RowD Ld TwoPost PairT)
open Go.RowKit
set_option maxRecDepth 100000
set_option linter.unusedVariables false
set_option linter.unusedSimpArgs false

set_option maxHeartbeats 1000000 in
theorem sumof (a : Option Addr) (len cap : Nat) (ls : List Du) (w : World) (hr : RowD w a len ls) (hm : Mays ls) : Calls Try.prog 22 #[.slice a len cap] w fun e w' => e = .returned (.int .i64 (sumD ls)) ∧ w' = w := by
  have hlen := hr.1
  have HM : Hid (Mays ls) := hm
  have HLEN : Hid (ls.length = len) := hlen
  have hl8 : len ≤ 8 := by have := hm.1; omega
  have HROW : Hid (RowD w a len ls) := hr
  clear hm hr hlen
  go_enter Try.func22, Try.ntmps22
  go_wp2_with fail
  go_loopw [3, 4] (fun v x wr => ∃ k : Nat, k ≤ len ∧ x = .int .i64 (k : Int) ∧ v = .int .i64 (sumK ls k) ∧ wr = w) (fun _ x _ => len - (intOf x).toNat)
  case atStart => exact ⟨0, Nat.zero_le _, rfl, rfl, rfl⟩
  case round =>
    obtain ⟨k, hk, rfl, rfl, hwr⟩ := hrel
    subst wr
    have hsb := sumK_bd HM.out k (by rw [HLEN.out]; exact hk)
    by_cases hlt : k < len
    · have hdl : decide ((k : Int) < (len : Int)) = true := by simp; omega
      obtain ⟨b, off, rfl, hbl, hc⟩ := HROW.out.at (by omega)
      have c0 := (hc k hlt).1
      have ho := (HM.out.2 k (by rw [HLEN.out]; exact hlt)).1
      have HN : Hid (sumK ls k + (ls.getD k du0).a = sumK ls (k + 1)) := (sumK_next ls k).symm
      clear hc
      generalize sumK ls k = s at *
      generalize (ls.getD k du0).a = x at *
      go_wp2_with fail
      go_roundw
      case rel => exact ⟨k + 1, by omega, by go_num, by rw [← HN.out], by first | rfl | trivial⟩
      case measure => simp [intOf]; omega
    · obtain rfl : k = len := by omega
      have hdl : decide ((k : Int) < (k : Int)) = false := by simp
      have HV : Hid (sumK ls k = sumD ls) := by have := sumK_all ls; rw [HLEN.out] at this; exact this
      generalize sumK ls k = s at *
      go_wp2_with fail
      go_ret
      exact ⟨by rw [← HV.out]; rfl, rfl⟩

end Go.Proofs.Ytlolippocnngcab.deb
