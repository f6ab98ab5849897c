/- What is owed in all, in the program. -/
import Derived.Test.YtlolippocnngcacDbD
import Derived.WalkKit
import Derived.Below
import Derived.Test.YtlolippocnngcacProg
namespace Go.Proofs.Ytlolippocnngcac.deb
open Go.Proofs.Ytlolippocnngcac.tar (Du du0 Came RowD Ld ErrPost TwoPost PairT GaveD)
open Go.RowKit
set_option maxRecDepth 100000
set_option linter.unusedVariables false
set_option linter.unusedSimpArgs false

set_option maxHeartbeats 2000000 in
theorem powed (a : Option Addr) (len cap : Nat) (ls : List Du) (w : World) (hr : RowD w a len ls) (hm : Mays ls) : Calls Try.prog 20 #[.slice a len cap] w fun e w' => e = .returned (.int .i64 (sumD ls)) ∧ Below w.heap.size w w' := by
  have HLEN : Hid (ls.length = len) := hr.1
  have HM : Hid (Mays ls) := hm
  have hl8 : len ≤ 8 := by have := hm.1; have := hr.1; omega
  have HROW : Hid (RowD w a len ls) := hr
  clear hm hr
  go_enter Try.func20, Try.ntmps20
  go_wp2_with fail
  go_loopw [3, 8] (fun v x wr => ∃ k : Nat, k ≤ len ∧ x = .int .i64 (k : Int) ∧ v = .int .i64 (sumK ls k) ∧ Below w.heap.size w wr) (fun _ x _ => len - (intOf x).toNat)
  case atStart => exact ⟨0, Nat.zero_le _, rfl, rfl, Below.refl _ _⟩
  case round =>
    obtain ⟨k, hk, rfl, rfl, hb⟩ := hrel
    have hsb := sumK_bd HM.out k (by rw [HLEN.out]; exact hk)
    have HB : Hid (Below w.heap.size w wr) := hb
    by_cases hlt : k < len
    · have hdl : decide ((k : Int) < (len : Int)) = true := by simp; omega
      obtain ⟨b, off, rfl, hbl, hc⟩ := HROW.out.at (by omega)
      have c0 : wr.cell? ⟨b, off + k * 2, none⟩ = some (.int .i64 (ls.getD k du0).a) := (hb.cell (p := ⟨b, off + k * 2, none⟩) hbl).trans (hc k hlt).1
      have c1 : wr.cell? ⟨b, off + k * 2 + 1, none⟩ = some (.int .i64 (ls.getD k du0).b) := (hb.cell (p := ⟨b, off + k * 2 + 1, none⟩) hbl).trans (hc k hlt).2
      have HBA : Hid (∀ o, Below w.heap.size w (wr.alloc o)) := fun o => hb.alloc hb.size o
      have ho := (HM.out.2 k (by rw [HLEN.out]; exact hlt)).1
      have HN : Hid (sumK ls k + (ls.getD k du0).a = sumK ls (k + 1)) := (sumK_next ls k).symm
      clear hc hb
      generalize sumK ls k = s at *
      generalize (ls.getD k du0).a = x at *
      generalize (ls.getD k du0).b = y at *
      go_wp2_with fail
      go_roundw
      case rel => exact ⟨k + 1, by omega, by go_num, by rw [← HN.out], HBA.out _⟩
      case measure => simp [intOf]; omega
    · obtain rfl : k = len := by omega
      have hdl : decide ((k : Int) < (k : Int)) = false := by simp
      have HV : Hid (sumK ls k = sumD ls) := by have := sumK_all ls; rw [HLEN.out] at this; exact this
      generalize sumK ls k = s at *
      clear hb
      go_wp2_with fail
      go_ret
      exact ⟨congrArg (fun z => Ending.returned (Value.int .i64 z)) HV.out, HB.out⟩

end Go.Proofs.Ytlolippocnngcac.deb
