/- The first customer with a meter, as the document has it. -/
import Derived.Test.YtfhlokjpdkmdjaaBkG
import Derived.WalkKit
import Derived.Deep.DeepCutAuto
namespace Go.Proofs.Ytfhlokjpdkmdjaa.book
open Go.RowKit
set_option maxRecDepth 100000
set_option linter.unusedVariables false
set_option linter.unusedSimpArgs false

set_option maxHeartbeats 2000000 in
theorem rfound (p : Option Addr) (n cap : Nat) (l : List Cu) (me : Int) (w : World) (h : RowC w p n l) (hn : n ≤ 9223372036854775807) : Calls Try.prog 22 #[.agg #[.slice p n cap], .int .i64 me] w fun e w' => ∃ x, e = .returned (.int .i64 x) ∧ FoundIs l me x ∧ Below w.heap.size w w' := by
  have HX : Hid (Blk (w.alloc (.cells #[.slice p n cap] 45)) w.heap.size #[.slice p n cap] 45) := Blk.new w _ _
  have HB : Hid (Below w.heap.size w (w.alloc (.cells #[.slice p n cap] 45))) := (Below.refl _ _).alloc (Nat.le_refl _) _
  have HR : Hid (RowC (w.alloc (.cells #[.slice p n cap] 45)) p n l) := h.below ((Below.refl _ _).alloc (Nat.le_refl _) _)
  have HL : Hid (l.length = n) := h.1
  clear h
  go_enter Try.func22, Try.ntmps22
  go_upto_region 1 with fail
  generalize (w.alloc (.cells #[.slice p n cap] 45)) = W at *
  have k0 : W.cell? ⟨w.heap.size, 0, none⟩ = some (.slice p n cap) := HX.out.cell 0
  go_wp2_with fail
  go_loopw [5] (fun i wr => ∃ k : Nat, k ≤ n ∧ i = .int .i64 (k : Int) ∧ (∀ j, j < k → (l.getD j cu0).me ≠ me) ∧ wr = W) (fun i _ => n - (intOf i).toNat)
  case atStart => exact ⟨0, Nat.zero_le _, rfl, fun j hj => absurd hj (Nat.not_lt_zero _), rfl⟩
  case round =>
    obtain ⟨k, hk, rfl, hf, hwr⟩ := hrel
    subst hwr
    have HF : Hid (∀ j, j < k → (l.getD j cu0).me ≠ me) := hf
    clear hf
    by_cases hlt : k < n
    · obtain ⟨b, off, rfl, lb, hc⟩ := HR.out.2.resolve_left (by omega)
      have c0 : wr.cell? ⟨b, off + k * 8, none⟩ = some (.int .i64 (l.getD k cu0).me) := hc k 0 hlt (by decide)
      have HK : Hid ((l.getD k cu0).me = (l.getD k cu0).me) := rfl
      have hdl : decide ((k : Int) < (n : Int)) = true := by simp; omega
      by_cases he : (l.getD k cu0).me = me
      · have n1 : ((l.getD k cu0).me == me) = true := by simpa using he
        have HI : Hid (FoundIs l me (k : Int)) := .inl ⟨k, by rw [HL.out]; exact hlt, he, HF.out, rfl⟩
        clear hc HF HK he
        generalize (l.getD k cu0).me = z at *
        go_wp2_with fail
        go_ret
        exact ⟨_, rfl, HI.out, HB.out⟩
      · have n1 : ((l.getD k cu0).me == me) = false := by simpa using he
        have HF2 : Hid (∀ j, j < k + 1 → (l.getD j cu0).me ≠ me) := fun j hj => by
          by_cases e : j = k
          · subst e; exact he
          · exact HF.out j (by omega)
        clear hc HF HK he
        generalize (l.getD k cu0).me = z at *
        go_wp2_with fail
        go_roundw
        case rel => exact ⟨k + 1, by omega, by go_num, HF2.out, by first | rfl | trivial⟩
        case measure => simp [intOf]; omega
    · obtain rfl : k = n := by omega
      have hdl : decide ((k : Int) < (k : Int)) = false := by simp
      have HI : Hid (FoundIs l me (-1)) := .inr ⟨fun j hj => HF.out j (by rw [HL.out] at hj; exact hj), rfl⟩
      clear HF
      go_wp2_with fail
      go_ret
      exact ⟨_, rfl, HI.out, HB.out⟩

end Go.Proofs.Ytfhlokjpdkmdjaa.book
