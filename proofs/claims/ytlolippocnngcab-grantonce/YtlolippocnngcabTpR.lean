/- Do the steps rise, in the program. -/
import Derived.Test.YtlolippocnngcabTfD
import Derived.WalkKit
import Derived.Test.YtlolippocnngcabProg
namespace Go.Proofs.Ytlolippocnngcab.tar
open Go.RowKit
set_option maxRecDepth 100000
set_option linter.unusedVariables false
set_option linter.unusedSimpArgs false

open Classical in
set_option maxHeartbeats 2000000 in
theorem prises (b off k cap : Nat) (ls : List Du) (w1 : World) (hs1 : 1 ≤ k) (hs2 : k ≤ 8) (hlen : ls.length = k) (hbl : b < w1.heap.size) (hc : ∀ i, i < k → w1.cell? ⟨b, off + i * 2, none⟩ = some (.int .i64 (ls.getD i du0).a) ∧ w1.cell? ⟨b, off + i * 2 + 1, none⟩ = some (.int .i64 (ls.getD i du0).b)) : Calls Try.prog 58 #[.slice (some ⟨b, off, none⟩) k cap] w1 fun e w' => e = .returned (.bool (decide (Rises ls))) ∧ Below w1.heap.size w1 w' := by
  have HC : Hid (∀ i, i < k → w1.cell? ⟨b, off + i * 2, none⟩ = some (.int .i64 (ls.getD i du0).a) ∧ w1.cell? ⟨b, off + i * 2 + 1, none⟩ = some (.int .i64 (ls.getD i du0).b)) := hc
  have HLEN : Hid (ls.length = k) := hlen
  have hnm : k ≤ 9223372036854775807 := by omega
  clear hc hlen
  go_enter Try.func58, Try.ntmps58
  go_wp2_with fail
  go_loopw [3] (fun x wr2 => ∃ j : Nat, 1 ≤ j ∧ j ≤ k ∧ x = .int .i64 (j : Int) ∧ (∀ i, 1 ≤ i → i < j → (ls.getD (i - 1) du0).a < (ls.getD i du0).a) ∧ Below w1.heap.size w1 wr2) (fun x _ => k - (intOf x).toNat)
  case atStart => exact ⟨1, Nat.le_refl _, hs1, rfl, fun i h1 h2 => absurd h2 (by omega), Below.refl _ _⟩
  case round =>
    obtain ⟨j, hj1, hj, rfl, hf, hb⟩ := hrel
    have HF : Hid (∀ i, 1 ≤ i → i < j → (ls.getD (i - 1) du0).a < (ls.getD i du0).a) := hf
    have HB : Hid (Below w1.heap.size w1 wr) := hb
    by_cases hlt2 : j < k
    · have hdl2 : decide ((j : Int) < (k : Int)) = true := by simp; omega
      have c0 : wr.cell? ⟨b, off + j * 2, none⟩ = some (.int .i64 (ls.getD j du0).a) := (hb.cell (p := ⟨b, off + j * 2, none⟩) hbl).trans (HC.out j hlt2).1
      have c1 : wr.cell? ⟨b, off + (j - 1) * 2, none⟩ = some (.int .i64 (ls.getD (j - 1) du0).a) := (hb.cell (p := ⟨b, off + (j - 1) * 2, none⟩) hbl).trans (HC.out (j - 1) (by omega)).1
      have hs2' : wr.drew.cell? ⟨b, off + j * 2, none⟩ = some (.int .i64 (ls.getD j du0).a) := c0
      have HBD : Hid (Below w1.heap.size w1 wr.drew) := hb.drew
      have hsub : ((j : Int) - 1) = ((j - 1 : Nat) : Int) := by omega
      have hjm : j - 1 < k := by omega
      clear hb hf
      by_cases hle : (ls.getD j du0).a ≤ (ls.getD (j - 1) du0).a
      · have hde : decide ((ls.getD j du0).a ≤ (ls.getD (j - 1) du0).a) = true := decide_eq_true hle
        have HN : Hid (decide (Rises ls) = false) := decide_eq_false fun h => by
          have := h j hj1 (by rw [HLEN.out]; exact hlt2); omega
        clear hle
        generalize (ls.getD j du0).a = x at *
        generalize (ls.getD (j - 1) du0).a = y at *
        generalize j - 1 = j1 at *
        go_wp2_with fail
        go_region
        all_goals go_wp2_with fail
        go_ret
        exact ⟨by rw [HN.out]; rfl, HBD.out⟩
      · have hde : decide ((ls.getD j du0).a ≤ (ls.getD (j - 1) du0).a) = false := decide_eq_false hle
        have HF2 : Hid (∀ i, 1 ≤ i → i < j + 1 → (ls.getD (i - 1) du0).a < (ls.getD i du0).a) := fun i h1 h2 => by
          by_cases e : i = j
          · subst e; omega
          · exact HF.out i h1 (by omega)
        clear hle
        generalize (ls.getD j du0).a = x at *
        generalize (ls.getD (j - 1) du0).a = y at *
        generalize j - 1 = j1 at *
        go_wp2_with fail
        go_region
        all_goals go_wp2_with fail
        go_roundw
        case rel => exact ⟨j + 1, by omega, by omega, by go_num, HF2.out, HBD.out⟩
        case measure => simp [intOf]; omega
    · obtain rfl : j = k := by omega
      have hdl2 : decide ((j : Int) < (j : Int)) = false := by simp
      have HR : Hid (decide (Rises ls) = true) := decide_eq_true fun i h1 h2 => HF.out i h1 (by rw [HLEN.out] at h2; exact h2)
      clear hb hf
      go_wp2_with fail
      go_ret
      exact ⟨by rw [HR.out]; rfl, HB.out⟩

end Go.Proofs.Ytlolippocnngcab.tar
