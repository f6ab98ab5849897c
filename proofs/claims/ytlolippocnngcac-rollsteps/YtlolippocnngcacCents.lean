/- What the small functions of package cents, and of the document's answer to it, give back: one contract a function. -/
import Derived.Test.YtlolippocnngcacProg
import Derived.WalkKit
import Derived.Below
namespace Go.Proofs.Ytlolippocnngcac.cents
open Go.RowKit

/-- The slice a, len, cap reads as the numbers zs: its elements alone. -/
def Row (w : World) (a : Option Addr) (len : Nat) (zs : List Int) : Prop :=
  zs.length = len ∧ (len = 0 ∨ ∃ b off, a = some ⟨b, off, none⟩ ∧ ∀ i, i < len → w.cell? ⟨b, off + i, none⟩ = some (.int .i64 (zs.getD i 0)))

def okAll (lo hi : Int) (l : List Int) : Bool := l.all fun n => decide (lo ≤ n) && decide (n ≤ hi)

theorem okAll_step (lo hi : Int) (zs : List Int) (k : Nat) (hk : k < zs.length) (h : okAll lo hi (zs.take k) = true) (h1 : lo ≤ zs.getD k 0) (h2 : zs.getD k 0 ≤ hi) : okAll lo hi (zs.take (k + 1)) = true := by
  unfold okAll at *
  rw [List.take_add_one, List.all_append, h]
  simp only [List.getD, List.getElem?_eq_getElem hk, Option.getD] at h1 h2 ⊢
  simp [h1, h2]

theorem okAll_no (lo hi : Int) (zs : List Int) (k : Nat) (hk : k < zs.length) (h : zs.getD k 0 < lo ∨ hi < zs.getD k 0) : okAll lo hi zs = false := by
  unfold okAll
  rw [List.all_eq_false]
  refine ⟨zs[k], List.getElem_mem hk, ?_⟩
  simp only [List.getD, List.getElem?_eq_getElem hk, Option.getD] at h
  simp; omega

theorem ret_bool {a b : Bool} (h : a = b) : Ending.returned (.bool a) = .returned (.bool b) := by rw [h]

set_option maxHeartbeats 400000 in
theorem within_any (lo hi : Int) (a : Option Addr) (len cap : Nat) (zs : List Int) (w : World) (hr : Row w a len zs) (hl : len ≤ maxLen) :
    Calls Try.prog 22 #[.int .i64 lo, .int .i64 hi, .slice a len cap] w fun e w' => e = .returned (.bool (okAll lo hi zs)) ∧ w' = w := by
  unfold maxLen at hl
  obtain ⟨hz, hr⟩ := hr
  go_enter Try.func22, Try.ntmps22
  go_wp2
  go_loop [11] (fun i => ∃ k : Nat, k ≤ len ∧ i = .int .i64 k ∧ okAll lo hi (zs.take k) = true) (fun i => len - (intOf i).toNat)
  case atStart => exact ⟨0, Nat.zero_le _, rfl, rfl⟩
  case round =>
    obtain ⟨k, hk, rfl, hok⟩ := hrel
    have HK : Hid (okAll lo hi (zs.take k) = true) := hok
    clear hok
    by_cases hlt : k < len
    · rcases hr with h0 | ⟨b, off, rfl, hc⟩
      · omega
      have hcell := hc k hlt
      clear hc
      generalize hzk : zs.getD k 0 = z at hcell
      have HZ : Hid (zs.getD k 0 = z) := hzk
      clear hzk
      by_cases h1 : z < lo
      · go_wp2
        go_ret
        exact ⟨ret_bool (okAll_no lo hi zs k (by omega) (.inl (by rw [HZ.out]; exact h1))).symm, rfl⟩
      · by_cases h2 : hi < z
        · go_wp2
          go_ret
          exact ⟨ret_bool (okAll_no lo hi zs k (by omega) (.inr (by rw [HZ.out]; exact h2))).symm, rfl⟩
        · go_wp2
          go_round
          case rel => exact ⟨k + 1, by omega, by go_num, okAll_step lo hi zs k (by omega) HK.out (by rw [HZ.out]; omega) (by rw [HZ.out]; omega)⟩
          case measure => simp [intOf]; omega
    · go_wp2
      go_ret
      refine ⟨ret_bool ?_, rfl⟩
      have := HK.out
      rw [List.take_of_length_le (by omega)] at this
      exact this.symm

end Go.Proofs.Ytlolippocnngcac.cents
