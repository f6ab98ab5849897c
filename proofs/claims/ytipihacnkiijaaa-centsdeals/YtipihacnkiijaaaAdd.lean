/- Numbers that are within their limits are added up. -/
import Derived.Test.YtipihacnkiijaaaInts
import Derived.Test.YtipihacnkiijaaaPicked
namespace Go.Proofs.Ytipihacnkiijaaa.cents
open Go.RowKit

theorem sum_step (zs : List Int) (k : Nat) (hk : k < zs.length) : (zs.take (k + 1)).sum = (zs.take k).sum + zs.getD k 0 := by
  rw [List.take_add_one, List.sum_append]
  simp [List.getD, List.getElem?_eq_getElem hk]

theorem hide_sum (zs : List Int) (k : Nat) (hk : k < zs.length) : Hid ((zs.take (k + 1)).sum = (zs.take k).sum + zs.getD k 0) := sum_step zs k hk

theorem sum_bd (B : Int) (l : List Int) (h : ∀ z ∈ l, -B ≤ z ∧ z ≤ B) : -(B * l.length) ≤ l.sum ∧ l.sum ≤ B * l.length := by
  induction l with
  | nil => simp
  | cons x r ih =>
    obtain ⟨h1, h2⟩ := ih fun z hz => h z (List.mem_cons_of_mem _ hz)
    obtain ⟨h3, h4⟩ := h x (List.mem_cons_self ..)
    simp only [List.sum_cons, List.length_cons]
    have e : B * ((r.length + 1 : Nat) : Int) = B * (r.length : Int) + B := by rw [Int.natCast_add, Int.mul_add]; simp
    rw [e]
    omega

set_option maxHeartbeats 400000 in
/-- Numbers that are within their limits are added up. -/
theorem add_any (a : Option Addr) (len cap : Nat) (zs : List Int) (w : World) (hr : Row w a len zs) (hl : len ≤ 50) (hb : ∀ z ∈ zs, -1000000000000 ≤ z ∧ z ≤ 1000000000000) :
    Calls Try.prog 20 #[.slice a len cap] w fun e w' => e = .returned (.int .i64 zs.sum) ∧ w' = w := by
  obtain ⟨hz, hr⟩ := hr
  go_enter Try.func20, Try.ntmps20
  go_wp2
  go_loop [3, 8] (fun s i => ∃ k : Nat, k ≤ len ∧ i = .int .i64 k ∧ s = .int .i64 (zs.take k).sum) (fun _ i => len - (intOf i).toNat)
  case atStart => exact ⟨0, Nat.zero_le _, rfl, rfl⟩
  case round =>
    obtain ⟨k, hk, rfl, rfl⟩ := hrel
    by_cases hlt : k < len
    · rcases hr with h0 | ⟨b, off, rfl, hc⟩
      · omega
      have hcell := hc k hlt
      clear hc
      have hs := sum_bd 1000000000000 (zs.take k) fun z hz => hb z (List.mem_of_mem_take hz)
      have hlen : (zs.take k).length = k := by rw [List.length_take]; omega
      rw [hlen] at hs
      have hzb := hb (zs.getD k 0) (by simp [List.getD, List.getElem?_eq_getElem (show k < zs.length by omega)])
      have HS : Hid ((zs.take (k + 1)).sum = (zs.take k).sum + zs.getD k 0) := sum_step zs k (by omega)
      clear hlen hb
      generalize (zs.take k).sum = s at *
      generalize zs.getD k 0 = z at *
      go_wp2
      go_round
      case rel => exact ⟨k + 1, by omega, by go_num, by rw [HS.out]⟩
      case measure => simp [intOf]; omega
    · go_wp2
      go_ret
      exact ⟨ret_int (by rw [List.take_of_length_le (by omega)]), rfl⟩

theorem okAll_bd {lo hi : Int} {l : List Int} (h : okAll lo hi l = true) : ∀ z ∈ l, lo ≤ z ∧ z ≤ hi := by
  intro z hz
  have := List.all_eq_true.1 h z hz
  simpa using this

end Go.Proofs.Ytipihacnkiijaaa.cents
