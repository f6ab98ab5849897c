/- What cents.Sum, and the document's answer to it, give back. -/
import Derived.Test.YtegganhjlpachaaIn
import Derived.Test.YtegganhjlpachaaInts
import Derived.Test.YtegganhjlpachaaPicked
namespace Go.Proofs.Ytegganhjlpachaa.cents
open Go.RowKit

theorem sum_step (zs : List Int) (k : Nat) (hk : k < zs.length) : (zs.take (k + 1)).sum = (zs.take k).sum + zs.getD k 0 := by
  rw [List.take_add_one, List.sum_append]
  simp [List.getD, List.getElem?_eq_getElem hk]

theorem hide_sum (zs : List Int) (k : Nat) (hk : k < zs.length) : Hid ((zs.take (k + 1)).sum = (zs.take k).sum + zs.getD k 0) := sum_step zs k hk

theorem sum_bd (B : Int) (l : List Int) (h : ∀ z ∈ l, -B ≤ z ∧ z ≤ B) : -(B * l.length) ≤ l.sum ∧ l.sum ≤ B * l.length := by
  induction l with
  | nil => simp
  | cons x r ih =>
    obtain ⟨h1, h2⟩ := ih fun z hz => h z (List.mem_cons_of_mem _ hz)
    obtain ⟨h3, h4⟩ := h x (List.mem_cons_self ..)
    simp only [List.sum_cons, List.length_cons]
    have e : B * ((r.length + 1 : Nat) : Int) = B * (r.length : Int) + B := by rw [Int.natCast_add, Int.mul_add]; simp
    rw [e]
    omega

set_option maxHeartbeats 400000 in
/-- Numbers that are within their limits are added up. -/
theorem add_any (a : Option Addr) (len cap : Nat) (zs : List Int) (w : World) (hr : Row w a len zs) (hl : len ≤ 50) (hb : ∀ z ∈ zs, -1000000000000 ≤ z ∧ z ≤ 1000000000000) :
    Calls Try.prog 21 #[.slice a len cap] w fun e w' => e = .returned (.int .i64 zs.sum) ∧ w' = w := by
  obtain ⟨hz, hr⟩ := hr
  go_enter Try.func21, Try.ntmps21
  go_wp2
  go_loop [3, 8] (fun s i => ∃ k : Nat, k ≤ len ∧ i = .int .i64 k ∧ s = .int .i64 (zs.take k).sum) (fun _ i => len - (intOf i).toNat)
  case atStart => exact ⟨0, Nat.zero_le _, rfl, rfl⟩
  case round =>
    obtain ⟨k, hk, rfl, rfl⟩ := hrel
    by_cases hlt : k < len
    · rcases hr with h0 | ⟨b, off, rfl, hc⟩
      · omega
      have hcell := hc k hlt
      clear hc
      have hs := sum_bd 1000000000000 (zs.take k) fun z hz => hb z (List.mem_of_mem_take hz)
      have hlen : (zs.take k).length = k := by rw [List.length_take]; omega
      rw [hlen] at hs
      have hzb := hb (zs.getD k 0) (by simp [List.getD, List.getElem?_eq_getElem (show k < zs.length by omega)])
      have HS : Hid ((zs.take (k + 1)).sum = (zs.take k).sum + zs.getD k 0) := sum_step zs k (by omega)
      clear hlen hb
      generalize (zs.take k).sum = s at *
      generalize zs.getD k 0 = z at *
      go_wp2
      go_round
      case rel => exact ⟨k + 1, by omega, by go_num, by rw [HS.out]⟩
      case measure => simp [intOf]; omega
    · go_wp2
      go_ret
      exact ⟨ret_int (by rw [List.take_of_length_le (by omega)]), rfl⟩

/-- What P1.1 says: the sum, and the error's number. -/
def sumR (zs : List Int) : Int × Int :=
  if 50 < zs.length then (0, 1) else if okAll (-1000000000000) 1000000000000 zs = false then (0, 2) else if zs.sum < -1000000000000 ∨ 1000000000000 < zs.sum then (0, 2) else (zs.sum, 0)

theorem okAll_bd {lo hi : Int} {l : List Int} (h : okAll lo hi l = true) : ∀ z ∈ l, lo ≤ z ∧ z ≤ hi := by
  intro z hz
  have := List.all_eq_true.1 h z hz
  simpa using this

set_option maxHeartbeats 400000 in
theorem sum_any (a : Option Addr) (len cap : Nat) (zs : List Int) (w : World) (hr : Row w a len zs) (hl : len * 8 ≤ 140737488351232) :
    Calls Try.prog 9 #[.slice a len cap] w fun e w' => e = .returned (.tuple #[.int .i64 (sumR zs).1, .int .i64 (sumR zs).2]) ∧ Below w.heap.size w w' := by
  have hz := hr.1
  by_cases h50 : 50 < len
  · have e : sumR zs = (0, 1) := by unfold sumR; rw [if_pos (by omega)]
    rw [e]
    have h51 : (50 : Int) < (len : Int) := by omega
    clear e hr hz
    go_enter Try.func9, Try.ntmps9
    go_wp2
    go_ret2
    exact ⟨rfl, Below.refl _ _⟩
  · cases hok : okAll (-1000000000000) 1000000000000 zs
    · have e : sumR zs = (0, 2) := by unfold sumR; rw [if_neg (by omega), if_pos hok]
      rw [e]
      have h := within_any (-1000000000000) 1000000000000 a len cap zs w hr (by unfold maxLen; omega)
      rw [hok] at h
      have HH := h
      clear e hok hz
      go_enter Try.func9, Try.ntmps9
      go_wp2_with fail
      refine HH.mono ?_
      rintro e w' ⟨rfl, rfl⟩
      clear h HH
      go_wp2
      go_ret2
      exact ⟨rfl, Below.refl _ _⟩
    · have h := within_any (-1000000000000) 1000000000000 a len cap zs w hr (by unfold maxLen; omega)
      rw [hok] at h
      have ha := add_any a len cap zs w hr (by omega) (okAll_bd hok)
      have hbd := sum_bd 1000000000000 zs (okAll_bd hok)
      by_cases hs : zs.sum < -1000000000000 ∨ 1000000000000 < zs.sum
      · have e : sumR zs = (0, 2) := by unfold sumR; rw [if_neg (by omega), if_neg (by simp [hok]), if_pos hs]
        rw [e]
        clear e hok
        go_enter Try.func9, Try.ntmps9
        go_wp2_with fail
        refine h.mono ?_
        rintro e w' ⟨rfl, rfl⟩
        go_wp2_with fail
        refine ha.mono ?_
        rintro e w' ⟨rfl, rfl⟩
        clear h ha
        go_wp2_with fail
        refine (within_one_no _ _ _ _ _ rfl hs).mono ?_
        rintro e w' ⟨rfl, rfl⟩
        go_wp2
        go_ret2
        exact ⟨rfl, bel1 _ _⟩
      · have h1 : -1000000000000 ≤ zs.sum := by omega
        have h2 : zs.sum ≤ 1000000000000 := by omega
        have e : sumR zs = (zs.sum, 0) := by unfold sumR; rw [if_neg (by omega), if_neg (by simp [hok]), if_neg hs]
        rw [e]
        clear e hok hs
        go_enter Try.func9, Try.ntmps9
        go_wp2_with fail
        refine h.mono ?_
        rintro e w' ⟨rfl, rfl⟩
        go_wp2_with fail
        refine ha.mono ?_
        rintro e w' ⟨rfl, rfl⟩
        clear h ha
        go_wp2_with fail
        refine (within_one_yes _ _ _ _ _ rfl h1 h2).mono ?_
        rintro e w' ⟨rfl, rfl⟩
        go_wp2
        go_ret2
        exact ⟨rfl, bel1 _ _⟩

end Go.Proofs.Ytegganhjlpachaa.cents
