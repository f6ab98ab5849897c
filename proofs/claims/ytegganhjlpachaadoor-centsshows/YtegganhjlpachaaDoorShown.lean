/- What the document's answer to Show gives back. -/
import Derived.Test.YtegganhjlpachaaDoorDec
namespace Go.Proofs.YtegganhjlpachaaDoor.cents
open Go.RowKit

set_option maxHeartbeats 400000 in
theorem shown_pos (n : Int) (w : World) (h0 : 0 ≤ n) (h1 : n ≤ 1000000000000) :
    Calls Tryd.prog 5 #[.int .i64 n] w fun e w' => e = .returned (.tuple #[.string ⟨(showP n).toArray⟩, .int .i64 0]) ∧ Below w.heap.size w w' := by
  have hl1 := dec_len (n / 100).toNat (by omega)
  have hl2 := dec_len (n / 10 % 10).toNat (by omega)
  have hl3 := dec_len (n % 10).toNat (by omega)
  have hq : -1000000000000 ≤ n := by omega
  go_enter Tryd.func5, Tryd.ntmps5
  go_wp2_with fail
  refine (in_yes _ _ _ _ hq h1).mono ?_
  rintro e w' ⟨rfl, rfl⟩
  go_wp2_with fail
  refine (dec_any (n / 100).toNat (n / 100) _ (by omega) (by omega) (by omega)).mono ?_
  rintro e w1 ⟨rfl, hb1⟩
  go_wp2_with fail
  refine (dec_any 9 (n / 10 % 10) _ (by omega) (by omega) (by omega)).mono ?_
  rintro e w2 ⟨rfl, hb2⟩
  go_wp2_with fail
  refine (dec_any 9 (n % 10) _ (by omega) (by omega) (by omega)).mono ?_
  rintro e w3 ⟨rfl, hb3⟩
  have hb := (hb1.trans (hb2.mono hb1.size)).trans (hb3.mono (hb1.trans (hb2.mono hb1.size)).size)
  clear hb1 hb2 hb3
  go_wp2_with fail
  go_ret2
  refine ⟨ret_str ?_, hb⟩
  apply ByteArray.ext
  simp [showP]

set_option maxHeartbeats 400000 in
theorem shown_any (n : Int) (w : World) (h0 : -1000000000000 ≤ n) (h1 : n ≤ 1000000000000) :
    Calls Tryd.prog 5 #[.int .i64 n] w fun e w' => e = .returned (.tuple #[.string ⟨(showT n).toArray⟩, .int .i64 0]) ∧ Below w.heap.size w w' := by
  by_cases hn : n < 0
  · have hs : showT n = 45 :: showP (-n) := by unfold showT; rw [if_pos hn]
    rw [hs]
    have hl : (showP (-n)).length ≤ 100 := by
      have hl1 := dec_len (-n / 100).toNat (by omega)
      have hl2 := dec_len (-n / 10 % 10).toNat (by omega)
      have hl3 := dec_len (-n % 10).toNat (by omega)
      simp [showP]; omega
    clear hs
    have hsp := fun w => shown_pos (-n) w (by omega) (by omega)
    have HS : Hid (∀ w, Calls Tryd.prog 5 #[.int .i64 (-n)] w fun e w' => e = .returned (.tuple #[.string ⟨(showP (-n)).toArray⟩, .int .i64 0]) ∧ Below w.heap.size w w') := hsp
    clear hsp
    go_enter Tryd.func5, Tryd.ntmps5
    go_wp2_with fail
    refine (in_yes _ _ _ _ h0 h1).mono ?_
    rintro e w' ⟨rfl, rfl⟩
    go_wp2_with fail
    refine (HS.out _).mono ?_
    rintro e w1 ⟨rfl, hb1⟩
    go_wp2_with fail
    go_ret2
    refine ⟨ret_str ?_, hb1⟩
    apply ByteArray.ext
    simp
  · have hs : showT n = showP n := by unfold showT; rw [if_neg hn]
    rw [hs]
    exact shown_pos n w (by omega) h1

set_option maxHeartbeats 400000 in
theorem shown_no (n : Int) (w : World) (h : n < -1000000000000 ∨ 1000000000000 < n) :
    Calls Tryd.prog 5 #[.int .i64 n] w fun e w' => e = .returned (.tuple #[.string ⟨#[]⟩, .int .i64 2]) ∧ Below w.heap.size w w' := by
  go_enter Tryd.func5, Tryd.ntmps5
  go_wp2_with fail
  refine (in_no _ _ _ _ h).mono ?_
  rintro e w' ⟨rfl, rfl⟩
  clear h
  go_wp2_with fail
  go_ret2
  exact ⟨rfl, Below.refl _ _⟩

end Go.Proofs.YtegganhjlpachaaDoor.cents
