/- What cents.Show gives back. -/
import Derived.Test.YtegganhjlpachaaDoorShowT
import Derived.Test.YtegganhjlpachaaDoorShelf
import Derived.Lib.AppendIntMem
namespace Go.Proofs.YtegganhjlpachaaDoor.cents
open Go.RowKit

abbrev Tab (w : World) : Prop := Lib.TabIs Tryd.prog w "internal/strconv.uint64pow10" .u64 Lib.pow10Tab

theorem tab_below {w w' : World} (h : Tab w) (hb : Below w.heap.size w w') : Tab w' := Lib.tabBelow_of_tabIs h w' hb

theorem itoa_pos {n : Int} (h : 0 ≤ n) : Lib.itoa n = Lib.decDigits n.toNat := by unfold Lib.itoa; rw [if_neg (by omega)]

theorem itoa_big (n : Int) (w : World) (h0 : 0 ≤ n) (h1 : n ≤ 1000000000000) (ht : Tab w) :
    Calls Tryd.prog 7 #[.int .i64 n] w fun e w' => e = .returned (.string ⟨(Lib.decDigits n.toNat).toArray⟩) ∧ Below w.heap.size w w' := by
  refine (Tryd.strconv_Itoa n (by omega) (by omega) w ht).mono ?_
  rintro e w' ⟨rfl, k, os, rfl⟩
  rw [itoa_pos h0]
  exact ⟨rfl, Lib.below_grow _ _ (Nat.le_refl _) _ _⟩

theorem itoa_small (n : Int) (w : World) (h0 : 0 ≤ n) (h1 : n < 100) :
    Calls Tryd.prog 7 #[.int .i64 n] w fun e w' => e = .returned (.string ⟨(Lib.decDigits n.toNat).toArray⟩) ∧ w' = w := by
  obtain ⟨i, rfl⟩ := Int.eq_ofNat_of_zero_le h0
  exact Tryd.strconv_Itoa_small i (by omega) w

set_option maxHeartbeats 400000 in
theorem show_pos (n : Int) (w : World) (h0 : 0 ≤ n) (h1 : n ≤ 1000000000000) (ht : Tab w) :
    Calls Tryd.prog 4 #[.int .i64 n] w fun e w' => e = .returned (.tuple #[.string ⟨(showP n).toArray⟩, .int .i64 0]) ∧ Below w.heap.size w w' := by
  have hl1 := dec_len (n / 100).toNat (by omega)
  have hl2 := dec_len (n / 10 % 10).toNat (by omega)
  have hl3 := dec_len (n % 10).toNat (by omega)
  have hq : -1000000000000 ≤ n := by omega
  have HT : Hid (Tab w) := ht
  clear ht
  go_enter Tryd.func4, Tryd.ntmps4
  go_wp2_with fail
  refine (within_one_yes _ _ _ _ _ rfl hq h1).mono ?_
  rintro e w' ⟨rfl, rfl⟩
  go_wp2_with fail
  refine (itoa_big (n / 100) _ (by omega) (by omega) (Lib.tabIs_alloc HT.out _)).mono ?_
  rintro e w1 ⟨rfl, hb1⟩
  have hb : Below w.heap.size w w1 := (bel1 w _).trans (hb1.mono (by simp))
  clear hb1
  go_wp2_with fail
  refine (itoa_small (n / 10 % 10) _ (by omega) (by omega)).mono ?_
  rintro e w2 ⟨rfl, rfl⟩
  go_wp2_with fail
  refine (itoa_small (n % 10) _ (by omega) (by omega)).mono ?_
  rintro e w3 ⟨rfl, rfl⟩
  go_wp2_with fail
  go_ret2
  refine ⟨ret_str ?_, hb⟩
  apply ByteArray.ext
  simp [showP]

set_option maxHeartbeats 400000 in
theorem show_neg (m : Int) (w : World) (hm : 0 < m) (h1 : m ≤ 1000000000000) (ht : Tab w) :
    Calls Tryd.prog 4 #[.int .i64 (-m)] w fun e w' => e = .returned (.tuple #[.string ⟨(45 :: showP m).toArray⟩, .int .i64 0]) ∧ Below w.heap.size w w' := by
  have hl1 := dec_len (m / 100).toNat (by omega)
  have hl2 := dec_len (m / 10 % 10).toNat (by omega)
  have hl3 := dec_len (m % 10).toNat (by omega)
  have h0 : -1000000000000 ≤ -m := by omega
  have h2 : -m ≤ 1000000000000 := by omega
  have h3 : -m < 0 := by omega
  have HT : Hid (Tab w) := ht
  clear ht
  go_enter Tryd.func4, Tryd.ntmps4
  go_wp2_with fail
  refine (within_one_yes _ _ _ _ _ rfl h0 h2).mono ?_
  rintro e w' ⟨rfl, rfl⟩
  go_wp2_with fail
  refine (itoa_big (m / 100) _ (by omega) (by omega) (Lib.tabIs_alloc HT.out _)).mono ?_
  rintro e w1 ⟨rfl, hb1⟩
  have hb : Below w.heap.size w w1 := (bel1 w _).trans (hb1.mono (by simp))
  clear hb1
  go_wp2_with fail
  refine (itoa_small (m / 10 % 10) _ (by omega) (by omega)).mono ?_
  rintro e w2 ⟨rfl, rfl⟩
  go_wp2_with fail
  refine (itoa_small (m % 10) _ (by omega) (by omega)).mono ?_
  rintro e w3 ⟨rfl, rfl⟩
  go_wp2_with fail
  go_ret2
  refine ⟨ret_str ?_, hb⟩
  apply ByteArray.ext
  simp [showP]

theorem show_any (n : Int) (w : World) (h0 : -1000000000000 ≤ n) (h1 : n ≤ 1000000000000) (ht : Tab w) :
    Calls Tryd.prog 4 #[.int .i64 n] w fun e w' => e = .returned (.tuple #[.string ⟨(showT n).toArray⟩, .int .i64 0]) ∧ Below w.heap.size w w' := by
  by_cases hn : n < 0
  · have hs : showT n = 45 :: showP (-n) := by unfold showT; rw [if_pos hn]
    rw [hs]
    obtain ⟨m, rfl⟩ : ∃ m, n = -m := ⟨-n, by omega⟩
    rw [Int.neg_neg]
    exact show_neg m w (by omega) (by omega) ht
  · have hs : showT n = showP n := by unfold showT; rw [if_neg hn]
    rw [hs]; exact show_pos n w (by omega) h1 ht

set_option maxHeartbeats 400000 in
theorem show_no (n : Int) (w : World) (h : n < -1000000000000 ∨ 1000000000000 < n) :
    Calls Tryd.prog 4 #[.int .i64 n] w fun e w' => e = .returned (.tuple #[.string ⟨#[]⟩, .int .i64 2]) ∧ Below w.heap.size w w' := by
  go_enter Tryd.func4, Tryd.ntmps4
  go_wp2_with fail
  refine (within_one_no _ _ _ _ _ rfl h).mono ?_
  rintro e w' ⟨rfl, rfl⟩
  clear h
  go_wp2_with fail
  go_ret2
  exact ⟨rfl, bel1 _ _⟩

end Go.Proofs.YtegganhjlpachaaDoor.cents
