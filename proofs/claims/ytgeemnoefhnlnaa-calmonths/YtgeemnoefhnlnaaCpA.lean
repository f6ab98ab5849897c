/- The days ahead of a month. -/
import Derived.Test.YtgeemnoefhnlnaaCpL
namespace Go.Proofs.Ytgeemnoefhnlnaa.cal
open Go.RowKit
set_option maxRecDepth 100000
set_option linter.unusedVariables false
set_option linter.unusedSimpArgs false

theorem cd_lp (j : Nat) : (j : Int) * 365 + (lp (1999 + j) : Int) - 484 = cd (12 * j) := by
  rw [cd_years]
  unfold lp
  omega
theorem mk_at (j i : Nat) (hi : i ≤ 11) : mk (12 * j + i) = ml (2000 + (j : Int)) ((i : Int) + 1) := ml_at j i (by omega)
set_option maxHeartbeats 1000000 in
theorem pahead (j i : Nat) (hj : j ≤ 200) (hi : i ≤ 11) (w : World) : Calls Try.prog 21 #[.int .i64 (2000 + (j : Int)), .int .i64 ((i : Int) + 1)] w fun e w' => e = .returned (.int .i64 (cd (12 * j + i))) ∧ w' = w := by
  have HLE : Hid (∀ (k : Nat) W, k ≤ 11 → Calls Try.prog 29 #[.int .i64 (2000 + (j : Int)), .int .i64 ((k : Int) + 1)] W fun e w' => e = .returned (.int .i64 (mk (12 * j + k))) ∧ w' = W) := fun k W hk => by
    rw [mk_at j k hk]; exact plength j k (by omega) hk W
  have H1 : Hid (∀ W, Calls Try.prog 30 #[.int .i64 (2000 + (j : Int) - 1)] W fun e w' => e = .returned (.int .i64 (lp (1999 + j) : Int)) ∧ w' = W) := fun W => by
    have := pleap (1999 + j) W (by omega)
    rwa [show ((1999 + j : Nat) : Int) = 2000 + (j : Int) - 1 by omega] at this
  have H2 : Hid (∀ W, Calls Try.prog 30 #[.int .i64 1999] W fun e w' => e = .returned (.int .i64 484) ∧ w' = W) := fun W => pleap 1999 W (by omega)
  have b1 := lp_le (1999 + j)
  have HC : Hid ((j : Int) * 365 + (lp (1999 + j) : Int) - 484 = cd (12 * j)) := cd_lp j
  have hs : (2000 + (j : Int) - 2000) = (j : Int) := by omega
  have HB : Hid (∀ k, k ≤ 11 → 0 ≤ cd (12 * j + k) ∧ cd (12 * j + k) ≤ 80000) := fun k hk => ⟨cd_pos _, by
    have h1 := cd_le (show 12 * j + k ≤ 12 * 212 by omega)
    have h2 := cd_years 212
    omega⟩
  have HX : Hid (∀ k, cd (12 * j + (k + 1)) = cd (12 * j + k) + mk (12 * j + k)) := fun k => rfl
  have HM : Hid (∀ k, 0 ≤ mk (12 * j + k) ∧ mk (12 * j + k) ≤ 31) := fun k => ⟨by have := mk_bd (12 * j + k); omega, (mk_bd _).2⟩
  generalize lp (1999 + j) = a at *
  go_enter Try.func21, Try.ntmps21
  go_wp2_with fail
  refine (H1.out _).mono ?_
  rintro e w1 ⟨rfl, rfl⟩
  go_wp2_with fail
  refine (H2.out _).mono ?_
  rintro e w2 ⟨rfl, rfl⟩
  go_wp2_with fail
  go_loopw [5, 6] (fun v x wr => ∃ k : Nat, k ≤ i ∧ x = .int .i64 ((k : Int) + 1) ∧ v = .int .i64 (cd (12 * j + k)) ∧ wr = w2) (fun _ x _ => i + 1 - (intOf x).toNat)
  case atStart => exact ⟨0, Nat.zero_le _, rfl, by show Value.int _ _ = Value.int _ (cd (12 * j)); rw [← HC.out], rfl⟩
  case round =>
    obtain ⟨k, hk, rfl, rfl, rfl⟩ := hrel
    have hb := HB.out k (by omega)
    have hm := HM.out k
    have HK := HX.out k
    have HLk : Hid (∀ W, Calls Try.prog 29 #[.int .i64 (2000 + (j : Int)), .int .i64 ((k : Int) + 1)] W fun e w' => e = .returned (.int .i64 (mk (12 * j + k))) ∧ w' = W) := fun W => HLE.out k W (by omega)
    have HN : Hid (cd (12 * j + k) + mk (12 * j + k) = cd (12 * j + (k + 1))) := HK.symm
    clear HK
    by_cases hlt : k < i
    · have hdl : decide ((k : Int) + 1 < (i : Int) + 1) = true := by simp; omega
      generalize mk (12 * j + k) = mv at *
      generalize hcc : cd (12 * j + k) = c at *
      clear hcc
      go_wp2_with fail
      refine (HLk.out _).mono ?_
      rintro e w3 ⟨rfl, hw3⟩
      subst hw3
      go_wp2_with fail
      go_roundw
      case rel => exact ⟨k + 1, by omega, by go_num, by rw [← HN.out], by first | rfl | trivial⟩
      case measure => simp [intOf]; omega
    · obtain rfl : k = i := by omega
      have hdl : decide ((k : Int) + 1 < (k : Int) + 1) = false := by simp
      generalize mk (12 * j + k) = mv at *
      generalize hcc : cd (12 * j + k) = c at *
      have HCC : Hid (cd (12 * j + k) = c) := hcc
      clear hcc
      go_wp2_with fail
      go_ret
      exact ⟨by rw [HCC.out]; rfl, rfl⟩
theorem pnamed (k : Nat) (hk : k ≤ 2400) (w : World) : Calls Try.prog 26 #[.int .i64 (k : Int)] w fun e w' => e = .returned (.tuple #[.int .i64 (2000 + ((k / 12 : Nat) : Int)), .int .i64 (((k % 12 : Nat) : Int) + 1)]) ∧ w' = w := by
  have hq : Int.tdiv (k : Int) 12 = ((k / 12 : Nat) : Int) := by rw [Int.tdiv_eq_ediv_of_nonneg (by omega)]; omega
  have hr : Int.tmod (k : Int) 12 = ((k % 12 : Nat) : Int) := by rw [Int.tmod_eq_emod_of_nonneg (by omega)]; omega
  have hj : k / 12 ≤ 200 := by omega
  have hi : k % 12 ≤ 11 := by omega
  generalize k / 12 = j at *
  generalize k % 12 = i at *
  have HO : Hid (1 + (i : Int) = (i : Int) + 1) := Int.add_comm _ _
  go_enter Try.func26, Try.ntmps26
  go_wp2_with fail
  go_ret2
  exact ⟨by rw [← HO.out]; rfl, rfl⟩
theorem pfirst (k : Nat) (hk : k ≤ 2400) (w : World) : Calls Try.prog 27 #[.int .i64 (k : Int)] w fun e w' => e = .returned (.int .i64 (cd k)) ∧ w' = w := by
  have HN : Hid (∀ W, Calls Try.prog 26 #[.int .i64 (k : Int)] W fun e w' => e = .returned (.tuple #[.int .i64 (2000 + ((k / 12 : Nat) : Int)), .int .i64 (((k % 12 : Nat) : Int) + 1)]) ∧ w' = W) := fun W => pnamed k hk W
  have HA : Hid (∀ W, Calls Try.prog 21 #[.int .i64 (2000 + ((k / 12 : Nat) : Int)), .int .i64 (((k % 12 : Nat) : Int) + 1)] W fun e w' => e = .returned (.int .i64 (cd k)) ∧ w' = W) := fun W => by
    have := pahead (k / 12) (k % 12) (by omega) (by omega) W
    rwa [show 12 * (k / 12) + k % 12 = k by omega] at this
  generalize k / 12 = j at *
  generalize k % 12 = i at *
  go_enter Try.func27, Try.ntmps27
  go_wp2_with fail
  refine (HN.out _).mono ?_
  rintro e w1 ⟨rfl, rfl⟩
  go_wp2_with fail
  refine (HA.out _).mono ?_
  rintro e w1 ⟨rfl, rfl⟩
  go_wp2_with fail
  go_ret
  exact ⟨rfl, rfl⟩

end Go.Proofs.Ytgeemnoefhnlnaa.cal
