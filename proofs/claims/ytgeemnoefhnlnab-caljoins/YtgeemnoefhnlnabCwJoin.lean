/- Months lie one behind the other, without a gap. -/
import Derived.Test.YtgeemnoefhnlnabKaMon
import Derived.Test.YtgeemnoefhnlnabKaSpan
import Derived.Test.YtgeemnoefhnlnabCkPick
import Derived.Test.YtgeemnoefhnlnabCaWf
namespace Go.Proofs.Ytgeemnoefhnlnab.cal
open Go.RowKit Go.Proofs.Ytgeemnoefhnlnab.check
set_option maxRecDepth 100000
set_option linter.unusedVariables false
set_option linter.unusedSimpArgs false

set_option maxHeartbeats 2000000 in
theorem join_walk (K1 : KaMon) (K2 : KaSpan) (x : Int) (w : World) (hx : (Lit.int .i64 x).wf = true) : Calls Try.prog 4 #[.int .i64 x] w fun e w' => e = .returned (.bool true) ∧ Below w.heap.size w w' := by
  have hp := pick_toNat x 2399 (by decide)
  have HP : Hid (∀ W, Calls Try.prog 6 #[.int .i64 x, .int .i64 2399] W fun e w' => e = .returned (.int .i64 (((pick x ((2399 : Nat) : Int)).toNat : Nat) : Int)) ∧ w' = W) := fun W => picked_nat x 2399 W hx (by decide) (by decide)
  generalize (pick x ((2399 : Nat) : Int)).toNat = k at *
  have hb := mk_bd k
  have hcp := cd_pos k
  have hce : cd (k + 1) ≤ 73049 := by have := cd_le (show k + 1 ≤ 2400 by omega); rw [cd_end] at this; exact this
  rw [cd_next] at hce
  have HS1 : Hid (∀ W, Calls Try.prog 8 #[.int .i64 (k : Int)] W fun e w' => e = .returned (.tuple #[.int .i64 (cd k), .int .i64 (cd k + mk k - 1), .int .i64 0]) ∧ Below W.heap.size W w') := fun W => (K2 W (k : Int) (wf_in (by omega) (by omega))).mono fun e w' ⟨x, y, f, he, hi, hbb⟩ => by
    obtain ⟨rfl, rfl, rfl⟩ := hi.one (.inl ⟨⟨by omega, by omega⟩, rfl, rfl, rfl⟩)
    exact ⟨he, hbb⟩
  have HS2 : Hid (∀ W, Calls Try.prog 8 #[.int .i64 ((k : Int) + 1)] W fun e w' => ∃ z, e = .returned (.tuple #[.int .i64 (cd k + mk k), .int .i64 z, .int .i64 0]) ∧ Below W.heap.size W w') := fun W => (K2 W ((k : Int) + 1) (wf_in (by omega) (by omega))).mono fun e w' ⟨x, y, f, he, hi, hbb⟩ => by
    obtain ⟨rfl, rfl, rfl⟩ := hi.one (.inl ⟨⟨by omega, by omega⟩, rfl, rfl, rfl⟩)
    rw [show ((k : Int) + 1).toNat = k + 1 by omega] at he
    exact ⟨_, he, hbb⟩
  have HM1 : Hid (∀ W, Calls Try.prog 9 #[.int .i64 (cd k)] W fun e w' => e = .returned (.tuple #[.int .i64 (k : Int), .int .i64 0]) ∧ Below W.heap.size W w') := fun W => (K1 W (cd k) (wf_in hcp (by omega))).mono fun e w' ⟨x, f, he, hi, hbb⟩ => by
    obtain ⟨rfl, rfl⟩ := hi.one (.inl ⟨⟨hcp, by omega⟩, ⟨k, by omega, ⟨Int.le_refl _, by rw [cd_next]; omega⟩, rfl⟩, rfl⟩)
    exact ⟨he, hbb⟩
  have HM2 : Hid (∀ W, Calls Try.prog 9 #[.int .i64 (cd k + mk k - 1)] W fun e w' => e = .returned (.tuple #[.int .i64 (k : Int), .int .i64 0]) ∧ Below W.heap.size W w') := fun W => (K1 W (cd k + mk k - 1) (wf_in (by omega) (by omega))).mono fun e w' ⟨x, f, he, hi, hbb⟩ => by
    obtain ⟨rfl, rfl⟩ := hi.one (.inl ⟨⟨by omega, by omega⟩, ⟨k, by omega, ⟨by omega, by rw [cd_next]; omega⟩, rfl⟩, rfl⟩)
    exact ⟨he, hbb⟩
  clear K1 K2 hx
  generalize mk k = mv at *
  generalize cd k = c at *
  have e1 : (c + mv == c + mv - 1 + 1) = true := by rw [beq_iff_eq]; omega
  have e2 : ((k : Int) == (k : Int)) = true := by simp
  have e3 : decide (27 ≤ c + mv - 1 - c) = true := by simp; omega
  have e4 : decide (c + mv - 1 - c ≤ 30) = true := by simp; omega
  have H0B : Hid (Below w.heap.size w w) := Below.refl _ _
  go_enter Try.func4, Try.ntmps4
  go_wp2_with fail
  refine (HP.out _).mono ?_
  rintro e w0 ⟨rfl, hw0⟩
  have hw1 := hw0.symm
  subst hw1
  clear hw0
  go_wp2_with fail
  refine (HS1.out _).mono ?_
  rintro e w1 ⟨rfl, hb1⟩
  have H1B : Hid (Below w.heap.size w w1) := bel_step H0B.out hb1
  clear H0B hb1 HS1
  go_wp2_with fail
  refine (HS2.out _).mono ?_
  rintro e w2 ⟨z2, rfl, hb2⟩
  have H2B : Hid (Below w.heap.size w w2) := bel_step H1B.out hb2
  clear H1B hb2 HS2
  go_wp2_with fail
  refine (HM1.out _).mono ?_
  rintro e w3 ⟨rfl, hb3⟩
  have H3B : Hid (Below w.heap.size w w3) := bel_step H2B.out hb3
  clear H2B hb3 HM1
  go_wp2_with fail
  refine (HM2.out _).mono ?_
  rintro e w4 ⟨rfl, hb4⟩
  have H4B : Hid (Below w.heap.size w w4) := bel_step H3B.out hb4
  clear H3B hb4 HM2
  go_wp2_with fail
  go_ret
  exact ⟨rfl, H4B.out⟩

end Go.Proofs.Ytgeemnoefhnlnab.cal
