/- Weekdays go round. -/
import Derived.Test.YtgeemnoefhnlnabKaWeek
import Derived.Test.YtgeemnoefhnlnabCkPick
import Derived.Test.YtgeemnoefhnlnabCaWf
namespace Go.Proofs.Ytgeemnoefhnlnab.cal
open Go.RowKit Go.Proofs.Ytgeemnoefhnlnab.check
set_option maxRecDepth 100000
set_option linter.unusedVariables false
set_option linter.unusedSimpArgs false

set_option maxHeartbeats 2000000 in
theorem round_walk (K : KaWeek) (x : Int) (w : World) (hx : (Lit.int .i64 x).wf = true) : Calls Try.prog 5 #[.int .i64 x] w fun e w' => e = .returned (.bool true) ∧ Below w.heap.size w w' := by
  have hp := pick_toNat x 73042 (by decide)
  have HP : Hid (∀ W, Calls Try.prog 6 #[.int .i64 x, .int .i64 73042] W fun e w' => e = .returned (.int .i64 (((pick x ((73042 : Nat) : Int)).toNat : Nat) : Int)) ∧ w' = W) := fun W => picked_nat x 73042 W hx (by decide) (by decide)
  generalize (pick x ((73042 : Nat) : Int)).toNat = n at *
  have HK : Hid (∀ W (z v : Int), 0 ≤ z → z ≤ 73048 → (z + 5) % 7 = v → Calls Try.prog 10 #[.int .i64 z] W fun e w' => e = .returned (.tuple #[.int .i64 v, .int .i64 0]) ∧ Below W.heap.size W w') := fun W z v h0 h1 hv => (K W z (wf_in h0 (by omega))).mono fun e w' ⟨x, f, he, hi, hbb⟩ => by
    obtain ⟨rfl, rfl⟩ := hi.one (.inl ⟨⟨h0, h1⟩, rfl, rfl⟩)
    rw [hv] at he
    exact ⟨he, hbb⟩
  have HA : Hid (∃ a : Int, ((n : Int) + 5) % 7 = a ∧ 0 ≤ a ∧ a ≤ 6) := ⟨_, rfl, by omega, by omega⟩
  obtain ⟨a, ha, ha0, ha6⟩ := HA.out
  have H1 : Hid (∀ W, Calls Try.prog 10 #[.int .i64 (n : Int)] W fun e w' => e = .returned (.tuple #[.int .i64 a, .int .i64 0]) ∧ Below W.heap.size W w') := fun W => HK.out W _ _ (by omega) (by omega) ha
  have H2 : Hid (∀ W, Calls Try.prog 10 #[.int .i64 ((n : Int) + 1)] W fun e w' => e = .returned (.tuple #[.int .i64 ((a + 1) % 7), .int .i64 0]) ∧ Below W.heap.size W w') := fun W => HK.out W _ _ (by omega) (by omega) (by omega)
  have H3 : Hid (∀ W, Calls Try.prog 10 #[.int .i64 ((n : Int) + 7)] W fun e w' => e = .returned (.tuple #[.int .i64 a, .int .i64 0]) ∧ Below W.heap.size W w') := fun W => HK.out W _ _ (by omega) (by omega) (by omega)
  clear HK K hx HA ha
  have e1 : ((a + 1) % 7 == (a + 1) % 7) = true := by simp
  have e2 : (a == a) = true := by simp
  have e3 : decide (a < 7) = true := by simp; omega
  have hr : Int.tmod (a + 1) 7 = (a + 1) % 7 := Int.tmod_eq_emod_of_nonneg (by omega)
  have H0B : Hid (Below w.heap.size w w) := Below.refl _ _
  go_enter Try.func5, Try.ntmps5
  go_wp2_with fail
  refine (HP.out _).mono ?_
  rintro e w0 ⟨rfl, hw0⟩
  have hw1 := hw0.symm
  subst hw1
  clear hw0
  go_wp2_with fail
  refine (H1.out _).mono ?_
  rintro e w1 ⟨rfl, hb1⟩
  have H1B : Hid (Below w.heap.size w w1) := bel_step H0B.out hb1
  clear H0B hb1 H1
  go_wp2_with fail
  refine (H2.out _).mono ?_
  rintro e w2 ⟨rfl, hb2⟩
  have H2B : Hid (Below w.heap.size w w2) := bel_step H1B.out hb2
  clear H1B hb2 H2
  go_wp2_with fail
  refine (H3.out _).mono ?_
  rintro e w3 ⟨rfl, hb3⟩
  have H3B : Hid (Below w.heap.size w w3) := bel_step H2B.out hb3
  clear H2B hb3 H3
  go_wp2_with fail
  go_ret
  exact ⟨rfl, H3B.out⟩

end Go.Proofs.Ytgeemnoefhnlnab.cal
