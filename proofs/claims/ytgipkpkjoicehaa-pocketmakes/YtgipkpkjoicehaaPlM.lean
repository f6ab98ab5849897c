/- The statement of making. -/
import Derived.Test.YtgipkpkjoicehaaPpM
import Derived.Test.YtgipkpkjoicehaaPrM
import Derived.Test.YtgipkpkjoicehaaWSame
namespace Go.Proofs.Ytgipkpkjoicehaa.pkt
open Go.RowKit Go.Proofs.Ytgipkpkjoicehaa.met Go.Proofs.Ytgipkpkjoicehaa.slot Go.Proofs.Ytgipkpkjoicehaa.cell
set_option maxRecDepth 100000
set_option linter.unusedVariables false
set_option linter.unusedSimpArgs false

set_option maxHeartbeats 1000000 in
theorem makes_walk (me : Int) (w : World) : Calls Try.prog 3 #[.int .i64 me] w fun e w' => e = .returned (.bool true) ∧ Below w.heap.size w w' := by
  have H1 : Hid (Calls Try.prog 6 #[.int .i64 me] w fun e w' => MakePost w me e w') := pmake me w
  have H2 : Hid (∀ W, Calls Try.prog 7 #[.int .i64 me] W fun e w' => MakePost W me e w') := fun W => made_any me W
  go_enter Try.func3, Try.ntmps3
  go_wp2_with fail
  refine H1.out.mono ?_
  rintro e w1 ⟨x1, n1, c1, xs, f1, rfl, hg1, hi1, hb1⟩
  have HG1 : Hid (RowU w1 x1 n1 xs) := hg1.row
  have HI1 : Hid (MakeIs me xs f1) := hi1
  have HB1 : Hid (Below w.heap.size w w1) := hb1
  clear hg1 hi1 hb1 H1
  go_wp2_with fail
  refine (H2.out _).mono ?_
  rintro e w2 ⟨x2, n2, c2, ys, f2, rfl, hg2, hi2, hb2⟩
  obtain ⟨rfl, rfl⟩ := HI1.out.one hi2
  obtain rfl : n1 = n2 := HG1.out.1.symm.trans hg2.row.1
  have hn : n1 ≤ 12 := by
    rw [← HG1.out.1]
    rcases HI1.out with ⟨_, h, _⟩ | ⟨_, h, _⟩ <;> (rw [h]; simp [mk])
  have HS : Hid (Calls Try.prog 8 #[.slice x1 n1 c1, .slice x2 n1 c2] w2 fun e w' => e = .returned (.bool true) ∧ Below w2.heap.size w2 w') := words_law x1 x2 n1 c1 c2 xs w2 (HG1.out.below hb2) hg2.row (by unfold maxLen; omega)
  have HB2 : Hid (Below w.heap.size w w2) := bel_step HB1.out hb2
  have hcc : (f1 == f1) = true := by simp
  clear hg2 hi2 hb2 hn H2 HG1 HI1 HB1
  go_wp2_with fail
  refine HS.out.mono ?_
  rintro e w3 ⟨rfl, hb3⟩
  have HF : Hid (Below w.heap.size w w3) := bel_step HB2.out hb3
  clear hb3
  go_wp2_with fail
  go_ret
  exact ⟨rfl, HF.out⟩

end Go.Proofs.Ytgipkpkjoicehaa.pkt
