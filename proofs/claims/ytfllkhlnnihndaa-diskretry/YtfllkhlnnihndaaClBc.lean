/- Words that are blank, in the program: and how much room they have. -/
import Derived.Test.YtfllkhlnnihndaaClArr
import Derived.Test.YtfllkhlnnihndaaClMy
import Derived.Test.YtfllkhlnnihndaaClGave
import Derived.WalkKit
namespace Go.Proofs.Ytfllkhlnnihndaa.disk
open Go.RowKit Go.Proofs.Ytfllkhlnnihndaa.cell
set_option maxRecDepth 100000
set_option linter.unusedVariables false

theorem blank_cap (n : Nat) (w : World) (h1 : 1 ≤ n) (h2 : n ≤ 2048) :
    Calls Try.prog 30 #[.int .i64 (n : Int)] w fun e w' => GaveC w (List.replicate n 0) 0 e w' := by
  have HM : Hid (∀ W, Calls Try.prog 32 #[.int .i64 (n : Int)] W fun e w' => e = .returned (.bool true) ∧ w' = W) := fun W => may_yes _ W (by omega) (by omega)
  have hmk : ∀ W : World, (Instr.makeSlice 22 (.int .i64 (n : Int)) (.int .i64 (n : Int))).run Try.prog W = .ok (.slice (some ⟨W.heap.size, 0, none⟩) n n) (W.alloc (.cells (arr (List.replicate n 0)) 42)) := make_u32 n (by omega)
  have HL : Hid ((List.replicate n (0 : Int)).length = n) := List.length_replicate
  generalize List.replicate n (0 : Int) = zs at *
  go_enter Try.func30, Try.ntmps30
  go_wp2_with fail
  refine (HM.out _).mono ?_
  rintro e w1 ⟨rfl, rfl⟩
  go_wp2_with fail
  go_ret2
  exact GaveC.mk (Blk.rowU (Blk.new _ _ _) HL.out) (fun h => by cases h) (Nat.le_refl _) ((Below.refl _ _).alloc (Nat.le_refl _) _)
theorem blank_none (n : Int) (w : World) (h : n < 1 ∨ 2048 < n) :
    Calls Try.prog 30 #[.int .i64 n] w fun e w' => GaveR w [] 1 e w' := by
  have HM : Hid (∀ W, Calls Try.prog 32 #[.int .i64 n] W fun e w' => e = .returned (.bool false) ∧ w' = W) := fun W => may_no _ W h
  clear h
  go_enter Try.func30, Try.ntmps30
  go_wp2_with fail
  refine (HM.out _).mono ?_
  rintro e w1 ⟨rfl, rfl⟩
  go_wp2_with fail
  go_ret2
  exact ⟨none, 0, rfl, RowU.nil _ _, fun _ => rfl, Below.refl _ _⟩

end Go.Proofs.Ytfllkhlnnihndaa.disk
