/- Steps copied. -/
import Derived.Test.YtfhlokjpdkmdjaaTfD
import Derived.Test.YtfhlokjpdkmdjaaProg
import Derived.WalkKit
import Derived.Laws.StructEq
namespace Go.Proofs.Ytfhlokjpdkmdjaa.tar
open Go.RowKit
set_option linter.unusedSimpArgs false
set_option linter.unusedVariables false
set_option maxRecDepth 100000

theorem stepT : PairT Try.prog 111 38 := ⟨by kernel_rfl, Try.underlying38⟩
set_option maxHeartbeats 400000 in
theorem steps_any (a : Option Addr) (len cap : Nat) (zs : List Du) (w : World) (h : Came w a len cap zs) :
    Calls Try.prog 35 #[.slice a len cap] w fun e w' => GaveD 111 w zs e w' := by
  obtain ⟨hr, hn, -, hl, -⟩ := h
  cases a with
  | none =>
    have hc := hn rfl
    have h0 : len = 0 := by rcases hr.2 with h | ⟨b, off, h, _⟩; exact h; cases h
    subst hc h0
    obtain rfl : zs = [] := List.eq_nil_of_length_eq_zero hr.1
    have happ : ∀ w : World, (Builtin.append_ #[38, 38] 38 #[.slice none 0 0, .slice none 0 0]).run Try.prog w = .ok (.slice none 0 0) w := fun w => by kernel_rfl
    go_enter Try.func35, Try.ntmps35
    go_wp2
    go_ret
    exact GaveD.mk (Ld.zero _ _ _) (Below.refl _ _)
  | some x =>
    go_enter Try.func35, Try.ntmps35
    go_wp2_with (first
      | (at_builtin; refine wp_pairs stepT rfl _ _ rfl w.heap.size x len cap zs rfl rfl hr hl (Nat.le_refl _) ?_)
      | go_in)
    intro v' w' hown hg
    have HW : Hid (Ld 111 w' w.heap.size v' zs) := hown
    have HG : Hid (Below w.heap.size w w') := (Below.refl _ _).grown hg (Nat.le_refl _) (fun k hk => by cases hk)
    clear hown hg
    go_wp2
    go_ret
    exact GaveD.mk HW.out HG.out

end Go.Proofs.Ytfhlokjpdkmdjaa.tar
