/- Debts copied and compared. -/
import Derived.Test.YtlolippocnngcaaDbSd
import Derived.Test.YtlolippocnngcaaDbE
import Derived.Test.YtlolippocnngcaaProg
import Derived.WalkKit
import Derived.Laws.StructEq
namespace Go.Proofs.Ytlolippocnngcaa.deb
open Go.Proofs.Ytlolippocnngcaa.tar (Du du0 Came RowD Ld PairT GaveD wp_pairs)
open Go.RowKit
set_option linter.unusedSimpArgs false
set_option linter.unusedVariables false
set_option maxRecDepth 100000

set_option maxHeartbeats 400000 in
theorem debts_any (a : Option Addr) (len cap : Nat) (zs : List Du) (w : World) (h : Came w a len cap zs) :
    Calls Try.prog 33 #[.slice a len cap] w fun e w' => GaveD 48 w zs e w' := by
  obtain ⟨hr, hn, -, hl, -⟩ := h
  cases a with
  | none =>
    have hc := hn rfl
    have h0 : len = 0 := by rcases hr.2 with h | ⟨b, off, h, _⟩; exact h; cases h
    subst hc h0
    obtain rfl : zs = [] := List.eq_nil_of_length_eq_zero hr.1
    have happ : ∀ w : World, (Builtin.append_ #[30, 30] 30 #[.slice none 0 0, .slice none 0 0]).run Try.prog w = .ok (.slice none 0 0) w := fun w => by kernel_rfl
    go_enter Try.func33, Try.ntmps33
    go_wp2
    go_ret
    exact tar.GaveD.mk (tar.Ld.zero _ _ _) (Below.refl _ _)
  | some x =>
    go_enter Try.func33, Try.ntmps33
    go_wp2_with (first
      | (at_builtin; refine wp_pairs debtT rfl _ _ rfl w.heap.size x len cap zs rfl rfl hr hl (Nat.le_refl _) ?_)
      | go_in)
    intro v' w' hown hg
    have HW : Hid (Ld 48 w' w.heap.size v' zs) := hown
    have HG : Hid (Below w.heap.size w w') := (Below.refl _ _).grown hg (Nat.le_refl _) (fun k hk => by cases hk)
    clear hown hg
    go_wp2
    go_ret
    exact tar.GaveD.mk HW.out HG.out

end Go.Proofs.Ytlolippocnngcaa.deb
