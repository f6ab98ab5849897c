/- What holds of every world of a run. -/
import Derived.Test.YtnhidiefchamlaaDoorBlk
namespace Go.Proofs.YtnhidiefchamlaaDoor.met
open Go.RowKit
set_option maxRecDepth 100000
set_option linter.unusedVariables false
set_option linter.unusedSimpArgs false

/-- It holds on. -/
structure Inv (I : World → Prop) : Prop where
  next : ∀ W W', I W → Below W.heap.size W W' → I W'
theorem Inv.alloc {I : World → Prop} (h : Inv I) {W : World} (hi : I W) (o : Obj) : I (W.alloc o) := h.next _ _ hi ((Below.refl _ _).alloc (Nat.le_refl _) _)
theorem inv_true : Inv (fun _ => True) := ⟨fun _ _ _ _ => trivial⟩
theorem Inv.from {I : World → Prop} (h : Inv I) {w W : World} (hi : I w) (hb : Below w.heap.size w W) : I W := h.next _ _ hi hb

end Go.Proofs.YtnhidiefchamlaaDoor.met
