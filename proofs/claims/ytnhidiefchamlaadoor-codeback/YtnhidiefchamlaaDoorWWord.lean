/- A word is a word. -/
import Derived.WalkKit
import Derived.Test.YtnhidiefchamlaaDoorProg
namespace Go.Proofs.YtnhidiefchamlaaDoor.cell
open Go.RowKit

/-- A word is a word. -/
theorem word_of {z : Int} (h : (Lit.int .u32 z).wf = true) : 0 ≤ z ∧ z < 4294967296 := by
  simp only [Lit.wf, Bool.and_eq_true, decide_eq_true_eq] at h
  rw [show IntKind.u32.min = 0 from by decide, show IntKind.u32.max = 4294967295 from by decide] at h
  omega

end Go.Proofs.YtnhidiefchamlaaDoor.cell
