/- What grows leaves other blocks alone. -/
import Derived.Test.YtfhlokjpdkmdjaaAcU
namespace Go.Proofs.Ytfhlokjpdkmdjaa.acc
open Go.Proofs.Ytfhlokjpdkmdjaa.tar (Du du0 Came RowD Ld PairT)
open Go.RowKit
set_option maxRecDepth 100000
set_option linter.unusedVariables false
set_option linter.unusedSimpArgs false

theorem grown_blk {w w' : World} {own : Option Nat} {G : Nat} {cs : Array Value} {t : TypeId} (h : Blk w G cs t) (hg : w.grownBy w' own) (hne : some G ≠ own) : Blk w' G cs t := by
  unfold Blk at *
  rw [hg.block G (Blk.lt h) hne]
  exact h

end Go.Proofs.Ytfhlokjpdkmdjaa.acc
