/- A slice is stored, where the order is open. -/
import Derived.Test.YtfhlokjpdkmdjaaLet
namespace Go.Proofs.Ytfhlokjpdkmdjaa
open Go.RowKit

theorem wp_letOpS {P : Program} {o : Oper} {a : Act} {w : World} {K : Act → World → Prop} {Q : Exit → Act → World → Prop} (ty : TypeId) (x y : Operand) (ho : o.op = .store ty x y)
    (g off : Nat) (hx : a.eval x = .pointer (some ⟨g, off, none⟩)) (p : Option Addr) (n c : Nat) (hy : a.eval y = .slice p n c) (hi : (P.info? ty).map (·.size) = some 1)
    (cs : Array Value) (t : TypeId) (hB : Blk w g cs t) (hin : off < cs.size) (hd : o.dst = none)
    (h : ∀ W, Upd w W g (cs.setIfInBounds off (.slice p n c)) t → K a W) : o.wp P a w K Q := by
  have hs := run_storeVar_let (P := P) (w := w) (g := g) (off := off) (ty := ty) (t := t) (v := .slice p n c) (cells := #[.slice p n c]) (cs := cs) rfl hi (by simp [Value.oneCell']) hB (by simp; omega)
  unfold Oper.wp execOp
  simp only [ho, hx, hy, Instr.storeAt, Instr.sureAddr, Sem.run_bind, Sem.run_pure, Result.andThen_ok, hs]
  have := h _ (upd_cells g t [.slice p n c] off w cs hB)
  have e : a.put o.dst undef = a := by rw [hd]; rfl
  rw [← e] at this
  exact this

end Go.Proofs.Ytfhlokjpdkmdjaa
