/- A slice is stored into one cell of a block. -/
import Derived.Test.YtfhlokjpdkmdjaaLet
namespace Go.Proofs.Ytfhlokjpdkmdjaa
open Go.RowKit

theorem wp_letS {P : Program} {ops : Array Oper} {rest : List Oper} {o : Oper} {a : Act} {w : World} {Q : Exit → Act → World → Prop} (hgd : o.guard = none) (ty : TypeId) (x y : Operand) (ho : o.op = .store ty x y)
    (g off : Nat) (hx : a.eval x = .pointer (some ⟨g, off, none⟩)) (p : Option Addr) (n c : Nat) (hy : a.eval y = .slice p n c) (hi : (P.info? ty).map (·.size) = some 1)
    (cs : Array Value) (t : TypeId) (hB : Blk w g cs t) (hin : off < cs.size)
    (h : ∀ W, Upd w W g (cs.setIfInBounds off (.slice p n c)) t → wpList P ops Q rest (a.put o.dst undef) W) : wpList P ops Q (o :: rest) a w :=
  wp_let hgd ty x y ho g off hx _ hy #[.slice p n c] rfl hi (by simp [Value.oneCell']) cs t hB (by simp; omega) _ rfl h

end Go.Proofs.Ytfhlokjpdkmdjaa
