/- What an event does to a customer: what comes back. -/
import Derived.Test.YtfhlokjpdkmdjaaBkH
namespace Go.Proofs.Ytfhlokjpdkmdjaa.book
open Go.RowKit
open Go.Proofs.Ytfhlokjpdkmdjaa.acc (Ac Tm Bi APost BPost OweIs SellIs GrantIs RekeyIs)
set_option maxRecDepth 100000
set_option linter.unusedVariables false
set_option linter.unusedSimpArgs false

/-- A customer's cells, of an account and where its lists lie. -/
def cuA (a : Ac) (dp : Option Addr) (dn dc : Nat) (sp : Option Addr) (sn sc : Nat) : Cu := ⟨a.me, a.rv, a.nx, a.mo, a.bo, a.fr, dp, dn, dc, sp, sn, sc⟩
theorem cuA_num (a : Ac) (dp : Option Addr) (dn dc : Nat) (sp : Option Addr) (sn sc : Nat) : Nums (cuA a dp dn dc sp sn sc) a := ⟨rfl, rfl, rfl, rfl, rfl, rfl⟩
/-- What happens gives back. -/
def HapPost (w : World) (base : Nat) (t : Tm) (x : Cu) (c : Cm) (v : Ev) (e : Ending) (w' : World) : Prop := ∃ x' c' f, e = .returned (.tuple #[Cu.v x', .int .i64 f]) ∧ HapIs t c v c' f ∧ (f = 0 → Turned w w' base x x' c') ∧ w.grownBy w' x.sold.ownBlock
theorem grown_of {w w' : World} (h : Below w.heap.size w w') (own : Option Nat) : w.grownBy w' own := ⟨h.os, h.tape, h.output, h.size, fun k hk _ => h.block k hk⟩

end Go.Proofs.Ytfhlokjpdkmdjaa.book
