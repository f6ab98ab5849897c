/- What the seven of the accounts give back. -/
import Derived.Test.YtfhlokjpdkmdjaaAcN
import Derived.Test.YtfhlokjpdkmdjaaDbD
namespace Go.Proofs.Ytfhlokjpdkmdjaa.acc
open Go.Proofs.Ytfhlokjpdkmdjaa.tar (Du du0 Came)
open Go.RowKit

/-- An account, its debts at p. -/
def Ac.cs (x : Ac) (p : Option Addr) (len cap : Nat) : Array Value := #[.int .i64 x.me, .int .i64 x.rv, .int .i64 x.nx, .int .i64 x.mo, .int .i64 x.bo, .int .i64 x.fr, .slice p len cap]
def Ac.v (x : Ac) (p : Option Addr) (len cap : Nat) : Value := .agg (x.cs p len cap)
def Tm.v (t : Tm) (p : Option Addr) (len cap : Nat) : Value := .agg #[.slice p len cap, .int .i64 t.ff, .int .i64 t.fb, .int .i64 t.db, .int .i64 t.al]
def Bi.v (b : Bi) : Value := .agg #[.int .i64 b.id, .int .i64 b.te, .int .i64 b.de, .int .i64 b.fe, .int .i64 b.pr, .int .i64 b.ch, .int .i64 b.un]
def wf6 (x : Ac) : Prop := (Lit.int .i64 x.me).wf = true ∧ (Lit.int .i64 x.rv).wf = true ∧ (Lit.int .i64 x.nx).wf = true ∧ (Lit.int .i64 x.mo).wf = true ∧ (Lit.int .i64 x.bo).wf = true ∧ (Lit.int .i64 x.fr).wf = true
def wf4 (t : Tm) : Prop := (Lit.int .i64 t.ff).wf = true ∧ (Lit.int .i64 t.fb).wf = true ∧ (Lit.int .i64 t.db).wf = true ∧ (Lit.int .i64 t.al).wf = true
/-- An account that came in. -/
structure ACame (w : World) (x : Ac) (p : Option Addr) (len cap : Nat) : Prop where
  ds : Came w p len cap x.ds
  wf : wf6 x
structure TCame (w : World) (t : Tm) (p : Option Addr) (len cap : Nat) : Prop where
  ts : Came w p len cap t.ts
  wf : wf4 t
theorem ACame.below {w w' : World} {x : Ac} {p : Option Addr} {len cap : Nat} (h : ACame w x p len cap) (hb : Below w.heap.size w w') : ACame w' x p len cap := ⟨h.ds.below hb, h.wf⟩
theorem TCame.below {w w' : World} {t : Tm} {p : Option Addr} {len cap : Nat} (h : TCame w t p len cap) (hb : Below w.heap.size w w') : TCame w' t p len cap := ⟨h.ts.below hb, h.wf⟩
/-- An account and an error. -/
def APost (w : World) (R : Ac → Int → Prop) (e : Ending) (w' : World) : Prop := ∃ b p len cap f, e = .returned (.tuple #[Ac.v b p len cap, .int .i64 f]) ∧ R b f ∧ deb.Fresh w' w.heap.size p len cap b.ds ∧ Below w.heap.size w w'
/-- An account, a bill and an error. -/
def BPost (w : World) (R : Ac → Bi → Int → Prop) (e : Ending) (w' : World) : Prop := ∃ b l p len cap f, e = .returned (.tuple #[Ac.v b p len cap, Bi.v l, .int .i64 f]) ∧ R b l f ∧ deb.Fresh w' w.heap.size p len cap b.ds ∧ Below w.heap.size w w'

end Go.Proofs.Ytfhlokjpdkmdjaa.acc
