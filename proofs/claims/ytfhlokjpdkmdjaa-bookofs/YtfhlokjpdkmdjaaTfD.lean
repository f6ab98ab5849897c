/- What the four of the tariffs give back. -/
import Derived.Test.YtfhlokjpdkmdjaaLRow
namespace Go.Proofs.Ytfhlokjpdkmdjaa.tar
open Go.RowKit

def ErrPost (w : World) (R : Int → Prop) (e : Ending) (w' : World) : Prop := ∃ f, e = .returned (.int .i64 f) ∧ R f ∧ Below w.heap.size w w'
def ValPost (w : World) (z : Int) (e : Ending) (w' : World) : Prop := e = .returned (.int .i64 z) ∧ Below w.heap.size w w'
def TwoPost (w : World) (R : Int → Int → Prop) (e : Ending) (w' : World) : Prop := ∃ p f, e = .returned (.tuple #[.int .i64 p, .int .i64 f]) ∧ R p f ∧ Below w.heap.size w w'
def BillPost (T : TypeId) (w : World) (ls : List Du) (x n : Int) (e : Ending) (w' : World) : Prop := ∃ v z f, e = .returned (.tuple #[v, .int .i64 f]) ∧ BillIs ls x n z f ∧ Lt T w' w.heap.size v z ∧ Below w.heap.size w w'
def ThreePost (w : World) (R : Int → Int → Int → Prop) (e : Ending) (w' : World) : Prop := ∃ u p f, e = .returned (.tuple #[.int .i64 u, .int .i64 p, .int .i64 f]) ∧ R u p f ∧ Below w.heap.size w w'
/-- A slice of pairs that came in. -/
structure Came (w : World) (a : Option Addr) (len cap : Nat) (ls : List Du) : Prop where
  row : RowD w a len ls
  nil : a = none → cap = 0
  room : len ≤ cap
  bytes : len * 16 ≤ 140737488351232
  wf : ∀ x ∈ ls, (Lit.int .i64 x.a).wf = true ∧ (Lit.int .i64 x.b).wf = true
theorem Came.below {w w' : World} {a : Option Addr} {len cap : Nat} {ls : List Du} (h : Came w a len cap ls) (hb : Below w.heap.size w w') : Came w' a len cap ls := ⟨h.row.below hb, h.nil, h.room, h.bytes, h.wf⟩
theorem Came.most {w : World} {a : Option Addr} {len cap : Nat} {ls : List Du} (h : Came w a len cap ls) : len ≤ maxLen := by have := h.bytes; unfold maxLen; omega
theorem Ld.came {T : TypeId} {w : World} {base : Nat} {v : Value} {l : List Du} (h : Ld T w base v l) (hl : l.length * 16 ≤ 140737488351232) (hw : ∀ x ∈ l, (Lit.int .i64 x.a).wf = true ∧ (Lit.int .i64 x.b).wf = true) : ∃ a cap, v = .slice a l.length cap ∧ Came w a l.length cap l := by
  obtain ⟨a, cap, hv, hr, hn, hc, _⟩ := h.row
  exact ⟨a, cap, hv, hr, hn, hc, hl, hw⟩
/-- Pairs were given back that nobody else holds. -/
def GaveD (T : TypeId) (w : World) (zs : List Du) (e : Ending) (w' : World) : Prop := ∃ v, e = .returned v ∧ Ld T w' w.heap.size v zs ∧ Below w.heap.size w w'
theorem GaveD.mk {T : TypeId} {w w' : World} {zs : List Du} {v : Value} (h1 : Ld T w' w.heap.size v zs) (h2 : Below w.heap.size w w') : GaveD T w zs (.returned v) w' := ⟨v, rfl, h1, h2⟩

end Go.Proofs.Ytfhlokjpdkmdjaa.tar
