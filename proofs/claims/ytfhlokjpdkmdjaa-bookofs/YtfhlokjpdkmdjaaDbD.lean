/- What the four of the debts give back. -/
import Derived.Test.YtfhlokjpdkmdjaaTfD
import Derived.Test.YtfhlokjpdkmdjaaDbN
import Derived.Test.YtfhlokjpdkmdjaaTxW
namespace Go.Proofs.Ytfhlokjpdkmdjaa.deb
open Go.Proofs.Ytfhlokjpdkmdjaa.tar (Du du0 Came RowD Ld ErrPost TwoPost PairT GaveD)
open Go.RowKit
set_option maxRecDepth 100000
set_option linter.unusedVariables false
set_option linter.unusedSimpArgs false

/-- A slice of pairs in memory that is new since base. -/
structure Fresh (w : World) (base : Nat) (a : Option Addr) (len cap : Nat) (ls : List Du) : Prop where
  came : Came w a len cap ls
  new : 0 < len → ∀ x, a = some x → base ≤ x.block
def RecPost (w : World) (l : List Du) (t bp : Int) (e : Ending) (w' : World) : Prop := ∃ a len cap z p f, e = .returned (.tuple #[.slice a len cap, .int .i64 p, .int .i64 f]) ∧ RecIs l t bp z p f ∧ Fresh w' w.heap.size a len cap z ∧ Below w.heap.size w w'
def AgePost (w : World) (l : List Du) (m : Int) (e : Ending) (w' : World) : Prop := ∃ a len cap z f, e = .returned (.tuple #[.slice a len cap, .int .i64 f]) ∧ AgeIs l m z f ∧ Fresh w' w.heap.size a len cap z ∧ Below w.heap.size w w'
theorem Mays.wf {l : List Du} (h : Mays l) : ∀ x ∈ l, (Lit.int .i64 x.a).wf = true ∧ (Lit.int .i64 x.b).wf = true := fun x hx => by
  obtain ⟨⟨a1, a2⟩, b1, b2⟩ := mem_fits h.2 x hx
  exact ⟨tar.wf_mid a1 (by omega), tar.wf_mid b1 (by omega)⟩
theorem ld_mays {T : TypeId} {w : World} {base : Nat} {v : Value} {l : List Du} (h : Ld T w base v l) (hm : Mays l) : ∃ a cap, v = .slice a l.length cap ∧ Came w a l.length cap l := h.came (by have := hm.1; omega) hm.wf
theorem ld_new {T : TypeId} {w : World} {base : Nat} {a : Option Addr} {n cap : Nat} {l : List Du} (h : Ld T w base (.slice a n cap) l) : 0 < n → ∀ x, a = some x → base ≤ x.block := fun hn x hx => by
  subst hx
  exact (World.ownsRow.lt h x.block rfl).1
theorem ld_fresh {T : TypeId} {w : World} {base : Nat} {v : Value} {l : List Du} (h : Ld T w base v l) (hm : Mays l) : ∃ a cap, v = .slice a l.length cap ∧ Fresh w base a l.length cap l := by
  obtain ⟨a, cap, rfl, hc⟩ := ld_mays h hm
  exact ⟨a, cap, rfl, hc, ld_new h⟩
theorem Fresh.low {w : World} {base base' : Nat} {a : Option Addr} {len cap : Nat} {ls : List Du} (h : Fresh w base a len cap ls) (hb : base' ≤ base) : Fresh w base' a len cap ls := ⟨h.came, fun hn x hx => Nat.le_trans hb (h.new hn x hx)⟩
theorem Fresh.below {w w' : World} {base : Nat} {a : Option Addr} {len cap : Nat} {ls : List Du} (h : Fresh w base a len cap ls) (hb : Below w.heap.size w w') : Fresh w' base a len cap ls := ⟨h.came.below hb, h.new⟩
theorem came_nil (w : World) : Came w none 0 0 [] := ⟨tar.RowD.nil _ _, fun _ => rfl, Nat.le_refl _, by omega, fun x hx => by cases hx⟩
theorem fresh_nil (w : World) (base : Nat) : Fresh w base none 0 0 [] := ⟨came_nil w, fun h => absurd h (Nat.lt_irrefl _)⟩

end Go.Proofs.Ytfhlokjpdkmdjaa.deb
