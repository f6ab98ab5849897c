/- Oracles: what calls give back, and boxes. -/
import Derived.Test.YtgipkpkjoicehabDoorPRow
namespace Go.Proofs.YtgipkpkjoicehabDoor.ora
open Go.RowKit
set_option maxRecDepth 100000
set_option linter.unusedVariables false

/-- Yes or no was told. -/
def Told (w : World) (P : Prop) (e : Ending) (w' : World) : Prop := ∃ r : Bool, e = .returned (.bool r) ∧ (r = true ↔ P) ∧ Below w.heap.size w w'
theorem Told.yes {w w' : World} {P : Prop} (h : P) (hb : Below w.heap.size w w') : Told w P (.returned (.bool true)) w' := ⟨true, rfl, by simp [h], hb⟩
theorem Told.no {w w' : World} {P : Prop} (h : ¬ P) (hb : Below w.heap.size w w') : Told w P (.returned (.bool false)) w' := ⟨false, rfl, by simp [h], hb⟩
/-- Where it was tagged. -/
def TagPost (w : World) (l : List Pr) (m r b : Int) (e : Ending) (w' : World) : Prop :=
  Below w.heap.size w w' ∧ ((∃ i : Nat, At l m r b i ∧ e = .returned (.int .i64 (i : Int))) ∨ (No l m r b ∧ e = .returned (.int .i64 (-1))))
/-- The box of an oracle that came in. -/
structure Bo (w wr : World) (a : Option Addr) (n cap : Nat) (l : List Pr) : Prop where
  box : Blk wr w.heap.size #[.slice a n cap] 25
  row : RowP wr a n l
  bel : Below w.heap.size w wr
theorem Bo.next {w wr w' : World} {a : Option Addr} {n cap : Nat} {l : List Pr} (h : Bo w wr a n cap l) (hb : Below wr.heap.size wr w') : Bo w w' a n cap l := ⟨h.box.next hb, h.row.below hb, bel_step h.bel hb⟩
theorem Bo.alloc {w wr : World} {a : Option Addr} {n cap : Nat} {l : List Pr} (h : Bo w wr a n cap l) (o : Obj) : Bo w (wr.alloc o) a n cap l := h.next ((Below.refl _ _).alloc (Nat.le_refl _) _)
theorem Bo.new {w : World} {a : Option Addr} {n cap : Nat} {l : List Pr} (h : RowP w a n l) : Bo w (w.alloc (.cells #[.slice a n cap] 25)) a n cap l :=
  ⟨Blk.new w _ _, h.below ((Below.refl _ _).alloc (Nat.le_refl _) _), (Below.refl _ _).alloc (Nat.le_refl _) _⟩
/-- An oracle was given back, in memory of its own. -/
def GaveO (w : World) (l : List Pr) (e : Ending) (w' : World) : Prop := ∃ v, e = .returned (.agg #[v]) ∧ Pw w' w.heap.size v l ∧ Below w.heap.size w w'
theorem take_nextP (l : List Pr) (k : Nat) (h : k < l.length) : l.take k ++ [⟨(l.getD k pr0).m, (l.getD k pr0).r, (l.getD k pr0).b, (l.getD k pr0).t⟩] = l.take (k + 1) := by
  rw [List.take_succ_eq_append_getElem h]
  congr 2
  simp [List.getD, List.getElem?_eq_getElem h]
/-- A tag was issued, or refused. -/
def IssuePost (w : World) (l : List Pr) (m r b d : Int) (e : Ending) (w' : World) : Prop :=
  ∃ a' n' cap' ls x c, e = .returned (.tuple #[.agg #[.slice a' n' cap'], .int .i64 x, .int .i64 c]) ∧ RowP w' a' n' ls ∧ (a' = none → cap' = 0) ∧ n' ≤ cap' ∧ IssueIs l m r b d ls x c ∧ Below w.heap.size w w'
/-- The box of an oracle that came in, and the one that goes out. -/
structure Bi (w wr : World) (a : Option Addr) (n cap : Nat) (l : List Pr) : Prop where
  bo : Bo w wr a n cap l
  out : Blk wr (w.heap.size + 1) #[.slice none 0 0] 25
theorem Bi.next {w wr w' : World} {a : Option Addr} {n cap : Nat} {l : List Pr} (h : Bi w wr a n cap l) (hb : Below wr.heap.size wr w') : Bi w w' a n cap l := ⟨h.bo.next hb, h.out.next hb⟩
theorem Bi.alloc {w wr : World} {a : Option Addr} {n cap : Nat} {l : List Pr} (h : Bi w wr a n cap l) (o : Obj) : Bi w (wr.alloc o) a n cap l := h.next ((Below.refl _ _).alloc (Nat.le_refl _) _)
/-- A block of another kind is written. -/
theorem Pw.put2 {w : World} {base G : Nat} {v : Value} {l : List Pr} {cs : Array Value} {t : TypeId} (h : Pw w base v l) (hB : Blk w G cs t) (ht : t ≠ 109) (i : Nat) (u : Value) : Pw (w.setCell ⟨G, i, none⟩ u) base v l := by
  refine ⟨h.1, ?_⟩
  rcases h.2 with hn | ⟨g, cap, cur, hv, hg, hc, rest⟩
  · exact .inl hn
  · refine .inr ⟨g, cap, cur, hv, hg, Blk.other hc i u (fun e => ?_), rest⟩
    subst e
    have := hB.symm.trans hc
    simp only [Option.some.injEq, Obj.cells.injEq] at this
    exact ht this.2.1
/-- An oracle that came in. -/
structure Came (w : World) (a : Option Addr) (n cap : Nat) (l : List Pr) : Prop where
  row : RowP w a n l
  nil : a = none → cap = 0
  le : n ≤ cap
  small : n * 32 ≤ 140737488351232
theorem Came.below {w w' : World} {a : Option Addr} {n cap : Nat} {l : List Pr} (h : Came w a n cap l) (hb : Below w.heap.size w w') : Came w' a n cap l := ⟨h.row.below hb, h.nil, h.le, h.small⟩
def Copied (w : World) (n : Nat) (l : List Pr) (e : Ending) (w' : World) : Prop := ∃ a' cap', e = .returned (.agg #[.slice a' n cap']) ∧ Came w' a' n cap' l ∧ Below w.heap.size w w'
/-- The box of an oracle, and what it reads as. -/
structure Bc (w wr : World) (G : Nat) (a : Option Addr) (n cap : Nat) (l : List Pr) : Prop where
  box : Blk wr G #[.slice a n cap] 25
  came : Came wr a n cap l
  bel : Below w.heap.size w wr
theorem Bc.next {w wr w' : World} {G : Nat} {a : Option Addr} {n cap : Nat} {l : List Pr} (h : Bc w wr G a n cap l) (hb : Below wr.heap.size wr w') : Bc w w' G a n cap l := ⟨h.box.next hb, h.came.below hb, bel_step h.bel hb⟩
theorem Bc.alloc {w wr : World} {G : Nat} {a : Option Addr} {n cap : Nat} {l : List Pr} (h : Bc w wr G a n cap l) (o : Obj) : Bc w (wr.alloc o) G a n cap l := h.next ((Below.refl _ _).alloc (Nat.le_refl _) _)
theorem Bc.new {w wr : World} {a : Option Addr} {n cap : Nat} {l : List Pr} (h : Came wr a n cap l) (hb : Below w.heap.size w wr) : Bc w (wr.alloc (.cells #[.slice a n cap] 25)) wr.heap.size a n cap l :=
  ⟨Blk.new wr _ _, h.below ((Below.refl _ _).alloc (Nat.le_refl _) _), hb.alloc hb.size _⟩
theorem few_small {l : List Pr} {m r b d : Int} {ls : List Pr} {x c : Int} (h : IssueIs l m r b d ls x c) : ls.length ≤ 500 := by
  rcases h with ⟨_, rfl, _⟩ | ⟨_, _, rfl, _⟩ | ⟨h1, _, _, rfl, _⟩ | ⟨_, _, _, _, rfl, _⟩ | ⟨_, _, _, h4, rfl, _⟩
  · decide
  · decide
  · exact h1.few
  · decide
  · rw [List.length_append]; simp; omega
def wfP (p : Pr) : Prop := (Lit.int .i64 p.m).wf = true ∧ (Lit.int .i64 p.r).wf = true ∧ (Lit.int .i64 p.b).wf = true ∧ (Lit.int .i64 p.t).wf = true
/-- Raw numbers that came in, by fours. -/
def RowA (w : World) (a : Option Addr) (len : Nat) (ps : List Pr) : Prop :=
  ∀ i, i < len → ∃ b off, a = some ⟨b, off, none⟩ ∧ PrAt w b (off + i * 4) (ps.getD i pr0) ∧ wfP (ps.getD i pr0)
theorem RowA.below {w w' : World} {a : Option Addr} {len : Nat} {ps : List Pr} (h : RowA w a len ps) (hb : Below w.heap.size w w') : RowA w' a len ps := fun i hi => by
  obtain ⟨b, off, h1, h2, h3⟩ := h i hi
  exact ⟨b, off, h1, h2.below hb, h3⟩

end Go.Proofs.YtgipkpkjoicehabDoor.ora
