/- Rows of slices that a call owns. -/
import Derived.Test.YtfllkhlnnihndaaDRow
import Derived.Maps.AppendAt
import Derived.Test.YtfllkhlnnihndaaWRow
namespace Go.Proofs.Ytfllkhlnnihndaa.disk
open Go.RowKit
set_option maxRecDepth 100000

/-- A slice: where it lies, how long it is, how long it may grow. -/
structure Sli where
  a : Option Addr
  n : Nat
  c : Nat
def Sli.v (s : Sli) : Value := .slice s.a s.n s.c
def sl0 : Sli := ⟨none, 0, 0⟩
def cellsR (l : List Sli) : List Value := l.map Sli.v
theorem oneR (l : List Sli) : ∀ u ∈ cellsR l, u.oneCell' = true := fun u hu => by
  obtain ⟨s, _, rfl⟩ := List.mem_map.1 hu
  rfl
/-- Slices (of the kind T) that nobody else holds. -/
def Lr (T : TypeId) (w : World) (base : Nat) (v : Value) (l : List Sli) : Prop := w.ownsRow base T 1 v l.length (cellsR l)
theorem Lr.zero (T : TypeId) (w : World) (base : Nat) : Lr T w base (.slice none 0 0) [] := World.ownsRow_nil _ _ _ _
theorem Lr.alloc {T : TypeId} {w : World} {base : Nat} {v : Value} {l : List Sli} (h : Lr T w base v l) (o : Obj) : Lr T (w.alloc o) base v l := World.ownsRow.alloc h o
theorem Lr.next {T : TypeId} {w w' : World} {base : Nat} {v : Value} {l : List Sli} (h : Lr T w base v l) (hb : Below w.heap.size w w') : Lr T w' base v l := by
  refine ⟨h.1, ?_⟩
  rcases h.2 with hn | ⟨g, cap, cur, hv, hg, hc, rest⟩
  · exact .inl hn
  · exact .inr ⟨g, cap, cur, hv, hg, Blk.next hc hb, rest⟩
theorem Lr.row {T : TypeId} {w : World} {base : Nat} {v : Value} {l : List Sli} (h : Lr T w base v l) (h0 : 0 < l.length) : ∃ g cap, v = .slice (some ⟨g, 0, none⟩) l.length cap ∧ base ≤ g ∧ g < w.heap.size ∧ l.length ≤ cap ∧ ∀ i, i < l.length → w.cell? ⟨g, i, none⟩ = some (l.getD i sl0).v := by
  rcases h.2 with ⟨hv, hn⟩ | ⟨g, cap, cur, hv, hg, hc, h1, _⟩
  · omega
  · subst hv
    refine ⟨g, cap, rfl, hg, Blk.lt hc, h1, fun i hi => ?_⟩
    have e1 := World.ownsRow.cellAt h i (by omega)
    rw [e1]
    simp [cellsR, List.getD, hi]
theorem Lr.len {T : TypeId} {w : World} {base : Nat} {v : Value} {l : List Sli} (h : Lr T w base v l) : ∃ a cap, v = .slice a l.length cap := by
  rcases h.2 with ⟨hv, hn⟩ | ⟨g, cap, cur, hv, _⟩
  · exact ⟨none, 0, by rw [hn]; exact hv⟩
  · exact ⟨_, cap, hv⟩
/-- What is to be known of a kind T of slices, whose slices are S. -/
structure SliT (P : Program) (T S : TypeId) : Prop where
  info : (P.info? T).map (fun i => (i.zero, i.size, i.bytes)) = some (some (sl0.v), 1, 24)
  under : P.underlying S = some (.slice T)
/-- One slice is put behind the others. -/
theorem wp_sli {P : Program} {T S : TypeId} (hP : SliT P T S) {w : World} {ops : Array Oper} {rest : List Oper} {o : Oper} {a : Act} {Q : Exit → Act → World → Prop} (hgd : o.guard = none) (s x : Operand)
    (ho : o.op = .call { callee := .builtin .append, args := #[s, x], argTypes := #[S, S] })
    (base G : Nat) (v : Value) (l : List Sli) (r : Sli) (hs : a.eval s = v) (hx : a.eval x = .slice (some ⟨G, 0, none⟩) 1 1) (hv : Lr T w base v l) (hu : w.cell? ⟨G, 0, none⟩ = some r.v) (hn : l.length ≤ 1000000) (hbase : base ≤ w.heap.size)
    (h : ∀ v' w', Lr T w' base v' (l ++ [r]) → w.grownBy w' v.ownBlock → (v'.ownBlock = v.ownBlock ∨ v'.ownBlock = some w.heap.size) → wpList P ops Q rest (a.put o.dst v') w') : wpList P ops Q (o :: rest) a w := by
  obtain ⟨i0, hi, hz0, hz1, hz2⟩ := info_parts hP.info
  refine wpList_append_own_at w hgd s x S ho base T i0 (sl0.v) 1 24 hP.under hi hz0 hz1 hz2 rfl (by decide) v l.length (cellsR l) hs hv ⟨G, 0, none⟩ 1 1 (cellsR [r]) hx rfl ?_ (oneR [r]) (by unfold maxLen; omega) (by omega) hbase ?_
  · intro j u hj
    match j, hj with
    | 0, hj => simp [cellsR] at hj; subst hj; simpa [Addr.add] using hu
    | j + 1, hj => simp [cellsR] at hj
  intro v' w' h1 h2 _ h4
  refine h v' w' ?_ h2 h4
  unfold Lr
  rw [List.length_append]
  unfold cellsR at *
  rw [List.map_append]
  exact h1
/-- These slices read as these rows of words; none lies in the block 'own'. -/
def Recs (w : World) (own : Option Nat) (l : List Sli) (zs : List (List Int)) : Prop := l.length = zs.length ∧ ∀ i, i < l.length → (∃ b off, (l.getD i sl0).a = some ⟨b, off, none⟩ ∧ b < w.heap.size ∧ some b ≠ own) ∧ cell.RowU w (l.getD i sl0).a (l.getD i sl0).n (zs.getD i [])
theorem Recs.nil (w : World) (own : Option Nat) : Recs w own [] [] := ⟨rfl, fun i hi => by cases hi⟩
theorem Recs.below {w w' : World} {own : Option Nat} {l : List Sli} {zs : List (List Int)} (h : Recs w own l zs) (hb : Below w.heap.size w w') : Recs w' own l zs := ⟨h.1, fun i hi => by
  obtain ⟨⟨b, off, h1, h2, h3⟩, h4⟩ := h.2 i hi
  exact ⟨⟨b, off, h1, Nat.lt_of_lt_of_le h2 hb.size, h3⟩, h4.below hb⟩⟩
theorem Recs.snoc {w : World} {own : Option Nat} {l : List Sli} {zs : List (List Int)} (h : Recs w own l zs) {s : Sli} {z : List Int} (hs : (∃ b off, s.a = some ⟨b, off, none⟩ ∧ b < w.heap.size ∧ some b ≠ own) ∧ cell.RowU w s.a s.n z) : Recs w own (l ++ [s]) (zs ++ [z]) := by
  refine ⟨by rw [List.length_append, List.length_append, h.1]; rfl, fun i hi => ?_⟩
  by_cases h1 : i < l.length
  · have e1 : (l ++ [s]).getD i sl0 = l.getD i sl0 := by simp [List.getD, List.getElem?_append_left h1]
    have e2 : (zs ++ [z]).getD i [] = zs.getD i [] := by simp [List.getD, List.getElem?_append_left (show i < zs.length from h.1 ▸ h1)]
    rw [e1, e2]
    exact h.2 i h1
  · have hi' : i = l.length := by simp at hi; omega
    have e1 : (l ++ [s]).getD i sl0 = s := by rw [hi']; simp [List.getD]
    have e2 : (zs ++ [z]).getD i [] = z := by rw [hi', h.1]; simp [List.getD]
    rw [e1, e2]
    exact hs
theorem Recs.grown {w w' : World} {own own' : Option Nat} {l : List Sli} {zs : List (List Int)} (h : Recs w own l zs) (hg : w.grownBy w' own) (ho : own' = own ∨ own' = some w.heap.size) : Recs w' own' l zs := ⟨h.1, fun i hi => by
  obtain ⟨⟨b, off, h1, h2, h3⟩, h4⟩ := h.2 i hi
  have hb := hg.block b h2 h3
  refine ⟨⟨b, off, h1, Nat.lt_of_lt_of_le h2 hg.size, ?_⟩, h4.1, ?_⟩
  · rcases ho with rfl | rfl
    · exact h3
    · intro e; have := Option.some.inj e; omega
  · rcases h4.2 with h0 | ⟨b', off', e, hc⟩
    · exact .inl h0
    · rw [h1] at e
      have e1 := Option.some.inj e
      have e2 : b = b' := congrArg Addr.block e1
      subst e2
      refine .inr ⟨b, off', by rw [h1, e1], fun i hi => ?_⟩
      rw [← hc i hi]
      simp [World.cell?, hb]⟩

end Go.Proofs.Ytfllkhlnnihndaa.disk
