/- Rows of texts that a call owns. -/
import Derived.Test.YtlianhienbhbgaaDoorDRow
namespace Go.Proofs.YtlianhienbhbgaaDoor.rcp
open Go.RowKit
set_option maxRecDepth 100000

def cellsS (l : List ByteArray) : List Value := l.map Value.string
theorem oneS (l : List ByteArray) : ∀ u ∈ cellsS l, u.oneCell' = true := fun u hu => by
  obtain ⟨s, _, rfl⟩ := List.mem_map.1 hu
  rfl
/-- Texts (of the kind T) that nobody else holds. -/
def Ls (T : TypeId) (w : World) (base : Nat) (v : Value) (l : List ByteArray) : Prop := w.ownsRow base T 1 v l.length (cellsS l)
theorem Ls.zero (T : TypeId) (w : World) (base : Nat) : Ls T w base (.slice none 0 0) [] := World.ownsRow_nil _ _ _ _
theorem Ls.alloc {T : TypeId} {w : World} {base : Nat} {v : Value} {l : List ByteArray} (h : Ls T w base v l) (o : Obj) : Ls T (w.alloc o) base v l := World.ownsRow.alloc h o
theorem Ls.next {T : TypeId} {w w' : World} {base : Nat} {v : Value} {l : List ByteArray} (h : Ls T w base v l) (hb : Below w.heap.size w w') : Ls T w' base v l := by
  refine ⟨h.1, ?_⟩
  rcases h.2 with hn | ⟨g, cap, cur, hv, hg, hc, rest⟩
  · exact .inl hn
  · exact .inr ⟨g, cap, cur, hv, hg, Blk.next hc hb, rest⟩
theorem Ls.row {T : TypeId} {w : World} {base : Nat} {v : Value} {l : List ByteArray} (h : Ls T w base v l) (h0 : 0 < l.length) : ∃ g cap, v = .slice (some ⟨g, 0, none⟩) l.length cap ∧ base ≤ g ∧ g < w.heap.size ∧ l.length ≤ cap ∧ ∀ i, i < l.length → w.cell? ⟨g, i, none⟩ = some (.string (l.getD i ByteArray.empty)) := by
  rcases h.2 with ⟨hv, hn⟩ | ⟨g, cap, cur, hv, hg, hc, h1, _⟩
  · omega
  · subst hv
    refine ⟨g, cap, rfl, hg, Blk.lt hc, h1, fun i hi => ?_⟩
    have e1 := World.ownsRow.cellAt h i (by omega)
    rw [e1]
    simp [cellsS, List.getD, hi]
theorem Ls.len {T : TypeId} {w : World} {base : Nat} {v : Value} {l : List ByteArray} (h : Ls T w base v l) : ∃ a cap, v = .slice a l.length cap := by
  rcases h.2 with ⟨hv, hn⟩ | ⟨g, cap, cur, hv, _⟩
  · exact ⟨none, 0, by rw [hn]; exact hv⟩
  · exact ⟨_, cap, hv⟩
/-- What is to be known of a kind T of texts, whose slices are S. -/
structure TextT (P : Program) (T S : TypeId) : Prop where
  info : (P.info? T).map (fun i => (i.zero, i.size, i.bytes)) = some (some (.string ByteArray.empty), 1, 16)
  under : P.underlying S = some (.slice T)
/-- One text is put behind the others. -/
theorem wp_str {P : Program} {T S : TypeId} (hP : TextT P T S) {w : World} {ops : Array Oper} {rest : List Oper} {o : Oper} {a : Act} {Q : Exit → Act → World → Prop} (hgd : o.guard = none) (s x : Operand)
    (ho : o.op = .call { callee := .builtin .append, args := #[s, x], argTypes := #[S, S] })
    (base G : Nat) (v : Value) (l : List ByteArray) (r : ByteArray) (hs : a.eval s = v) (hx : a.eval x = .slice (some ⟨G, 0, none⟩) 1 1) (hv : Ls T w base v l) (hu : w.cell? ⟨G, 0, none⟩ = some (.string r)) (hn : l.length ≤ 1000000) (hbase : base ≤ w.heap.size)
    (h : ∀ v' w', Ls T w' base v' (l ++ [r]) → w.grownBy w' v.ownBlock → wpList P ops Q rest (a.put o.dst v') w') : wpList P ops Q (o :: rest) a w := by
  obtain ⟨i0, hi, hz0, hz1, hz2⟩ := info_parts hP.info
  refine wpList_append_own w hgd s x S ho base T i0 (.string ByteArray.empty) 1 16 hP.under hi hz0 hz1 hz2 rfl (by decide) v l.length (cellsS l) hs hv ⟨G, 0, none⟩ 1 1 (cellsS [r]) hx rfl ?_ (oneS [r]) (by unfold maxLen; omega) (by omega) hbase ?_
  · intro j u hj
    match j, hj with
    | 0, hj => simp [cellsS] at hj; subst hj; simpa [Addr.add] using hu
    | j + 1, hj => simp [cellsS] at hj
  intro v' w' h1 h2 _
  refine h v' w' ?_ h2
  unfold Ls
  rw [List.length_append]
  unfold cellsS at *
  rw [List.map_append]
  exact h1

end Go.Proofs.YtlianhienbhbgaaDoor.rcp
