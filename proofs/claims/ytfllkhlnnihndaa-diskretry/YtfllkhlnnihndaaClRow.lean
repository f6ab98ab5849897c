/- Rows of writes: that came in, and that a call owns. -/
import Derived.Test.YtfllkhlnnihndaaClN
import Derived.Test.YtfllkhlnnihndaaWRow
namespace Go.Proofs.Ytfllkhlnnihndaa.cell
open Go.RowKit
set_option maxRecDepth 100000

/-- The slice a, len reads as the writes ls. -/
def RowW (w : World) (a : Option Addr) (len : Nat) (ls : List Wr) : Prop :=
  ls.length = len ∧ (len = 0 ∨ ∃ b off, a = some ⟨b, off, none⟩ ∧ ∀ i, i < len → w.cell? ⟨b, off + i * 2, none⟩ = some (.int .i64 (ls.getD i wr0).p) ∧ w.cell? ⟨b, off + i * 2 + 1, none⟩ = some (.int .u32 (ls.getD i wr0).d))
theorem RowW.below {w w' : World} {a : Option Addr} {n : Nat} {zs : List Wr} (h : RowW w a n zs) (hb : Below w.heap.size w w') : RowW w' a n zs := by
  refine ⟨h.1, ?_⟩
  rcases h.2 with h0 | ⟨b, off, rfl, hc⟩
  · exact .inl h0
  · refine .inr ⟨b, off, rfl, fun i hi => ?_⟩
    have h1 := hc i hi
    rw [hb.cell (p := ⟨b, off + i * 2, none⟩) (World.block_lt_of_cell? w _ h1.1), hb.cell (p := ⟨b, off + i * 2 + 1, none⟩) (World.block_lt_of_cell? w _ h1.2)]
    exact h1
theorem RowW.nil (w : World) (a : Option Addr) : RowW w a 0 [] := ⟨rfl, .inl rfl⟩
/-- The first k of the writes; those from n on. -/
theorem RowW.cut {w : World} {a : Option Addr} {n k : Nat} {zs : List Wr} (h : RowW w a n zs) (hk : k ≤ n) : RowW w a k (zs.take k) := by
  refine ⟨by rw [List.length_take, h.1]; omega, ?_⟩
  rcases h.2 with h0 | ⟨b, off, rfl, hc⟩
  · exact .inl (by omega)
  · refine .inr ⟨b, off, rfl, fun i hi => ?_⟩
    have e : (zs.take k).getD i wr0 = zs.getD i wr0 := by simp [List.getD, hi]
    rw [e]; exact hc i (by omega)
theorem RowW.at {w : World} {a : Option Addr} {n : Nat} {zs : List Wr} (h : RowW w a n zs) (h0 : 0 < n) : ∃ b off, a = some ⟨b, off, none⟩ ∧ b < w.heap.size ∧ ∀ i, i < n → w.cell? ⟨b, off + i * 2, none⟩ = some (.int .i64 (zs.getD i wr0).p) ∧ w.cell? ⟨b, off + i * 2 + 1, none⟩ = some (.int .u32 (zs.getD i wr0).d) := by
  rcases h.2 with h1 | ⟨b, off, rfl, hc⟩
  · omega
  · exact ⟨b, off, rfl, World.block_lt_of_cell? w _ (hc 0 h0).1, hc⟩
/-- What the frame hands to the walk of writes that came in. -/
theorem rowW_of {w : World} {a : Addr} {m len : Nat} (hl : len ≤ m)
    (h : ∀ j, j < m → ∃ z0 z1, w.cell? (a.add (j * 2)) = some (.int .i64 z0) ∧ w.cell? (a.add (j * 2 + 1)) = some (.int .u32 z1) ∧ (Lit.int .i64 z0).wf = true) :
    ∃ zs : List Wr, RowW w (some a) len zs ∧ ∀ x ∈ zs, (Lit.int .i64 x.p).wf = true := by
  have h' : ∀ j, ∃ e : Wr, j < m → w.cell? (a.add (j * 2)) = some (.int .i64 e.p) ∧ w.cell? (a.add (j * 2 + 1)) = some (.int .u32 e.d) ∧ (Lit.int .i64 e.p).wf = true := fun j => by
    by_cases hj : j < m
    · obtain ⟨z0, z1, hz⟩ := h j hj
      exact ⟨⟨z0, z1⟩, fun _ => hz⟩
    · exact ⟨wr0, fun hh => absurd hh hj⟩
  obtain ⟨f, hf⟩ : ∃ f : Nat → Wr, ∀ j, j < m → w.cell? (a.add (j * 2)) = some (.int .i64 (f j).p) ∧ w.cell? (a.add (j * 2 + 1)) = some (.int .u32 (f j).d) ∧ (Lit.int .i64 (f j).p).wf = true := ⟨fun j => Classical.choose (h' j), fun j hj => Classical.choose_spec (h' j) hj⟩
  clear h' h
  refine ⟨(List.range len).map f, ⟨by simp, ?_⟩, fun x hx => ?_⟩
  · by_cases h0 : len = 0
    · exact .inl h0
    · obtain ⟨b, off, spot⟩ := a
      have hs : spot = none := by simpa [Addr.add] using World.cell?_spot (hf 0 (by omega)).1
      subst hs
      refine .inr ⟨b, off, rfl, fun i hi => ?_⟩
      have h1 := hf i (by omega)
      rw [Addr.add_lit, Addr.add_lit, ← Nat.add_assoc] at h1
      have e : ((List.range len).map f).getD i wr0 = f i := by simp [List.getD, hi]
      rw [e]
      exact ⟨h1.1, h1.2.1⟩
  · obtain ⟨j, hj, rfl⟩ := List.mem_map.1 hx
    exact (hf j (by have := List.mem_range.1 hj; omega)).2.2
def cellsW : List Wr → List Value
  | [] => []
  | e :: l => .int .i64 e.p :: .int .u32 e.d :: cellsW l
theorem cellsW_len (l : List Wr) : (cellsW l).length = l.length * 2 := by
  induction l with
  | nil => rfl
  | cons e l ih => simp [cellsW, ih]; omega
theorem cellsW_app (l m : List Wr) : cellsW (l ++ m) = cellsW l ++ cellsW m := by
  induction l with
  | nil => rfl
  | cons e l ih => simp [cellsW, ih]
theorem oneW (l : List Wr) : ∀ u ∈ cellsW l, u.oneCell' = true := by
  induction l with
  | nil => intro u hu; cases hu
  | cons e l ih =>
    intro u hu
    simp only [cellsW, List.mem_cons] at hu
    rcases hu with rfl | rfl | hu
    · rfl
    · rfl
    · exact ih u hu
theorem cellsW_at (l : List Wr) (k : Nat) (hk : k < l.length) : (cellsW l)[k * 2]? = some (.int .i64 (l.getD k wr0).p) ∧ (cellsW l)[k * 2 + 1]? = some (.int .u32 (l.getD k wr0).d) := by
  induction l generalizing k with
  | nil => simp at hk
  | cons x l ih =>
    cases k with
    | zero => exact ⟨rfl, rfl⟩
    | succ k =>
      rw [show (k + 1) * 2 = k * 2 + 1 + 1 by omega]
      have := ih k (by simpa using hk)
      simpa [cellsW] using this
/-- Writes that nobody else holds. -/
def Lw (w : World) (base : Nat) (v : Value) (l : List Wr) : Prop := w.ownsRow base 44 2 v l.length (cellsW l)
theorem Lw.zero (w : World) (base : Nat) : Lw w base (.slice none 0 0) [] := World.ownsRow_nil _ _ _ _
theorem Lw.alloc {w : World} {base : Nat} {v : Value} {l : List Wr} (h : Lw w base v l) (o : Obj) : Lw (w.alloc o) base v l := World.ownsRow.alloc h o
theorem Lw.next {w w' : World} {base : Nat} {v : Value} {l : List Wr} (h : Lw w base v l) (hb : Below w.heap.size w w') : Lw w' base v l := by
  refine ⟨h.1, ?_⟩
  rcases h.2 with hn | ⟨g, cap, cur, hv, hg, hc, rest⟩
  · exact .inl hn
  · exact .inr ⟨g, cap, cur, hv, hg, Blk.next hc hb, rest⟩
theorem Lw.row {w : World} {base : Nat} {v : Value} {l : List Wr} (h : Lw w base v l) : ∃ a cap, v = .slice a l.length cap ∧ RowW w a l.length l ∧ (a = none → cap = 0) ∧ l.length ≤ cap ∧ (∀ x, a = some x → x.off = 0 ∧ x.spot = none) := by
  rcases h.2 with ⟨hv, hn⟩ | ⟨g, cap, cur, hv, _, _, h1, _⟩
  · exact ⟨none, 0, by rw [hn]; exact hv, ⟨rfl, .inl hn⟩, fun _ => rfl, by omega, fun x h => by cases h⟩
  · subst hv
    refine ⟨_, cap, rfl, ⟨rfl, .inr ⟨g, 0, rfl, fun i hi => ?_⟩⟩, (fun h => by cases h), h1, fun x h => by cases h; exact ⟨rfl, rfl⟩⟩
    have e1 := World.ownsRow.cellAt h (i * 2) (by omega)
    have e2 := World.ownsRow.cellAt h (i * 2 + 1) (by omega)
    rw [Nat.zero_add, e1, e2]
    exact cellsW_at l i hi
theorem info_wr : (Try.prog.info? 44).map (fun i => (i.zero, i.size, i.bytes)) = some (some (.agg #[.int .i64 0, .int .u32 0]), 2, 16) := by kernel_rfl
/-- One write is put behind the others. -/
theorem wp_write {w : World} {ops : Array Oper} {rest : List Oper} {o : Oper} {a : Act} {Q : Exit → Act → World → Prop} (hgd : o.guard = none) (s x : Operand)
    (ho : o.op = .call { callee := .builtin .append, args := #[s, x], argTypes := #[31, 31] })
    (base G : Nat) (v : Value) (l : List Wr) (r : Wr) (hs : a.eval s = v) (hx : a.eval x = .slice (some ⟨G, 0, none⟩) 1 1) (hv : Lw w base v l) (hu : w.cell? ⟨G, 0, none⟩ = some (.int .i64 r.p) ∧ w.cell? ⟨G, 1, none⟩ = some (.int .u32 r.d)) (hn : l.length ≤ 1000000) (hbase : base ≤ w.heap.size)
    (h : ∀ v' w', Lw w' base v' (l ++ [r]) → w.grownBy w' v.ownBlock → wpList Try.prog ops Q rest (a.put o.dst v') w') : wpList Try.prog ops Q (o :: rest) a w := by
  obtain ⟨i0, hi, hz0, hz1, hz2⟩ := info_parts info_wr
  refine wpList_append_own w hgd s x 31 ho base 44 i0 (.agg #[.int .i64 0, .int .u32 0]) 2 16 Try.underlying31 hi hz0 hz1 hz2 rfl (by decide) v l.length (cellsW l) hs hv ⟨G, 0, none⟩ 1 1 (cellsW [r]) hx rfl ?_ (oneW [r]) (by unfold maxLen; omega) (by omega) hbase ?_
  · intro j u hj
    match j, hj with
    | 0, hj => simp [cellsW] at hj; subst hj; simpa [Addr.add] using hu.1
    | 1, hj => simp [cellsW] at hj; subst hj; simpa [Addr.add] using hu.2
    | j + 2, hj => simp [cellsW] at hj
  intro v' w' h1 h2 _
  refine h v' w' ?_ h2
  unfold Lw
  rw [List.length_append, cellsW_app]
  exact h1

end Go.Proofs.Ytfllkhlnnihndaa.cell
