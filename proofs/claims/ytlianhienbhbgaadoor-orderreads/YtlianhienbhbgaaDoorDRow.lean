/- Rows of pairs of numbers: that came in, and that a call owns. -/
import Derived.Test.YtlianhienbhbgaaDoorTfN
import Derived.Test.YtlianhienbhbgaaDoorBlk
import Derived.Laws.OwnMore
import Derived.Laws.AppendOwnNone
import Derived.OwnWalk
import Derived.BigRegion
import Derived.BigQuiet
import Derived.WalkSpells
import Derived.WalkLawsBesides
namespace Go.Proofs.YtlianhienbhbgaaDoor.tar
open Go.RowKit
set_option maxRecDepth 100000

/-- The slice a, len reads as the pairs ls. -/
def RowD (w : World) (a : Option Addr) (len : Nat) (ls : List Du) : Prop :=
  ls.length = len ∧ (len = 0 ∨ ∃ b off, a = some ⟨b, off, none⟩ ∧ ∀ i, i < len → w.cell? ⟨b, off + i * 2, none⟩ = some (.int .i64 (ls.getD i du0).a) ∧ w.cell? ⟨b, off + i * 2 + 1, none⟩ = some (.int .i64 (ls.getD i du0).b))
theorem RowD.below {w w' : World} {a : Option Addr} {n : Nat} {zs : List Du} (h : RowD w a n zs) (hb : Below w.heap.size w w') : RowD w' a n zs := by
  refine ⟨h.1, ?_⟩
  rcases h.2 with h0 | ⟨b, off, rfl, hc⟩
  · exact .inl h0
  · refine .inr ⟨b, off, rfl, fun i hi => ?_⟩
    have h1 := hc i hi
    rw [hb.cell (p := ⟨b, off + i * 2, none⟩) (World.block_lt_of_cell? w _ h1.1), hb.cell (p := ⟨b, off + i * 2 + 1, none⟩) (World.block_lt_of_cell? w _ h1.2)]
    exact h1
theorem RowD.nil (w : World) (a : Option Addr) : RowD w a 0 [] := ⟨rfl, .inl rfl⟩
theorem RowD.at {w : World} {a : Option Addr} {n : Nat} {zs : List Du} (h : RowD w a n zs) (h0 : 0 < n) : ∃ b off, a = some ⟨b, off, none⟩ ∧ b < w.heap.size ∧ ∀ i, i < n → w.cell? ⟨b, off + i * 2, none⟩ = some (.int .i64 (zs.getD i du0).a) ∧ w.cell? ⟨b, off + i * 2 + 1, none⟩ = some (.int .i64 (zs.getD i du0).b) := by
  rcases h.2 with h1 | ⟨b, off, rfl, hc⟩
  · omega
  · exact ⟨b, off, rfl, World.block_lt_of_cell? w _ (hc 0 h0).1, hc⟩
/-- What the frame hands to the walk of pairs that came in. -/
theorem rowD_of {w : World} {a : Addr} {m len : Nat} (hl : len ≤ m)
    (h : ∀ j, j < m → ∃ z0 z1, w.cell? (a.add (j * 2)) = some (.int .i64 z0) ∧ w.cell? (a.add (j * 2 + 1)) = some (.int .i64 z1) ∧ (Lit.int .i64 z0).wf = true ∧ (Lit.int .i64 z1).wf = true) :
    ∃ zs : List Du, RowD w (some a) len zs ∧ ∀ x ∈ zs, (Lit.int .i64 x.a).wf = true ∧ (Lit.int .i64 x.b).wf = true := by
  have h' : ∀ j, ∃ e : Du, j < m → w.cell? (a.add (j * 2)) = some (.int .i64 e.a) ∧ w.cell? (a.add (j * 2 + 1)) = some (.int .i64 e.b) ∧ (Lit.int .i64 e.a).wf = true ∧ (Lit.int .i64 e.b).wf = true := fun j => by
    by_cases hj : j < m
    · obtain ⟨z0, z1, hz⟩ := h j hj
      exact ⟨⟨z0, z1⟩, fun _ => hz⟩
    · exact ⟨du0, fun hh => absurd hh hj⟩
  obtain ⟨f, hf⟩ : ∃ f : Nat → Du, ∀ j, j < m → w.cell? (a.add (j * 2)) = some (.int .i64 (f j).a) ∧ w.cell? (a.add (j * 2 + 1)) = some (.int .i64 (f j).b) ∧ (Lit.int .i64 (f j).a).wf = true ∧ (Lit.int .i64 (f j).b).wf = true := ⟨fun j => Classical.choose (h' j), fun j hj => Classical.choose_spec (h' j) hj⟩
  clear h' h
  refine ⟨(List.range len).map f, ⟨by simp, ?_⟩, fun x hx => ?_⟩
  · by_cases h0 : len = 0
    · exact .inl h0
    · obtain ⟨b, off, spot⟩ := a
      have hs : spot = none := by simpa [Addr.add] using World.cell?_spot (hf 0 (by omega)).1
      subst hs
      refine .inr ⟨b, off, rfl, fun i hi => ?_⟩
      have h1 := hf i (by omega)
      rw [Addr.add_lit, Addr.add_lit, ← Nat.add_assoc] at h1
      have e : ((List.range len).map f).getD i du0 = f i := by simp [List.getD, hi]
      rw [e]
      exact ⟨h1.1, h1.2.1⟩
  · obtain ⟨j, hj, rfl⟩ := List.mem_map.1 hx
    exact (hf j (by have := List.mem_range.1 hj; omega)).2.2
def cellsD : List Du → List Value
  | [] => []
  | e :: l => .int .i64 e.a :: .int .i64 e.b :: cellsD l
theorem cellsD_len (l : List Du) : (cellsD l).length = l.length * 2 := by
  induction l with
  | nil => rfl
  | cons e l ih => simp [cellsD, ih]; omega
theorem cellsD_app (l m : List Du) : cellsD (l ++ m) = cellsD l ++ cellsD m := by
  induction l with
  | nil => rfl
  | cons e l ih => simp [cellsD, ih]
theorem oneD (l : List Du) : ∀ u ∈ cellsD l, u.oneCell' = true := by
  induction l with
  | nil => intro u hu; cases hu
  | cons e l ih =>
    intro u hu
    simp only [cellsD, List.mem_cons] at hu
    rcases hu with rfl | rfl | hu
    · rfl
    · rfl
    · exact ih u hu
theorem cellsD_at (l : List Du) (k : Nat) (hk : k < l.length) : (cellsD l)[k * 2]? = some (.int .i64 (l.getD k du0).a) ∧ (cellsD l)[k * 2 + 1]? = some (.int .i64 (l.getD k du0).b) := by
  induction l generalizing k with
  | nil => simp at hk
  | cons x l ih =>
    cases k with
    | zero => exact ⟨rfl, rfl⟩
    | succ k =>
      rw [show (k + 1) * 2 = k * 2 + 1 + 1 by omega]
      have := ih k (by simpa using hk)
      simpa [cellsD] using this
theorem cellsD_get {w : World} {b off len : Nat} {zs : List Du} (hz : zs.length = len) (hc : ∀ i, i < len → w.cell? ⟨b, off + i * 2, none⟩ = some (.int .i64 (zs.getD i du0).a) ∧ w.cell? ⟨b, off + i * 2 + 1, none⟩ = some (.int .i64 (zs.getD i du0).b)) (j : Nat) (u : Value) (hu : (cellsD zs)[j]? = some u) : w.cell? ⟨b, off + j, none⟩ = some u := by
  have hj : j < (cellsD zs).length := by
    by_cases h : j < (cellsD zs).length
    · exact h
    · rw [List.getElem?_eq_none (by omega)] at hu; cases hu
  rw [cellsD_len] at hj
  have h1 := cellsD_at zs (j / 2) (by omega)
  have h2 := hc (j / 2) (by omega)
  rcases Nat.mod_two_eq_zero_or_one j with e | e
  · have e2 : j / 2 * 2 = j := by omega
    rw [e2] at h1 h2
    rw [h1.1] at hu
    rw [h2.1]; exact hu
  · have e2 : j / 2 * 2 + 1 = j := by omega
    rw [Nat.add_assoc, e2] at h2
    rw [e2] at h1
    rw [h1.2] at hu
    rw [h2.2]; exact hu
/-- Pairs (of the kind T) that nobody else holds. -/
def Ld (T : TypeId) (w : World) (base : Nat) (v : Value) (l : List Du) : Prop := w.ownsRow base T 2 v l.length (cellsD l)
theorem Ld.zero (T : TypeId) (w : World) (base : Nat) : Ld T w base (.slice none 0 0) [] := World.ownsRow_nil _ _ _ _
theorem Ld.alloc {T : TypeId} {w : World} {base : Nat} {v : Value} {l : List Du} (h : Ld T w base v l) (o : Obj) : Ld T (w.alloc o) base v l := World.ownsRow.alloc h o
theorem Ld.next {T : TypeId} {w w' : World} {base : Nat} {v : Value} {l : List Du} (h : Ld T w base v l) (hb : Below w.heap.size w w') : Ld T w' base v l := by
  refine ⟨h.1, ?_⟩
  rcases h.2 with hn | ⟨g, cap, cur, hv, hg, hc, rest⟩
  · exact .inl hn
  · exact .inr ⟨g, cap, cur, hv, hg, Blk.next hc hb, rest⟩
theorem Ld.low {T : TypeId} {w : World} {base base' : Nat} {v : Value} {l : List Du} (h : Ld T w base v l) (hb : base' ≤ base) : Ld T w base' v l := by
  refine ⟨h.1, ?_⟩
  rcases h.2 with hn | ⟨g, cap, cur, hv, hg, rest⟩
  · exact .inl hn
  · exact .inr ⟨g, cap, cur, hv, by omega, rest⟩
theorem Ld.row {T : TypeId} {w : World} {base : Nat} {v : Value} {l : List Du} (h : Ld T w base v l) : ∃ a cap, v = .slice a l.length cap ∧ RowD w a l.length l ∧ (a = none → cap = 0) ∧ l.length ≤ cap ∧ (∀ x, a = some x → x.off = 0 ∧ x.spot = none) := by
  rcases h.2 with ⟨hv, hn⟩ | ⟨g, cap, cur, hv, _, _, h1, _⟩
  · exact ⟨none, 0, by rw [hn]; exact hv, ⟨rfl, .inl hn⟩, fun _ => rfl, by omega, fun x h => by cases h⟩
  · subst hv
    refine ⟨_, cap, rfl, ⟨rfl, .inr ⟨g, 0, rfl, fun i hi => ?_⟩⟩, (fun h => by cases h), h1, fun x h => by cases h; exact ⟨rfl, rfl⟩⟩
    have e1 := World.ownsRow.cellAt h (i * 2) (by omega)
    have e2 := World.ownsRow.cellAt h (i * 2 + 1) (by omega)
    rw [Nat.zero_add, e1, e2]
    exact cellsD_at l i hi
theorem own_far {w : World} {base n k : Nat} {t : TypeId} {v : Value} {l : List Value} (h : w.ownsRow base t n v k l) {G : Nat} (hG : G < base) : some G ≠ v.ownBlock := by
  intro e
  have := (World.ownsRow.lt h G e.symm).1
  omega
theorem own_bel {w0 w w' : World} {base B n k : Nat} {t : TypeId} {v : Value} {l : List Value} (h : w.ownsRow base t n v k l) (hg : w.grownBy w' v.ownBlock) (hb : Below B w0 w) (hB : B ≤ base) (hw : B ≤ w.heap.size) : Below B w0 w' := by
  refine ⟨hg.os.trans hb.os, hg.tape.trans hb.tape, hg.output.trans hb.output, Nat.le_trans hb.size hg.size, fun k hk => ?_⟩
  rw [← hb.block k hk]
  exact hg.block k (by omega) (own_far h (by omega))
theorem bel_drewN {B : Nat} {w w' : World} (h : Below B w w') (n : Nat) : Below B w (w'.drewN n) := ⟨h.os, h.tape, h.output, h.size, h.block⟩
/-- What is to be known of a kind T of pairs, whose slices are S. -/
structure PairT (P : Program) (T S : TypeId) : Prop where
  info : (P.info? T).map (fun i => (i.zero, i.size, i.bytes)) = some (some (.agg #[.int .i64 0, .int .i64 0]), 2, 16)
  under : P.underlying S = some (.slice T)
/-- One pair is put behind the others. -/
theorem wp_pair {P : Program} {T S : TypeId} (hP : PairT P T S) {w : World} {ops : Array Oper} {rest : List Oper} {o : Oper} {a : Act} {Q : Exit → Act → World → Prop} (hgd : o.guard = none) (s x : Operand)
    (ho : o.op = .call { callee := .builtin .append, args := #[s, x], argTypes := #[S, S] })
    (base G : Nat) (v : Value) (l : List Du) (r : Du) (hs : a.eval s = v) (hx : a.eval x = .slice (some ⟨G, 0, none⟩) 1 1) (hv : Ld T w base v l) (hu : w.cell? ⟨G, 0, none⟩ = some (.int .i64 r.a) ∧ w.cell? ⟨G, 1, none⟩ = some (.int .i64 r.b)) (hn : l.length ≤ 1000000) (hbase : base ≤ w.heap.size)
    (h : ∀ v' w', Ld T w' base v' (l ++ [r]) → w.grownBy w' v.ownBlock → wpList P ops Q rest (a.put o.dst v') w') : wpList P ops Q (o :: rest) a w := by
  obtain ⟨i0, hi, hz0, hz1, hz2⟩ := info_parts hP.info
  refine wpList_append_own w hgd s x S ho base T i0 (.agg #[.int .i64 0, .int .i64 0]) 2 16 hP.under hi hz0 hz1 hz2 rfl (by decide) v l.length (cellsD l) hs hv ⟨G, 0, none⟩ 1 1 (cellsD [r]) hx rfl ?_ (oneD [r]) (by unfold maxLen; omega) (by omega) hbase ?_
  · intro j u hj
    match j, hj with
    | 0, hj => simp [cellsD] at hj; subst hj; simpa [Addr.add] using hu.1
    | 1, hj => simp [cellsD] at hj; subst hj; simpa [Addr.add] using hu.2
    | j + 2, hj => simp [cellsD] at hj
  intro v' w' h1 h2 _
  refine h v' w' ?_ h2
  unfold Ld
  rw [List.length_append, cellsD_app]
  exact h1
/-- The same, in a region that draws its order. -/
theorem step_pair {P : Program} {T S : TypeId} (hP : PairT P T S) {w : World} {ops : Array Oper} {o : Oper} {a : Act} {K : Act → World → Prop} {Q : Exit → Act → World → Prop} {E : Prop} (hgd : o.guard = none) (s x : Operand)
    (ho : o.op = .call { callee := .builtin .append, args := #[s, x], argTypes := #[S, S] })
    (base G : Nat) (v : Value) (l : List Du) (r : Du) (hs : a.eval s = v) (hx : a.eval x = .slice (some ⟨G, 0, none⟩) 1 1) (hv : Ld T w base v l) (hu : w.cell? ⟨G, 0, none⟩ = some (.int .i64 r.a) ∧ w.cell? ⟨G, 1, none⟩ = some (.int .i64 r.b)) (hn : l.length ≤ 1000000) (hbase : base ≤ w.heap.size)
    (h : ∀ v' w', Ld T w' base v' (l ++ [r]) → w.grownBy w' v.ownBlock → K (a.put o.dst v') w') : if Region.wanted o (yielded ops a.tmps) = true then Oper.wp P o a w K Q else E := by
  have hw : Region.wanted o (yielded ops a.tmps) = true := by simp [Region.wanted, hgd]
  rw [if_pos hw]
  obtain ⟨i0, hi, hz0, hz1, hz2⟩ := info_parts hP.info
  obtain ⟨v', w', hr, h2, h3, _⟩ := run_append_own (P := P) w base S o.type T i0 (.agg #[.int .i64 0, .int .i64 0]) 2 16 hP.under hi hz0 hz1 hz2 rfl (by decide) v l.length (cellsD l) hv ⟨G, 0, none⟩ 1 1 (cellsD [r]) rfl (by
    intro j u hj
    match j, hj with
    | 0, hj => simp [cellsD] at hj; subst hj; simpa [Addr.add] using hu.1
    | 1, hj => simp [cellsD] at hj; subst hj; simpa [Addr.add] using hu.2
    | j + 2, hj => simp [cellsD] at hj) (oneD [r]) (by unfold maxLen; omega) (by omega) hbase
  unfold Oper.wp execOp
  simp only [ho, resolve, invoke, builtin, Sem.run_bind, Sem.run_pure, Result.andThen_ok, List.map_toArray, List.map_cons, List.map_nil, hs, hx, hr]
  refine h v' w' ?_ h3
  unfold Ld
  rw [List.length_append, cellsD_app]
  exact h2
/-- A copy of pairs: append(nil, l...). -/
theorem wp_pairs {P : Program} {T S : TypeId} (hP : PairT P T S) {w : World} {ops : Array Oper} {rest : List Oper} {o : Oper} {a : Act} {Q : Exit → Act → World → Prop} (hgd : o.guard = none) (s x : Operand)
    (ho : o.op = .call { callee := .builtin .append, args := #[s, x], argTypes := #[S, S] })
    (base : Nat) (A : Addr) (len cap : Nat) (zs : List Du) (hs : a.eval s = .slice none 0 0) (hx : a.eval x = .slice (some A) len cap) (hr : RowD w (some A) len zs) (hl : len * 16 ≤ 140737488351232) (hbase : base ≤ w.heap.size)
    (h : ∀ v' w', Ld T w' base v' zs → w.grownBy w' none → wpList P ops Q rest (a.put o.dst v') w') : wpList P ops Q (o :: rest) a w := by
  obtain ⟨i0, hi, hz0, hz1, hz2⟩ := info_parts hP.info
  obtain ⟨hz, hr⟩ := hr
  refine wpList_append_own w hgd s x S ho base T i0 (.agg #[.int .i64 0, .int .i64 0]) 2 16 hP.under hi hz0 hz1 hz2 rfl (by decide) _ _ _ hs (World.ownsRow_nil _ _ _ _) A len cap (cellsD zs) hx ?_ ?_ (oneD zs) (by unfold maxLen; omega) (by omega) hbase ?_
  · rw [cellsD_len, hz]
  · intro j u hu
    rcases hr with h | ⟨b, off, h, hc⟩
    · rw [List.getElem?_eq_none (by rw [cellsD_len]; omega)] at hu; cases hu
    · obtain rfl := Option.some.inj h
      rw [Addr.add_lit]
      exact cellsD_get hz hc j u hu
  · intro v' w' h1 h2 _
    refine h v' w' ?_ (by simpa [Value.ownBlock] using h2)
    show w'.ownsRow _ _ _ _ _ _
    rw [hz]; simpa using h1

end Go.Proofs.YtlianhienbhbgaaDoor.tar
