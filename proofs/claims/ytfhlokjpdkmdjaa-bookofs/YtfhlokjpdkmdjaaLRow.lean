/- Rows of three numbers each: that came in, and that a call owns. -/
import Derived.Test.YtfhlokjpdkmdjaaDRow
namespace Go.Proofs.Ytfhlokjpdkmdjaa.tar
open Go.RowKit
set_option maxRecDepth 100000

/-- The slice a, len reads as the lines ls. -/
def RowL (w : World) (a : Option Addr) (len : Nat) (ls : List Tr) : Prop :=
  ls.length = len ∧ (len = 0 ∨ ∃ b off, a = some ⟨b, off, none⟩ ∧ ∀ i, i < len → w.cell? ⟨b, off + i * 3, none⟩ = some (.int .i64 (ls.getD i tr0).a) ∧ w.cell? ⟨b, off + i * 3 + 1, none⟩ = some (.int .i64 (ls.getD i tr0).b) ∧ w.cell? ⟨b, off + i * 3 + 2, none⟩ = some (.int .i64 (ls.getD i tr0).c))
theorem RowL.below {w w' : World} {a : Option Addr} {n : Nat} {zs : List Tr} (h : RowL w a n zs) (hb : Below w.heap.size w w') : RowL w' a n zs := by
  refine ⟨h.1, ?_⟩
  rcases h.2 with h0 | ⟨b, off, rfl, hc⟩
  · exact .inl h0
  · refine .inr ⟨b, off, rfl, fun i hi => ?_⟩
    have h1 := hc i hi
    rw [hb.cell (p := ⟨b, off + i * 3, none⟩) (World.block_lt_of_cell? w _ h1.1), hb.cell (p := ⟨b, off + i * 3 + 1, none⟩) (World.block_lt_of_cell? w _ h1.2.1), hb.cell (p := ⟨b, off + i * 3 + 2, none⟩) (World.block_lt_of_cell? w _ h1.2.2)]
    exact h1
theorem RowL.nil (w : World) (a : Option Addr) : RowL w a 0 [] := ⟨rfl, .inl rfl⟩
theorem RowL.at {w : World} {a : Option Addr} {n : Nat} {zs : List Tr} (h : RowL w a n zs) (h0 : 0 < n) : ∃ b off, a = some ⟨b, off, none⟩ ∧ b < w.heap.size ∧ ∀ i, i < n → w.cell? ⟨b, off + i * 3, none⟩ = some (.int .i64 (zs.getD i tr0).a) ∧ w.cell? ⟨b, off + i * 3 + 1, none⟩ = some (.int .i64 (zs.getD i tr0).b) ∧ w.cell? ⟨b, off + i * 3 + 2, none⟩ = some (.int .i64 (zs.getD i tr0).c) := by
  rcases h.2 with h1 | ⟨b, off, rfl, hc⟩
  · omega
  · exact ⟨b, off, rfl, World.block_lt_of_cell? w _ (hc 0 h0).1, hc⟩
def cellsL : List Tr → List Value
  | [] => []
  | e :: l => .int .i64 e.a :: .int .i64 e.b :: .int .i64 e.c :: cellsL l
theorem cellsL_len (l : List Tr) : (cellsL l).length = l.length * 3 := by
  induction l with
  | nil => rfl
  | cons e l ih => simp [cellsL, ih]; omega
theorem cellsL_app (l m : List Tr) : cellsL (l ++ m) = cellsL l ++ cellsL m := by
  induction l with
  | nil => rfl
  | cons e l ih => simp [cellsL, ih]
theorem oneL (l : List Tr) : ∀ u ∈ cellsL l, u.oneCell' = true := by
  induction l with
  | nil => intro u hu; cases hu
  | cons e l ih =>
    intro u hu
    simp only [cellsL, List.mem_cons] at hu
    rcases hu with rfl | rfl | rfl | hu
    · rfl
    · rfl
    · rfl
    · exact ih u hu
theorem cellsL_at (l : List Tr) (k : Nat) (hk : k < l.length) : (cellsL l)[k * 3]? = some (.int .i64 (l.getD k tr0).a) ∧ (cellsL l)[k * 3 + 1]? = some (.int .i64 (l.getD k tr0).b) ∧ (cellsL l)[k * 3 + 2]? = some (.int .i64 (l.getD k tr0).c) := by
  induction l generalizing k with
  | nil => simp at hk
  | cons x l ih =>
    cases k with
    | zero => exact ⟨rfl, rfl, rfl⟩
    | succ k =>
      rw [show (k + 1) * 3 = k * 3 + 1 + 1 + 1 by omega]
      have := ih k (by simpa using hk)
      simpa [cellsL] using this
/-- Lines (of the kind T) that nobody else holds. -/
def Lt (T : TypeId) (w : World) (base : Nat) (v : Value) (l : List Tr) : Prop := w.ownsRow base T 3 v l.length (cellsL l)
theorem Lt.zero (T : TypeId) (w : World) (base : Nat) : Lt T w base (.slice none 0 0) [] := World.ownsRow_nil _ _ _ _
theorem Lt.alloc {T : TypeId} {w : World} {base : Nat} {v : Value} {l : List Tr} (h : Lt T w base v l) (o : Obj) : Lt T (w.alloc o) base v l := World.ownsRow.alloc h o
theorem Lt.next {T : TypeId} {w w' : World} {base : Nat} {v : Value} {l : List Tr} (h : Lt T w base v l) (hb : Below w.heap.size w w') : Lt T w' base v l := by
  refine ⟨h.1, ?_⟩
  rcases h.2 with hn | ⟨g, cap, cur, hv, hg, hc, rest⟩
  · exact .inl hn
  · exact .inr ⟨g, cap, cur, hv, hg, Blk.next hc hb, rest⟩
theorem Lt.low {T : TypeId} {w : World} {base base' : Nat} {v : Value} {l : List Tr} (h : Lt T w base v l) (hb : base' ≤ base) : Lt T w base' v l := by
  refine ⟨h.1, ?_⟩
  rcases h.2 with hn | ⟨g, cap, cur, hv, hg, rest⟩
  · exact .inl hn
  · exact .inr ⟨g, cap, cur, hv, by omega, rest⟩
theorem Lt.row {T : TypeId} {w : World} {base : Nat} {v : Value} {l : List Tr} (h : Lt T w base v l) : ∃ a cap, v = .slice a l.length cap ∧ RowL w a l.length l ∧ (a = none → cap = 0) ∧ l.length ≤ cap ∧ (∀ x, a = some x → x.off = 0 ∧ x.spot = none) := by
  rcases h.2 with ⟨hv, hn⟩ | ⟨g, cap, cur, hv, _, _, h1, _⟩
  · exact ⟨none, 0, by rw [hn]; exact hv, ⟨rfl, .inl hn⟩, fun _ => rfl, by omega, fun x h => by cases h⟩
  · subst hv
    refine ⟨_, cap, rfl, ⟨rfl, .inr ⟨g, 0, rfl, fun i hi => ?_⟩⟩, (fun h => by cases h), h1, fun x h => by cases h; exact ⟨rfl, rfl⟩⟩
    have e1 := World.ownsRow.cellAt h (i * 3) (by omega)
    have e2 := World.ownsRow.cellAt h (i * 3 + 1) (by omega)
    have e3 := World.ownsRow.cellAt h (i * 3 + 2) (by omega)
    rw [Nat.zero_add, e1, e2, e3]
    exact cellsL_at l i hi
/-- What is to be known of a kind T of lines, whose slices are S. -/
structure LineT (P : Program) (T S : TypeId) : Prop where
  info : (P.info? T).map (fun i => (i.zero, i.size, i.bytes)) = some (some (.agg #[.int .i64 0, .int .i64 0, .int .i64 0]), 3, 24)
  under : P.underlying S = some (.slice T)
/-- One line is put behind the others. -/
theorem wp_line {P : Program} {T S : TypeId} (hP : LineT P T S) {w : World} {ops : Array Oper} {rest : List Oper} {o : Oper} {a : Act} {Q : Exit → Act → World → Prop} (hgd : o.guard = none) (s x : Operand)
    (ho : o.op = .call { callee := .builtin .append, args := #[s, x], argTypes := #[S, S] })
    (base G : Nat) (v : Value) (l : List Tr) (r : Tr) (hs : a.eval s = v) (hx : a.eval x = .slice (some ⟨G, 0, none⟩) 1 1) (hv : Lt T w base v l) (hu : w.cell? ⟨G, 0, none⟩ = some (.int .i64 r.a) ∧ w.cell? ⟨G, 1, none⟩ = some (.int .i64 r.b) ∧ w.cell? ⟨G, 2, none⟩ = some (.int .i64 r.c)) (hn : l.length ≤ 1000000) (hbase : base ≤ w.heap.size)
    (h : ∀ v' w', Lt T w' base v' (l ++ [r]) → w.grownBy w' v.ownBlock → wpList P ops Q rest (a.put o.dst v') w') : wpList P ops Q (o :: rest) a w := by
  obtain ⟨i0, hi, hz0, hz1, hz2⟩ := info_parts hP.info
  refine wpList_append_own w hgd s x S ho base T i0 (.agg #[.int .i64 0, .int .i64 0, .int .i64 0]) 3 24 hP.under hi hz0 hz1 hz2 rfl (by decide) v l.length (cellsL l) hs hv ⟨G, 0, none⟩ 1 1 (cellsL [r]) hx rfl ?_ (oneL [r]) (by unfold maxLen; omega) (by omega) hbase ?_
  · intro j u hj
    match j, hj with
    | 0, hj => simp [cellsL] at hj; subst hj; simpa [Addr.add] using hu.1
    | 1, hj => simp [cellsL] at hj; subst hj; simpa [Addr.add] using hu.2.1
    | 2, hj => simp [cellsL] at hj; subst hj; simpa [Addr.add] using hu.2.2
    | j + 3, hj => simp [cellsL] at hj
  intro v' w' h1 h2 _
  refine h v' w' ?_ h2
  unfold Lt
  rw [List.length_append, cellsL_app]
  exact h1
/-- The same, in a region that draws its order. -/
theorem step_line {P : Program} {T S : TypeId} (hP : LineT P T S) {w : World} {ops : Array Oper} {o : Oper} {a : Act} {K : Act → World → Prop} {Q : Exit → Act → World → Prop} {E : Prop} (hgd : o.guard = none) (s x : Operand)
    (ho : o.op = .call { callee := .builtin .append, args := #[s, x], argTypes := #[S, S] })
    (base G : Nat) (v : Value) (l : List Tr) (r : Tr) (hs : a.eval s = v) (hx : a.eval x = .slice (some ⟨G, 0, none⟩) 1 1) (hv : Lt T w base v l) (hu : w.cell? ⟨G, 0, none⟩ = some (.int .i64 r.a) ∧ w.cell? ⟨G, 1, none⟩ = some (.int .i64 r.b) ∧ w.cell? ⟨G, 2, none⟩ = some (.int .i64 r.c)) (hn : l.length ≤ 1000000) (hbase : base ≤ w.heap.size)
    (h : ∀ v' w', Lt T w' base v' (l ++ [r]) → w.grownBy w' v.ownBlock → K (a.put o.dst v') w') : if Region.wanted o (yielded ops a.tmps) = true then Oper.wp P o a w K Q else E := by
  have hw : Region.wanted o (yielded ops a.tmps) = true := by simp [Region.wanted, hgd]
  rw [if_pos hw]
  obtain ⟨i0, hi, hz0, hz1, hz2⟩ := info_parts hP.info
  obtain ⟨v', w', hr, h2, h3, _⟩ := run_append_own (P := P) w base S o.type T i0 (.agg #[.int .i64 0, .int .i64 0, .int .i64 0]) 3 24 hP.under hi hz0 hz1 hz2 rfl (by decide) v l.length (cellsL l) hv ⟨G, 0, none⟩ 1 1 (cellsL [r]) rfl (by
    intro j u hj
    match j, hj with
    | 0, hj => simp [cellsL] at hj; subst hj; simpa [Addr.add] using hu.1
    | 1, hj => simp [cellsL] at hj; subst hj; simpa [Addr.add] using hu.2.1
    | 2, hj => simp [cellsL] at hj; subst hj; simpa [Addr.add] using hu.2.2
    | j + 3, hj => simp [cellsL] at hj) (oneL [r]) (by unfold maxLen; omega) (by omega) hbase
  unfold Oper.wp execOp
  simp only [ho, resolve, invoke, builtin, Sem.run_bind, Sem.run_pure, Result.andThen_ok, List.map_toArray, List.map_cons, List.map_nil, hs, hx, hr]
  refine h v' w' ?_ h3
  unfold Lt
  rw [List.length_append, cellsL_app]
  exact h2

end Go.Proofs.Ytfhlokjpdkmdjaa.tar
