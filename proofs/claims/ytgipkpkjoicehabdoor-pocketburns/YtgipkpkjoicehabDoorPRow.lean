/- Rows of pairs: that came in, and that a call owns. -/
import Derived.Test.YtgipkpkjoicehabDoorOrN
import Derived.Test.YtgipkpkjoicehabDoorBlk
import Derived.Laws.OwnMore
import Derived.Laws.AppendOwnNone
import Derived.OwnWalk
import Derived.BigRegion
import Derived.BigQuiet
import Derived.WalkSpells
import Derived.WalkLawsBesides
namespace Go.Proofs.YtgipkpkjoicehabDoor.ora
open Go.RowKit
set_option maxRecDepth 100000
set_option linter.unusedVariables false

/-- Four cells in a row are a pair. -/
def PrAt (w : World) (b o : Nat) (p : Pr) : Prop := w.cell? ⟨b, o, none⟩ = some (.int .i64 p.m) ∧ w.cell? ⟨b, o + 1, none⟩ = some (.int .i64 p.r) ∧ w.cell? ⟨b, o + 2, none⟩ = some (.int .i64 p.b) ∧ w.cell? ⟨b, o + 3, none⟩ = some (.int .i64 p.t)
theorem PrAt.below {w w' : World} {b o : Nat} {p : Pr} (h : PrAt w b o p) (hb : Below w.heap.size w w') : PrAt w' b o p := by
  have hl : b < w.heap.size := World.block_lt_of_cell? w _ h.1
  exact ⟨(hb.cell (p := ⟨b, o, none⟩) hl).trans h.1, (hb.cell (p := ⟨b, o + 1, none⟩) hl).trans h.2.1, (hb.cell (p := ⟨b, o + 2, none⟩) hl).trans h.2.2.1, (hb.cell (p := ⟨b, o + 3, none⟩) hl).trans h.2.2.2⟩
/-- The slice a, len reads as the pairs ps. -/
def RowP (w : World) (a : Option Addr) (len : Nat) (ps : List Pr) : Prop :=
  ps.length = len ∧ (len = 0 ∨ ∃ b off, a = some ⟨b, off, none⟩ ∧ ∀ i, i < len → PrAt w b (off + i * 4) (ps.getD i pr0))
theorem RowP.below {w w' : World} {a : Option Addr} {n : Nat} {ps : List Pr} (h : RowP w a n ps) (hb : Below w.heap.size w w') : RowP w' a n ps := by
  refine ⟨h.1, ?_⟩
  rcases h.2 with h0 | ⟨b, off, rfl, hc⟩
  · exact .inl h0
  · exact .inr ⟨b, off, rfl, fun i hi => (hc i hi).below hb⟩
theorem RowP.nil (w : World) (a : Option Addr) : RowP w a 0 [] := ⟨rfl, .inl rfl⟩
theorem RowP.at {w : World} {a : Option Addr} {n : Nat} {ps : List Pr} (h : RowP w a n ps) (h0 : 0 < n) : ∃ b off, a = some ⟨b, off, none⟩ ∧ b < w.heap.size ∧ ∀ i, i < n → PrAt w b (off + i * 4) (ps.getD i pr0) := by
  rcases h.2 with h1 | ⟨b, off, rfl, hc⟩
  · omega
  · exact ⟨b, off, rfl, World.block_lt_of_cell? w _ (hc 0 h0).1, hc⟩
def cellsP : List Pr → List Value
  | [] => []
  | p :: l => .int .i64 p.m :: .int .i64 p.r :: .int .i64 p.b :: .int .i64 p.t :: cellsP l
theorem cellsP_len (l : List Pr) : (cellsP l).length = l.length * 4 := by
  induction l with
  | nil => rfl
  | cons e l ih => simp [cellsP, ih]; omega
theorem cellsP_app (l m : List Pr) : cellsP (l ++ m) = cellsP l ++ cellsP m := by
  induction l with
  | nil => rfl
  | cons e l ih => simp [cellsP, ih]
theorem oneP (l : List Pr) : ∀ u ∈ cellsP l, u.oneCell' = true := by
  induction l with
  | nil => intro u hu; cases hu
  | cons e l ih =>
    intro u hu
    simp only [cellsP, List.mem_cons] at hu
    rcases hu with rfl | rfl | rfl | rfl | hu
    · rfl
    · rfl
    · rfl
    · rfl
    · exact ih u hu
theorem cellsP_at (l : List Pr) (k : Nat) (hk : k < l.length) : (cellsP l)[k * 4]? = some (.int .i64 (l.getD k pr0).m) ∧ (cellsP l)[k * 4 + 1]? = some (.int .i64 (l.getD k pr0).r) ∧ (cellsP l)[k * 4 + 2]? = some (.int .i64 (l.getD k pr0).b) ∧ (cellsP l)[k * 4 + 3]? = some (.int .i64 (l.getD k pr0).t) := by
  induction l generalizing k with
  | nil => simp at hk
  | cons x l ih =>
    cases k with
    | zero => exact ⟨rfl, rfl, rfl, rfl⟩
    | succ k =>
      rw [show (k + 1) * 4 = k * 4 + 1 + 1 + 1 + 1 by omega]
      have := ih k (by simpa using hk)
      simpa [cellsP] using this
theorem cellsP_get {w : World} {b off len : Nat} {ps : List Pr} (hz : ps.length = len) (hc : ∀ i, i < len → PrAt w b (off + i * 4) (ps.getD i pr0)) (j : Nat) (u : Value) (hu : (cellsP ps)[j]? = some u) : w.cell? ⟨b, off + j, none⟩ = some u := by
  have hj : j < (cellsP ps).length := by
    by_cases h : j < (cellsP ps).length
    · exact h
    · rw [List.getElem?_eq_none (by omega)] at hu; cases hu
  rw [cellsP_len] at hj
  have h1 := cellsP_at ps (j / 4) (by omega)
  have h2 := hc (j / 4) (by omega)
  have e : j % 4 = 0 ∨ j % 4 = 1 ∨ j % 4 = 2 ∨ j % 4 = 3 := by omega
  unfold PrAt at h2
  rcases e with e | e | e | e
  · have e2 : j / 4 * 4 = j := by omega
    rw [e2] at h1 h2
    rw [h1.1] at hu; rw [h2.1]; exact hu
  · have e2 : j / 4 * 4 + 1 = j := by omega
    rw [Nat.add_assoc off, e2] at h2
    rw [e2] at h1
    rw [h1.2.1] at hu; rw [h2.2.1]; exact hu
  · have e2 : j / 4 * 4 + 2 = j := by omega
    rw [Nat.add_assoc off (j / 4 * 4) 2, e2] at h2
    rw [e2] at h1
    rw [h1.2.2.1] at hu; rw [h2.2.2.1]; exact hu
  · have e2 : j / 4 * 4 + 3 = j := by omega
    rw [Nat.add_assoc off (j / 4 * 4) 3, e2] at h2
    rw [e2] at h1
    rw [h1.2.2.2] at hu; rw [h2.2.2.2]; exact hu
/-- Pairs that nobody else holds. -/
def Pw (w : World) (base : Nat) (v : Value) (l : List Pr) : Prop := w.ownsRow base 109 4 v l.length (cellsP l)
theorem Pw.zero (w : World) (base : Nat) : Pw w base (.slice none 0 0) [] := World.ownsRow_nil _ _ _ _
theorem Pw.alloc {w : World} {base : Nat} {v : Value} {l : List Pr} (h : Pw w base v l) (o : Obj) : Pw (w.alloc o) base v l := World.ownsRow.alloc h o
theorem Pw.next {w w' : World} {base : Nat} {v : Value} {l : List Pr} (h : Pw w base v l) (hb : Below w.heap.size w w') : Pw w' base v l := by
  refine ⟨h.1, ?_⟩
  rcases h.2 with hn | ⟨g, cap, cur, hv, hg, hc, rest⟩
  · exact .inl hn
  · exact .inr ⟨g, cap, cur, hv, hg, Blk.next hc hb, rest⟩
theorem Pw.low {w : World} {base base' : Nat} {v : Value} {l : List Pr} (h : Pw w base v l) (hb : base' ≤ base) : Pw w base' v l := by
  refine ⟨h.1, ?_⟩
  rcases h.2 with hn | ⟨g, cap, cur, hv, hg, rest⟩
  · exact .inl hn
  · exact .inr ⟨g, cap, cur, hv, by omega, rest⟩
theorem Pw.put {w : World} {base : Nat} {v : Value} {l : List Pr} (h : Pw w base v l) (G i : Nat) (u : Value) (hG : G < base) : Pw (w.setCell ⟨G, i, none⟩ u) base v l := by
  refine ⟨h.1, ?_⟩
  rcases h.2 with hn | ⟨g, cap, cur, hv, hg, hc, rest⟩
  · exact .inl hn
  · exact .inr ⟨g, cap, cur, hv, hg, Blk.other hc i u (by omega), rest⟩
theorem Pw.row {w : World} {base : Nat} {v : Value} {l : List Pr} (h : Pw w base v l) : ∃ a cap, v = .slice a l.length cap ∧ RowP w a l.length l ∧ (a = none → cap = 0) ∧ l.length ≤ cap := by
  rcases h.2 with ⟨hv, hn⟩ | ⟨g, cap, cur, hv, _, _, h1, _⟩
  · exact ⟨none, 0, by rw [hn]; exact hv, ⟨rfl, .inl hn⟩, fun _ => rfl, by omega⟩
  · subst hv
    refine ⟨_, cap, rfl, ⟨rfl, .inr ⟨g, 0, rfl, fun i hi => ?_⟩⟩, (fun h => by cases h), h1⟩
    have e1 := World.ownsRow.cellAt h (i * 4) (by omega)
    have e2 := World.ownsRow.cellAt h (i * 4 + 1) (by omega)
    have e3 := World.ownsRow.cellAt h (i * 4 + 2) (by omega)
    have e4 := World.ownsRow.cellAt h (i * 4 + 3) (by omega)
    unfold PrAt
    rw [Nat.zero_add, e1, e2, e3, e4]
    exact cellsP_at l i hi
theorem pown_far {w : World} {base n k : Nat} {t : TypeId} {v : Value} {l : List Value} (h : w.ownsRow base t n v k l) {G : Nat} (hG : G < base) : some G ≠ v.ownBlock := by
  intro e
  have := (World.ownsRow.lt h G e.symm).1
  omega
theorem pown_bel {w0 w w' : World} {base B n k : Nat} {t : TypeId} {v : Value} {l : List Value} (h : w.ownsRow base t n v k l) (hg : w.grownBy w' v.ownBlock) (hb : Below B w0 w) (hB : B ≤ base) (hw : B ≤ w.heap.size) : Below B w0 w' := by
  refine ⟨hg.os.trans hb.os, hg.tape.trans hb.tape, hg.output.trans hb.output, Nat.le_trans hb.size hg.size, fun k hk => ?_⟩
  rw [← hb.block k hk]
  exact hg.block k (by omega) (pown_far h (by omega))
theorem palloc_le {w : World} {B : Nat} (h : B ≤ w.heap.size) (o : Obj) : B ≤ (w.alloc o).heap.size := by simp; omega
theorem Blk.pgrown {w w' : World} {G : Nat} {cs : Array Value} {t : TypeId} {row : Option Nat} (h : Blk w G cs t) (hg : w.grownBy w' row) (hne : some G ≠ row) : Blk w' G cs t := by
  have := hg.block G h.lt hne
  unfold Blk at *
  rw [this]; exact h
theorem pr_cell (w : World) (m r b t : Int) : PrAt (w.alloc (.cells #[.int .i64 m, .int .i64 r, .int .i64 b, .int .i64 t] 109)) w.heap.size 0 ⟨m, r, b, t⟩ :=
  ⟨(Blk.new w _ _).cell 0, (Blk.new w _ _).cell 1, (Blk.new w _ _).cell 2, (Blk.new w _ _).cell 3⟩
theorem info_pr : (Tryd.prog.info? 109).map (fun i => (i.zero, i.size, i.bytes)) = some (some (.agg #[.int .i64 0, .int .i64 0, .int .i64 0, .int .i64 0]), 4, 32) := by kernel_rfl
/-- One pair is put behind the others. -/
theorem wp_pr {w : World} {ops : Array Oper} {rest : List Oper} {o : Oper} {a : Act} {Q : Exit → Act → World → Prop} (hgd : o.guard = none) (s x : Operand)
    (ho : o.op = .call { callee := .builtin .append, args := #[s, x], argTypes := #[23, 23] })
    (base G : Nat) (v : Value) (l : List Pr) (r : Pr) (hs : a.eval s = v) (hx : a.eval x = .slice (some ⟨G, 0, none⟩) 1 1) (hv : Pw w base v l) (hu : PrAt w G 0 r) (hn : l.length ≤ 1000000) (hbase : base ≤ w.heap.size)
    (h : ∀ v' w', Pw w' base v' (l ++ [r]) → w.grownBy w' v.ownBlock → wpList Tryd.prog ops Q rest (a.put o.dst v') w') : wpList Tryd.prog ops Q (o :: rest) a w := by
  obtain ⟨i0, hi, hz0, hz1, hz2⟩ := info_parts info_pr
  refine wpList_append_own w hgd s x 23 ho base 109 i0 (.agg #[.int .i64 0, .int .i64 0, .int .i64 0, .int .i64 0]) 4 32 Tryd.underlying23 hi hz0 hz1 hz2 rfl (by decide) v l.length (cellsP l) hs hv ⟨G, 0, none⟩ 1 1 (cellsP [r]) hx rfl ?_ (oneP [r]) (by unfold maxLen; omega) (by omega) hbase ?_
  · intro j u hj
    match j, hj with
    | 0, hj => simp [cellsP] at hj; subst hj; simpa [Addr.add] using hu.1
    | 1, hj => simp [cellsP] at hj; subst hj; simpa [Addr.add] using hu.2.1
    | 2, hj => simp [cellsP] at hj; subst hj; simpa [Addr.add] using hu.2.2.1
    | 3, hj => simp [cellsP] at hj; subst hj; simpa [Addr.add] using hu.2.2.2
    | j + 4, hj => simp [cellsP] at hj
  intro v' w' h1 h2 _
  refine h v' w' ?_ h2
  unfold Pw
  rw [List.length_append, cellsP_app]
  exact h1

end Go.Proofs.YtgipkpkjoicehabDoor.ora
