/- Rows of numbers: that came in, and that a call owns. -/
import Derived.Test.YtlianhienbhbgaaDoorBlk
import Derived.Laws.OwnMore
import Derived.Laws.AppendOwnNone
import Derived.OwnWalk
import Derived.BigRegion
import Derived.BigQuiet
import Derived.WalkSpells
import Derived.WalkLawsBesides
namespace Go.Proofs.YtlianhienbhbgaaDoor.irow
open Go.RowKit
set_option maxRecDepth 100000

/-- The slice a, len reads as the numbers zs. -/
def RowN (w : World) (a : Option Addr) (len : Nat) (zs : List Int) : Prop :=
  zs.length = len ∧ (len = 0 ∨ ∃ b off, a = some ⟨b, off, none⟩ ∧ ∀ i, i < len → w.cell? ⟨b, off + i, none⟩ = some (.int .i64 (zs.getD i 0)))
theorem RowN.below {w w' : World} {a : Option Addr} {n : Nat} {zs : List Int} (h : RowN w a n zs) (hb : Below w.heap.size w w') : RowN w' a n zs := by
  refine ⟨h.1, ?_⟩
  rcases h.2 with h0 | ⟨b, off, rfl, hc⟩
  · exact .inl h0
  · refine .inr ⟨b, off, rfl, fun i hi => ?_⟩
    have h1 := hc i hi
    rw [hb.cell (p := ⟨b, off + i, none⟩) (World.block_lt_of_cell? w _ h1)]
    exact h1
theorem RowN.nil (w : World) (a : Option Addr) : RowN w a 0 [] := ⟨rfl, .inl rfl⟩
theorem RowN.at {w : World} {a : Option Addr} {n : Nat} {zs : List Int} (h : RowN w a n zs) (h0 : 0 < n) : ∃ b off, a = some ⟨b, off, none⟩ ∧ b < w.heap.size ∧ ∀ i, i < n → w.cell? ⟨b, off + i, none⟩ = some (.int .i64 (zs.getD i 0)) := by
  rcases h.2 with h1 | ⟨b, off, rfl, hc⟩
  · omega
  · exact ⟨b, off, rfl, World.block_lt_of_cell? w _ (hc 0 h0), hc⟩
/-- Numbers that nobody else holds. -/
def Iw (w : World) (base : Nat) (v : Value) (zs : List Int) : Prop := w.ownsRow base 3 1 v zs.length (zs.map (.int .i64))
theorem Iw.zero (w : World) (base : Nat) : Iw w base (.slice none 0 0) [] := World.ownsRow_nil _ _ _ _
theorem Iw.alloc {w : World} {base : Nat} {v : Value} {l : List Int} (h : Iw w base v l) (o : Obj) : Iw (w.alloc o) base v l := World.ownsRow.alloc h o
theorem Iw.next {w w' : World} {base : Nat} {v : Value} {l : List Int} (h : Iw w base v l) (hb : Below w.heap.size w w') : Iw w' base v l := by
  refine ⟨h.1, ?_⟩
  rcases h.2 with hn | ⟨g, cap, cur, hv, hg, hc, rest⟩
  · exact .inl hn
  · exact .inr ⟨g, cap, cur, hv, hg, Blk.next hc hb, rest⟩
theorem Iw.low {w : World} {base base' : Nat} {v : Value} {l : List Int} (h : Iw w base v l) (hb : base' ≤ base) : Iw w base' v l := by
  refine ⟨h.1, ?_⟩
  rcases h.2 with hn | ⟨g, cap, cur, hv, hg, rest⟩
  · exact .inl hn
  · exact .inr ⟨g, cap, cur, hv, by omega, rest⟩
theorem Iw.row {w : World} {base : Nat} {v : Value} {l : List Int} (h : Iw w base v l) : ∃ a cap, v = .slice a l.length cap ∧ RowN w a l.length l ∧ (a = none → cap = 0) ∧ l.length ≤ cap := by
  rcases h.2 with ⟨hv, hn⟩ | ⟨g, cap, cur, hv, _, _, h1, _⟩
  · exact ⟨none, 0, by rw [hn]; exact hv, ⟨rfl, .inl hn⟩, fun _ => rfl, by omega⟩
  · subst hv
    refine ⟨_, cap, rfl, ⟨rfl, .inr ⟨g, 0, rfl, fun i hi => ?_⟩⟩, (fun h => by cases h), h1⟩
    have := World.ownsRow.cellAt h i (by omega)
    rw [Nat.zero_add, this]
    simp [List.getD, hi]
theorem iown_far {w : World} {base n k : Nat} {t : TypeId} {v : Value} {l : List Value} (h : w.ownsRow base t n v k l) {G : Nat} (hG : G < base) : some G ≠ v.ownBlock := by
  intro e
  have := (World.ownsRow.lt h G e.symm).1
  omega
theorem iown_bel {w0 w w' : World} {base B n k : Nat} {t : TypeId} {v : Value} {l : List Value} (h : w.ownsRow base t n v k l) (hg : w.grownBy w' v.ownBlock) (hb : Below B w0 w) (hB : B ≤ base) (hw : B ≤ w.heap.size) : Below B w0 w' := by
  refine ⟨hg.os.trans hb.os, hg.tape.trans hb.tape, hg.output.trans hb.output, Nat.le_trans hb.size hg.size, fun k hk => ?_⟩
  rw [← hb.block k hk]
  exact hg.block k (by omega) (iown_far h (by omega))
theorem ialloc_le {w : World} {B : Nat} (h : B ≤ w.heap.size) (o : Obj) : B ≤ (w.alloc o).heap.size := by simp; omega
theorem num_cell (w : World) (d : Int) : (w.alloc (.cells #[.int .i64 d] 3)).cell? ⟨w.heap.size, 0, none⟩ = some (.int .i64 d) := (Blk.new w _ _).cell 0
theorem info_num : (Tryd.prog.info? 3).map (fun i => (i.zero, i.size, i.bytes)) = some (some (.int .i64 0), 1, 8) := by kernel_rfl
/-- One number is put behind the others. -/
theorem wp_num {w : World} {ops : Array Oper} {rest : List Oper} {o : Oper} {a : Act} {Q : Exit → Act → World → Prop} (hgd : o.guard = none) (s x : Operand)
    (ho : o.op = .call { callee := .builtin .append, args := #[s, x], argTypes := #[36, 36] })
    (base G : Nat) (v : Value) (l : List Int) (r : Int) (hs : a.eval s = v) (hx : a.eval x = .slice (some ⟨G, 0, none⟩) 1 1) (hv : Iw w base v l) (hu : w.cell? ⟨G, 0, none⟩ = some (.int .i64 r)) (hn : l.length ≤ 1000000) (hbase : base ≤ w.heap.size)
    (h : ∀ v' w', Iw w' base v' (l ++ [r]) → w.grownBy w' v.ownBlock → wpList Tryd.prog ops Q rest (a.put o.dst v') w') : wpList Tryd.prog ops Q (o :: rest) a w := by
  obtain ⟨i0, hi, hz0, hz1, hz2⟩ := info_parts info_num
  refine wpList_append_own w hgd s x 36 ho base 3 i0 (.int .i64 0) 1 8 Tryd.underlying36 hi hz0 hz1 hz2 rfl (by decide) v l.length (l.map (.int .i64)) hs hv ⟨G, 0, none⟩ 1 1 [.int .i64 r] hx rfl ?_ ?_ (by unfold maxLen; omega) (by omega) hbase ?_
  · intro j u hj
    match j, hj with
    | 0, hj => simp at hj; subst hj; simpa [Addr.add] using hu
  · intro u hu; simp at hu; subst hu; rfl
  intro v' w' h1 h2 _
  refine h v' w' ?_ h2
  unfold Iw
  rw [List.length_append, List.map_append]
  exact h1
theorem Blk.grown {w w' : World} {G : Nat} {cs : Array Value} {t : TypeId} {row : Option Nat} (h : Blk w G cs t) (hg : w.grownBy w' row) (hne : some G ≠ row) : Blk w' G cs t := by
  have := hg.block G h.lt hne
  unfold Blk at *
  rw [this]; exact h
/-- Another block is written. -/
theorem Iw.put {w : World} {base : Nat} {v : Value} {l : List Int} (h : Iw w base v l) (G i : Nat) (u : Value) (hG : G < base) : Iw (w.setCell ⟨G, i, none⟩ u) base v l := by
  refine ⟨h.1, ?_⟩
  rcases h.2 with hn | ⟨g, cap, cur, hv, hg, hc, rest⟩
  · exact .inl hn
  · exact .inr ⟨g, cap, cur, hv, hg, Blk.other hc i u (by omega), rest⟩
/-- Numbers that came in, each of 64 bits. -/
def RowF (w : World) (a : Option Addr) (len : Nat) (zs : List Int) : Prop :=
  ∀ i, i < len → ∃ b off, a = some ⟨b, off, none⟩ ∧ w.cell? ⟨b, off + i, none⟩ = some (.int .i64 (zs.getD i 0)) ∧ (Lit.int .i64 (zs.getD i 0)).wf = true
theorem RowF.below {w w' : World} {a : Option Addr} {len : Nat} {zs : List Int} (h : RowF w a len zs) (hb : Below w.heap.size w w') : RowF w' a len zs := fun i hi => by
  obtain ⟨b, off, h1, h2, h3⟩ := h i hi
  exact ⟨b, off, h1, (hb.cell (p := ⟨b, off + i, none⟩) (World.block_lt_of_cell? w _ h2)).trans h2, h3⟩
theorem rowF_of {w : World} {x : Addr} {len cap : Nat} {zs : List Int} (hl : len ≤ cap) (hz : zs.length = cap) (hc : ∀ i, i < zs.length → w.cell? (x.add i) = some (.int .i64 (zs.getD i 0))) (hw : ∀ n ∈ zs, (Lit.int .i64 n).wf = true) : RowF w (some x) len zs := by
  intro i hi
  have h1 := hc i (by omega)
  have hx0 := hc 0 (by omega)
  obtain ⟨b, off, spot⟩ := x
  have hs : spot = none := by simpa [Addr.add] using World.cell?_spot hx0
  subst hs
  rw [Addr.add_lit] at h1
  refine ⟨b, off, rfl, h1, hw _ ?_⟩
  have : i < zs.length := by omega
  simp [List.getD, List.getElem?_eq_getElem this]

end Go.Proofs.YtlianhienbhbgaaDoor.irow
