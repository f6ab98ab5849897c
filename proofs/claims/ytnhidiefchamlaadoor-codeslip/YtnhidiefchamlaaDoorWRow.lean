/- Rows of words: that came in, and that a call owns. -/
import Derived.Test.YtnhidiefchamlaaDoorBlk
import Derived.Laws.OwnMore
import Derived.Laws.AppendOwnNone
import Derived.OwnWalk
import Derived.BigRegion
import Derived.BigQuiet
import Derived.WalkSpells
import Derived.WalkLawsBesides
namespace Go.Proofs.YtnhidiefchamlaaDoor.cell
open Go.RowKit
set_option maxRecDepth 100000

/-- The slice a, len reads as the words zs: its elements alone. -/
def RowU (w : World) (a : Option Addr) (len : Nat) (zs : List Int) : Prop :=
  zs.length = len ∧ (len = 0 ∨ ∃ b off, a = some ⟨b, off, none⟩ ∧ ∀ i, i < len → w.cell? ⟨b, off + i, none⟩ = some (.int .u32 (zs.getD i 0)))
theorem RowU.below {w w' : World} {a : Option Addr} {n : Nat} {zs : List Int} (h : RowU w a n zs) (hb : Below w.heap.size w w') : RowU w' a n zs := by
  refine ⟨h.1, ?_⟩
  rcases h.2 with h0 | ⟨b, off, rfl, hc⟩
  · exact .inl h0
  · refine .inr ⟨b, off, rfl, fun i hi => ?_⟩
    have h1 := hc i hi
    rw [hb.cell (p := ⟨b, off + i, none⟩) (World.block_lt_of_cell? w _ h1)]
    exact h1
theorem RowU.nil (w : World) (a : Option Addr) : RowU w a 0 [] := ⟨rfl, .inl rfl⟩
theorem RowU.drew {w : World} {a : Option Addr} {n : Nat} {zs : List Int} (h : RowU w a n zs) (q : Nat) : RowU (w.drewN q) a n zs := h
theorem RowU.at {w : World} {a : Option Addr} {n : Nat} {zs : List Int} (h : RowU w a n zs) (h0 : 0 < n) : ∃ b off, a = some ⟨b, off, none⟩ ∧ b < w.heap.size ∧ ∀ i, i < n → w.cell? ⟨b, off + i, none⟩ = some (.int .u32 (zs.getD i 0)) := by
  rcases h.2 with h1 | ⟨b, off, rfl, hc⟩
  · omega
  · exact ⟨b, off, rfl, World.block_lt_of_cell? w _ (hc 0 h0), hc⟩
/-- What the frame hands to the walk of words that came in. -/
theorem rowU_of {w : World} {a : Option Addr} {len cap M : Nat} {zs : List Int}
    (h : (a = none ∧ len = 0 ∧ cap = 0 ∧ zs = []) ∨ ∃ x, a = some x ∧ len ≤ cap ∧ cap * 4 ≤ M ∧ zs.length = cap ∧ (∀ i, i < zs.length → w.cell? (x.add i) = some (.int .u32 (zs.getD i 0))) ∧ ∀ n ∈ zs, (Lit.int .u32 n).wf = true) :
    RowU w a len (zs.take len) ∧ (a = none → cap = 0) ∧ len * 4 ≤ M := by
  rcases h with ⟨rfl, rfl, rfl, rfl⟩ | ⟨x, rfl, h1, h2, h3, h4, h5⟩
  · exact ⟨⟨rfl, .inl rfl⟩, fun _ => rfl, by omega⟩
  · refine ⟨⟨by rw [List.length_take]; omega, ?_⟩, (fun h => by cases h), by omega⟩
    by_cases h0 : len = 0
    · exact .inl h0
    · refine .inr ?_
      obtain ⟨b, off, spot⟩ := x
      have hs : spot = none := by simpa [Addr.add] using World.cell?_spot (h4 0 (by omega))
      subst hs
      refine ⟨b, off, rfl, fun i hi => ?_⟩
      have := h4 i (by omega)
      rw [Addr.add_lit] at this
      rw [this]
      congr 2
      simp [hi]
/-- Words that nobody else holds. -/
def Ws (w : World) (base : Nat) (v : Value) (zs : List Int) : Prop := w.ownsRow base 59 1 v zs.length (zs.map (.int .u32))
theorem Ws.zero (w : World) (base : Nat) : Ws w base (.slice none 0 0) [] := World.ownsRow_nil _ _ _ _
theorem Ws.alloc {w : World} {base : Nat} {v : Value} {l : List Int} (h : Ws w base v l) (o : Obj) : Ws (w.alloc o) base v l := World.ownsRow.alloc h o
theorem Ws.next {w w' : World} {base : Nat} {v : Value} {l : List Int} (h : Ws w base v l) (hb : Below w.heap.size w w') : Ws w' base v l := by
  refine ⟨h.1, ?_⟩
  rcases h.2 with hn | ⟨g, cap, cur, hv, hg, hc, rest⟩
  · exact .inl hn
  · exact .inr ⟨g, cap, cur, hv, hg, Blk.next hc hb, rest⟩
theorem Ws.row {w : World} {base : Nat} {v : Value} {l : List Int} (h : Ws w base v l) : ∃ a cap, v = .slice a l.length cap ∧ RowU w a l.length l ∧ (a = none → cap = 0) ∧ l.length ≤ cap := by
  rcases h.2 with ⟨hv, hn⟩ | ⟨g, cap, cur, hv, _, _, h1, _⟩
  · exact ⟨none, 0, by rw [hn]; exact hv, ⟨rfl, .inl hn⟩, fun _ => rfl, by omega⟩
  · subst hv
    refine ⟨_, cap, rfl, ⟨rfl, .inr ⟨g, 0, rfl, fun i hi => ?_⟩⟩, (fun h => by cases h), h1⟩
    have := World.ownsRow.cellAt h i (by omega)
    rw [Nat.zero_add, this]
    simp [List.getD, hi]
theorem own_far {w : World} {base n k : Nat} {t : TypeId} {v : Value} {l : List Value} (h : w.ownsRow base t n v k l) {G : Nat} (hG : G < base) : some G ≠ v.ownBlock := by
  intro e
  have := (World.ownsRow.lt h G e.symm).1
  omega
theorem own_bel {w0 w w' : World} {base B n k : Nat} {t : TypeId} {v : Value} {l : List Value} (h : w.ownsRow base t n v k l) (hg : w.grownBy w' v.ownBlock) (hb : Below B w0 w) (hB : B ≤ base) (hw : B ≤ w.heap.size) : Below B w0 w' := by
  refine ⟨hg.os.trans hb.os, hg.tape.trans hb.tape, hg.output.trans hb.output, Nat.le_trans hb.size hg.size, fun k hk => ?_⟩
  rw [← hb.block k hk]
  exact hg.block k (by omega) (own_far h (by omega))
theorem alloc_le {w : World} {B : Nat} (h : B ≤ w.heap.size) (o : Obj) : B ≤ (w.alloc o).heap.size := by simp; omega
theorem info_u32 : (Tryd.prog.info? 59).map (fun i => (i.zero, i.size, i.bytes)) = some (some (.int .u32 0), 1, 4) := by kernel_rfl
/-- One word is put behind the others. -/
theorem wp_word {w : World} {ops : Array Oper} {rest : List Oper} {o : Oper} {a : Act} {Q : Exit → Act → World → Prop} (hgd : o.guard = none) (s x : Operand)
    (ho : o.op = .call { callee := .builtin .append, args := #[s, x], argTypes := #[43, 43] })
    (base G : Nat) (v : Value) (l : List Int) (r : Int) (hs : a.eval s = v) (hx : a.eval x = .slice (some ⟨G, 0, none⟩) 1 1) (hv : Ws w base v l) (hu : w.cell? ⟨G, 0, none⟩ = some (.int .u32 r)) (hn : l.length ≤ 1000000) (hbase : base ≤ w.heap.size)
    (h : ∀ v' w', Ws w' base v' (l ++ [r]) → w.grownBy w' v.ownBlock → wpList Tryd.prog ops Q rest (a.put o.dst v') w') : wpList Tryd.prog ops Q (o :: rest) a w := by
  obtain ⟨i0, hi, hz0, hz1, hz2⟩ := info_parts info_u32
  refine wpList_append_own w hgd s x 43 ho base 59 i0 (.int .u32 0) 1 4 Tryd.underlying43 hi hz0 hz1 hz2 rfl (by decide) v l.length (l.map (.int .u32)) hs hv ⟨G, 0, none⟩ 1 1 [.int .u32 r] hx rfl ?_ ?_ (by unfold maxLen; omega) (by omega) hbase ?_
  · intro j u hj
    match j, hj with
    | 0, hj => simp at hj; subst hj; simpa [Addr.add] using hu
  · intro u hu; simp at hu; subst hu; rfl
  intro v' w' h1 h2 _
  refine h v' w' ?_ h2
  unfold Ws
  rw [List.length_append, List.map_append]
  exact h1

end Go.Proofs.YtnhidiefchamlaaDoor.cell
