/- Entries that are put behind others. -/
import Derived.Test.YtkobdkkgkpgcbaaDoorKpPress
import Derived.Laws.OwnMore
import Derived.Laws.AppendOwnNone
import Derived.OwnWalk
import Derived.BigRegion
import Derived.WalkSpells
import Derived.WalkLawsBesides
namespace Go.Proofs.YtkobdkkgkpgcbaaDoor.keypad
open Go.Proofs.YtkobdkkgkpgcbaaDoor.check
open Go.RowKit

theorem info_ent : (Tryd.prog.info? 40).map (fun i => (i.zero, i.size, i.bytes)) = some (some (.agg #[.string ⟨#[]⟩, .int .i64 0]), 2, 24) := by kernel_rfl
theorem oneE (l : List Ent) : ∀ u ∈ cellsE l, u.oneCell' = true := by
  induction l with
  | nil => intro u hu; cases hu
  | cons e l ih =>
    intro u hu
    simp only [cellsE, List.mem_cons] at hu
    rcases hu with rfl | rfl | hu
    · rfl
    · rfl
    · exact ih u hu

theorem Lies.far {w : World} {base : Nat} {v : Value} {l : List Ent} (h : Lies w base v l) {G : Nat} (hG : G < base) : some G ≠ v.ownBlock := by
  intro e
  have := (World.ownsRow.lt h G e.symm).1
  omega
theorem grown_blk {w w' : World} {base G : Nat} {v : Value} {l : List Ent} {cs : Array Value} {t : TypeId} (h : Lies w base v l) (hg : w.grownBy w' v.ownBlock) (hb : Blk w G cs t) (hG : G < base) : Blk w' G cs t := by
  have hl := hb.lt
  unfold Blk at *
  rw [hg.block G hl (h.far hG)]; exact hb
theorem grown_it {w w' : World} {base I k : Nat} {v : Value} {l : List Ent} {s : ByteArray} (h : Lies w base v l) (hg : w.grownBy w' v.ownBlock) (hb : It w I s k) (hG : I < base) : It w' I s k := by
  have hl := hb.lt
  unfold It at *
  rw [hg.block I hl (h.far hG)]; exact hb
theorem grown_bel {w0 w w' : World} {base B : Nat} {v : Value} {l : List Ent} (h : Lies w base v l) (hg : w.grownBy w' v.ownBlock) (hb : Below B w0 w) (hB : B ≤ base) (hw : B ≤ w.heap.size) : Below B w0 w' := by
  refine ⟨hg.os.trans hb.os, hg.tape.trans hb.tape, hg.output.trans hb.output, Nat.le_trans hb.size hg.size, fun k hk => ?_⟩
  rw [← hb.block k hk]
  exact hg.block k (by omega) (h.far (by omega))

/-- The second slice is put behind the first. -/
theorem wp_app {w : World} {ops : Array Oper} {rest : List Oper} {o : Oper} {a : Act} {Q : Exit → Act → World → Prop} (hgd : o.guard = none) (s x : Operand)
    (ho : o.op = .call { callee := .builtin .append, args := #[s, x], argTypes := #[24, 24] })
    (base base2 : Nat) (v u : Value) (l m : List Ent) (hs : a.eval s = v) (hx : a.eval x = u) (hv : Lies w base v l) (hu : Lies w base2 u m) (hn : l.length + m.length ≤ 1000000) (hbase : base ≤ w.heap.size)
    (h : ∀ v' w', Lies w' base v' (l ++ m) → w.grownBy w' v.ownBlock → wpList Tryd.prog ops Q rest (a.put o.dst v') w') : wpList Tryd.prog ops Q (o :: rest) a w := by
  obtain ⟨i0, hi, hz0, hz1, hz2⟩ := info_parts info_ent
  rcases hu.2 with ⟨rfl, hm⟩ | ⟨g, cap, cur, rfl, _, hc, _⟩
  · have hm0 : m = [] := List.eq_nil_of_length_eq_zero hm
    subst hm0
    refine wpList_append_own_none hgd s x 24 ho base 40 i0 2 Tryd.underlying24 hi v l.length (cellsE l) hs hv hx ?_
    refine h v w (by rw [List.append_nil]; exact hv) ?_
    exact ⟨rfl, rfl, rfl, Nat.le_refl _, fun _ _ _ => rfl⟩
  · refine wpList_append_own w hgd s x 24 ho base 40 i0 (.agg #[.string ⟨#[]⟩, .int .i64 0]) 2 24 Tryd.underlying24 hi hz0 hz1 hz2 rfl (by decide) v l.length (cellsE l) hs hv ⟨g, 0, none⟩ m.length cap (cellsE m) hx (cellsE_len m) (World.ownsRow.cells hu rfl) (oneE m) (by unfold maxLen; omega) (by omega) hbase ?_
    intro v' w' h1 h2 _
    refine h v' w' ?_ h2
    unfold Lies
    rw [List.length_append, cellsE_app]
    exact h1

end Go.Proofs.YtkobdkkgkpgcbaaDoor.keypad
