import Derived.Test.YtomibnggmhjdfaaGreatVVCes1
import Derived.Test.YtomibnggmhjdfaaGreatVVCes2
set_option linter.unusedVariables false
set_option linter.unusedSimpArgs false
namespace Go.Proofs.YtomibnggmhjdfaaGreat
namespace tar
open Go.RowKit
set_option maxRecDepth 100000
def RowD (w : World) (a : Option Addr) (len : Nat) (ls : List Du) : Prop :=
 ls.length = len ∧ (len = 0 ∨ ∃ b off, a = some ⟨b, off, none⟩ ∧ ∀ i, i < len → w.cell? ⟨b, off + i * 2, none⟩ = some (.int .i64 (ls.getD i du0).a) ∧ w.cell? ⟨b, off + i * 2 + 1, none⟩ = some (.int .i64 (ls.getD i du0).b))
theorem RowD.below {w w' : World} {a : Option Addr} {n : Nat} {zs : List Du} (h : RowD w a n zs) (hb : Below w.heap.size w w') : RowD w' a n zs := by
 refine ⟨h.1, ?_⟩
 rcases h.2 with h0 | ⟨b, off, rfl, hc⟩
 ·exact .inl h0
 ·refine .inr ⟨b, off, rfl, fun i hi => ?_⟩
  have h1 := hc i hi
  rw [hb.cell (p := ⟨b, off + i * 2, none⟩) (World.block_lt_of_cell? w _ h1.1), hb.cell (p := ⟨b, off + i * 2 + 1, none⟩) (World.block_lt_of_cell? w _ h1.2)]
  exact h1
theorem RowD.nil (w : World) (a : Option Addr) : RowD w a 0 [] := ⟨rfl, .inl rfl⟩
theorem RowD.at {w : World} {a : Option Addr} {n : Nat} {zs : List Du} (h : RowD w a n zs) (h0 : 0 < n) : ∃ b off, a = some ⟨b, off, none⟩ ∧ b < w.heap.size ∧ ∀ i, i < n → w.cell? ⟨b, off + i * 2, none⟩ = some (.int .i64 (zs.getD i du0).a) ∧ w.cell? ⟨b, off + i * 2 + 1, none⟩ = some (.int .i64 (zs.getD i du0).b) := by
 rcases h.2 with h1 | ⟨b, off, rfl, hc⟩
 ·omega
 ·exact ⟨b, off, rfl, World.block_lt_of_cell? w _ (hc 0 h0).1, hc⟩
theorem rowD_of {w : World} {a : Addr} {m len : Nat} (hl : len ≤ m)
  (h : ∀ j, j < m → ∃ z0 z1, w.cell? (a.add (j * 2)) = some (.int .i64 z0) ∧ w.cell? (a.add (j * 2 + 1)) = some (.int .i64 z1) ∧ (Lit.int .i64 z0).wf = true ∧ (Lit.int .i64 z1).wf = true) :
  ∃ zs : List Du, RowD w (some a) len zs ∧ ∀ x ∈ zs, (Lit.int .i64 x.a).wf = true ∧ (Lit.int .i64 x.b).wf = true := by
 have h' : ∀ j, ∃ e : Du, j < m → w.cell? (a.add (j * 2)) = some (.int .i64 e.a) ∧ w.cell? (a.add (j * 2 + 1)) = some (.int .i64 e.b) ∧ (Lit.int .i64 e.a).wf = true ∧ (Lit.int .i64 e.b).wf = true := fun j => by
  by_cases hj : j < m
  ·obtain ⟨z0, z1, hz⟩ := h j hj
   exact ⟨⟨z0, z1⟩, fun _ => hz⟩
  ·exact ⟨du0, fun hh => absurd hh hj⟩
 obtain ⟨f, hf⟩ : ∃ f : Nat → Du, ∀ j, j < m → w.cell? (a.add (j * 2)) = some (.int .i64 (f j).a) ∧ w.cell? (a.add (j * 2 + 1)) = some (.int .i64 (f j).b) ∧ (Lit.int .i64 (f j).a).wf = true ∧ (Lit.int .i64 (f j).b).wf = true := ⟨fun j => Classical.choose (h' j), fun j hj => Classical.choose_spec (h' j) hj⟩
 clear h' h
 refine ⟨(List.range len).map f, ⟨by simp, ?_⟩, fun x hx => ?_⟩
 ·by_cases h0 : len = 0
  ·exact .inl h0
  ·obtain ⟨b, off, spot⟩ := a
   have hs : spot = none := by simpa [Addr.add] using World.cell?_spot (hf 0 (by omega)).1
   subst hs
   refine .inr ⟨b, off, rfl, fun i hi => ?_⟩
   have h1 := hf i (by omega)
   rw [Addr.add_lit, Addr.add_lit, ← Nat.add_assoc] at h1
   have e : ((List.range len).map f).getD i du0 = f i := by simp [List.getD, hi]
   rw [e]
   exact ⟨h1.1, h1.2.1⟩
 ·obtain ⟨j, hj, rfl⟩ := List.mem_map.1 hx
  exact (hf j (by have := List.mem_range.1 hj; omega)).2.2
def cellsD : List Du → List Value
 | [] => []
 | e :: l => .int .i64 e.a :: .int .i64 e.b :: cellsD l
theorem cellsD_len (l : List Du) : (cellsD l).length = l.length * 2 := by
 induction l with
 | nil => rfl
 | cons e l ih => simp [cellsD, ih]; omega
theorem cellsD_app (l m : List Du) : cellsD (l ++ m) = cellsD l ++ cellsD m := by
 induction l with
 | nil => rfl
 | cons e l ih => simp [cellsD, ih]
theorem oneD (l : List Du) : ∀ u ∈ cellsD l, u.oneCell' = true := by
 induction l with
 | nil => intro u hu; cases hu
 | cons e l ih =>
  intro u hu
  simp only [cellsD, List.mem_cons] at hu
  rcases hu with rfl | rfl | hu
  ·rfl
  ·rfl
  ·exact ih u hu
theorem cellsD_at (l : List Du) (k : Nat) (hk : k < l.length) : (cellsD l)[k * 2]? = some (.int .i64 (l.getD k du0).a) ∧ (cellsD l)[k * 2 + 1]? = some (.int .i64 (l.getD k du0).b) := by
 induction l generalizing k with
 | nil => simp at hk
 | cons x l ih =>
  cases k with
  | zero => exact ⟨rfl, rfl⟩
  | succ k =>
   rw [show (k + 1) * 2 = k * 2 + 1 + 1 by omega]
   have := ih k (by simpa using hk)
   simpa [cellsD] using this
theorem cellsD_get {w : World} {b off len : Nat} {zs : List Du} (hz : zs.length = len) (hc : ∀ i, i < len → w.cell? ⟨b, off + i * 2, none⟩ = some (.int .i64 (zs.getD i du0).a) ∧ w.cell? ⟨b, off + i * 2 + 1, none⟩ = some (.int .i64 (zs.getD i du0).b)) (j : Nat) (u : Value) (hu : (cellsD zs)[j]? = some u) : w.cell? ⟨b, off + j, none⟩ = some u := by
 have hj : j < (cellsD zs).length := by
  by_cases h : j < (cellsD zs).length
  ·exact h
  ·rw [List.getElem?_eq_none (by omega)] at hu; cases hu
 rw [cellsD_len] at hj
 have h1 := cellsD_at zs (j / 2) (by omega)
 have h2 := hc (j / 2) (by omega)
 rcases Nat.mod_two_eq_zero_or_one j with e | e
 ·have e2 : j / 2 * 2 = j := by omega
  rw [e2] at h1 h2
  rw [h1.1] at hu
  rw [h2.1]; exact hu
 ·have e2 : j / 2 * 2 + 1 = j := by omega
  rw [Nat.add_assoc, e2] at h2
  rw [e2] at h1
  rw [h1.2] at hu
  rw [h2.2]; exact hu
def Ld (T : TypeId) (w : World) (base : Nat) (v : Value) (l : List Du) : Prop := w.ownsRow base T 2 v l.length (cellsD l)
theorem Ld.zero (T : TypeId) (w : World) (base : Nat) : Ld T w base (.slice none 0 0) [] := World.ownsRow_nil _ _ _ _
theorem Ld.alloc {T : TypeId} {w : World} {base : Nat} {v : Value} {l : List Du} (h : Ld T w base v l) (o : Obj) : Ld T (w.alloc o) base v l := World.ownsRow.alloc h o
theorem Ld.next {T : TypeId} {w w' : World} {base : Nat} {v : Value} {l : List Du} (h : Ld T w base v l) (hb : Below w.heap.size w w') : Ld T w' base v l := by
 refine ⟨h.1, ?_⟩
 rcases h.2 with hn | ⟨g, cap, cur, hv, hg, hc, rest⟩
 ·exact .inl hn
 ·exact .inr ⟨g, cap, cur, hv, hg, Blk.next hc hb, rest⟩
theorem Ld.low {T : TypeId} {w : World} {base base' : Nat} {v : Value} {l : List Du} (h : Ld T w base v l) (hb : base' ≤ base) : Ld T w base' v l := by
 refine ⟨h.1, ?_⟩
 rcases h.2 with hn | ⟨g, cap, cur, hv, hg, rest⟩
 ·exact .inl hn
 ·exact .inr ⟨g, cap, cur, hv, by omega, rest⟩
theorem Ld.row {T : TypeId} {w : World} {base : Nat} {v : Value} {l : List Du} (h : Ld T w base v l) : ∃ a cap, v = .slice a l.length cap ∧ RowD w a l.length l ∧ (a = none → cap = 0) ∧ l.length ≤ cap ∧ (∀ x, a = some x → x.off = 0 ∧ x.spot = none) := by
 rcases h.2 with ⟨hv, hn⟩ | ⟨g, cap, cur, hv, _, _, h1, _⟩
 ·exact ⟨none, 0, by rw [hn]; exact hv, ⟨rfl, .inl hn⟩, fun _ => rfl, by omega, fun x h => by cases h⟩
 ·subst hv
  refine ⟨_, cap, rfl, ⟨rfl, .inr ⟨g, 0, rfl, fun i hi => ?_⟩⟩, (fun h => by cases h), h1, fun x h => by cases h; exact ⟨rfl, rfl⟩⟩
  have e1 := World.ownsRow.cellAt h (i * 2) (by omega)
  have e2 := World.ownsRow.cellAt h (i * 2 + 1) (by omega)
  rw [Nat.zero_add, e1, e2]
  exact cellsD_at l i hi
theorem own_far {w : World} {base n k : Nat} {t : TypeId} {v : Value} {l : List Value} (h : w.ownsRow base t n v k l) {G : Nat} (hG : G < base) : some G ≠ v.ownBlock := by
 intro e
 have := (World.ownsRow.lt h G e.symm).1
 omega
theorem own_bel {w0 w w' : World} {base B n k : Nat} {t : TypeId} {v : Value} {l : List Value} (h : w.ownsRow base t n v k l) (hg : w.grownBy w' v.ownBlock) (hb : Below B w0 w) (hB : B ≤ base) (hw : B ≤ w.heap.size) : Below B w0 w' := by
 refine ⟨hg.os.trans hb.os, hg.tape.trans hb.tape, hg.output.trans hb.output, Nat.le_trans hb.size hg.size, fun k hk => ?_⟩
 rw [← hb.block k hk]
 exact hg.block k (by omega) (own_far h (by omega))
theorem bel_drewN {B : Nat} {w w' : World} (h : Below B w w') (n : Nat) : Below B w (w'.drewN n) := ⟨h.os, h.tape, h.output, h.size, h.block⟩
structure PairT (P : Program) (T S : TypeId) : Prop where
 info : (P.info? T).map (fun i => (i.zero, i.size, i.bytes)) = some (some (.agg #[.int .i64 0, .int .i64 0]), 2, 16)
 under : P.underlying S = some (.slice T)
theorem wp_pair {P : Program} {T S : TypeId} (hP : PairT P T S) {w : World} {ops : Array Oper} {rest : List Oper} {o : Oper} {a : Act} {Q : Exit → Act → World → Prop} (hgd : o.guard = none) (s x : Operand)
  (ho : o.op = .call { callee := .builtin .append, args := #[s, x], argTypes := #[S, S] })
  (base G : Nat) (v : Value) (l : List Du) (r : Du) (hs : a.eval s = v) (hx : a.eval x = .slice (some ⟨G, 0, none⟩) 1 1) (hv : Ld T w base v l) (hu : w.cell? ⟨G, 0, none⟩ = some (.int .i64 r.a) ∧ w.cell? ⟨G, 1, none⟩ = some (.int .i64 r.b)) (hn : l.length ≤ 1000000) (hbase : base ≤ w.heap.size)
  (h : ∀ v' w', Ld T w' base v' (l ++ [r]) → w.grownBy w' v.ownBlock → wpList P ops Q rest (a.put o.dst v') w') : wpList P ops Q (o :: rest) a w := by
 obtain ⟨i0, hi, hz0, hz1, hz2⟩ := info_parts hP.info
 refine wpList_append_own w hgd s x S ho base T i0 (.agg #[.int .i64 0, .int .i64 0]) 2 16 hP.under hi hz0 hz1 hz2 rfl (by decide) v l.length (cellsD l) hs hv ⟨G, 0, none⟩ 1 1 (cellsD [r]) hx rfl ?_ (oneD [r]) (by unfold maxLen; omega) (by omega) hbase ?_
 ·intro j u hj
  match j, hj with
  | 0, hj => simp [cellsD] at hj; subst hj; simpa [Addr.add] using hu.1
  | 1, hj => simp [cellsD] at hj; subst hj; simpa [Addr.add] using hu.2
  | j + 2, hj => simp [cellsD] at hj
 intro v' w' h1 h2 _
 refine h v' w' ?_ h2
 unfold Ld
 rw [List.length_append, cellsD_app]
 exact h1
theorem step_pair {P : Program} {T S : TypeId} (hP : PairT P T S) {w : World} {ops : Array Oper} {o : Oper} {a : Act} {K : Act → World → Prop} {Q : Exit → Act → World → Prop} {E : Prop} (hgd : o.guard = none) (s x : Operand)
  (ho : o.op = .call { callee := .builtin .append, args := #[s, x], argTypes := #[S, S] })
  (base G : Nat) (v : Value) (l : List Du) (r : Du) (hs : a.eval s = v) (hx : a.eval x = .slice (some ⟨G, 0, none⟩) 1 1) (hv : Ld T w base v l) (hu : w.cell? ⟨G, 0, none⟩ = some (.int .i64 r.a) ∧ w.cell? ⟨G, 1, none⟩ = some (.int .i64 r.b)) (hn : l.length ≤ 1000000) (hbase : base ≤ w.heap.size)
  (h : ∀ v' w', Ld T w' base v' (l ++ [r]) → w.grownBy w' v.ownBlock → K (a.put o.dst v') w') : if Region.wanted o (yielded ops a.tmps) = true then Oper.wp P o a w K Q else E := by
 have hw : Region.wanted o (yielded ops a.tmps) = true := by simp [Region.wanted, hgd]
 rw [if_pos hw]
 obtain ⟨i0, hi, hz0, hz1, hz2⟩ := info_parts hP.info
 obtain ⟨v', w', hr, h2, h3, _⟩ := run_append_own (P := P) w base S o.type T i0 (.agg #[.int .i64 0, .int .i64 0]) 2 16 hP.under hi hz0 hz1 hz2 rfl (by decide) v l.length (cellsD l) hv ⟨G, 0, none⟩ 1 1 (cellsD [r]) rfl (by
  intro j u hj
  match j, hj with
  | 0, hj => simp [cellsD] at hj; subst hj; simpa [Addr.add] using hu.1
  | 1, hj => simp [cellsD] at hj; subst hj; simpa [Addr.add] using hu.2
  | j + 2, hj => simp [cellsD] at hj) (oneD [r]) (by unfold maxLen; omega) (by omega) hbase
 unfold Oper.wp execOp
 simp only [ho, resolve, invoke, builtin, Sem.run_bind, Sem.run_pure, Result.andThen_ok, List.map_toArray, List.map_cons, List.map_nil, hs, hx, hr]
 refine h v' w' ?_ h3
 unfold Ld
 rw [List.length_append, cellsD_app]
 exact h2
theorem wp_pairs {P : Program} {T S : TypeId} (hP : PairT P T S) {w : World} {ops : Array Oper} {rest : List Oper} {o : Oper} {a : Act} {Q : Exit → Act → World → Prop} (hgd : o.guard = none) (s x : Operand)
  (ho : o.op = .call { callee := .builtin .append, args := #[s, x], argTypes := #[S, S] })
  (base : Nat) (A : Addr) (len cap : Nat) (zs : List Du) (hs : a.eval s = .slice none 0 0) (hx : a.eval x = .slice (some A) len cap) (hr : RowD w (some A) len zs) (hl : len * 16 ≤ 140737488351232) (hbase : base ≤ w.heap.size)
  (h : ∀ v' w', Ld T w' base v' zs → w.grownBy w' none → wpList P ops Q rest (a.put o.dst v') w') : wpList P ops Q (o :: rest) a w := by
 obtain ⟨i0, hi, hz0, hz1, hz2⟩ := info_parts hP.info
 obtain ⟨hz, hr⟩ := hr
 refine wpList_append_own w hgd s x S ho base T i0 (.agg #[.int .i64 0, .int .i64 0]) 2 16 hP.under hi hz0 hz1 hz2 rfl (by decide) _ _ _ hs (World.ownsRow_nil _ _ _ _) A len cap (cellsD zs) hx ?_ ?_ (oneD zs) (by unfold maxLen; omega) (by omega) hbase ?_
 ·rw [cellsD_len, hz]
 ·intro j u hu
  rcases hr with h | ⟨b, off, h, hc⟩
  ·rw [List.getElem?_eq_none (by rw [cellsD_len]; omega)] at hu; cases hu
  ·obtain rfl := Option.some.inj h
   rw [Addr.add_lit]
   exact cellsD_get hz hc j u hu
 ·intro v' w' h1 h2 _
  refine h v' w' ?_ (by simpa [Value.ownBlock] using h2)
  show w'.ownsRow _ _ _ _ _ _
  rw [hz]; simpa using h1
def RowL (w : World) (a : Option Addr) (len : Nat) (ls : List Tr) : Prop :=
 ls.length = len ∧ (len = 0 ∨ ∃ b off, a = some ⟨b, off, none⟩ ∧ ∀ i, i < len → w.cell? ⟨b, off + i * 3, none⟩ = some (.int .i64 (ls.getD i tr0).a) ∧ w.cell? ⟨b, off + i * 3 + 1, none⟩ = some (.int .i64 (ls.getD i tr0).b) ∧ w.cell? ⟨b, off + i * 3 + 2, none⟩ = some (.int .i64 (ls.getD i tr0).c))
theorem RowL.at {w : World} {a : Option Addr} {n : Nat} {zs : List Tr} (h : RowL w a n zs) (h0 : 0 < n) : ∃ b off, a = some ⟨b, off, none⟩ ∧ b < w.heap.size ∧ ∀ i, i < n → w.cell? ⟨b, off + i * 3, none⟩ = some (.int .i64 (zs.getD i tr0).a) ∧ w.cell? ⟨b, off + i * 3 + 1, none⟩ = some (.int .i64 (zs.getD i tr0).b) ∧ w.cell? ⟨b, off + i * 3 + 2, none⟩ = some (.int .i64 (zs.getD i tr0).c) := by
 rcases h.2 with h1 | ⟨b, off, rfl, hc⟩
 ·omega
 ·exact ⟨b, off, rfl, World.block_lt_of_cell? w _ (hc 0 h0).1, hc⟩
def ErrPost (w : World) (R : Int → Prop) (e : Ending) (w' : World) : Prop := ∃ f, e = .returned (.int .i64 f) ∧ R f ∧ Below w.heap.size w w'
def ValPost (w : World) (z : Int) (e : Ending) (w' : World) : Prop := e = .returned (.int .i64 z) ∧ Below w.heap.size w w'
def TwoPost (w : World) (R : Int → Int → Prop) (e : Ending) (w' : World) : Prop := ∃ p f, e = .returned (.tuple #[.int .i64 p, .int .i64 f]) ∧ R p f ∧ Below w.heap.size w w'
def ThreePost (w : World) (R : Int → Int → Int → Prop) (e : Ending) (w' : World) : Prop := ∃ u p f, e = .returned (.tuple #[.int .i64 u, .int .i64 p, .int .i64 f]) ∧ R u p f ∧ Below w.heap.size w w'
structure Came (w : World) (a : Option Addr) (len cap : Nat) (ls : List Du) : Prop where
 row : RowD w a len ls
 nil : a = none → cap = 0
 room : len ≤ cap
 bytes : len * 16 ≤ 140737488351232
 wf : ∀ x ∈ ls, (Lit.int .i64 x.a).wf = true ∧ (Lit.int .i64 x.b).wf = true
theorem Came.below {w w' : World} {a : Option Addr} {len cap : Nat} {ls : List Du} (h : Came w a len cap ls) (hb : Below w.heap.size w w') : Came w' a len cap ls := ⟨h.row.below hb, h.nil, h.room, h.bytes, h.wf⟩
theorem Came.most {w : World} {a : Option Addr} {len cap : Nat} {ls : List Du} (h : Came w a len cap ls) : len ≤ maxLen := by have := h.bytes; unfold maxLen; omega
theorem Ld.came {T : TypeId} {w : World} {base : Nat} {v : Value} {l : List Du} (h : Ld T w base v l) (hl : l.length * 16 ≤ 140737488351232) (hw : ∀ x ∈ l, (Lit.int .i64 x.a).wf = true ∧ (Lit.int .i64 x.b).wf = true) : ∃ a cap, v = .slice a l.length cap ∧ Came w a l.length cap l := by
 obtain ⟨a, cap, hv, hr, hn, hc, _⟩ := h.row
 exact ⟨a, cap, hv, hr, hn, hc, hl, hw⟩
def GaveD (T : TypeId) (w : World) (zs : List Du) (e : Ending) (w' : World) : Prop := ∃ v, e = .returned v ∧ Ld T w' w.heap.size v zs ∧ Below w.heap.size w w'
theorem GaveD.mk {T : TypeId} {w w' : World} {zs : List Du} {v : Value} (h1 : Ld T w' w.heap.size v zs) (h2 : Below w.heap.size w w') : GaveD T w zs (.returned v) w' := ⟨v, rfl, h1, h2⟩
theorem wf_mid {z : Int} (h0 : 0 ≤ z) (h1 : z ≤ 4000000000000) : (Lit.int .i64 z).wf = true := by
 have h1 : IntKind.i64.min ≤ z := by have e : IntKind.i64.min = -9223372036854775808 := by decide
                                     omega
 have h2 : z ≤ IntKind.i64.max := by have e : IntKind.i64.max = 9223372036854775807 := by decide
                                     omega
 show (decide (IntKind.i64.min ≤ z) && decide (z ≤ IntKind.i64.max)) = true
 rw [Bool.and_eq_true]
 exact ⟨decide_eq_true h1, decide_eq_true h2⟩
theorem MostIs.got {l : List Du} {x m u p e : Int} (h : MostIs l x m u p e) (hR : Right l) (hM : MayMost x m) : e = 0 ∧ MostOf l x m u ∧ p = cost l x (x + u) := by
 rcases h with ⟨a, _⟩ | ⟨_, b, _⟩ | ⟨_, _, c, d⟩
 ·exact absurd hR a
 ·exact absurd hM b
 ·exact ⟨c, d⟩
end tar
namespace deb
open tar (Du du0 Came RowD Ld ErrPost TwoPost PairT GaveD)
open Go.RowKit
set_option maxRecDepth 100000
structure Fresh (w : World) (base : Nat) (a : Option Addr) (len cap : Nat) (ls : List Du) : Prop where
 came : Came w a len cap ls
 new : 0 < len → ∀ x, a = some x → base ≤ x.block
def RecPost (w : World) (l : List Du) (t bp : Int) (e : Ending) (w' : World) : Prop := ∃ a len cap z p f, e = .returned (.tuple #[.slice a len cap, .int .i64 p, .int .i64 f]) ∧ RecIs l t bp z p f ∧ Fresh w' w.heap.size a len cap z ∧ Below w.heap.size w w'
def AgePost (w : World) (l : List Du) (m : Int) (e : Ending) (w' : World) : Prop := ∃ a len cap z f, e = .returned (.tuple #[.slice a len cap, .int .i64 f]) ∧ AgeIs l m z f ∧ Fresh w' w.heap.size a len cap z ∧ Below w.heap.size w w'
theorem Mays.wf {l : List Du} (h : Mays l) : ∀ x ∈ l, (Lit.int .i64 x.a).wf = true ∧ (Lit.int .i64 x.b).wf = true := fun x hx => by
 obtain ⟨⟨a1, a2⟩, b1, b2⟩ := mem_fits h.2 x hx
 exact ⟨tar.wf_mid a1 (by omega), tar.wf_mid b1 (by omega)⟩
theorem ld_mays {T : TypeId} {w : World} {base : Nat} {v : Value} {l : List Du} (h : Ld T w base v l) (hm : Mays l) : ∃ a cap, v = .slice a l.length cap ∧ Came w a l.length cap l := h.came (by have := hm.1; omega) hm.wf
theorem ld_new {T : TypeId} {w : World} {base : Nat} {a : Option Addr} {n cap : Nat} {l : List Du} (h : Ld T w base (.slice a n cap) l) : 0 < n → ∀ x, a = some x → base ≤ x.block := fun hn x hx => by
 subst hx
 exact (World.ownsRow.lt h x.block rfl).1
theorem ld_fresh {T : TypeId} {w : World} {base : Nat} {v : Value} {l : List Du} (h : Ld T w base v l) (hm : Mays l) : ∃ a cap, v = .slice a l.length cap ∧ Fresh w base a l.length cap l := by
 obtain ⟨a, cap, rfl, hc⟩ := ld_mays h hm
 exact ⟨a, cap, rfl, hc, ld_new h⟩
theorem Fresh.low {w : World} {base base' : Nat} {a : Option Addr} {len cap : Nat} {ls : List Du} (h : Fresh w base a len cap ls) (hb : base' ≤ base) : Fresh w base' a len cap ls := ⟨h.came, fun hn x hx => Nat.le_trans hb (h.new hn x hx)⟩
theorem Fresh.below {w w' : World} {base : Nat} {a : Option Addr} {len cap : Nat} {ls : List Du} (h : Fresh w base a len cap ls) (hb : Below w.heap.size w w') : Fresh w' base a len cap ls := ⟨h.came.below hb, h.new⟩
theorem came_nil (w : World) : Came w none 0 0 [] := ⟨tar.RowD.nil _ _, fun _ => rfl, Nat.le_refl _, by omega, fun x hx => by cases hx⟩
theorem fresh_nil (w : World) (base : Nat) : Fresh w base none 0 0 [] := ⟨came_nil w, fun h => absurd h (Nat.lt_irrefl _)⟩
end deb
namespace tar
open Go.RowKit
set_option maxRecDepth 100000
theorem roverlap (lo hi x y : Int) (w : World) (h0 : 0 ≤ lo ∧ lo ≤ 10000000) (h1 : 0 ≤ hi ∧ hi ≤ 10000000) (h2 : 0 ≤ x ∧ x ≤ 10000000) (h3 : 0 ≤ y ∧ y ≤ 10000000) : Calls Tryz.prog 106 #[.int .i64 lo, .int .i64 hi, .int .i64 x, .int .i64 y] w fun e w' => e = .returned (.int .i64 (ov lo hi x y)) ∧ w' = w := by
 obtain ⟨a0, a1⟩ := h0
 obtain ⟨b0, b1⟩ := h1
 obtain ⟨c0, c1⟩ := h2
 obtain ⟨d0, d1⟩ := h3
 have HV : Hid (∀ z, (max lo x ≤ min hi y → z = min hi y - max lo x) → (min hi y < max lo x → z = 0) → z = ov lo hi x y) := fun z e1 e2 => by
  unfold ov
  by_cases h : max lo x ≤ min hi y
  ·have := e1 h; omega
  ·have := e2 (by omega); omega
 by_cases p : lo < x
 ·have q : decide (lo < x) = true := decide_eq_true p
  by_cases p2 : y < hi
  ·have q2 : decide (y < hi) = true := decide_eq_true p2
   by_cases p3 : y < x
   ·have q3 : decide (y < x) = true := decide_eq_true p3
    have HZ : Hid ((0 : Int) = ov lo hi x y) := HV.out 0 (fun h => by omega) (fun _ => rfl)
    go_enter Tryz.func106, Tryz.ntmps106
    go_wp2_with fail
    go_ret
    exact ⟨by rw [← HZ.out]; rfl, rfl⟩
   ·have q3 : decide (y < x) = false := decide_eq_false p3
    have HZ : Hid (y - x = ov lo hi x y) := HV.out _ (fun h => by omega) (fun h => by omega)
    go_enter Tryz.func106, Tryz.ntmps106
    go_wp2_with fail
    go_ret
    exact ⟨by rw [← HZ.out]; rfl, rfl⟩
  ·have q2 : decide (y < hi) = false := decide_eq_false p2
   by_cases p3 : hi < x
   ·have q3 : decide (hi < x) = true := decide_eq_true p3
    have HZ : Hid ((0 : Int) = ov lo hi x y) := HV.out 0 (fun h => by omega) (fun _ => rfl)
    go_enter Tryz.func106, Tryz.ntmps106
    go_wp2_with fail
    go_ret
    exact ⟨by rw [← HZ.out]; rfl, rfl⟩
   ·have q3 : decide (hi < x) = false := decide_eq_false p3
    have HZ : Hid (hi - x = ov lo hi x y) := HV.out _ (fun h => by omega) (fun h => by omega)
    go_enter Tryz.func106, Tryz.ntmps106
    go_wp2_with fail
    go_ret
    exact ⟨by rw [← HZ.out]; rfl, rfl⟩
 ·have q : decide (lo < x) = false := decide_eq_false p
  by_cases p2 : y < hi
  ·have q2 : decide (y < hi) = true := decide_eq_true p2
   by_cases p3 : y < lo
   ·have q3 : decide (y < lo) = true := decide_eq_true p3
    have HZ : Hid ((0 : Int) = ov lo hi x y) := HV.out 0 (fun h => by omega) (fun _ => rfl)
    go_enter Tryz.func106, Tryz.ntmps106
    go_wp2_with fail
    go_ret
    exact ⟨by rw [← HZ.out]; rfl, rfl⟩
   ·have q3 : decide (y < lo) = false := decide_eq_false p3
    have HZ : Hid (y - lo = ov lo hi x y) := HV.out _ (fun h => by omega) (fun h => by omega)
    go_enter Tryz.func106, Tryz.ntmps106
    go_wp2_with fail
    go_ret
    exact ⟨by rw [← HZ.out]; rfl, rfl⟩
  ·have q2 : decide (y < hi) = false := decide_eq_false p2
   by_cases p3 : hi < lo
   ·have q3 : decide (hi < lo) = true := decide_eq_true p3
    have HZ : Hid ((0 : Int) = ov lo hi x y) := HV.out 0 (fun h => by omega) (fun _ => rfl)
    go_enter Tryz.func106, Tryz.ntmps106
    go_wp2_with fail
    go_ret
    exact ⟨by rw [← HZ.out]; rfl, rfl⟩
   ·have q3 : decide (hi < lo) = false := decide_eq_false p3
    have HZ : Hid (hi - lo = ov lo hi x y) := HV.out _ (fun h => by omega) (fun h => by omega)
    go_enter Tryz.func106, Tryz.ntmps106
    go_wp2_with fail
    go_ret
    exact ⟨by rw [← HZ.out]; rfl, rfl⟩
set_option maxHeartbeats 2000000 in
theorem rcost (a : Option Addr) (n cap : Nat) (ls : List Du) (x y : Int) (w : World) (hr : RowD w a n ls) (hR : Right ls) (hx : 0 ≤ x) (hxy : x ≤ y) (hy : y ≤ 10000000) : Calls Tryz.prog 96 #[.slice a n cap, .int .i64 x, .int .i64 y] w fun e w' => ValPost w (cost ls x y) e w' := by
 have hlen := hr.1
 have hn1 : 1 ≤ n := by have := hR.1.1; omega
 have hn8 : n ≤ 8 := by have := hR.1.2; omega
 obtain ⟨b, off, rfl, hbl, hc⟩ := hr.at hn1
 have HC : Hid (∀ i, i < n → w.cell? ⟨b, off + i * 2, none⟩ = some (.int .i64 (ls.getD i du0).a) ∧ w.cell? ⟨b, off + i * 2 + 1, none⟩ = some (.int .i64 (ls.getD i du0).b)) := hc
 have HLEN : Hid (ls.length = n) := hlen
 have HR : Hid (Right ls) := hR
 have HX : Hid (0 ≤ x ∧ x ≤ y ∧ y ≤ 10000000) := ⟨hx, hxy, hy⟩
 clear hc hr hlen hR
 go_enter Tryz.func96, Tryz.ntmps96
 go_wp2_with fail
 go_loopw [7, 8, 9] (fun u v z wr => ∃ k : Nat, k ≤ n ∧ z = .int .i64 (k : Int) ∧ u = .int .i64 (costK ls x y k) ∧ v = .int .i64 (low ls k) ∧ Below w.heap.size w wr) (fun _ _ z _ => n - (intOf z).toNat)
 case atStart => exact ⟨0, Nat.zero_le _, rfl, rfl, rfl, Below.refl _ _⟩
 case round =>
  obtain ⟨k, hk, rfl, rfl, rfl, hb⟩ := hrel
  by_cases hlt : k < n
  ·have hdl : decide ((k : Int) < (n : Int)) = true := by simp; omega
   have hkl : k < ls.length := by rw [HLEN.out]; exact hlt
   have c0 : wr.cell? ⟨b, off + k * 2, none⟩ = some (.int .i64 (ls.getD k du0).a) := (hb.cell (p := ⟨b, off + k * 2, none⟩) hbl).trans (HC.out k hlt).1
   have c1 : wr.cell? ⟨b, off + k * 2 + 1, none⟩ = some (.int .i64 (ls.getD k du0).b) := (hb.cell (p := ⟨b, off + k * 2 + 1, none⟩) hbl).trans (HC.out k hlt).2
   have HB : Hid (Below w.heap.size w wr) := hb
   have hp := HR.out.price k hkl
   have hu := HR.out.upto k hkl
   have hl0 := HR.out.low_pos k (by omega)
   have hl1 : low ls k ≤ 10000000 := by have := low_mono HR.out k ls.length (by omega) (Nat.le_refl _); rw [HR.out.low_end] at this; exact this
   have HOV : Hid (∀ W, Calls Tryz.prog 106 #[.int .i64 (low ls k), .int .i64 (ls.getD k du0).a, .int .i64 x, .int .i64 y] W fun e w' => e = .returned (.int .i64 (ov (low ls k) (ls.getD k du0).a x y)) ∧ w' = W) := fun W => roverlap _ _ x y W ⟨hl0, hl1⟩ ⟨by omega, by omega⟩ ⟨by omega, by omega⟩ ⟨by omega, by omega⟩
   have hc0 := costK_pos HR.out x y k (by omega)
   have hc1 := costK_le HR.out x y HX.out.1 HX.out.2.1 HX.out.2.2 k (by omega)
   have hpb := prod_bd (ov_pos (low ls k) (ls.getD k du0).a x y) (ov_le _ _ x y hl0 hu.2) hp.1 hp.2
   have HN : Hid (costK ls x y k + ov (low ls k) (ls.getD k du0).a x y * (ls.getD k du0).b = costK ls x y (k + 1)) := (costK_next ls x y k).symm
   have HL : Hid ((ls.getD k du0).a = low ls (k + 1)) := (low_next ls k).symm
   clear hb
   generalize costK ls x y k = cc at *
   generalize low ls k = lo at *
   generalize ov lo (ls.getD k du0).a x y = o at *
   generalize (ls.getD k du0).a = u at *
   generalize (ls.getD k du0).b = p at *
   have hw1 : IntKind.i64.wrap (o * p) = o * p := by rw [IntKind.wrap_i64]; omega
   have hw2 : IntKind.i64.wrap (cc + o * p) = cc + o * p := by rw [IntKind.wrap_i64]; omega
   go_wp2_with fail
   go_quiet (exact (HOV.out _).mono fun _ _ h => ⟨h.1, _, h.2⟩)
   have d1 : (wr.drewN nq).cell? ⟨b, off + k * 2, none⟩ = some (.int .i64 u) := c0
   have HBN : Hid (Below w.heap.size w (wr.drewN nq)) := bel_drewN HB.out nq
   go_wp2_with fail
   go_roundw
   case rel => exact ⟨k + 1, by omega, by go_num, by rw [← HN.out], by rw [← HL.out], HBN.out⟩
   case measure => simp [intOf]; omega
  ·obtain rfl : k = n := by omega
   have hdl : decide ((k : Int) < (k : Int)) = false := by simp
   have HV : Hid (costK ls x y k = cost ls x y) := by show _ = _; unfold cost; rw [HLEN.out]
   have HB : Hid (Below w.heap.size w wr) := hb
   clear hb
   generalize hcc : costK ls x y k = cc at *
   go_wp2_with fail
   go_ret
   exact ⟨by rw [← HV.out]; rfl, HB.out⟩
end tar
end Go.Proofs.YtomibnggmhjdfaaGreat
