import Derived.Test.YtomibnggmhjdfaaGreatVVRrs3
set_option linter.unusedVariables false
set_option linter.unusedSimpArgs false
namespace Go.Proofs.YtomibnggmhjdfaaGreat
namespace book
open Go.RowKit
set_option maxRecDepth 100000
def So.cs (x : So) : List Value := [.int .i64 x.id, .int .i64 x.cl, .int .i64 x.am, .int .i64 x.tg, .int .i64 x.rv]
def So.v (x : So) : Value := .agg #[.int .i64 x.id, .int .i64 x.cl, .int .i64 x.am, .int .i64 x.tg, .int .i64 x.rv]
def cellsS : List So → List Value
 | [] => []
 | x :: l => x.cs ++ cellsS l
theorem cellsS_len (l : List So) : (cellsS l).length = l.length * 5 := by
 induction l with
 | nil => rfl
 | cons e l ih => rw [cellsS, List.length_append, ih, List.length_cons]; show 5 + _ = _; omega
theorem cellsS_app (l m : List So) : cellsS (l ++ m) = cellsS l ++ cellsS m := by
 induction l with
 | nil => rfl
 | cons e l ih => rw [List.cons_append, cellsS, cellsS, ih, List.append_assoc]
theorem oneS (l : List So) : ∀ u ∈ cellsS l, u.oneCell' = true := by
 induction l with
 | nil => intro u hu; cases hu
 | cons e l ih =>
  intro u hu
  rw [cellsS] at hu
  rcases List.mem_append.1 hu with hu | hu
  ·simp only [So.cs, List.mem_cons, List.not_mem_nil, or_false] at hu
   rcases hu with rfl | rfl | rfl | rfl | rfl <;> rfl
  ·exact ih u hu
theorem cellsS_at (l : List So) (k j : Nat) (hk : k < l.length) (hj : j < 5) : (cellsS l)[k * 5 + j]? = (l.getD k so0).cs[j]? := by
 induction l generalizing k with
 | nil => simp at hk
 | cons x l ih =>
  have h8 : x.cs.length = 5 := rfl
  cases k with
  | zero => rw [Nat.zero_mul, Nat.zero_add, cellsS, List.getElem?_append_left (by omega)]; rfl
  | succ k =>
   rw [show (k + 1) * 5 + j = x.cs.length + (k * 5 + j) by omega, cellsS, List.getElem?_append_right (by omega), Nat.add_sub_cancel_left]
   exact ih k (by simpa using hk)
def RowS (w : World) (a : Option Addr) (n : Nat) (l : List So) : Prop := l.length = n ∧ (n = 0 ∨ ∃ b off, a = some ⟨b, off, none⟩ ∧ b < w.heap.size ∧ ∀ i j, i < n → j < 5 → w.cell? ⟨b, off + i * 5 + j, none⟩ = (l.getD i so0).cs[j]?)
theorem RowS.below {w w' : World} {a : Option Addr} {n : Nat} {l : List So} (h : RowS w a n l) (hb : Below w.heap.size w w') : RowS w' a n l := by
 refine ⟨h.1, ?_⟩
 rcases h.2 with h0 | ⟨b, off, rfl, lb, hc⟩
 ·exact .inl h0
 ·exact .inr ⟨b, off, rfl, Nat.lt_of_lt_of_le lb hb.size, fun i j hi hj => (hb.cell (p := ⟨b, off + i * 5 + j, none⟩) lb).trans (hc i j hi hj)⟩
def Lo (w : World) (base : Nat) (v : Value) (l : List So) : Prop := w.ownsRow base 90 5 v l.length (cellsS l)
theorem Lo.zero (w : World) (base : Nat) : Lo w base (.slice none 0 0) [] := World.ownsRow_nil _ _ _ _
theorem Lo.alloc {w : World} {base : Nat} {v : Value} {l : List So} (h : Lo w base v l) (o : Obj) : Lo (w.alloc o) base v l := World.ownsRow.alloc h o
theorem Lo.next {w w' : World} {base : Nat} {v : Value} {l : List So} (h : Lo w base v l) (hb : Below w.heap.size w w') : Lo w' base v l := by
 refine ⟨h.1, ?_⟩
 rcases h.2 with hn | ⟨g, cap, cur, hv, hg, hc, rest⟩
 ·exact .inl hn
 ·exact .inr ⟨g, cap, cur, hv, hg, Blk.next hc hb, rest⟩
theorem Lo.kept {w w' : World} {base : Nat} {own : Option Nat} {v : Value} {l : List So} (h : Lo w base v l) (hg : w.grownBy w' own) (hne : ∀ g, v.ownBlock = some g → own ≠ some g) : Lo w' base v l := by
 refine World.ownsRow.kept h hg ?_
 cases e : v.ownBlock with
 | none => exact .inl rfl
 | some g => exact .inr (fun q => hne g e q.symm)
theorem Lo.row {w : World} {base : Nat} {v : Value} {l : List So} (h : Lo w base v l) : ∃ a cap, v = .slice a l.length cap ∧ RowS w a l.length l ∧ (a = none → cap = 0) ∧ l.length ≤ cap := by
 rcases h.2 with ⟨hv, hn⟩ | ⟨g, cap, cur, hv, _, hc, h1, _⟩
 ·exact ⟨none, 0, by rw [hn]; exact hv, ⟨rfl, .inl hn⟩, fun _ => rfl, by omega⟩
 ·subst hv
  refine ⟨_, cap, rfl, ⟨rfl, .inr ⟨g, 0, rfl, Blk.lt hc, fun i j hi hj => ?_⟩⟩, (fun h => by cases h), h1⟩
  have e1 := World.ownsRow.cellAt h (i * 5 + j) (by omega)
  rw [Nat.zero_add, e1]
  exact cellsS_at l i j hi hj
theorem soldI : (Tryz.prog.info? 90).map (fun i => (i.zero, i.size, i.bytes)) = some (some (.agg so0.cs.toArray), 5, 40) := by kernel_rfl
theorem step_sold {w : World} {o : Oper} {a : Act} {K : Act → World → Prop} {Q : Exit → Act → World → Prop} (d : Nat) (hd : o.dst = some d) (s x : Operand)
  (ho : o.op = .call { callee := .builtin .append, args := #[s, x], argTypes := #[60, 60] })
  (base G : Nat) (v : Value) (l : List So) (r : So) (hs : a.eval s = v) (hx : a.eval x = .slice (some ⟨G, 0, none⟩) 1 1) (hv : Lo w base v l) (hu : Blk w G r.cs.toArray 90) (hn : l.length ≤ 2000000) (hbase : base ≤ w.heap.size)
  (h : ∀ v' w', Lo w' base v' (l ++ [r]) → w.grownBy w' v.ownBlock → (v'.ownBlock = v.ownBlock ∨ v'.ownBlock = some w.heap.size) → K (a.put (some d) v') w') : Oper.wp Tryz.prog o a w K Q := by
 rw [← hd] at h
 obtain ⟨i0, hi, hz0, hz1, hz2⟩ := info_parts soldI
 obtain ⟨v', w', hr, h2, h3, _, h5⟩ := run_append_own_at (P := Tryz.prog) w base 60 o.type 90 i0 (.agg so0.cs.toArray) 5 40 Tryz.underlying60 hi hz0 hz1 hz2 rfl (by decide) v l.length (cellsS l) hv ⟨G, 0, none⟩ 1 1 (cellsS [r]) (by rw [cellsS_len]; rfl) (by
  intro j u hj
  rw [Addr.add_lit, Nat.zero_add, hu.cell j]
  rw [cellsS, cellsS, List.append_nil] at hj
  simpa using hj) (oneS [r]) (by unfold maxLen; omega) (by omega) hbase
 unfold Oper.wp execOp
 simp only [ho, resolve, invoke, builtin, Sem.run_bind, Sem.run_pure, Result.andThen_ok, List.map_toArray, List.map_cons, List.map_nil, hs, hx, hr]
 refine h v' w' ?_ h3 h5
 unfold Lo
 rw [List.length_append, cellsS_app]
 exact h2
end book
namespace cell
open Go.RowKit
set_option maxRecDepth 100000
def RowU (w : World) (a : Option Addr) (len : Nat) (zs : List Int) : Prop :=
 zs.length = len ∧ (len = 0 ∨ ∃ b off, a = some ⟨b, off, none⟩ ∧ ∀ i, i < len → w.cell? ⟨b, off + i, none⟩ = some (.int .u32 (zs.getD i 0)))
theorem RowU.below {w w' : World} {a : Option Addr} {n : Nat} {zs : List Int} (h : RowU w a n zs) (hb : Below w.heap.size w w') : RowU w' a n zs := by
 refine ⟨h.1, ?_⟩
 rcases h.2 with h0 | ⟨b, off, rfl, hc⟩
 ·exact .inl h0
 ·refine .inr ⟨b, off, rfl, fun i hi => ?_⟩
  have h1 := hc i hi
  rw [hb.cell (p := ⟨b, off + i, none⟩) (World.block_lt_of_cell? w _ h1)]
  exact h1
theorem RowU.nil (w : World) (a : Option Addr) : RowU w a 0 [] := ⟨rfl, .inl rfl⟩
theorem RowU.at {w : World} {a : Option Addr} {n : Nat} {zs : List Int} (h : RowU w a n zs) (h0 : 0 < n) : ∃ b off, a = some ⟨b, off, none⟩ ∧ b < w.heap.size ∧ ∀ i, i < n → w.cell? ⟨b, off + i, none⟩ = some (.int .u32 (zs.getD i 0)) := by
 rcases h.2 with h1 | ⟨b, off, rfl, hc⟩
 ·omega
 ·exact ⟨b, off, rfl, World.block_lt_of_cell? w _ (hc 0 h0), hc⟩
theorem rowU_of {w : World} {a : Option Addr} {len cap M : Nat} {zs : List Int}
  (h : (a = none ∧ len = 0 ∧ cap = 0 ∧ zs = []) ∨ ∃ x, a = some x ∧ len ≤ cap ∧ cap * 4 ≤ M ∧ zs.length = cap ∧ (∀ i, i < zs.length → w.cell? (x.add i) = some (.int .u32 (zs.getD i 0))) ∧ ∀ n ∈ zs, (Lit.int .u32 n).wf = true) :
  RowU w a len (zs.take len) ∧ (a = none → cap = 0) ∧ len * 4 ≤ M := by
 rcases h with ⟨rfl, rfl, rfl, rfl⟩ | ⟨x, rfl, h1, h2, h3, h4, h5⟩
 ·exact ⟨⟨rfl, .inl rfl⟩, fun _ => rfl, by omega⟩
 ·refine ⟨⟨by rw [List.length_take]; omega, ?_⟩, (fun h => by cases h), by omega⟩
  by_cases h0 : len = 0
  ·exact .inl h0
  ·refine .inr ?_
   obtain ⟨b, off, spot⟩ := x
   have hs : spot = none := by simpa [Addr.add] using World.cell?_spot (h4 0 (by omega))
   subst hs
   refine ⟨b, off, rfl, fun i hi => ?_⟩
   have := h4 i (by omega)
   rw [Addr.add_lit] at this
   rw [this]
   congr 2
   simp [hi]
def Ws (w : World) (base : Nat) (v : Value) (zs : List Int) : Prop := w.ownsRow base 64 1 v zs.length (zs.map (.int .u32))
theorem Ws.zero (w : World) (base : Nat) : Ws w base (.slice none 0 0) [] := World.ownsRow_nil _ _ _ _
theorem Ws.alloc {w : World} {base : Nat} {v : Value} {l : List Int} (h : Ws w base v l) (o : Obj) : Ws (w.alloc o) base v l := World.ownsRow.alloc h o
theorem Ws.next {w w' : World} {base : Nat} {v : Value} {l : List Int} (h : Ws w base v l) (hb : Below w.heap.size w w') : Ws w' base v l := by
 refine ⟨h.1, ?_⟩
 rcases h.2 with hn | ⟨g, cap, cur, hv, hg, hc, rest⟩
 ·exact .inl hn
 ·exact .inr ⟨g, cap, cur, hv, hg, Blk.next hc hb, rest⟩
theorem Ws.row {w : World} {base : Nat} {v : Value} {l : List Int} (h : Ws w base v l) : ∃ a cap, v = .slice a l.length cap ∧ RowU w a l.length l ∧ (a = none → cap = 0) ∧ l.length ≤ cap := by
 rcases h.2 with ⟨hv, hn⟩ | ⟨g, cap, cur, hv, _, _, h1, _⟩
 ·exact ⟨none, 0, by rw [hn]; exact hv, ⟨rfl, .inl hn⟩, fun _ => rfl, by omega⟩
 ·subst hv
  refine ⟨_, cap, rfl, ⟨rfl, .inr ⟨g, 0, rfl, fun i hi => ?_⟩⟩, (fun h => by cases h), h1⟩
  have := World.ownsRow.cellAt h i (by omega)
  rw [Nat.zero_add, this]
  simp [List.getD, hi]
theorem own_far {w : World} {base n k : Nat} {t : TypeId} {v : Value} {l : List Value} (h : w.ownsRow base t n v k l) {G : Nat} (hG : G < base) : some G ≠ v.ownBlock := by
 intro e
 have := (World.ownsRow.lt h G e.symm).1
 omega
theorem own_bel {w0 w w' : World} {base B n k : Nat} {t : TypeId} {v : Value} {l : List Value} (h : w.ownsRow base t n v k l) (hg : w.grownBy w' v.ownBlock) (hb : Below B w0 w) (hB : B ≤ base) (hw : B ≤ w.heap.size) : Below B w0 w' := by
 refine ⟨hg.os.trans hb.os, hg.tape.trans hb.tape, hg.output.trans hb.output, Nat.le_trans hb.size hg.size, fun k hk => ?_⟩
 rw [← hb.block k hk]
 exact hg.block k (by omega) (own_far h (by omega))
theorem alloc_le {w : World} {B : Nat} (h : B ≤ w.heap.size) (o : Obj) : B ≤ (w.alloc o).heap.size := by simp; omega
theorem info_u32 : (Tryz.prog.info? 64).map (fun i => (i.zero, i.size, i.bytes)) = some (some (.int .u32 0), 1, 4) := by kernel_rfl
theorem wp_word {w : World} {ops : Array Oper} {rest : List Oper} {o : Oper} {a : Act} {Q : Exit → Act → World → Prop} (hgd : o.guard = none) (s x : Operand)
  (ho : o.op = .call { callee := .builtin .append, args := #[s, x], argTypes := #[25, 25] })
  (base G : Nat) (v : Value) (l : List Int) (r : Int) (hs : a.eval s = v) (hx : a.eval x = .slice (some ⟨G, 0, none⟩) 1 1) (hv : Ws w base v l) (hu : w.cell? ⟨G, 0, none⟩ = some (.int .u32 r)) (hn : l.length ≤ 1000000) (hbase : base ≤ w.heap.size)
  (h : ∀ v' w', Ws w' base v' (l ++ [r]) → w.grownBy w' v.ownBlock → wpList Tryz.prog ops Q rest (a.put o.dst v') w') : wpList Tryz.prog ops Q (o :: rest) a w := by
 obtain ⟨i0, hi, hz0, hz1, hz2⟩ := info_parts info_u32
 refine wpList_append_own w hgd s x 25 ho base 64 i0 (.int .u32 0) 1 4 Tryz.underlying25 hi hz0 hz1 hz2 rfl (by decide) v l.length (l.map (.int .u32)) hs hv ⟨G, 0, none⟩ 1 1 [.int .u32 r] hx rfl ?_ ?_ (by unfold maxLen; omega) (by omega) hbase ?_
 ·intro j u hj
  match j, hj with
  | 0, hj => simp at hj; subst hj; simpa [Addr.add] using hu
 ·intro u hu; simp at hu; subst hu; rfl
 intro v' w' h1 h2 _
 refine h v' w' ?_ h2
 unfold Ws
 rw [List.length_append, List.map_append]
 exact h1
end cell
namespace book
open Go.RowKit
set_option maxRecDepth 100000
structure Cu where
 me : Int
 rv : Int
 nx : Int
 mo : Int
 bo : Int
 fr : Int
 dp : Option Addr
 dn : Nat
 dc : Nat
 sp : Option Addr
 sn : Nat
 sc : Nat
def cu0 : Cu := ⟨0, 0, 0, 0, 0, 0, none, 0, 0, none, 0, 0⟩
def Cu.cs (x : Cu) : List Value := [.int .i64 x.me, .int .i64 x.rv, .int .i64 x.nx, .int .i64 x.mo, .int .i64 x.bo, .int .i64 x.fr, .slice x.dp x.dn x.dc, .slice x.sp x.sn x.sc]
def cellsC : List Cu → List Value
 | [] => []
 | x :: l => x.cs ++ cellsC l
theorem cellsC_len (l : List Cu) : (cellsC l).length = l.length * 8 := by
 induction l with
 | nil => rfl
 | cons e l ih => rw [cellsC, List.length_append, ih, List.length_cons]; show 8 + _ = _; omega
theorem cellsC_app (l m : List Cu) : cellsC (l ++ m) = cellsC l ++ cellsC m := by
 induction l with
 | nil => rfl
 | cons e l ih => rw [List.cons_append, cellsC, cellsC, ih, List.append_assoc]
theorem oneC (l : List Cu) : ∀ u ∈ cellsC l, u.oneCell' = true := by
 induction l with
 | nil => intro u hu; cases hu
 | cons e l ih =>
  intro u hu
  rw [cellsC] at hu
  rcases List.mem_append.1 hu with hu | hu
  ·simp only [Cu.cs, List.mem_cons, List.not_mem_nil, or_false] at hu
   rcases hu with rfl | rfl | rfl | rfl | rfl | rfl | rfl | rfl <;> rfl
  ·exact ih u hu
theorem cellsC_at (l : List Cu) (k j : Nat) (hk : k < l.length) (hj : j < 8) : (cellsC l)[k * 8 + j]? = (l.getD k cu0).cs[j]? := by
 induction l generalizing k with
 | nil => simp at hk
 | cons x l ih =>
  have h8 : x.cs.length = 8 := rfl
  cases k with
  | zero => rw [Nat.zero_mul, Nat.zero_add, cellsC, List.getElem?_append_left (by omega)]; rfl
  | succ k =>
   rw [show (k + 1) * 8 + j = x.cs.length + (k * 8 + j) by omega, cellsC, List.getElem?_append_right (by omega), Nat.add_sub_cancel_left]
   exact ih k (by simpa using hk)
def RowC (w : World) (a : Option Addr) (n : Nat) (l : List Cu) : Prop := l.length = n ∧ (n = 0 ∨ ∃ b off, a = some ⟨b, off, none⟩ ∧ b < w.heap.size ∧ ∀ i j, i < n → j < 8 → w.cell? ⟨b, off + i * 8 + j, none⟩ = (l.getD i cu0).cs[j]?)
theorem RowC.below {w w' : World} {a : Option Addr} {n : Nat} {l : List Cu} (h : RowC w a n l) (hb : Below w.heap.size w w') : RowC w' a n l := by
 refine ⟨h.1, ?_⟩
 rcases h.2 with h0 | ⟨b, off, rfl, lb, hc⟩
 ·exact .inl h0
 ·exact .inr ⟨b, off, rfl, Nat.lt_of_lt_of_le lb hb.size, fun i j hi hj => (hb.cell (p := ⟨b, off + i * 8 + j, none⟩) lb).trans (hc i j hi hj)⟩
def Lc (w : World) (base : Nat) (v : Value) (l : List Cu) : Prop := w.ownsRow base 62 8 v l.length (cellsC l)
theorem Lc.zero (w : World) (base : Nat) : Lc w base (.slice none 0 0) [] := World.ownsRow_nil _ _ _ _
theorem Lc.next {w w' : World} {base : Nat} {v : Value} {l : List Cu} (h : Lc w base v l) (hb : Below w.heap.size w w') : Lc w' base v l := by
 refine ⟨h.1, ?_⟩
 rcases h.2 with hn | ⟨g, cap, cur, hv, hg, hc, rest⟩
 ·exact .inl hn
 ·exact .inr ⟨g, cap, cur, hv, hg, Blk.next hc hb, rest⟩
theorem Lc.row {w : World} {base : Nat} {v : Value} {l : List Cu} (h : Lc w base v l) : ∃ a cap, v = .slice a l.length cap ∧ RowC w a l.length l ∧ (a = none → cap = 0) ∧ l.length ≤ cap := by
 rcases h.2 with ⟨hv, hn⟩ | ⟨g, cap, cur, hv, _, hc, h1, _⟩
 ·exact ⟨none, 0, by rw [hn]; exact hv, ⟨rfl, .inl hn⟩, fun _ => rfl, by omega⟩
 ·subst hv
  refine ⟨_, cap, rfl, ⟨rfl, .inr ⟨g, 0, rfl, Blk.lt hc, fun i j hi hj => ?_⟩⟩, (fun h => by cases h), h1⟩
  have e1 := World.ownsRow.cellAt h (i * 8 + j) (by omega)
  rw [Nat.zero_add, e1]
  exact cellsC_at l i j hi hj
theorem custI : (Tryz.prog.info? 62).map (fun i => (i.zero, i.size, i.bytes)) = some (some (.agg cu0.cs.toArray), 8, 96) := by kernel_rfl
theorem step_cust {w : World} {o : Oper} {a : Act} {K : Act → World → Prop} {Q : Exit → Act → World → Prop} (s x : Operand)
  (ho : o.op = .call { callee := .builtin .append, args := #[s, x], argTypes := #[27, 27] })
  (base G : Nat) (v : Value) (l : List Cu) (r : Cu) (hs : a.eval s = v) (hx : a.eval x = .slice (some ⟨G, 0, none⟩) 1 1) (hv : Lc w base v l) (hu : Blk w G r.cs.toArray 62) (hn : l.length ≤ 2000000) (hbase : base ≤ w.heap.size)
  (h : ∀ v' w', Lc w' base v' (l ++ [r]) → w.grownBy w' v.ownBlock → (v'.ownBlock = v.ownBlock ∨ v'.ownBlock = some w.heap.size) → K (a.put o.dst v') w') : Oper.wp Tryz.prog o a w K Q := by
 obtain ⟨i0, hi, hz0, hz1, hz2⟩ := info_parts custI
 obtain ⟨v', w', hr, h2, h3, _, h5⟩ := run_append_own_at (P := Tryz.prog) w base 27 o.type 62 i0 (.agg cu0.cs.toArray) 8 96 Tryz.underlying27 hi hz0 hz1 hz2 rfl (by decide) v l.length (cellsC l) hv ⟨G, 0, none⟩ 1 1 (cellsC [r]) (by rw [cellsC_len]; rfl) (by
  intro j u hj
  rw [Addr.add_lit, Nat.zero_add, hu.cell j]
  rw [cellsC, cellsC, List.append_nil] at hj
  simpa using hj) (oneC [r]) (by unfold maxLen; omega) (by omega) hbase
 unfold Oper.wp execOp
 simp only [ho, resolve, invoke, builtin, Sem.run_bind, Sem.run_pure, Result.andThen_ok, List.map_toArray, List.map_cons, List.map_nil, hs, hx, hr]
 refine h v' w' ?_ h3 h5
 unfold Lc
 rw [List.length_append, cellsC_app]
 exact h2
def FindIs (l : List Cu) (me at_ f : Int) : Prop := (∃ k, k < l.length ∧ (l.getD k cu0).me = me ∧ (∀ j, j < k → (l.getD j cu0).me ≠ me) ∧ at_ = (k : Int) ∧ f = 0) ∨ ((∀ j, j < l.length → (l.getD j cu0).me ≠ me) ∧ at_ = 0 ∧ f = 18)
def FoundIs (l : List Cu) (me at_ : Int) : Prop := (∃ k, k < l.length ∧ (l.getD k cu0).me = me ∧ (∀ j, j < k → (l.getD j cu0).me ≠ me) ∧ at_ = (k : Int)) ∨ ((∀ j, j < l.length → (l.getD j cu0).me ≠ me) ∧ at_ = -1)
theorem rowD_grown {w w' : World} {own : Option Nat} {a : Option Addr} {n : Nat} {zs : List tar.Du} (h : tar.RowD w a n zs) (hg : w.grownBy w' own) (hne : 0 < n → ∀ x, a = some x → some x.block ≠ own) : tar.RowD w' a n zs := by
 refine ⟨h.1, ?_⟩
 rcases h.2 with h0 | ⟨b, off, rfl, hc⟩
 ·exact .inl h0
 ·refine .inr ⟨b, off, rfl, fun i hi => ?_⟩
  have h1 := hc i hi
  have hb := hg.block b (World.block_lt_of_cell? w ⟨b, off + i * 2, none⟩ h1.1) (hne (by omega) _ rfl)
  have e : ∀ o, w'.cell? ⟨b, o, none⟩ = w.cell? ⟨b, o, none⟩ := fun o => by simp [World.cell?, hb]
  rw [e, e]; exact h1
theorem came_grown {w w' : World} {own : Option Nat} {a : Option Addr} {n cap : Nat} {zs : List tar.Du} (h : tar.Came w a n cap zs) (hg : w.grownBy w' own) (hne : 0 < n → ∀ x, a = some x → some x.block ≠ own) : tar.Came w' a n cap zs := ⟨rowD_grown h.row hg hne, h.nil, h.room, h.bytes, h.wf⟩
def Cu.sold (x : Cu) : Value := .slice x.sp x.sn x.sc
def Cu.v (x : Cu) : Value := .agg x.cs.toArray
def Nums (x : Cu) (a : acc.Ac) : Prop := x.me = a.me ∧ x.rv = a.rv ∧ x.nx = a.nx ∧ x.mo = a.mo ∧ x.bo = a.bo ∧ x.fr = a.fr
structure Has (w : World) (base : Nat) (x : Cu) (c : Cm) : Prop where
 num : Nums x c.a
 ds : deb.Fresh w base x.dp x.dn x.dc c.a.ds
 so : Lo w base x.sold c.so
def Apart (x y : Cu) : Prop := (∀ g, x.sold.ownBlock = some g → y.sold.ownBlock ≠ some g) ∧ (∀ g, x.sold.ownBlock = some g → 0 < y.dn → ∀ p, y.dp = some p → p.block ≠ g) ∧ (∀ g, y.sold.ownBlock = some g → 0 < x.dn → ∀ p, x.dp = some p → p.block ≠ g)
theorem Apart.symm {x y : Cu} (h : Apart x y) : Apart y x := ⟨fun g h1 h2 => h.1 g h2 h1, h.2.2, h.2.1⟩
def Off (x : Cu) (own : Option Nat) : Prop := (∀ g, x.sold.ownBlock = some g → own ≠ some g) ∧ (0 < x.dn → ∀ p, x.dp = some p → some p.block ≠ own)
theorem Has.next {w w' : World} {base : Nat} {x : Cu} {c : Cm} (h : Has w base x c) (hb : Below w.heap.size w w') : Has w' base x c := ⟨h.num, h.ds.below hb, h.so.next hb⟩
theorem Has.kept {w w' : World} {base : Nat} {own : Option Nat} {x : Cu} {c : Cm} (h : Has w base x c) (hg : w.grownBy w' own) (ho : Off x own) : Has w' base x c := ⟨h.num, ⟨came_grown h.ds.came hg ho.2, h.ds.new⟩, h.so.kept hg ho.1⟩
structure Holds (w : World) (base : Nat) (V : Value) (xs : List Cu) (bk : List Cm) : Prop where
 row : Lc w base V xs
 len : xs.length = bk.length
 has : ∀ i, i < xs.length → Has w base (xs.getD i cu0) (bk.getD i cm0)
 off : ∀ i, i < xs.length → Off (xs.getD i cu0) V.ownBlock
 self : ∀ i, i < xs.length → ∀ g, (xs.getD i cu0).sold.ownBlock = some g → 0 < (xs.getD i cu0).dn → ∀ p, (xs.getD i cu0).dp = some p → p.block ≠ g
 apart : ∀ i j, i < xs.length → j < xs.length → i ≠ j → Apart (xs.getD i cu0) (xs.getD j cu0)
theorem Holds.zero (w : World) (base : Nat) : Holds w base (.slice none 0 0) [] [] := ⟨Lc.zero _ _, rfl, (fun i hi => by cases hi), (fun i hi => by cases hi), (fun i hi => by cases hi), (fun i j hi => by cases hi)⟩
theorem Holds.next {w w' : World} {base : Nat} {V : Value} {xs : List Cu} {bk : List Cm} (h : Holds w base V xs bk) (hb : Below w.heap.size w w') : Holds w' base V xs bk := ⟨h.row.next hb, h.len, fun i hi => (h.has i hi).next hb, h.off, h.self, h.apart⟩
theorem getD_snoc {α : Type} (l : List α) (x d : α) (i : Nat) (hi : i < l.length + 1) : (l ++ [x]).getD i d = if i < l.length then l.getD i d else x := by
 by_cases h : i < l.length
 ·rw [if_pos h]; simp [List.getD, List.getElem?_append_left h]
 ·have : i = l.length := by omega
  subst this
  rw [if_neg h]; simp [List.getD]
theorem Holds.snoc {w w' : World} {base : Nat} {V V' : Value} {xs : List Cu} {bk : List Cm} {x : Cu} {c : Cm} (h : Holds w base V xs bk) (hx : Has w base x c) (hxs : x.sold.ownBlock = none) (hxd : x.dn = 0)
  (hr : Lc w' base V' (xs ++ [x])) (hg : w.grownBy w' V.ownBlock) (ho : V'.ownBlock = V.ownBlock ∨ V'.ownBlock = some w.heap.size) : Holds w' base V' (xs ++ [x]) (bk ++ [c]) := by
 have hnew : ∀ y : Cu, Off y V.ownBlock → (∀ g, y.sold.ownBlock = some g → g < w.heap.size) → (0 < y.dn → ∀ p, y.dp = some p → p.block < w.heap.size) → Off y V'.ownBlock := fun y h1 h2 h3 => by
  rcases ho with e | e
  ·rw [e]; exact h1
  ·rw [e]
   exact ⟨fun g hg' q => (by have := h2 g hg'; have := Option.some.inj q; omega), fun hn p hp q => (by have := h3 hn p hp; have := Option.some.inj q; omega)⟩
 have lt1 : ∀ i, i < xs.length → ∀ g, (xs.getD i cu0).sold.ownBlock = some g → g < w.heap.size := fun i hi g hgg => (World.ownsRow.lt (h.has i hi).so g hgg).2
 have lt2 : ∀ i, i < xs.length → 0 < (xs.getD i cu0).dn → ∀ p, (xs.getD i cu0).dp = some p → p.block < w.heap.size := fun i hi hn p hp => by
  obtain ⟨b, off, e, lb, _⟩ := (h.has i hi).ds.came.row.at hn
  rw [hp] at e
  rw [Option.some.inj e]; exact lb
 have offx : Off x V.ownBlock := ⟨fun g hgg => (by rw [hxs] at hgg; cases hgg), fun hn => by omega⟩
 have apx : ∀ y : Cu, Apart y x := fun y => ⟨fun g h1 h2 => (by rw [hxs] at h2; cases h2), fun g h1 hn => (by omega), fun g h1 => (by rw [hxs] at h1; cases h1)⟩
 have offx' : Off x V'.ownBlock := ⟨fun g hgg => (by rw [hxs] at hgg; cases hgg), fun hn => by omega⟩
 refine ⟨hr, by rw [List.length_append, List.length_append, h.len]; rfl, fun i hi => ?_, fun i hi => ?_, fun i hi => ?_, fun i j hi hj hij => ?_⟩
 all_goals simp only [List.length_append, List.length_cons, List.length_nil] at hi
 ·rw [getD_snoc xs x cu0 i hi, getD_snoc bk c cm0 i (by rw [← h.len]; exact hi)]
  by_cases q : i < xs.length
  ·rw [if_pos q, if_pos (by rw [← h.len]; exact q)]; exact (h.has i q).kept hg (h.off i q)
  ·rw [if_neg q, if_neg (by rw [← h.len]; exact q)]; exact hx.kept hg offx
 ·rw [getD_snoc xs x cu0 i hi]
  by_cases q : i < xs.length
  ·rw [if_pos q]; exact hnew _ (h.off i q) (lt1 i q) (lt2 i q)
  ·rw [if_neg q]; exact offx'
 ·rw [getD_snoc xs x cu0 i hi]
  by_cases q : i < xs.length
  ·rw [if_pos q]; exact h.self i q
  ·rw [if_neg q]; intro g hgg; rw [hxs] at hgg; cases hgg
 ·simp only [List.length_append, List.length_cons, List.length_nil] at hj
  rw [getD_snoc xs x cu0 i hi, getD_snoc xs x cu0 j hj]
  by_cases q : i < xs.length <;> by_cases q' : j < xs.length
  ·rw [if_pos q, if_pos q']; exact h.apart i j q q' hij
  ·rw [if_pos q, if_neg q']; exact apx _
  ·rw [if_neg q, if_pos q']; exact (apx _).symm
  ·omega
theorem getD_put {α : Type} (l : List α) (x d : α) (k i : Nat) (hk : k < l.length) : (l.set k x).getD i d = if i = k then x else l.getD i d := by
 by_cases h : i = k
 ·subst h; rw [if_pos rfl]; simp [List.getD, hk]
 ·rw [if_neg h]; simp [List.getD, List.getElem?_set_ne (Ne.symm h)]
structure Turned (w w' : World) (base : Nat) (x x' : Cu) (c' : Cm) : Prop where
 grown : w.grownBy w' x.sold.ownBlock
 has : Has w' base x' c'
 own : ∀ g, x'.sold.ownBlock = some g → x.sold.ownBlock = some g ∨ w.heap.size ≤ g
 new : 0 < x'.dn → ∀ p, x'.dp = some p → w.heap.size ≤ p.block
 self : ∀ g, x'.sold.ownBlock = some g → 0 < x'.dn → ∀ p, x'.dp = some p → p.block ≠ g
theorem Holds.put {w w' w4 : World} {base : Nat} {V : Value} {xs : List Cu} {bk : List Cm} {k : Nat} {x' : Cu} {c' : Cm} (h : Holds w base V xs bk) (hk : k < xs.length) (ht : Turned w w' base (xs.getD k cu0) x' c')
  (hr : Lc w4 base V (xs.set k x')) (hg : w'.grownBy w4 V.ownBlock) : Holds w4 base V (xs.set k x') (bk.set k c') := by
 have hkb : k < bk.length := by rw [← h.len]; exact hk
 have lt1 : ∀ i, i < xs.length → ∀ g, (xs.getD i cu0).sold.ownBlock = some g → g < w.heap.size := fun i hi g hgg => (World.ownsRow.lt (h.has i hi).so g hgg).2
 have lt2 : ∀ i, i < xs.length → 0 < (xs.getD i cu0).dn → ∀ p, (xs.getD i cu0).dp = some p → p.block < w.heap.size := fun i hi hn p hp => by
  obtain ⟨b, off, e, lb, _⟩ := (h.has i hi).ds.came.row.at hn
  rw [hp] at e
  rw [Option.some.inj e]; exact lb
 have ltV : ∀ g, V.ownBlock = some g → g < w.heap.size := fun g hgg => (World.ownsRow.lt h.row g hgg).2
 have offx : Off x' V.ownBlock := ⟨fun g hgg q => by
  rcases ht.own g hgg with e | e
  ·exact (h.off k hk).1 g e q
  ·have := ltV g q; omega, fun hn p hp q => by
  have h1 := ht.new hn p hp
  have h2 := ltV p.block q.symm
  omega⟩
 have apx : ∀ i, i < xs.length → i ≠ k → Apart (xs.getD i cu0) x' := fun i hi hik => by
  refine ⟨fun g h1 h2 => ?_, fun g h1 hn p hp q => ?_, fun g h1 hn p hp q => ?_⟩
  ·rcases ht.own g h2 with e | e
   ·exact (h.apart i k hi hk hik).1 g h1 e
   ·have := lt1 i hi g h1; omega
  ·have h3 := ht.new hn p hp
   have h4 := lt1 i hi g h1
   omega
  ·rcases ht.own g h1 with e | e
   ·exact (h.apart i k hi hk hik).2.2 g e hn p hp q
   ·have := lt2 i hi hn p hp; omega
 refine ⟨hr, by rw [List.length_set, List.length_set, h.len], fun i hi => ?_, fun i hi => ?_, fun i hi => ?_, fun i j hi hj hij => ?_⟩
 all_goals rw [List.length_set] at hi
 ·rw [getD_put xs x' cu0 k i hk, getD_put bk c' cm0 k i hkb]
  by_cases q : i = k
  ·rw [if_pos q, if_pos q]; exact ht.has.kept hg offx
  ·rw [if_neg q, if_neg q]
   have ap := h.apart i k hi hk q
   have off1 : Off (xs.getD i cu0) (xs.getD k cu0).sold.ownBlock := ⟨fun g h1 h2 => ap.1 g h1 h2, fun hn p hp e => by
    exact ap.2.2 p.block e.symm hn p hp rfl⟩
   exact ((h.has i hi).kept ht.grown off1).kept hg (h.off i hi)
 ·rw [getD_put xs x' cu0 k i hk]
  by_cases q : i = k
  ·rw [if_pos q]; exact offx
  ·rw [if_neg q]; exact h.off i hi
 ·rw [getD_put xs x' cu0 k i hk]
  by_cases q : i = k
  ·rw [if_pos q]; exact ht.self
  ·rw [if_neg q]; exact h.self i hi
 ·rw [List.length_set] at hj
  rw [getD_put xs x' cu0 k i hk, getD_put xs x' cu0 k j hk]
  by_cases q : i = k <;> by_cases q' : j = k
  ·omega
  ·rw [if_pos q, if_neg q']; exact (apx j hj q').symm
  ·rw [if_neg q, if_pos q']; exact apx i hi q
  ·rw [if_neg q, if_neg q']; exact h.apart i j hi hj hij
structure Sees (w : World) (p : Option Addr) (n : Nat) (xs : List Cu) (bk : List Cm) : Prop where
 row : RowC w p n xs
 len : xs.length = bk.length
 num : ∀ i, i < xs.length → Nums (xs.getD i cu0) (bk.getD i cm0).a
 ds : ∀ i, i < xs.length → tar.Came w (xs.getD i cu0).dp (xs.getD i cu0).dn (xs.getD i cu0).dc (bk.getD i cm0).a.ds
 so : ∀ i, i < xs.length → RowS w (xs.getD i cu0).sp (xs.getD i cu0).sn (bk.getD i cm0).so
theorem Sees.below {w w' : World} {p : Option Addr} {n : Nat} {xs : List Cu} {bk : List Cm} (h : Sees w p n xs bk) (hb : Below w.heap.size w w') : Sees w' p n xs bk := ⟨h.row.below hb, h.len, h.num, fun i hi => (h.ds i hi).below hb, fun i hi => (h.so i hi).below hb⟩
theorem Holds.sees {w : World} {base : Nat} {V : Value} {xs : List Cu} {bk : List Cm} (h : Holds w base V xs bk) : ∃ p cap, V = .slice p xs.length cap ∧ Sees w p xs.length xs bk := by
 obtain ⟨p, cap, hv, hr, _, _⟩ := h.row.row
 refine ⟨p, cap, hv, hr, h.len, fun i hi => (h.has i hi).num, fun i hi => (h.has i hi).ds.came, fun i hi => ?_⟩
 obtain ⟨a, c, e, r, _⟩ := (h.has i hi).so.row
 unfold Cu.sold at e
 injection e with e1 e2 _
 rw [e1, e2]; exact r
end book
namespace vnd
open book (Ev ev0 Cm cm0 So so0 Sees)
open acc (Ac Tm Bi)
open cell (Wr RowU)
open Go.RowKit
set_option maxRecDepth 100000
def LoadPost (w : World) (t : Tm) (c : List Int) (e : Ending) (w' : World) : Prop := ∃ p m cap xs bk f, e = .returned (.tuple #[.agg #[.slice p m cap], .int .i64 f]) ∧ LoadIs t c bk f ∧ Sees w' p m xs bk ∧ m ≤ 120 ∧ Below w.heap.size w w'
structure Dk (w : World) (a : Option Addr) (n cap : Nat) (c : List Int) : Prop where
 row : RowU w a n c
 nil : a = none → cap = 0
 room : n ≤ cap
 bytes : n * 4 ≤ 140737488351232
 wd : ∀ x ∈ c, 0 ≤ x ∧ x < 4294967296
theorem Dk.below {w w' : World} {a : Option Addr} {n cap : Nat} {c : List Int} (h : Dk w a n cap c) (hb : Below w.heap.size w w') : Dk w' a n cap c := ⟨h.row.below hb, h.nil, h.room, h.bytes, h.wd⟩
end vnd
namespace cell
open Go.RowKit
set_option maxRecDepth 100000
def RowW (w : World) (a : Option Addr) (len : Nat) (ls : List Wr) : Prop :=
 ls.length = len ∧ (len = 0 ∨ ∃ b off, a = some ⟨b, off, none⟩ ∧ ∀ i, i < len → w.cell? ⟨b, off + i * 2, none⟩ = some (.int .i64 (ls.getD i wr0).p) ∧ w.cell? ⟨b, off + i * 2 + 1, none⟩ = some (.int .u32 (ls.getD i wr0).d))
theorem RowW.below {w w' : World} {a : Option Addr} {n : Nat} {zs : List Wr} (h : RowW w a n zs) (hb : Below w.heap.size w w') : RowW w' a n zs := by
 refine ⟨h.1, ?_⟩
 rcases h.2 with h0 | ⟨b, off, rfl, hc⟩
 ·exact .inl h0
 ·refine .inr ⟨b, off, rfl, fun i hi => ?_⟩
  have h1 := hc i hi
  rw [hb.cell (p := ⟨b, off + i * 2, none⟩) (World.block_lt_of_cell? w _ h1.1), hb.cell (p := ⟨b, off + i * 2 + 1, none⟩) (World.block_lt_of_cell? w _ h1.2)]
  exact h1
theorem RowW.nil (w : World) (a : Option Addr) : RowW w a 0 [] := ⟨rfl, .inl rfl⟩
theorem RowW.at {w : World} {a : Option Addr} {n : Nat} {zs : List Wr} (h : RowW w a n zs) (h0 : 0 < n) : ∃ b off, a = some ⟨b, off, none⟩ ∧ b < w.heap.size ∧ ∀ i, i < n → w.cell? ⟨b, off + i * 2, none⟩ = some (.int .i64 (zs.getD i wr0).p) ∧ w.cell? ⟨b, off + i * 2 + 1, none⟩ = some (.int .u32 (zs.getD i wr0).d) := by
 rcases h.2 with h1 | ⟨b, off, rfl, hc⟩
 ·omega
 ·exact ⟨b, off, rfl, World.block_lt_of_cell? w _ (hc 0 h0).1, hc⟩
def cellsW : List Wr → List Value
 | [] => []
 | e :: l => .int .i64 e.p :: .int .u32 e.d :: cellsW l
theorem cellsW_app (l m : List Wr) : cellsW (l ++ m) = cellsW l ++ cellsW m := by
 induction l with
 | nil => rfl
 | cons e l ih => simp [cellsW, ih]
theorem oneW (l : List Wr) : ∀ u ∈ cellsW l, u.oneCell' = true := by
 induction l with
 | nil => intro u hu; cases hu
 | cons e l ih =>
  intro u hu
  simp only [cellsW, List.mem_cons] at hu
  rcases hu with rfl | rfl | hu
  ·rfl
  ·rfl
  ·exact ih u hu
theorem cellsW_at (l : List Wr) (k : Nat) (hk : k < l.length) : (cellsW l)[k * 2]? = some (.int .i64 (l.getD k wr0).p) ∧ (cellsW l)[k * 2 + 1]? = some (.int .u32 (l.getD k wr0).d) := by
 induction l generalizing k with
 | nil => simp at hk
 | cons x l ih =>
  cases k with
  | zero => exact ⟨rfl, rfl⟩
  | succ k =>
   rw [show (k + 1) * 2 = k * 2 + 1 + 1 by omega]
   have := ih k (by simpa using hk)
   simpa [cellsW] using this
def Lw (w : World) (base : Nat) (v : Value) (l : List Wr) : Prop := w.ownsRow base 76 2 v l.length (cellsW l)
theorem Lw.zero (w : World) (base : Nat) : Lw w base (.slice none 0 0) [] := World.ownsRow_nil _ _ _ _
theorem Lw.alloc {w : World} {base : Nat} {v : Value} {l : List Wr} (h : Lw w base v l) (o : Obj) : Lw (w.alloc o) base v l := World.ownsRow.alloc h o
theorem Lw.row {w : World} {base : Nat} {v : Value} {l : List Wr} (h : Lw w base v l) : ∃ a cap, v = .slice a l.length cap ∧ RowW w a l.length l ∧ (a = none → cap = 0) ∧ l.length ≤ cap ∧ (∀ x, a = some x → x.off = 0 ∧ x.spot = none) := by
 rcases h.2 with ⟨hv, hn⟩ | ⟨g, cap, cur, hv, _, _, h1, _⟩
 ·exact ⟨none, 0, by rw [hn]; exact hv, ⟨rfl, .inl hn⟩, fun _ => rfl, by omega, fun x h => by cases h⟩
 ·subst hv
  refine ⟨_, cap, rfl, ⟨rfl, .inr ⟨g, 0, rfl, fun i hi => ?_⟩⟩, (fun h => by cases h), h1, fun x h => by cases h; exact ⟨rfl, rfl⟩⟩
  have e1 := World.ownsRow.cellAt h (i * 2) (by omega)
  have e2 := World.ownsRow.cellAt h (i * 2 + 1) (by omega)
  rw [Nat.zero_add, e1, e2]
  exact cellsW_at l i hi
theorem info_wr : (Tryz.prog.info? 76).map (fun i => (i.zero, i.size, i.bytes)) = some (some (.agg #[.int .i64 0, .int .u32 0]), 2, 16) := by kernel_rfl
theorem wp_write {w : World} {ops : Array Oper} {rest : List Oper} {o : Oper} {a : Act} {Q : Exit → Act → World → Prop} (hgd : o.guard = none) (s x : Operand)
  (ho : o.op = .call { callee := .builtin .append, args := #[s, x], argTypes := #[37, 37] })
  (base G : Nat) (v : Value) (l : List Wr) (r : Wr) (hs : a.eval s = v) (hx : a.eval x = .slice (some ⟨G, 0, none⟩) 1 1) (hv : Lw w base v l) (hu : w.cell? ⟨G, 0, none⟩ = some (.int .i64 r.p) ∧ w.cell? ⟨G, 1, none⟩ = some (.int .u32 r.d)) (hn : l.length ≤ 1000000) (hbase : base ≤ w.heap.size)
  (h : ∀ v' w', Lw w' base v' (l ++ [r]) → w.grownBy w' v.ownBlock → wpList Tryz.prog ops Q rest (a.put o.dst v') w') : wpList Tryz.prog ops Q (o :: rest) a w := by
 obtain ⟨i0, hi, hz0, hz1, hz2⟩ := info_parts info_wr
 refine wpList_append_own w hgd s x 37 ho base 76 i0 (.agg #[.int .i64 0, .int .u32 0]) 2 16 Tryz.underlying37 hi hz0 hz1 hz2 rfl (by decide) v l.length (cellsW l) hs hv ⟨G, 0, none⟩ 1 1 (cellsW [r]) hx rfl ?_ (oneW [r]) (by unfold maxLen; omega) (by omega) hbase ?_
 ·intro j u hj
  match j, hj with
  | 0, hj => simp [cellsW] at hj; subst hj; simpa [Addr.add] using hu.1
  | 1, hj => simp [cellsW] at hj; subst hj; simpa [Addr.add] using hu.2
  | j + 2, hj => simp [cellsW] at hj
 intro v' w' h1 h2 _
 refine h v' w' ?_ h2
 unfold Lw
 rw [List.length_append, cellsW_app]
 exact h1
end cell
namespace vnd
open cell (Wr RowU RowW)
open Go.RowKit
set_option maxRecDepth 100000
def WrGot (w : World) (R : List Wr → Int → Prop) (e : Ending) (w' : World) : Prop := ∃ p m cp ls f, e = .returned (.tuple #[.slice p m cp, .int .i64 f]) ∧ R ls f ∧ RowW w' p m ls ∧ (∀ x, p = some x → w.heap.size ≤ x.block) ∧ m ≤ cp ∧ m ≤ 100000 ∧ Below w.heap.size w w'
open book (Ev ev0 Cm cm0 So so0 Sees)
open acc (Ac Tm Bi)
def KvReg : Prop := ∀ (W : World) (t : Tm) (pt : Option Addr) (lt ct : Nat) (a : Option Addr) (n cap : Nat) (c : List Int) (me : Int), acc.TCame W t pt lt ct → Dk W a n cap c → (Lit.int .i64 me).wf = true → Calls Tryz.prog 12 #[t.v pt lt ct, .slice a n cap, .int .i64 me] W fun e w' => WrGot W (RegIs t c me) e w'
end vnd
namespace disk
open cell
set_option maxRecDepth 100000
theorem it_short (c : List Int) (k : Nat) : ∀ z ∈ (itD c k).1, z.length ≤ 64 := by
 induction k with
 | zero => intro z hz; cases hz
 | succ k ih =>
  intro z hz
  by_cases h : 0 < lenAt c (itD c k).2
  ·rw [it_live h] at hz
   rcases List.mem_append.1 hz with hz | hz
   ·exact ih z hz
   ·obtain rfl := List.mem_singleton.1 hz
    obtain ⟨_, _, p1, _⟩ := len_pos h
    unfold recAt
    rw [List.length_take]
    omega
  ·rw [it_dead h 1] at hz
   exact ih z hz
theorem it_count (c : List Int) (k : Nat) : (itD c k).1.length ≤ (itD c k).2 := by
 induction k with
 | zero => exact Nat.le_refl _
 | succ k ih =>
  by_cases h : 0 < lenAt c (itD c k).2
  ·rw [it_live h]
   show ((itD c k).1 ++ [_]).length ≤ (itD c k).2 + _ + 1
   rw [List.length_append]
   simp only [List.length_cons, List.length_nil]
   omega
  ·rw [it_dead h 1]; exact ih
theorem rep_few {c : List Int} {o : List (List Int)} {x f : Int} (h : RepIs c o x f) : o.length ≤ 2048 ∧ ∀ z ∈ o, z.length ≤ 64 := by
 rcases h with ⟨_, rfl, _⟩ | ⟨_, _, rfl, _⟩ | ⟨hm, _, rfl, _⟩
 ·exact ⟨Nat.zero_le _, fun z hz => by cases hz⟩
 ·exact ⟨Nat.zero_le _, fun z hz => by cases hz⟩
 ·exact ⟨Nat.le_trans (it_count c _) (Nat.le_trans (it_bound c _).1 hm.2), it_short c _⟩
theorem app_few {c r : List Int} {l : List Wr} {f : Int} (h : AppIs c r l f) : l.length ≤ 66 := by
 rcases h with ⟨_, rfl, _⟩ | ⟨_, _, rfl, _⟩ | ⟨_, _, _, rfl, _⟩ | ⟨_, _, _, _, rfl, _⟩ | ⟨hr, _, _, _, rfl, _⟩
 ·exact Nat.zero_le _
 ·exact Nat.zero_le _
 ·exact Nat.zero_le _
 ·exact Nat.zero_le _
 ·rw [app_len]; have := hr.2; split <;> omega
end disk
end Go.Proofs.YtomibnggmhjdfaaGreat
