import Derived.Test.YtomibnggmhjdfaaGreatVVCes7
set_option linter.unusedVariables false
set_option linter.unusedSimpArgs false
namespace Go.Proofs.YtomibnggmhjdfaaGreat
namespace book
open Go.RowKit
set_option maxRecDepth 100000
def So.cs (x : So) : List Value := [.int .i64 x.id, .int .i64 x.cl, .int .i64 x.am, .int .i64 x.tg, .int .i64 x.rv]
def So.v (x : So) : Value := .agg #[.int .i64 x.id, .int .i64 x.cl, .int .i64 x.am, .int .i64 x.tg, .int .i64 x.rv]
def cellsS : List So → List Value
 | [] => []
 | x :: l => x.cs ++ cellsS l
theorem cellsS_len (l : List So) : (cellsS l).length = l.length * 5 := by
 induction l with
 | nil => rfl
 | cons e l ih => rw [cellsS, List.length_append, ih, List.length_cons]; show 5 + _ = _; omega
theorem cellsS_app (l m : List So) : cellsS (l ++ m) = cellsS l ++ cellsS m := by
 induction l with
 | nil => rfl
 | cons e l ih => rw [List.cons_append, cellsS, cellsS, ih, List.append_assoc]
theorem oneS (l : List So) : ∀ u ∈ cellsS l, u.oneCell' = true := by
 induction l with
 | nil => intro u hu; cases hu
 | cons e l ih =>
  intro u hu
  rw [cellsS] at hu
  rcases List.mem_append.1 hu with hu | hu
  ·simp only [So.cs, List.mem_cons, List.not_mem_nil, or_false] at hu
   rcases hu with rfl | rfl | rfl | rfl | rfl <;> rfl
  ·exact ih u hu
theorem cellsS_at (l : List So) (k j : Nat) (hk : k < l.length) (hj : j < 5) : (cellsS l)[k * 5 + j]? = (l.getD k so0).cs[j]? := by
 induction l generalizing k with
 | nil => simp at hk
 | cons x l ih =>
  have h8 : x.cs.length = 5 := rfl
  cases k with
  | zero => rw [Nat.zero_mul, Nat.zero_add, cellsS, List.getElem?_append_left (by omega)]; rfl
  | succ k =>
   rw [show (k + 1) * 5 + j = x.cs.length + (k * 5 + j) by omega, cellsS, List.getElem?_append_right (by omega), Nat.add_sub_cancel_left]
   exact ih k (by simpa using hk)
def RowS (w : World) (a : Option Addr) (n : Nat) (l : List So) : Prop := l.length = n ∧ (n = 0 ∨ ∃ b off, a = some ⟨b, off, none⟩ ∧ b < w.heap.size ∧ ∀ i j, i < n → j < 5 → w.cell? ⟨b, off + i * 5 + j, none⟩ = (l.getD i so0).cs[j]?)
theorem RowS.below {w w' : World} {a : Option Addr} {n : Nat} {l : List So} (h : RowS w a n l) (hb : Below w.heap.size w w') : RowS w' a n l := by
 refine ⟨h.1, ?_⟩
 rcases h.2 with h0 | ⟨b, off, rfl, lb, hc⟩
 ·exact .inl h0
 ·exact .inr ⟨b, off, rfl, Nat.lt_of_lt_of_le lb hb.size, fun i j hi hj => (hb.cell (p := ⟨b, off + i * 5 + j, none⟩) lb).trans (hc i j hi hj)⟩
def Lo (w : World) (base : Nat) (v : Value) (l : List So) : Prop := w.ownsRow base 90 5 v l.length (cellsS l)
theorem Lo.zero (w : World) (base : Nat) : Lo w base (.slice none 0 0) [] := World.ownsRow_nil _ _ _ _
theorem Lo.alloc {w : World} {base : Nat} {v : Value} {l : List So} (h : Lo w base v l) (o : Obj) : Lo (w.alloc o) base v l := World.ownsRow.alloc h o
theorem Lo.next {w w' : World} {base : Nat} {v : Value} {l : List So} (h : Lo w base v l) (hb : Below w.heap.size w w') : Lo w' base v l := by
 refine ⟨h.1, ?_⟩
 rcases h.2 with hn | ⟨g, cap, cur, hv, hg, hc, rest⟩
 ·exact .inl hn
 ·exact .inr ⟨g, cap, cur, hv, hg, Blk.next hc hb, rest⟩
theorem Lo.kept {w w' : World} {base : Nat} {own : Option Nat} {v : Value} {l : List So} (h : Lo w base v l) (hg : w.grownBy w' own) (hne : ∀ g, v.ownBlock = some g → own ≠ some g) : Lo w' base v l := by
 refine World.ownsRow.kept h hg ?_
 cases e : v.ownBlock with
 | none => exact .inl rfl
 | some g => exact .inr (fun q => hne g e q.symm)
theorem Lo.row {w : World} {base : Nat} {v : Value} {l : List So} (h : Lo w base v l) : ∃ a cap, v = .slice a l.length cap ∧ RowS w a l.length l ∧ (a = none → cap = 0) ∧ l.length ≤ cap := by
 rcases h.2 with ⟨hv, hn⟩ | ⟨g, cap, cur, hv, _, hc, h1, _⟩
 ·exact ⟨none, 0, by rw [hn]; exact hv, ⟨rfl, .inl hn⟩, fun _ => rfl, by omega⟩
 ·subst hv
  refine ⟨_, cap, rfl, ⟨rfl, .inr ⟨g, 0, rfl, Blk.lt hc, fun i j hi hj => ?_⟩⟩, (fun h => by cases h), h1⟩
  have e1 := World.ownsRow.cellAt h (i * 5 + j) (by omega)
  rw [Nat.zero_add, e1]
  exact cellsS_at l i j hi hj
theorem soldI : (Tryz.prog.info? 90).map (fun i => (i.zero, i.size, i.bytes)) = some (some (.agg so0.cs.toArray), 5, 40) := by kernel_rfl
theorem step_sold {w : World} {o : Oper} {a : Act} {K : Act → World → Prop} {Q : Exit → Act → World → Prop} (d : Nat) (hd : o.dst = some d) (s x : Operand)
  (ho : o.op = .call { callee := .builtin .append, args := #[s, x], argTypes := #[60, 60] })
  (base G : Nat) (v : Value) (l : List So) (r : So) (hs : a.eval s = v) (hx : a.eval x = .slice (some ⟨G, 0, none⟩) 1 1) (hv : Lo w base v l) (hu : Blk w G r.cs.toArray 90) (hn : l.length ≤ 2000000) (hbase : base ≤ w.heap.size)
  (h : ∀ v' w', Lo w' base v' (l ++ [r]) → w.grownBy w' v.ownBlock → (v'.ownBlock = v.ownBlock ∨ v'.ownBlock = some w.heap.size) → K (a.put (some d) v') w') : Oper.wp Tryz.prog o a w K Q := by
 rw [← hd] at h
 obtain ⟨i0, hi, hz0, hz1, hz2⟩ := info_parts soldI
 obtain ⟨v', w', hr, h2, h3, _, h5⟩ := run_append_own_at (P := Tryz.prog) w base 60 o.type 90 i0 (.agg so0.cs.toArray) 5 40 Tryz.underlying60 hi hz0 hz1 hz2 rfl (by decide) v l.length (cellsS l) hv ⟨G, 0, none⟩ 1 1 (cellsS [r]) (by rw [cellsS_len]; rfl) (by
  intro j u hj
  rw [Addr.add_lit, Nat.zero_add, hu.cell j]
  rw [cellsS, cellsS, List.append_nil] at hj
  simpa using hj) (oneS [r]) (by unfold maxLen; omega) (by omega) hbase
 unfold Oper.wp execOp
 simp only [ho, resolve, invoke, builtin, Sem.run_bind, Sem.run_pure, Result.andThen_ok, List.map_toArray, List.map_cons, List.map_nil, hs, hx, hr]
 refine h v' w' ?_ h3 h5
 unfold Lo
 rw [List.length_append, cellsS_app]
 exact h2
theorem rowD_grown {w w' : World} {own : Option Nat} {a : Option Addr} {n : Nat} {zs : List tar.Du} (h : tar.RowD w a n zs) (hg : w.grownBy w' own) (hne : 0 < n → ∀ x, a = some x → some x.block ≠ own) : tar.RowD w' a n zs := by
 refine ⟨h.1, ?_⟩
 rcases h.2 with h0 | ⟨b, off, rfl, hc⟩
 ·exact .inl h0
 ·refine .inr ⟨b, off, rfl, fun i hi => ?_⟩
  have h1 := hc i hi
  have hb := hg.block b (World.block_lt_of_cell? w ⟨b, off + i * 2, none⟩ h1.1) (hne (by omega) _ rfl)
  have e : ∀ o, w'.cell? ⟨b, o, none⟩ = w.cell? ⟨b, o, none⟩ := fun o => by simp [World.cell?, hb]
  rw [e, e]; exact h1
theorem came_grown {w w' : World} {own : Option Nat} {a : Option Addr} {n cap : Nat} {zs : List tar.Du} (h : tar.Came w a n cap zs) (hg : w.grownBy w' own) (hne : 0 < n → ∀ x, a = some x → some x.block ≠ own) : tar.Came w' a n cap zs := ⟨rowD_grown h.row hg hne, h.nil, h.room, h.bytes, h.wf⟩
def Cu.sold (x : Cu) : Value := .slice x.sp x.sn x.sc
def Cu.v (x : Cu) : Value := .agg x.cs.toArray
def Nums (x : Cu) (a : acc.Ac) : Prop := x.me = a.me ∧ x.rv = a.rv ∧ x.nx = a.nx ∧ x.mo = a.mo ∧ x.bo = a.bo ∧ x.fr = a.fr
structure Has (w : World) (base : Nat) (x : Cu) (c : Cm) : Prop where
 num : Nums x c.a
 ds : deb.Fresh w base x.dp x.dn x.dc c.a.ds
 so : Lo w base x.sold c.so
def Apart (x y : Cu) : Prop := (∀ g, x.sold.ownBlock = some g → y.sold.ownBlock ≠ some g) ∧ (∀ g, x.sold.ownBlock = some g → 0 < y.dn → ∀ p, y.dp = some p → p.block ≠ g) ∧ (∀ g, y.sold.ownBlock = some g → 0 < x.dn → ∀ p, x.dp = some p → p.block ≠ g)
theorem Apart.symm {x y : Cu} (h : Apart x y) : Apart y x := ⟨fun g h1 h2 => h.1 g h2 h1, h.2.2, h.2.1⟩
def Off (x : Cu) (own : Option Nat) : Prop := (∀ g, x.sold.ownBlock = some g → own ≠ some g) ∧ (0 < x.dn → ∀ p, x.dp = some p → some p.block ≠ own)
theorem Has.next {w w' : World} {base : Nat} {x : Cu} {c : Cm} (h : Has w base x c) (hb : Below w.heap.size w w') : Has w' base x c := ⟨h.num, h.ds.below hb, h.so.next hb⟩
theorem Has.kept {w w' : World} {base : Nat} {own : Option Nat} {x : Cu} {c : Cm} (h : Has w base x c) (hg : w.grownBy w' own) (ho : Off x own) : Has w' base x c := ⟨h.num, ⟨came_grown h.ds.came hg ho.2, h.ds.new⟩, h.so.kept hg ho.1⟩
structure Holds (w : World) (base : Nat) (V : Value) (xs : List Cu) (bk : List Cm) : Prop where
 row : Lc w base V xs
 len : xs.length = bk.length
 has : ∀ i, i < xs.length → Has w base (xs.getD i cu0) (bk.getD i cm0)
 off : ∀ i, i < xs.length → Off (xs.getD i cu0) V.ownBlock
 self : ∀ i, i < xs.length → ∀ g, (xs.getD i cu0).sold.ownBlock = some g → 0 < (xs.getD i cu0).dn → ∀ p, (xs.getD i cu0).dp = some p → p.block ≠ g
 apart : ∀ i j, i < xs.length → j < xs.length → i ≠ j → Apart (xs.getD i cu0) (xs.getD j cu0)
theorem Holds.zero (w : World) (base : Nat) : Holds w base (.slice none 0 0) [] [] := ⟨Lc.zero _ _, rfl, (fun i hi => by cases hi), (fun i hi => by cases hi), (fun i hi => by cases hi), (fun i j hi => by cases hi)⟩
theorem Holds.next {w w' : World} {base : Nat} {V : Value} {xs : List Cu} {bk : List Cm} (h : Holds w base V xs bk) (hb : Below w.heap.size w w') : Holds w' base V xs bk := ⟨h.row.next hb, h.len, fun i hi => (h.has i hi).next hb, h.off, h.self, h.apart⟩
theorem getD_snoc {α : Type} (l : List α) (x d : α) (i : Nat) (hi : i < l.length + 1) : (l ++ [x]).getD i d = if i < l.length then l.getD i d else x := by
 by_cases h : i < l.length
 ·rw [if_pos h]; simp [List.getD, List.getElem?_append_left h]
 ·have : i = l.length := by omega
  subst this
  rw [if_neg h]; simp [List.getD]
theorem Holds.snoc {w w' : World} {base : Nat} {V V' : Value} {xs : List Cu} {bk : List Cm} {x : Cu} {c : Cm} (h : Holds w base V xs bk) (hx : Has w base x c) (hxs : x.sold.ownBlock = none) (hxd : x.dn = 0)
  (hr : Lc w' base V' (xs ++ [x])) (hg : w.grownBy w' V.ownBlock) (ho : V'.ownBlock = V.ownBlock ∨ V'.ownBlock = some w.heap.size) : Holds w' base V' (xs ++ [x]) (bk ++ [c]) := by
 have hnew : ∀ y : Cu, Off y V.ownBlock → (∀ g, y.sold.ownBlock = some g → g < w.heap.size) → (0 < y.dn → ∀ p, y.dp = some p → p.block < w.heap.size) → Off y V'.ownBlock := fun y h1 h2 h3 => by
  rcases ho with e | e
  ·rw [e]; exact h1
  ·rw [e]
   exact ⟨fun g hg' q => (by have := h2 g hg'; have := Option.some.inj q; omega), fun hn p hp q => (by have := h3 hn p hp; have := Option.some.inj q; omega)⟩
 have lt1 : ∀ i, i < xs.length → ∀ g, (xs.getD i cu0).sold.ownBlock = some g → g < w.heap.size := fun i hi g hgg => (World.ownsRow.lt (h.has i hi).so g hgg).2
 have lt2 : ∀ i, i < xs.length → 0 < (xs.getD i cu0).dn → ∀ p, (xs.getD i cu0).dp = some p → p.block < w.heap.size := fun i hi hn p hp => by
  obtain ⟨b, off, e, lb, _⟩ := (h.has i hi).ds.came.row.at hn
  rw [hp] at e
  rw [Option.some.inj e]; exact lb
 have offx : Off x V.ownBlock := ⟨fun g hgg => (by rw [hxs] at hgg; cases hgg), fun hn => by omega⟩
 have apx : ∀ y : Cu, Apart y x := fun y => ⟨fun g h1 h2 => (by rw [hxs] at h2; cases h2), fun g h1 hn => (by omega), fun g h1 => (by rw [hxs] at h1; cases h1)⟩
 have offx' : Off x V'.ownBlock := ⟨fun g hgg => (by rw [hxs] at hgg; cases hgg), fun hn => by omega⟩
 refine ⟨hr, by rw [List.length_append, List.length_append, h.len]; rfl, fun i hi => ?_, fun i hi => ?_, fun i hi => ?_, fun i j hi hj hij => ?_⟩
 all_goals simp only [List.length_append, List.length_cons, List.length_nil] at hi
 ·rw [getD_snoc xs x cu0 i hi, getD_snoc bk c cm0 i (by rw [← h.len]; exact hi)]
  by_cases q : i < xs.length
  ·rw [if_pos q, if_pos (by rw [← h.len]; exact q)]; exact (h.has i q).kept hg (h.off i q)
  ·rw [if_neg q, if_neg (by rw [← h.len]; exact q)]; exact hx.kept hg offx
 ·rw [getD_snoc xs x cu0 i hi]
  by_cases q : i < xs.length
  ·rw [if_pos q]; exact hnew _ (h.off i q) (lt1 i q) (lt2 i q)
  ·rw [if_neg q]; exact offx'
 ·rw [getD_snoc xs x cu0 i hi]
  by_cases q : i < xs.length
  ·rw [if_pos q]; exact h.self i q
  ·rw [if_neg q]; intro g hgg; rw [hxs] at hgg; cases hgg
 ·simp only [List.length_append, List.length_cons, List.length_nil] at hj
  rw [getD_snoc xs x cu0 i hi, getD_snoc xs x cu0 j hj]
  by_cases q : i < xs.length <;> by_cases q' : j < xs.length
  ·rw [if_pos q, if_pos q']; exact h.apart i j q q' hij
  ·rw [if_pos q, if_neg q']; exact apx _
  ·rw [if_neg q, if_pos q']; exact (apx _).symm
  ·omega
theorem getD_put {α : Type} (l : List α) (x d : α) (k i : Nat) (hk : k < l.length) : (l.set k x).getD i d = if i = k then x else l.getD i d := by
 by_cases h : i = k
 ·subst h; rw [if_pos rfl]; simp [List.getD, hk]
 ·rw [if_neg h]; simp [List.getD, List.getElem?_set_ne (Ne.symm h)]
structure Turned (w w' : World) (base : Nat) (x x' : Cu) (c' : Cm) : Prop where
 grown : w.grownBy w' x.sold.ownBlock
 has : Has w' base x' c'
 own : ∀ g, x'.sold.ownBlock = some g → x.sold.ownBlock = some g ∨ w.heap.size ≤ g
 new : 0 < x'.dn → ∀ p, x'.dp = some p → w.heap.size ≤ p.block
 self : ∀ g, x'.sold.ownBlock = some g → 0 < x'.dn → ∀ p, x'.dp = some p → p.block ≠ g
theorem Holds.put {w w' w4 : World} {base : Nat} {V : Value} {xs : List Cu} {bk : List Cm} {k : Nat} {x' : Cu} {c' : Cm} (h : Holds w base V xs bk) (hk : k < xs.length) (ht : Turned w w' base (xs.getD k cu0) x' c')
  (hr : Lc w4 base V (xs.set k x')) (hg : w'.grownBy w4 V.ownBlock) : Holds w4 base V (xs.set k x') (bk.set k c') := by
 have hkb : k < bk.length := by rw [← h.len]; exact hk
 have lt1 : ∀ i, i < xs.length → ∀ g, (xs.getD i cu0).sold.ownBlock = some g → g < w.heap.size := fun i hi g hgg => (World.ownsRow.lt (h.has i hi).so g hgg).2
 have lt2 : ∀ i, i < xs.length → 0 < (xs.getD i cu0).dn → ∀ p, (xs.getD i cu0).dp = some p → p.block < w.heap.size := fun i hi hn p hp => by
  obtain ⟨b, off, e, lb, _⟩ := (h.has i hi).ds.came.row.at hn
  rw [hp] at e
  rw [Option.some.inj e]; exact lb
 have ltV : ∀ g, V.ownBlock = some g → g < w.heap.size := fun g hgg => (World.ownsRow.lt h.row g hgg).2
 have offx : Off x' V.ownBlock := ⟨fun g hgg q => by
  rcases ht.own g hgg with e | e
  ·exact (h.off k hk).1 g e q
  ·have := ltV g q; omega, fun hn p hp q => by
  have h1 := ht.new hn p hp
  have h2 := ltV p.block q.symm
  omega⟩
 have apx : ∀ i, i < xs.length → i ≠ k → Apart (xs.getD i cu0) x' := fun i hi hik => by
  refine ⟨fun g h1 h2 => ?_, fun g h1 hn p hp q => ?_, fun g h1 hn p hp q => ?_⟩
  ·rcases ht.own g h2 with e | e
   ·exact (h.apart i k hi hk hik).1 g h1 e
   ·have := lt1 i hi g h1; omega
  ·have h3 := ht.new hn p hp
   have h4 := lt1 i hi g h1
   omega
  ·rcases ht.own g h1 with e | e
   ·exact (h.apart i k hi hk hik).2.2 g e hn p hp q
   ·have := lt2 i hi hn p hp; omega
 refine ⟨hr, by rw [List.length_set, List.length_set, h.len], fun i hi => ?_, fun i hi => ?_, fun i hi => ?_, fun i j hi hj hij => ?_⟩
 all_goals rw [List.length_set] at hi
 ·rw [getD_put xs x' cu0 k i hk, getD_put bk c' cm0 k i hkb]
  by_cases q : i = k
  ·rw [if_pos q, if_pos q]; exact ht.has.kept hg offx
  ·rw [if_neg q, if_neg q]
   have ap := h.apart i k hi hk q
   have off1 : Off (xs.getD i cu0) (xs.getD k cu0).sold.ownBlock := ⟨fun g h1 h2 => ap.1 g h1 h2, fun hn p hp e => by
    exact ap.2.2 p.block e.symm hn p hp rfl⟩
   exact ((h.has i hi).kept ht.grown off1).kept hg (h.off i hi)
 ·rw [getD_put xs x' cu0 k i hk]
  by_cases q : i = k
  ·rw [if_pos q]; exact offx
  ·rw [if_neg q]; exact h.off i hi
 ·rw [getD_put xs x' cu0 k i hk]
  by_cases q : i = k
  ·rw [if_pos q]; exact ht.self
  ·rw [if_neg q]; exact h.self i hi
 ·rw [List.length_set] at hj
  rw [getD_put xs x' cu0 k i hk, getD_put xs x' cu0 k j hk]
  by_cases q : i = k <;> by_cases q' : j = k
  ·omega
  ·rw [if_pos q, if_neg q']; exact (apx j hj q').symm
  ·rw [if_neg q, if_pos q']; exact apx i hi q
  ·rw [if_neg q, if_neg q']; exact h.apart i j hi hj hij
structure Sees (w : World) (p : Option Addr) (n : Nat) (xs : List Cu) (bk : List Cm) : Prop where
 row : RowC w p n xs
 len : xs.length = bk.length
 num : ∀ i, i < xs.length → Nums (xs.getD i cu0) (bk.getD i cm0).a
 ds : ∀ i, i < xs.length → tar.Came w (xs.getD i cu0).dp (xs.getD i cu0).dn (xs.getD i cu0).dc (bk.getD i cm0).a.ds
 so : ∀ i, i < xs.length → RowS w (xs.getD i cu0).sp (xs.getD i cu0).sn (bk.getD i cm0).so
theorem Sees.below {w w' : World} {p : Option Addr} {n : Nat} {xs : List Cu} {bk : List Cm} (h : Sees w p n xs bk) (hb : Below w.heap.size w w') : Sees w' p n xs bk := ⟨h.row.below hb, h.len, h.num, fun i hi => (h.ds i hi).below hb, fun i hi => (h.so i hi).below hb⟩
theorem Holds.sees {w : World} {base : Nat} {V : Value} {xs : List Cu} {bk : List Cm} (h : Holds w base V xs bk) : ∃ p cap, V = .slice p xs.length cap ∧ Sees w p xs.length xs bk := by
 obtain ⟨p, cap, hv, hr, _, _⟩ := h.row.row
 refine ⟨p, cap, hv, hr, h.len, fun i hi => (h.has i hi).num, fun i hi => (h.has i hi).ds.came, fun i hi => ?_⟩
 obtain ⟨a, c, e, r, _⟩ := (h.has i hi).so.row
 unfold Cu.sold at e
 injection e with e1 e2 _
 rw [e1, e2]; exact r
end book
namespace disk
open Go.RowKit cell
set_option maxRecDepth 100000
def RepPost (w : World) (c : List Int) (e : Ending) (w' : World) : Prop :=
 ∃ V sl out x f, e = .returned (.tuple #[V, .int .i64 x, .int .i64 f]) ∧ Lr 25 w' w.heap.size V sl ∧ Recs w' V.ownBlock sl out ∧ RepIs c out x f ∧ Below w.heap.size w w'
theorem rec_at {c : List Int} {p m x : Nat} (hm : (c.getD p 0).toNat = m) (hx : x < m) : (recAt c p).getD x 0 = c.getD (p + 1 + x) 0 := by
 unfold recAt
 rw [hm]
 simp [List.getD, List.getElem?_drop, hx]
theorem rec_len {c : List Int} {p m : Nat} (hm : (c.getD p 0).toNat = m) (hf : p + m < c.length) : (recAt c p).length = m := by
 unfold recAt
 rw [hm, List.length_take, List.length_drop]
 omega
def KReplay : Prop := ∀ (W : World) (a : Option Addr) (n cap : Nat) (c : List Int), RowU W a n c → (a = none → cap = 0) → n ≤ cap → n * 4 ≤ 140737488351232 → (∀ x ∈ c, 0 ≤ x ∧ x < 4294967296) → Calls Tryz.prog 49 #[.slice a n cap] W fun e w' => RepNew W c e w'
end disk
section
open Go.RowKit
theorem run_neOp {P : Program} {o : Oper} {a : Act} {w : World} (ty rt : TypeId) (x y : Operand) (ho : o.op = .binOp .neq ty x y rt) (ca cb : Array Value) (hx : a.eval x = .agg ca) (hy : a.eval y = .agg cb) (hg : P.eqGuardType P.depth ty = false) (b : Bool)
  (hr : (Op.equalIn 10000 ty (.agg ca) (.agg cb)).run P w = .ok b w) : (execOp a.eval o).run P w = .ok (.value (.bool (!b))) w := by
 have hr' : (Op.equal ty (.agg ca) (.agg cb)).run P w = .ok b w := hr
 unfold execOp
 simp only [ho, hx, hy]
 have hp : ∀ w' : World, (program : Sem Program).run P w' = .ok P w' := fun _ => rfl
 simp [eqGuard, hg, binOp, hr', hp, Sem.run_bind]
theorem wp_neE {P : Program} {ops : Array Oper} {rest : List Oper} {o : Oper} {a : Act} {w : World} {Q : Exit → Act → World → Prop} (hw : Region.wanted o (yielded ops a.tmps) = true) (ty rt : TypeId) (x y : Operand) (ho : o.op = .binOp .neq ty x y rt) (ca cb : Array Value) (hx : a.eval x = .agg ca) (hy : a.eval y = .agg cb) (hg : P.eqGuardType P.depth ty = false) (b : Bool)
  (hr : (Op.equalIn 10000 ty (.agg ca) (.agg cb)).run P w = .ok b w) (d : Nat) (hd : o.dst = some d) (h : wpList P ops Q rest (a.put (some d) (.bool (!b))) w) : wpList P ops Q (o :: rest) a w :=
 wpList_step fun K hK => by
  rw [if_pos hw]
  exact wp_runOp d hd (run_neOp ty rt x y ho ca cb hx hy hg b hr) (hK _ _ h)
end
namespace acc
open tar (Du)
open Go.RowKit
def KcGrant : Prop := ∀ (W : World) (x : Ac) (p : Option Addr) (len cap : Nat) (t : Tm) (pt : Option Addr) (lt ct : Nat) (m : Int), ACame W x p len cap → TCame W t pt lt ct → (Lit.int .i64 m).wf = true → Calls Tryz.prog 103 #[x.v p len cap, t.v pt lt ct, .int .i64 m] W fun e w' => BPost W (GrantIs x t m) e w'
open Go.ChangeShapes Go.WideShapes Go.ChangeAt Go.Deep
set_option maxRecDepth 100000
theorem open_terms {H : Type} {enc : TypeId × Value → H} {W : World} {r : Reach} {b0 b1 : Nat} {held : Bool} {v : Value} {d : DataW H} {ps : List MemPlace}
  (hval : Value.okWide Tryz.prog W r b0 24 v) (h : DataW.Trod enc Tryz.prog W b1 (fun _ => true) held 24 v d ps) (hs : ∀ n ∈ d.weights Tryz.prog 24, n ≤ reachBytes) :
  ∃ (x : Tm) (p : Option Addr) (len cap : Nat), v = x.v p len cap ∧ TCame W x p len cap := by
 have hu := Tryz.underlying24
 have hc : Tryz.prog.cellsOf 24 = 5 := by kernel_rfl
 have ci : Tryz.prog.cellsOf 3 = 1 := by kernel_rfl
 have csl : Tryz.prog.cellsOf 22 = 1 := by kernel_rfl
 obtain ⟨cs, rfl, hsz⟩ := okWide_struct hu hval
 rw [hc] at hsz
 obtain ⟨c0, c1, c2, c3, c4, rfl⟩ : ∃ c0 c1 c2 c3 c4, cs = #[c0, c1, c2, c3, c4] := by
  cases cs with
  | mk l => match l, hsz with
   | [c0, c1, c2, c3, c4], _ => exact ⟨c0, c1, c2, c3, c4, rfl⟩
 obtain ⟨fuel, hf⟩ := h
 obtain ⟨xs, n, hx, hd, _, hlen, hg⟩ := DataW.trod_struct hu hf
 match xs, hlen with
 | [y0, y1, y2, y3, y4], _ =>
  have g0 := hg 0 _ rfl
  have g1 := hg 1 _ rfl
  have g2 := hg 2 _ rfl
  have g3 := hg 3 _ rfl
  have g4 := hg 4 _ rfl
  simp [Value.cells, ci, csl] at g0 g1 g2 g3 g4
  obtain ⟨x1, e1, -, w1⟩ := DataW.trod_int Tryz.underlying3 g1
  obtain ⟨x2, e2, -, w2⟩ := DataW.trod_int Tryz.underlying3 g2
  obtain ⟨x3, e3, -, w3⟩ := DataW.trod_int Tryz.underlying3 g3
  obtain ⟨x4, e4, -, w4⟩ := DataW.trod_int Tryz.underlying3 g4
  simp at e1 e2 e3 e4
  subst e1 e2 e3 e4
  rcases Deep.open_slice_pairs Tryz.underlying22 Tryz.underlying136 (by kernel_rfl) rfl rfl (by kernel_rfl) (by kernel_rfl) g0 with ⟨hcs, _⟩ | ⟨x, l, c, mm, fu, V0, V1, D0, D1, P0, P1, hcs, _, hl, hm, hmm, hy, hall⟩
  ·simp at hcs
   subst hcs
   exact ⟨⟨[], x1, x2, x3, x4⟩, none, 0, 0, rfl, ⟨tar.RowD.nil _ _, (fun _ => rfl), Nat.le_refl _, by omega, (fun x hx => by cases hx)⟩, ⟨w1, w2, w3, w4⟩⟩
  ·simp at hcs
   subst hcs
   simp only [if_true] at hmm
   subst hmm
   have hr := tar.rowD_of (len := l) (w := W) (a := x) (m := mm) (by omega) (fun j hj => by
    obtain ⟨k0, k1, t0, t1⟩ := hall j hj
    obtain ⟨z0, hv0, _, hw0⟩ := DataW.trod_int Tryz.underlying3 t0
    obtain ⟨z1, hv1, _, hw1⟩ := DataW.trod_int Tryz.underlying3 t1
    simp only [List.cons.injEq, and_true] at hv0 hv1
    rw [hv0] at k0
    rw [hv1] at k1
    exact ⟨z0, z1, k0, k1, hw0, hw1⟩)
   obtain ⟨zs, r1, r2⟩ := hr
   subst hy
   obtain ⟨hd1, _⟩ := Prod.mk.inj hd
   subst hd1
   have h1 := hs ((l + (mm - l)) * Tryz.prog.bytesOf 136) (by simp [DataW.weights, hu, DataW.weightsEach, Tryz.underlying22])
   rw [show Tryz.prog.bytesOf 136 = 16 from by kernel_rfl] at h1
   simp only [reachBytes] at h1
   exact ⟨⟨zs, x1, x2, x3, x4⟩, some x, l, mm, rfl, ⟨r1, (fun h => by cases h), hl, by omega, r2⟩, ⟨w1, w2, w3, w4⟩⟩
end acc
end Go.Proofs.YtomibnggmhjdfaaGreat
