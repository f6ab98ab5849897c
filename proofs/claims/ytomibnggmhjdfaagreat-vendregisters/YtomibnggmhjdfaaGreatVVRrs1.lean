import Derived.Test.YtomibnggmhjdfaaGreatVVRrs0
set_option linter.unusedVariables false
set_option linter.unusedSimpArgs false
namespace Go.Proofs.YtomibnggmhjdfaaGreat
section
open Go.RowKit
def Blk (w : World) (G : Nat) (cs : Array Value) (t : TypeId) : Prop := w.heap[G]? = some (.cells cs t (0, 0))
theorem Blk.lt {w : World} {G : Nat} {cs : Array Value} {t : TypeId} (h : Blk w G cs t) : G < w.heap.size := by
 unfold Blk at h
 by_cases hh : G < w.heap.size
 ·exact hh
 ·rw [Array.getElem?_eq_none (by omega)] at h; cases h
theorem Blk.new (w : World) (cs : Array Value) (t : TypeId) : Blk (w.alloc (.cells cs t)) w.heap.size cs t := by
 show (w.heap.push _)[w.heap.size]? = _
 rw [Array.getElem?_push_size]
theorem Blk.new1 (w : World) (o : Obj) (cs : Array Value) (t : TypeId) : Blk ((w.alloc o).alloc (.cells cs t)) (w.heap.size + 1) cs t := by
 have h := Blk.new (w.alloc o) cs t
 rwa [show (w.alloc o).heap.size = w.heap.size + 1 by simp] at h
theorem Blk.new2 (w : World) (o p : Obj) (cs : Array Value) (t : TypeId) : Blk (((w.alloc o).alloc p).alloc (.cells cs t)) (w.heap.size + 1 + 1) cs t := by
 have h := Blk.new ((w.alloc o).alloc p) cs t
 rwa [show ((w.alloc o).alloc p).heap.size = w.heap.size + 1 + 1 by simp] at h
theorem Blk.new3 (w : World) (o p q : Obj) (cs : Array Value) (t : TypeId) : Blk ((((w.alloc o).alloc p).alloc q).alloc (.cells cs t)) (w.heap.size + 1 + 1 + 1) cs t := by
 have h := Blk.new (((w.alloc o).alloc p).alloc q) cs t
 rwa [show (((w.alloc o).alloc p).alloc q).heap.size = w.heap.size + 1 + 1 + 1 by simp] at h
theorem Blk.alloc {w : World} {G : Nat} {cs : Array Value} {t : TypeId} (h : Blk w G cs t) (o : Obj) : Blk (w.alloc o) G cs t := by
 have hl := h.lt
 unfold Blk at *
 show (w.heap.push o)[G]? = _
 rw [Array.getElem?_push, if_neg (by omega)]; exact h
theorem Blk.below {w w' : World} {G B : Nat} {cs : Array Value} {t : TypeId} (h : Blk w G cs t) (hb : Below B w w') (hG : G < B) : Blk w' G cs t := by
 unfold Blk at *
 rw [hb.block G hG]; exact h
theorem Blk.next {w w' : World} {G : Nat} {cs : Array Value} {t : TypeId} (h : Blk w G cs t) (hb : Below w.heap.size w w') : Blk w' G cs t := h.below hb h.lt
theorem Blk.cell {w : World} {G : Nat} {cs : Array Value} {t : TypeId} (h : Blk w G cs t) (i : Nat) : w.cell? ⟨G, i, none⟩ = cs[i]? := by
 unfold Blk at h; simp [World.cell?, h]
theorem Blk.free {w : World} {G : Nat} {cs : Array Value} {t : TypeId} (h : Blk w G cs t) (i : Nat) : w.frozen? ⟨G, i, none⟩ = false := by
 unfold Blk at h; simp [World.frozen?, h]
theorem Blk.set {w : World} {G : Nat} {cs : Array Value} {t : TypeId} (h : Blk w G cs t) (i : Nat) (u : Value) : Blk (w.setCell ⟨G, i, none⟩ u) G (cs.setIfInBounds i u) t := by
 have hl := h.lt
 unfold Blk at *
 have hl' := hl
 simp [World.setCell, Array.getElem?_modify, h]
theorem Blk.other {w : World} {G G' : Nat} {cs : Array Value} {t : TypeId} (h : Blk w G cs t) (i : Nat) (u : Value) (hne : G' ≠ G) : Blk (w.setCell ⟨G', i, none⟩ u) G cs t := by
 unfold Blk at *
 simp only [World.setCell, Array.getElem?_modify]; rw [if_neg hne]; exact h
theorem Blk.drew {w : World} {G : Nat} {cs : Array Value} {t : TypeId} (h : Blk w G cs t) (q : Nat) : Blk (w.drewN q) G cs t := h
theorem bel_set {B : Nat} {w w' : World} (h : Below B w w') (G i : Nat) (u : Value) (hG : B ≤ G) : Below B w (w'.setCell ⟨G, i, none⟩ u) := by
 refine ⟨h.os, h.tape, h.output, by simp [World.setCell]; exact h.size, fun k hk => ?_⟩
 rw [← h.block k hk]
 simp only [World.setCell, Array.getElem?_modify]
 rw [if_neg (by omega)]
theorem bel_drew {B : Nat} {w0 w : World} (h : Below B w0 w) (q : Nat) : Below B w0 (w.drewN q) := ⟨h.os, h.tape, h.output, h.size, h.block⟩
theorem bel_step {w0 w w' : World} (h : Below w0.heap.size w0 w) (h' : Below w.heap.size w w') : Below w0.heap.size w0 w' := h.trans (h'.mono h.size)
end
section
open Go.RowKit
def putAll (cs : Array Value) : Nat → List Value → Array Value
 | _, [] => cs
 | o, v :: r => putAll (cs.setIfInBounds o v) (o + 1) r
structure Upd (w W : World) (g : Nat) (cs : Array Value) (t : TypeId) : Prop where
 blk : Blk W g cs t
 oth : ∀ G, G ≠ g → W.heap[G]? = w.heap[G]?
 bel : ∀ B w0, B ≤ g → Below B w0 w → Below B w0 W
 size : W.heap.size = w.heap.size
theorem Upd.keep {w W : World} {g G : Nat} {cs cs' : Array Value} {t t' : TypeId} (h : Upd w W g cs t) (hb : Blk w G cs' t') (hne : G ≠ g) : Blk W G cs' t' := by
 unfold Blk at *; rw [h.oth G hne]; exact hb
theorem Upd.cell {w W : World} {g : Nat} {cs : Array Value} {t : TypeId} (h : Upd w W g cs t) (x : Addr) (hne : x.block ≠ g) (hs : x.spot = none) : W.cell? x = w.cell? x := by
 obtain ⟨b, o, s⟩ := x
 simp only at hs hne
 subst hs
 simp only [World.cell?, h.oth b hne]
theorem upd_cells (g : Nat) (t : TypeId) : ∀ (vs : List Value) (o : Nat) (w : World) (cs : Array Value), Blk w g cs t → Upd w (w.setCells g o vs) g (putAll cs o vs) t
 | [], o, w, cs, h => ⟨h, fun _ _ => rfl, fun _ _ _ hb => hb, rfl⟩
 | v :: r, o, w, cs, h => by
  have ih := upd_cells g t r (o + 1) (w.setCell ⟨g, o, none⟩ v) (cs.setIfInBounds o v) (h.set o v)
  refine ⟨ih.blk, fun G hG => ?_, fun B w0 hB hb => ih.bel B w0 hB (bel_set hb g o v hB), ?_⟩
  ·show ((w.setCell ⟨g, o, none⟩ v).setCells g (o + 1) r).heap[G]? = _
   rw [ih.oth G hG]
   simp only [World.setCell, Array.getElem?_modify]
   rw [if_neg (fun e => hG e.symm)]
  ·show ((w.setCell ⟨g, o, none⟩ v).setCells g (o + 1) r).heap.size = _
   rw [ih.size]; simp [World.setCell]
theorem run_storeVar_let {P : Program} {w : World} {g off : Nat} {ty t : TypeId} {v : Value} {cells cs : Array Value} (hv : v.cells = cells) (hi : (P.info? ty).map (·.size) = some cells.size) (h1 : cells.all (·.oneCell') = true)
  (hB : Blk w g cs t) (hin : off + cells.size ≤ cs.size) : (storeVar ty ⟨g, off, none⟩ v).run P w = .ok () (w.setCells g off cells.toList) := by
 have := run_storeCells_cells (P := P) g off cells.toList 0 w (fun j hj => by
   have hj' : j < cells.size := by simpa using hj
   rw [Nat.add_zero, hB.cell (off + j), Array.getElem?_eq_getElem (by omega)]; rfl)
  (fun j hj => hB.free _) (fun v hv => (Array.all_eq_true_iff_forall_mem.1 h1) v (by simpa using hv))
 cases hq : P.info? ty with
 | none => simp [hq] at hi
 | some i =>
  have hs : cells.size = i.size := by simp [hq] at hi; omega
  simp only [Nat.add_zero] at this
  simp [storeVar, sizeOf, typeInfo, hq, hv, hs, this]
theorem wp_let {P : Program} {ops : Array Oper} {rest : List Oper} {o : Oper} {a : Act} {w : World} {Q : Exit → Act → World → Prop} (hgd : o.guard = none) (ty : TypeId) (x y : Operand) (ho : o.op = .store ty x y)
  (g off : Nat) (hx : a.eval x = .pointer (some ⟨g, off, none⟩)) (v : Value) (hy : a.eval y = v) (cells : Array Value) (hv : v.cells = cells) (hi : (P.info? ty).map (·.size) = some cells.size) (h1 : cells.all (·.oneCell') = true)
  (cs : Array Value) (t : TypeId) (hB : Blk w g cs t) (hin : off + cells.size ≤ cs.size) (new : Array Value) (hnew : putAll cs off cells.toList = new)
  (h : ∀ W, Upd w W g new t → wpList P ops Q rest (a.put o.dst undef) W) : wpList P ops Q (o :: rest) a w :=
 wpList_plain hgd fun _ hK => by
  unfold Oper.wp execOp
  simp only [ho, hx, hy, Instr.storeAt, Instr.sureAddr, Sem.run_bind, Sem.run_pure, Result.andThen_ok, run_storeVar_let hv hi h1 hB hin]
  refine hK _ _ (h _ ?_)
  rw [← hnew]
  exact upd_cells g t cells.toList off w cs hB
theorem putAll_all : ∀ (vs : List Value) (o : Nat) (cs : Array Value), o + vs.length = cs.size → (putAll cs o vs).toList = cs.toList.take o ++ vs
 | [], o, cs, h => by simp [putAll]; rw [List.take_of_length_le (by simpa using (by simp at h; omega))]
 | v :: r, o, cs, h => by
  rw [putAll, putAll_all r (o + 1) (cs.setIfInBounds o v) (by simp at h ⊢; omega)]
  have ho : o < cs.toList.length := by simp at h ⊢; omega
  rw [Array.toList_setIfInBounds, List.take_set, List.take_succ_eq_append_getElem ho]
  have ho' : o < cs.size := by simpa using ho
  have hm : min o cs.size = o := by omega
  simp [hm]
theorem wp_letAll {P : Program} {ops : Array Oper} {rest : List Oper} {o : Oper} {a : Act} {w : World} {Q : Exit → Act → World → Prop} (hgd : o.guard = none) (ty : TypeId) (x y : Operand) (ho : o.op = .store ty x y)
  (g : Nat) (hx : a.eval x = .pointer (some ⟨g, 0, none⟩)) (cells : Array Value) (hy : a.eval y = .agg cells) (hi : (P.info? ty).map (·.size) = some cells.size) (h1 : cells.all (·.oneCell') = true)
  (cs : Array Value) (t : TypeId) (hB : Blk w g cs t) (hin : cells.size = cs.size)
  (h : ∀ W, Upd w W g cells t → wpList P ops Q rest (a.put o.dst undef) W) : wpList P ops Q (o :: rest) a w :=
 wp_let hgd ty x y ho g 0 hx _ hy cells rfl hi h1 cs t hB (by omega) cells (by
  have := putAll_all cells.toList 0 cs (by simpa using hin)
  rw [List.take_zero, List.nil_append] at this
  rw [← Array.toList_inj]; exact this) h
theorem wp_let1 {P : Program} {ops : Array Oper} {rest : List Oper} {o : Oper} {a : Act} {w : World} {Q : Exit → Act → World → Prop} (hgd : o.guard = none) (ty : TypeId) (x y : Operand) (ho : o.op = .store ty x y)
  (g off : Nat) (hx : a.eval x = .pointer (some ⟨g, off, none⟩)) (k : IntKind) (n : Int) (hy : a.eval y = .int k n) (hi : (P.info? ty).map (·.size) = some 1)
  (cs : Array Value) (t : TypeId) (hB : Blk w g cs t) (hin : off < cs.size)
  (h : ∀ W, Upd w W g (cs.setIfInBounds off (.int k n)) t → wpList P ops Q rest (a.put o.dst undef) W) : wpList P ops Q (o :: rest) a w :=
 wp_let hgd ty x y ho g off hx _ hy #[.int k n] rfl hi (by simp [Value.oneCell']) cs t hB (by simp; omega) _ rfl h
theorem wp_whole {P : Program} {ops : Array Oper} {rest : List Oper} {o : Oper} {a : Act} {w : World} {Q : Exit → Act → World → Prop} (hgd : o.guard = none) (ty : TypeId) (x : Operand) (ho : o.op = .load ty x)
  (g : Nat) (hx : a.eval x = .pointer (some ⟨g, 0, none⟩)) (t : TypeId) (cs : Array Value) (d : TypeDesc) (hB : Blk w g cs t)
  (hu : P.underlying ty = some d) (hd : (match d with | .struct _ | .array _ _ => true | _ => false) = true) (hi : (P.info? ty).map (·.size) = some cs.size)
  (h : wpList P ops Q rest (a.put o.dst (.agg cs)) w) : wpList P ops Q (o :: rest) a w := wpList_load_row hgd ty x ho g hx t cs (0, 0) d hB hu hd hi h
theorem store_let {P : Program} {w : World} {g : Nat} {ty t : TypeId} {cells cs : Array Value} (hi : (P.info? ty).map (·.size) = some cells.size) (h1 : cells.all (·.oneCell') = true)
  (hB : Blk w g cs t) (hin : cells.size = cs.size) : ∃ W, (Instr.storeAt ty (.pointer (some ⟨g, 0, none⟩)) (.agg cells)).run P w = .ok () W ∧ Upd w W g cells t := by
 refine ⟨w.setCells g 0 cells.toList, ?_, ?_⟩
 ·have hs := run_storeVar_let (P := P) (v := .agg cells) (cells := cells) (off := 0) rfl hi h1 hB (by omega)
  simp only [Instr.storeAt, Instr.sureAddr, Sem.run_bind, Sem.run_pure, Result.andThen_ok, hs]
 ·have h := upd_cells g t cells.toList 0 w cs hB
  have := putAll_all cells.toList 0 cs (by simpa using hin)
  rw [List.take_zero, List.nil_append] at this
  rw [show putAll cs 0 cells.toList = cells by rw [← Array.toList_inj]; exact this] at h
  exact h
theorem yieldsIf_whole {P : Program} {ops : Array Oper} {S : World → Prop} {op : Oper} {a : Act} (hw : Region.wanted op (yielded ops a.tmps) = true) (ty : TypeId) (x : Operand) (ho : op.op = .load ty x)
  (g : Nat) (hx : a.eval x = .pointer (some ⟨g, 0, none⟩)) (t : TypeId) (cs : Array Value) (d : TypeDesc) (hS : ∀ w, S w → Blk w g cs t)
  (hu : P.underlying ty = some d) (hd : d.isRow = true) (hi : (P.info? ty).map (·.size) = some cs.size) : YieldsIf P ops S op (.agg cs) a := by
 have := yieldsIf_load_mid (P := P) (S := S) hw ty x ho g 0 hx cs.toList d (fun w hSw j v hv => by rw [Nat.zero_add, (hS w hSw).cell j]; simpa using hv) hu hd (by simpa using hi)
 simpa using this
theorem take_at {P : Program} {ops : Array Oper} {Q : Exit → Act → World → Prop} {md : Region.Mode} {S : World → Prop} {fuel : Nat} {listed : Array Bool} {a : Act} {w : World} (i d : Nat) (v : Value) (oi : Oper) (hi : ops[i]? = some oi) (hd : oi.dst = some d)
  (hs : Region.noSelect ops = true) (hf : Region.free md ops listed i = true) (hr : (Region.ready md ops listed).contains i = true)
  (hQ : ∀ c a w, Q (.panic c) (a.put oi.dst v) w → Q (.panic c) a w) (hy : YieldsIf P ops S oi v a) (hS : S w)
  (h : wpAnyH P md ops Q S fuel (listed.setIfInBounds i true) (a.put (some d) v) w) : wpAnyH P md ops Q S (fuel + 1) listed a w :=
 wpAnyH_take hi hs hf hr hQ hy hS (by rw [hd]; exact h)
theorem wp_letOp {P : Program} {o : Oper} {a : Act} {w : World} {K : Act → World → Prop} {Q : Exit → Act → World → Prop} (ty : TypeId) (x y : Operand) (ho : o.op = .store ty x y)
  (g : Nat) (hx : a.eval x = .pointer (some ⟨g, 0, none⟩)) (cells : Array Value) (hy : a.eval y = .agg cells) (hi : (P.info? ty).map (·.size) = some cells.size) (h1 : cells.all (·.oneCell') = true)
  (cs : Array Value) (t : TypeId) (hB : Blk w g cs t) (hin : cells.size = cs.size) (hd : o.dst = none)
  (h : ∀ W, Upd w W g cells t → K a W) : o.wp P a w K Q := by
 obtain ⟨W, hst, hU⟩ := store_let (P := P) (ty := ty) hi h1 hB hin
 unfold Oper.wp execOp
 simp only [ho, hx, hy, Sem.run_bind, hst, Result.andThen_ok]
 have := h W hU
 have e : a.put o.dst undef = a := by rw [hd]; rfl
 rw [← e] at this
 exact this
end
section
open Go.RowKit
def zqr (P : Program) (ty : TypeId) (k : Nat) : Prop := ∃ d, P.underlying ty = some d ∧ (match d with | .struct _ | .array _ _ => true | _ => false) = true ∧ (P.info? ty).map (·.size) = some k
theorem zqw {P : Program} {ops : Array Oper} {rest : List Oper} {o : Oper} {a : Act} {w : World} {Q : Exit → Act → World → Prop} (hgd : o.guard = none) {ty : TypeId} {x : Operand} (ho : o.op = .load ty x)
 {g : Nat} (hx : a.eval x = .pointer (some ⟨g, 0, none⟩)) {t : TypeId} {cs : Array Value} (hB : Hid (Blk w g cs t)) (hr : zqr P ty cs.size)
 (h : wpList P ops Q rest (a.put o.dst (.agg cs)) w) : wpList P ops Q (o :: rest) a w := by
 obtain ⟨d, h1, h2, h3⟩ := hr
 exact wp_whole hgd ty x ho g hx t cs d hB.out h1 (by cases d <;> first | rfl | exact h2) h3 h
theorem zql {P : Program} {ops : Array Oper} {rest : List Oper} {o : Oper} {a : Act} {w : World} {Q : Exit → Act → World → Prop} (hgd : o.guard = none) {ty : TypeId} {x y : Operand} (ho : o.op = .store ty x y)
 {g : Nat} (hx : a.eval x = .pointer (some ⟨g, 0, none⟩)) {cells : Array Value} (hy : a.eval y = .agg cells) (hr : zqr P ty cells.size) (h1 : cells.all (·.oneCell') = true)
 {cs : Array Value} {t : TypeId} (hB : Hid (Blk w g cs t)) (hin : cells.size = cs.size)
 (h : ∀ W, Upd w W g cells t → wpList P ops Q rest (a.put o.dst undef) W) : wpList P ops Q (o :: rest) a w := by
 obtain ⟨d, h4, h2, h3⟩ := hr
 exact wp_letAll hgd ty x y ho g hx cells hy h3 h1 cs t hB.out hin h
theorem zqt {P : Program} {ops : Array Oper} {Q : Exit → Act → World → Prop} {md : Region.Mode} {S : World → Prop} {fuel : Nat} {listed : Array Bool} {a : Act} {w : World} (i d : Nat) (v : Value) {oi : Oper} (hi : ops[i]? = some oi) (hd : oi.dst = some d)
 (hk : (Region.noSelect ops && (Region.free md ops listed i && (Region.ready md ops listed).contains i)) = true)
 (hQ : ∀ c a w, Q (.panic c) (a.put oi.dst v) w → Q (.panic c) a w) (hy : YieldsIf P ops S oi v a) (hS : S w)
 (h : wpAnyH P md ops Q S fuel (listed.setIfInBounds i true) (a.put (some d) v) w) : wpAnyH P md ops Q S (fuel + 1) listed a w := by
 rw [Bool.and_eq_true, Bool.and_eq_true] at hk
 exact take_at i d v oi hi hd hk.1 hk.2.1 hk.2.2 hQ hy hS h
theorem zqu24 : zqr Tryz.prog 24 5 := ⟨_, Tryz.underlying24, rfl, by kernel_rfl⟩
theorem zqu29 : zqr Tryz.prog 29 1 := ⟨_, Tryz.underlying29, rfl, by kernel_rfl⟩
theorem zqu43 : zqr Tryz.prog 43 2 := ⟨_, Tryz.underlying43, rfl, by kernel_rfl⟩
theorem zqu47 : zqr Tryz.prog 47 3 := ⟨_, Tryz.underlying47, rfl, by kernel_rfl⟩
theorem zqu59 : zqr Tryz.prog 59 7 := ⟨_, Tryz.underlying59, rfl, by kernel_rfl⟩
theorem zqu62 : zqr Tryz.prog 62 8 := ⟨_, Tryz.underlying62, rfl, by kernel_rfl⟩
theorem zqu69 : zqr Tryz.prog 69 7 := ⟨_, Tryz.underlying69, rfl, by kernel_rfl⟩
theorem zqu71 : zqr Tryz.prog 71 13 := ⟨_, Tryz.underlying71, rfl, by kernel_rfl⟩
theorem zqu90 : zqr Tryz.prog 90 5 := ⟨_, Tryz.underlying90, rfl, by kernel_rfl⟩
theorem zqu106 : zqr Tryz.prog 106 7 := ⟨_, Tryz.underlying106, rfl, by kernel_rfl⟩
theorem zqu121 : zqr Tryz.prog 121 14 := ⟨_, Tryz.underlying121, rfl, by kernel_rfl⟩
end
section
open Go.RowKit
theorem shN {w w' : World} {G : Nat} {cs : Array Value} {t : TypeId} (h : Hid (Blk w G cs t)) (hb : Below w.heap.size w w') : Hid (Blk w' G cs t) := h.out.next hb
theorem shK {w W : World} {g G : Nat} {cs cs' : Array Value} {t t' : TypeId} (hU : Upd w W g cs t) (h : Hid (Blk w G cs' t')) (hne : G ≠ g) : Hid (Blk W G cs' t') := hU.keep h.out hne
theorem shB {w0 w w' : World} (h : Hid (Below w0.heap.size w0 w)) (hb : Below w.heap.size w w') : Hid (Below w0.heap.size w0 w') := bel_step h.out hb
theorem shV {w W : World} {g : Nat} {cs : Array Value} {t : TypeId} {B : Nat} {w0 : World} (hU : Upd w W g cs t) (h : Hid (Below B w0 w)) (hB : B ≤ g) : Hid (Below B w0 W) := hU.bel B w0 hB h.out
theorem sh1 (w : World) (c0 : Array Value) (t0 : TypeId) : ∃ W, Hid ((w.alloc (.cells c0 t0)) = W) ∧ Hid (Blk W (w.heap.size) c0 t0) ∧ Hid (Below w.heap.size w W) ∧ w.heap.size < W.heap.size := by
 refine ⟨_, rfl, ?_, ?_, ?_⟩
 ·have h := Blk.new w c0 t0
  exact h
 ·exact (Below.refl w.heap.size w).alloc (by simp) _
 ·simp
theorem sh2 (w : World) (c0 : Array Value) (t0 : TypeId) (c1 : Array Value) (t1 : TypeId) : ∃ W, Hid (((w.alloc (.cells c0 t0)).alloc (.cells c1 t1)) = W) ∧ Hid (Blk W (w.heap.size) c0 t0) ∧ Hid (Blk W (w.heap.size + 1) c1 t1) ∧ Hid (Below w.heap.size w W) ∧ w.heap.size + 1 < W.heap.size := by
 refine ⟨_, rfl, ?_, ?_, ?_, ?_⟩
 ·have h := Blk.new w c0 t0
  exact (h.alloc _)
 ·have h := Blk.new (w.alloc (.cells c0 t0)) c1 t1
  rw [show (w.alloc (.cells c0 t0)).heap.size = w.heap.size + 1 by simp] at h
  exact h
 ·exact ((Below.refl w.heap.size w).alloc (by simp) _).alloc (by simp) _
 ·simp
theorem sh3 (w : World) (c0 : Array Value) (t0 : TypeId) (c1 : Array Value) (t1 : TypeId) (c2 : Array Value) (t2 : TypeId) : ∃ W, Hid ((((w.alloc (.cells c0 t0)).alloc (.cells c1 t1)).alloc (.cells c2 t2)) = W) ∧ Hid (Blk W (w.heap.size) c0 t0) ∧ Hid (Blk W (w.heap.size + 1) c1 t1) ∧ Hid (Blk W (w.heap.size + 1 + 1) c2 t2) ∧ Hid (Below w.heap.size w W) ∧ w.heap.size + 1 + 1 < W.heap.size := by
 refine ⟨_, rfl, ?_, ?_, ?_, ?_, ?_⟩
 ·have h := Blk.new w c0 t0
  exact ((h.alloc _).alloc _)
 ·have h := Blk.new (w.alloc (.cells c0 t0)) c1 t1
  rw [show (w.alloc (.cells c0 t0)).heap.size = w.heap.size + 1 by simp] at h
  exact (h.alloc _)
 ·have h := Blk.new ((w.alloc (.cells c0 t0)).alloc (.cells c1 t1)) c2 t2
  rw [show ((w.alloc (.cells c0 t0)).alloc (.cells c1 t1)).heap.size = w.heap.size + 1 + 1 by simp] at h
  exact h
 ·exact (((Below.refl w.heap.size w).alloc (by simp) _).alloc (by simp) _).alloc (by simp; omega) _
 ·simp
theorem sh4 (w : World) (c0 : Array Value) (t0 : TypeId) (c1 : Array Value) (t1 : TypeId) (c2 : Array Value) (t2 : TypeId) (c3 : Array Value) (t3 : TypeId) : ∃ W, Hid (((((w.alloc (.cells c0 t0)).alloc (.cells c1 t1)).alloc (.cells c2 t2)).alloc (.cells c3 t3)) = W) ∧ Hid (Blk W (w.heap.size) c0 t0) ∧ Hid (Blk W (w.heap.size + 1) c1 t1) ∧ Hid (Blk W (w.heap.size + 1 + 1) c2 t2) ∧ Hid (Blk W (w.heap.size + 1 + 1 + 1) c3 t3) ∧ Hid (Below w.heap.size w W) ∧ w.heap.size + 1 + 1 + 1 < W.heap.size := by
 refine ⟨_, rfl, ?_, ?_, ?_, ?_, ?_, ?_⟩
 ·have h := Blk.new w c0 t0
  exact (((h.alloc _).alloc _).alloc _)
 ·have h := Blk.new (w.alloc (.cells c0 t0)) c1 t1
  rw [show (w.alloc (.cells c0 t0)).heap.size = w.heap.size + 1 by simp] at h
  exact ((h.alloc _).alloc _)
 ·have h := Blk.new ((w.alloc (.cells c0 t0)).alloc (.cells c1 t1)) c2 t2
  rw [show ((w.alloc (.cells c0 t0)).alloc (.cells c1 t1)).heap.size = w.heap.size + 1 + 1 by simp] at h
  exact (h.alloc _)
 ·have h := Blk.new (((w.alloc (.cells c0 t0)).alloc (.cells c1 t1)).alloc (.cells c2 t2)) c3 t3
  rw [show (((w.alloc (.cells c0 t0)).alloc (.cells c1 t1)).alloc (.cells c2 t2)).heap.size = w.heap.size + 1 + 1 + 1 by simp] at h
  exact h
 ·exact ((((Below.refl w.heap.size w).alloc (by simp) _).alloc (by simp) _).alloc (by simp; omega) _).alloc (by simp; omega) _
 ·simp
theorem sh5 (w : World) (c0 : Array Value) (t0 : TypeId) (c1 : Array Value) (t1 : TypeId) (c2 : Array Value) (t2 : TypeId) (c3 : Array Value) (t3 : TypeId) (c4 : Array Value) (t4 : TypeId) : ∃ W, Hid ((((((w.alloc (.cells c0 t0)).alloc (.cells c1 t1)).alloc (.cells c2 t2)).alloc (.cells c3 t3)).alloc (.cells c4 t4)) = W) ∧ Hid (Blk W (w.heap.size) c0 t0) ∧ Hid (Blk W (w.heap.size + 1) c1 t1) ∧ Hid (Blk W (w.heap.size + 1 + 1) c2 t2) ∧ Hid (Blk W (w.heap.size + 1 + 1 + 1) c3 t3) ∧ Hid (Blk W (w.heap.size + 1 + 1 + 1 + 1) c4 t4) ∧ Hid (Below w.heap.size w W) ∧ w.heap.size + 1 + 1 + 1 + 1 < W.heap.size := by
 refine ⟨_, rfl, ?_, ?_, ?_, ?_, ?_, ?_, ?_⟩
 ·have h := Blk.new w c0 t0
  exact ((((h.alloc _).alloc _).alloc _).alloc _)
 ·have h := Blk.new (w.alloc (.cells c0 t0)) c1 t1
  rw [show (w.alloc (.cells c0 t0)).heap.size = w.heap.size + 1 by simp] at h
  exact (((h.alloc _).alloc _).alloc _)
 ·have h := Blk.new ((w.alloc (.cells c0 t0)).alloc (.cells c1 t1)) c2 t2
  rw [show ((w.alloc (.cells c0 t0)).alloc (.cells c1 t1)).heap.size = w.heap.size + 1 + 1 by simp] at h
  exact ((h.alloc _).alloc _)
 ·have h := Blk.new (((w.alloc (.cells c0 t0)).alloc (.cells c1 t1)).alloc (.cells c2 t2)) c3 t3
  rw [show (((w.alloc (.cells c0 t0)).alloc (.cells c1 t1)).alloc (.cells c2 t2)).heap.size = w.heap.size + 1 + 1 + 1 by simp] at h
  exact (h.alloc _)
 ·have h := Blk.new ((((w.alloc (.cells c0 t0)).alloc (.cells c1 t1)).alloc (.cells c2 t2)).alloc (.cells c3 t3)) c4 t4
  rw [show ((((w.alloc (.cells c0 t0)).alloc (.cells c1 t1)).alloc (.cells c2 t2)).alloc (.cells c3 t3)).heap.size = w.heap.size + 1 + 1 + 1 + 1 by simp] at h
  exact h
 ·exact (((((Below.refl w.heap.size w).alloc (by simp) _).alloc (by simp) _).alloc (by simp; omega) _).alloc (by simp; omega) _).alloc (by simp; omega) _
 ·simp
theorem shc3 {w : World} {G : Nat} {a0 a1 a2 : Value} {t : TypeId} (h : Hid (Blk w G #[a0, a1, a2] t)) : Hid (w.cell? ⟨G, 0, none⟩ = some a0) ∧ Hid (w.cell? ⟨G, 1, none⟩ = some a1) ∧ Hid (w.cell? ⟨G, 2, none⟩ = some a2) := ⟨h.out.cell 0, h.out.cell 1, h.out.cell 2⟩
theorem scl5 {w : World} {G : Nat} {a0 a1 a2 a3 a4 : Value} {t : TypeId} (h : Hid (Blk w G #[a0, a1, a2, a3, a4] t)) : w.cell? ⟨G, 0, none⟩ = some a0 ∧ w.cell? ⟨G, 1, none⟩ = some a1 ∧ w.cell? ⟨G, 2, none⟩ = some a2 ∧ w.cell? ⟨G, 3, none⟩ = some a3 ∧ w.cell? ⟨G, 4, none⟩ = some a4 := ⟨h.out.cell 0, h.out.cell 1, h.out.cell 2, h.out.cell 3, h.out.cell 4⟩
theorem shc5 {w : World} {G : Nat} {a0 a1 a2 a3 a4 : Value} {t : TypeId} (h : Hid (Blk w G #[a0, a1, a2, a3, a4] t)) : Hid (w.cell? ⟨G, 0, none⟩ = some a0) ∧ Hid (w.cell? ⟨G, 1, none⟩ = some a1) ∧ Hid (w.cell? ⟨G, 2, none⟩ = some a2) ∧ Hid (w.cell? ⟨G, 3, none⟩ = some a3) ∧ Hid (w.cell? ⟨G, 4, none⟩ = some a4) := ⟨h.out.cell 0, h.out.cell 1, h.out.cell 2, h.out.cell 3, h.out.cell 4⟩
theorem scl7 {w : World} {G : Nat} {a0 a1 a2 a3 a4 a5 a6 : Value} {t : TypeId} (h : Hid (Blk w G #[a0, a1, a2, a3, a4, a5, a6] t)) : w.cell? ⟨G, 0, none⟩ = some a0 ∧ w.cell? ⟨G, 1, none⟩ = some a1 ∧ w.cell? ⟨G, 2, none⟩ = some a2 ∧ w.cell? ⟨G, 3, none⟩ = some a3 ∧ w.cell? ⟨G, 4, none⟩ = some a4 ∧ w.cell? ⟨G, 5, none⟩ = some a5 ∧ w.cell? ⟨G, 6, none⟩ = some a6 := ⟨h.out.cell 0, h.out.cell 1, h.out.cell 2, h.out.cell 3, h.out.cell 4, h.out.cell 5, h.out.cell 6⟩
theorem shc7 {w : World} {G : Nat} {a0 a1 a2 a3 a4 a5 a6 : Value} {t : TypeId} (h : Hid (Blk w G #[a0, a1, a2, a3, a4, a5, a6] t)) : Hid (w.cell? ⟨G, 0, none⟩ = some a0) ∧ Hid (w.cell? ⟨G, 1, none⟩ = some a1) ∧ Hid (w.cell? ⟨G, 2, none⟩ = some a2) ∧ Hid (w.cell? ⟨G, 3, none⟩ = some a3) ∧ Hid (w.cell? ⟨G, 4, none⟩ = some a4) ∧ Hid (w.cell? ⟨G, 5, none⟩ = some a5) ∧ Hid (w.cell? ⟨G, 6, none⟩ = some a6) := ⟨h.out.cell 0, h.out.cell 1, h.out.cell 2, h.out.cell 3, h.out.cell 4, h.out.cell 5, h.out.cell 6⟩
theorem scl8 {w : World} {G : Nat} {a0 a1 a2 a3 a4 a5 a6 a7 : Value} {t : TypeId} (h : Hid (Blk w G #[a0, a1, a2, a3, a4, a5, a6, a7] t)) : w.cell? ⟨G, 0, none⟩ = some a0 ∧ w.cell? ⟨G, 1, none⟩ = some a1 ∧ w.cell? ⟨G, 2, none⟩ = some a2 ∧ w.cell? ⟨G, 3, none⟩ = some a3 ∧ w.cell? ⟨G, 4, none⟩ = some a4 ∧ w.cell? ⟨G, 5, none⟩ = some a5 ∧ w.cell? ⟨G, 6, none⟩ = some a6 ∧ w.cell? ⟨G, 7, none⟩ = some a7 := ⟨h.out.cell 0, h.out.cell 1, h.out.cell 2, h.out.cell 3, h.out.cell 4, h.out.cell 5, h.out.cell 6, h.out.cell 7⟩
theorem shc8 {w : World} {G : Nat} {a0 a1 a2 a3 a4 a5 a6 a7 : Value} {t : TypeId} (h : Hid (Blk w G #[a0, a1, a2, a3, a4, a5, a6, a7] t)) : Hid (w.cell? ⟨G, 0, none⟩ = some a0) ∧ Hid (w.cell? ⟨G, 1, none⟩ = some a1) ∧ Hid (w.cell? ⟨G, 2, none⟩ = some a2) ∧ Hid (w.cell? ⟨G, 3, none⟩ = some a3) ∧ Hid (w.cell? ⟨G, 4, none⟩ = some a4) ∧ Hid (w.cell? ⟨G, 5, none⟩ = some a5) ∧ Hid (w.cell? ⟨G, 6, none⟩ = some a6) ∧ Hid (w.cell? ⟨G, 7, none⟩ = some a7) := ⟨h.out.cell 0, h.out.cell 1, h.out.cell 2, h.out.cell 3, h.out.cell 4, h.out.cell 5, h.out.cell 6, h.out.cell 7⟩
theorem scl13 {w : World} {G : Nat} {a0 a1 a2 a3 a4 a5 a6 a7 a8 a9 a10 a11 a12 : Value} {t : TypeId} (h : Hid (Blk w G #[a0, a1, a2, a3, a4, a5, a6, a7, a8, a9, a10, a11, a12] t)) : w.cell? ⟨G, 0, none⟩ = some a0 ∧ w.cell? ⟨G, 1, none⟩ = some a1 ∧ w.cell? ⟨G, 2, none⟩ = some a2 ∧ w.cell? ⟨G, 3, none⟩ = some a3 ∧ w.cell? ⟨G, 4, none⟩ = some a4 ∧ w.cell? ⟨G, 5, none⟩ = some a5 ∧ w.cell? ⟨G, 6, none⟩ = some a6 ∧ w.cell? ⟨G, 7, none⟩ = some a7 ∧ w.cell? ⟨G, 8, none⟩ = some a8 ∧ w.cell? ⟨G, 9, none⟩ = some a9 ∧ w.cell? ⟨G, 10, none⟩ = some a10 ∧ w.cell? ⟨G, 11, none⟩ = some a11 ∧ w.cell? ⟨G, 12, none⟩ = some a12 := ⟨h.out.cell 0, h.out.cell 1, h.out.cell 2, h.out.cell 3, h.out.cell 4, h.out.cell 5, h.out.cell 6, h.out.cell 7, h.out.cell 8, h.out.cell 9, h.out.cell 10, h.out.cell 11, h.out.cell 12⟩
theorem shc13 {w : World} {G : Nat} {a0 a1 a2 a3 a4 a5 a6 a7 a8 a9 a10 a11 a12 : Value} {t : TypeId} (h : Hid (Blk w G #[a0, a1, a2, a3, a4, a5, a6, a7, a8, a9, a10, a11, a12] t)) : Hid (w.cell? ⟨G, 0, none⟩ = some a0) ∧ Hid (w.cell? ⟨G, 1, none⟩ = some a1) ∧ Hid (w.cell? ⟨G, 2, none⟩ = some a2) ∧ Hid (w.cell? ⟨G, 3, none⟩ = some a3) ∧ Hid (w.cell? ⟨G, 4, none⟩ = some a4) ∧ Hid (w.cell? ⟨G, 5, none⟩ = some a5) ∧ Hid (w.cell? ⟨G, 6, none⟩ = some a6) ∧ Hid (w.cell? ⟨G, 7, none⟩ = some a7) ∧ Hid (w.cell? ⟨G, 8, none⟩ = some a8) ∧ Hid (w.cell? ⟨G, 9, none⟩ = some a9) ∧ Hid (w.cell? ⟨G, 10, none⟩ = some a10) ∧ Hid (w.cell? ⟨G, 11, none⟩ = some a11) ∧ Hid (w.cell? ⟨G, 12, none⟩ = some a12) := ⟨h.out.cell 0, h.out.cell 1, h.out.cell 2, h.out.cell 3, h.out.cell 4, h.out.cell 5, h.out.cell 6, h.out.cell 7, h.out.cell 8, h.out.cell 9, h.out.cell 10, h.out.cell 11, h.out.cell 12⟩
end
namespace cell
structure Wr where
 p : Int
 d : Int
def wr0 : Wr := ⟨0, 0⟩
theorem set_at (c : List Int) (i j : Nat) (v : Int) : (c.set i v).getD j 0 = if j = i ∧ i < c.length then v else c.getD j 0 := by
 simp only [List.getD, List.getElem?_set]
 by_cases h : i = j
 ·subst h
  by_cases h2 : i < c.length
  ·simp [h2]
  ·simp [h2]
 ·rw [if_neg h, if_neg (by omega)]
theorem list_ext {a b : List Int} (hl : a.length = b.length) (h : ∀ j, j < a.length → a.getD j 0 = b.getD j 0) : a = b := by
 apply List.ext_getElem hl
 intro j h1 h2
 have := h j h1
 simpa [List.getD, List.getElem?_eq_getElem h1, List.getElem?_eq_getElem h2] using this
end cell
namespace disk
open cell (Wr wr0 set_at list_ext)
def lenAt (c : List Int) (a : Nat) : Int := if a = c.length ∨ c.getD a 0 = 0 then 0 else if 64 < c.getD a 0 then -1 else if (c.length : Int) ≤ a + c.getD a 0 then -1 else c.getD a 0
def recAt (c : List Int) (a : Nat) : List Int := (c.drop (a + 1)).take (c.getD a 0).toNat
theorem len_pos {c : List Int} {a : Nat} (h : 0 < lenAt c a) : lenAt c a = c.getD a 0 ∧ 0 < c.getD a 0 ∧ c.getD a 0 ≤ 64 ∧ a + c.getD a 0 < c.length := by
 unfold lenAt at h ⊢
 by_cases h1 : a = c.length ∨ c.getD a 0 = 0
 ·rw [if_pos h1] at h; omega
 ·by_cases h2 : 64 < c.getD a 0
  ·rw [if_neg h1, if_pos h2] at h; omega
  ·by_cases h3 : (c.length : Int) ≤ a + c.getD a 0
   ·rw [if_neg h1, if_neg h2, if_pos h3] at h; omega
   ·rw [if_neg h1, if_neg h2, if_neg h3] at h ⊢
    exact ⟨rfl, h, by omega, by omega⟩
theorem len_of {c : List Int} {a : Nat} (h0 : 0 < c.getD a 0) (h1 : c.getD a 0 ≤ 64) (h2 : a + c.getD a 0 < c.length) : lenAt c a = c.getD a 0 := by
 unfold lenAt
 rw [if_neg (by omega), if_neg (by omega), if_neg (by omega)]
def stepD (c : List Int) (s : List (List Int) × Nat) : List (List Int) × Nat := if 0 < lenAt c s.2 then (s.1 ++ [recAt c s.2], s.2 + (lenAt c s.2).toNat + 1) else s
def itD (c : List Int) : Nat → List (List Int) × Nat
 | 0 => ([], 0)
 | k + 1 => stepD c (itD c k)
theorem it_live {c : List Int} {k : Nat} (h : 0 < lenAt c (itD c k).2) : itD c (k + 1) = ((itD c k).1 ++ [recAt c (itD c k).2], (itD c k).2 + (lenAt c (itD c k).2).toNat + 1) := by
 show stepD c (itD c k) = _
 unfold stepD
 rw [if_pos h]
theorem it_dead {c : List Int} {k : Nat} (h : ¬ 0 < lenAt c (itD c k).2) : ∀ m, itD c (k + m) = itD c k
 | 0 => rfl
 | m + 1 => by
  show stepD c (itD c (k + m)) = _
  rw [it_dead h m]
  unfold stepD
  rw [if_neg h]
theorem it_bound (c : List Int) (k : Nat) : (itD c k).2 ≤ c.length ∧ ((∀ i, i < k → 0 < lenAt c (itD c i).2) → k ≤ (itD c k).2) := by
 induction k with
 | zero => exact ⟨Nat.zero_le _, fun _ => Nat.le_refl _⟩
 | succ k ih =>
  by_cases h : 0 < lenAt c (itD c k).2
  ·rw [it_live h]
   obtain ⟨e, p0, p1, p2⟩ := len_pos h
   refine ⟨by show (itD c k).2 + _ + 1 ≤ _; omega, fun hl => ?_⟩
   have := ih.2 fun i hi => hl i (by omega)
   show k + 1 ≤ (itD c k).2 + _ + 1
   omega
  ·rw [it_dead h 1]
   exact ⟨ih.1, fun hl => absurd (hl k (by omega)) h⟩
def repD (c : List Int) : List (List Int) × Nat := itD c (c.length + 1)
theorem rep_dead (c : List Int) : ¬ 0 < lenAt c (repD c).2 := fun h => by
 have all : ∀ i, i < c.length + 1 → 0 < lenAt c (itD c i).2 := fun i hi => by
  refine Classical.byContradiction fun hn => ?_
  have e := it_dead hn (c.length + 1 - i)
  rw [show i + (c.length + 1 - i) = c.length + 1 by omega] at e
  unfold repD at h
  rw [e] at h
  exact hn h
 have := (it_bound c (c.length + 1)).2 all
 have := (it_bound c (c.length + 1)).1
 omega
theorem rep_of {c : List Int} {k : Nat} (h : ¬ 0 < lenAt c (itD c k).2) : repD c = itD c k := by
 by_cases hk : k ≤ c.length + 1
 ·have e := it_dead h (c.length + 1 - k)
  rw [show k + (c.length + 1 - k) = c.length + 1 by omega] at e
  exact e
 ·have e := it_dead (rep_dead c) (k - (c.length + 1))
  rw [show c.length + 1 + (k - (c.length + 1)) = k by omega] at e
  exact e.symm
def May (c : List Int) : Prop := 1 ≤ c.length ∧ c.length ≤ 2048
def RepIs (c : List Int) (out : List (List Int)) (e : Int) (f : Int) : Prop :=
 (¬ May c ∧ out = [] ∧ e = 0 ∧ f = 1) ∨ (May c ∧ lenAt c (repD c).2 < 0 ∧ out = [] ∧ e = 0 ∧ f = 3) ∨ (May c ∧ lenAt c (repD c).2 = 0 ∧ out = (repD c).1 ∧ e = ((repD c).2 : Int) ∧ f = 0)
theorem RepIs.one {c : List Int} {o o' : List (List Int)} {e e' f f' : Int} (h : RepIs c o e f) (h' : RepIs c o' e' f') : o = o' ∧ e = e' ∧ f = f' := by
 rcases h with ⟨a, rfl, rfl, rfl⟩ | ⟨a, b, rfl, rfl, rfl⟩ | ⟨a, b, rfl, rfl, rfl⟩ <;> rcases h' with ⟨a', rfl, rfl, rfl⟩ | ⟨a', b', rfl, rfl, rfl⟩ | ⟨a', b', rfl, rfl, rfl⟩ <;> first | exact ⟨rfl, rfl, rfl⟩ | contradiction | omega
def putW (at_ : Nat) (rec : List Int) : Nat → List Wr
 | 0 => []
 | k + 1 => putW at_ rec k ++ [⟨((at_ + k + 1 : Nat) : Int), rec.getD k 0⟩]
def zeroW (c : List Int) (p : Nat) : List Wr := if p < c.length then [⟨(p : Int), 0⟩] else []
def appW (c : List Int) (a : Nat) (rec : List Int) : List Wr := putW a rec rec.length ++ (zeroW c (a + rec.length + 1) ++ [⟨(a : Int), (rec.length : Int)⟩])
def RMay (r : List Int) : Prop := 1 ≤ r.length ∧ r.length ≤ 64
def AppIs (c rec : List Int) (ls : List Wr) (f : Int) : Prop :=
 (¬ RMay rec ∧ ls = [] ∧ f = 1) ∨ (RMay rec ∧ ¬ May c ∧ ls = [] ∧ f = 1) ∨ (RMay rec ∧ May c ∧ lenAt c (repD c).2 < 0 ∧ ls = [] ∧ f = 3) ∨
 (RMay rec ∧ May c ∧ lenAt c (repD c).2 = 0 ∧ c.length ≤ (repD c).2 + rec.length ∧ ls = [] ∧ f = 16) ∨ (RMay rec ∧ May c ∧ lenAt c (repD c).2 = 0 ∧ (repD c).2 + rec.length < c.length ∧ ls = appW c (repD c).2 rec ∧ f = 0)
theorem AppIs.one {c rec : List Int} {l l' : List Wr} {f f' : Int} (h : AppIs c rec l f) (h' : AppIs c rec l' f') : l = l' ∧ f = f' := by
 rcases h with ⟨a, rfl, rfl⟩ | ⟨a, b, rfl, rfl⟩ | ⟨a, b, d, rfl, rfl⟩ | ⟨a, b, d, g, rfl, rfl⟩ | ⟨a, b, d, g, rfl, rfl⟩ <;> rcases h' with ⟨a', rfl, rfl⟩ | ⟨a', b', rfl, rfl⟩ | ⟨a', b', d', rfl, rfl⟩ | ⟨a', b', d', g', rfl, rfl⟩ | ⟨a', b', d', g', rfl, rfl⟩ <;> first | exact ⟨rfl, rfl⟩ | contradiction | omega
theorem rep_bound (c : List Int) : (repD c).2 ≤ c.length := (it_bound c _).1
theorem put_len (a : Nat) (rec : List Int) (k : Nat) : (putW a rec k).length = k := by
 induction k with
 | zero => rfl
 | succ k ih => rw [putW, List.length_append, ih]; rfl
theorem app_len (c : List Int) (a : Nat) (r : List Int) : (appW c a r).length = r.length + (if a + r.length + 1 < c.length then 2 else 1) := by
 unfold appW zeroW
 rw [List.length_append, put_len]
 split <;> rfl
end disk
end Go.Proofs.YtomibnggmhjdfaaGreat
