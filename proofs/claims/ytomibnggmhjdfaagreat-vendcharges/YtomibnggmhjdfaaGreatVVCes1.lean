import Derived.Test.YtomibnggmhjdfaaGreatVVCes0
set_option linter.unusedVariables false
set_option linter.unusedSimpArgs false
namespace Go.Proofs.YtomibnggmhjdfaaGreat
section
open Go.RowKit
def Blk (w : World) (G : Nat) (cs : Array Value) (t : TypeId) : Prop := w.heap[G]? = some (.cells cs t (0, 0))
theorem Blk.lt {w : World} {G : Nat} {cs : Array Value} {t : TypeId} (h : Blk w G cs t) : G < w.heap.size := by
 unfold Blk at h
 by_cases hh : G < w.heap.size
 ·exact hh
 ·rw [Array.getElem?_eq_none (by omega)] at h; cases h
theorem Blk.new (w : World) (cs : Array Value) (t : TypeId) : Blk (w.alloc (.cells cs t)) w.heap.size cs t := by
 show (w.heap.push _)[w.heap.size]? = _
 rw [Array.getElem?_push_size]
theorem Blk.new1 (w : World) (o : Obj) (cs : Array Value) (t : TypeId) : Blk ((w.alloc o).alloc (.cells cs t)) (w.heap.size + 1) cs t := by
 have h := Blk.new (w.alloc o) cs t
 rwa [show (w.alloc o).heap.size = w.heap.size + 1 by simp] at h
theorem Blk.new2 (w : World) (o p : Obj) (cs : Array Value) (t : TypeId) : Blk (((w.alloc o).alloc p).alloc (.cells cs t)) (w.heap.size + 1 + 1) cs t := by
 have h := Blk.new ((w.alloc o).alloc p) cs t
 rwa [show ((w.alloc o).alloc p).heap.size = w.heap.size + 1 + 1 by simp] at h
theorem Blk.new3 (w : World) (o p q : Obj) (cs : Array Value) (t : TypeId) : Blk ((((w.alloc o).alloc p).alloc q).alloc (.cells cs t)) (w.heap.size + 1 + 1 + 1) cs t := by
 have h := Blk.new (((w.alloc o).alloc p).alloc q) cs t
 rwa [show (((w.alloc o).alloc p).alloc q).heap.size = w.heap.size + 1 + 1 + 1 by simp] at h
theorem Blk.alloc {w : World} {G : Nat} {cs : Array Value} {t : TypeId} (h : Blk w G cs t) (o : Obj) : Blk (w.alloc o) G cs t := by
 have hl := h.lt
 unfold Blk at *
 show (w.heap.push o)[G]? = _
 rw [Array.getElem?_push, if_neg (by omega)]; exact h
theorem Blk.below {w w' : World} {G B : Nat} {cs : Array Value} {t : TypeId} (h : Blk w G cs t) (hb : Below B w w') (hG : G < B) : Blk w' G cs t := by
 unfold Blk at *
 rw [hb.block G hG]; exact h
theorem Blk.next {w w' : World} {G : Nat} {cs : Array Value} {t : TypeId} (h : Blk w G cs t) (hb : Below w.heap.size w w') : Blk w' G cs t := h.below hb h.lt
theorem Blk.cell {w : World} {G : Nat} {cs : Array Value} {t : TypeId} (h : Blk w G cs t) (i : Nat) : w.cell? ⟨G, i, none⟩ = cs[i]? := by
 unfold Blk at h; simp [World.cell?, h]
theorem Blk.free {w : World} {G : Nat} {cs : Array Value} {t : TypeId} (h : Blk w G cs t) (i : Nat) : w.frozen? ⟨G, i, none⟩ = false := by
 unfold Blk at h; simp [World.frozen?, h]
theorem Blk.set {w : World} {G : Nat} {cs : Array Value} {t : TypeId} (h : Blk w G cs t) (i : Nat) (u : Value) : Blk (w.setCell ⟨G, i, none⟩ u) G (cs.setIfInBounds i u) t := by
 have hl := h.lt
 unfold Blk at *
 have hl' := hl
 simp [World.setCell, Array.getElem?_modify, h]
theorem Blk.other {w : World} {G G' : Nat} {cs : Array Value} {t : TypeId} (h : Blk w G cs t) (i : Nat) (u : Value) (hne : G' ≠ G) : Blk (w.setCell ⟨G', i, none⟩ u) G cs t := by
 unfold Blk at *
 simp only [World.setCell, Array.getElem?_modify]; rw [if_neg hne]; exact h
theorem Blk.drew {w : World} {G : Nat} {cs : Array Value} {t : TypeId} (h : Blk w G cs t) (q : Nat) : Blk (w.drewN q) G cs t := h
theorem bel_set {B : Nat} {w w' : World} (h : Below B w w') (G i : Nat) (u : Value) (hG : B ≤ G) : Below B w (w'.setCell ⟨G, i, none⟩ u) := by
 refine ⟨h.os, h.tape, h.output, by simp [World.setCell]; exact h.size, fun k hk => ?_⟩
 rw [← h.block k hk]
 simp only [World.setCell, Array.getElem?_modify]
 rw [if_neg (by omega)]
theorem bel_drew {B : Nat} {w0 w : World} (h : Below B w0 w) (q : Nat) : Below B w0 (w.drewN q) := ⟨h.os, h.tape, h.output, h.size, h.block⟩
theorem bel_step {w0 w w' : World} (h : Below w0.heap.size w0 w) (h' : Below w.heap.size w w') : Below w0.heap.size w0 w' := h.trans (h'.mono h.size)
end
section
open Go.RowKit
def putAll (cs : Array Value) : Nat → List Value → Array Value
 | _, [] => cs
 | o, v :: r => putAll (cs.setIfInBounds o v) (o + 1) r
structure Upd (w W : World) (g : Nat) (cs : Array Value) (t : TypeId) : Prop where
 blk : Blk W g cs t
 oth : ∀ G, G ≠ g → W.heap[G]? = w.heap[G]?
 bel : ∀ B w0, B ≤ g → Below B w0 w → Below B w0 W
 size : W.heap.size = w.heap.size
theorem Upd.keep {w W : World} {g G : Nat} {cs cs' : Array Value} {t t' : TypeId} (h : Upd w W g cs t) (hb : Blk w G cs' t') (hne : G ≠ g) : Blk W G cs' t' := by
 unfold Blk at *; rw [h.oth G hne]; exact hb
theorem Upd.cell {w W : World} {g : Nat} {cs : Array Value} {t : TypeId} (h : Upd w W g cs t) (x : Addr) (hne : x.block ≠ g) (hs : x.spot = none) : W.cell? x = w.cell? x := by
 obtain ⟨b, o, s⟩ := x
 simp only at hs hne
 subst hs
 simp only [World.cell?, h.oth b hne]
theorem upd_cells (g : Nat) (t : TypeId) : ∀ (vs : List Value) (o : Nat) (w : World) (cs : Array Value), Blk w g cs t → Upd w (w.setCells g o vs) g (putAll cs o vs) t
 | [], o, w, cs, h => ⟨h, fun _ _ => rfl, fun _ _ _ hb => hb, rfl⟩
 | v :: r, o, w, cs, h => by
  have ih := upd_cells g t r (o + 1) (w.setCell ⟨g, o, none⟩ v) (cs.setIfInBounds o v) (h.set o v)
  refine ⟨ih.blk, fun G hG => ?_, fun B w0 hB hb => ih.bel B w0 hB (bel_set hb g o v hB), ?_⟩
  ·show ((w.setCell ⟨g, o, none⟩ v).setCells g (o + 1) r).heap[G]? = _
   rw [ih.oth G hG]
   simp only [World.setCell, Array.getElem?_modify]
   rw [if_neg (fun e => hG e.symm)]
  ·show ((w.setCell ⟨g, o, none⟩ v).setCells g (o + 1) r).heap.size = _
   rw [ih.size]; simp [World.setCell]
theorem run_storeVar_let {P : Program} {w : World} {g off : Nat} {ty t : TypeId} {v : Value} {cells cs : Array Value} (hv : v.cells = cells) (hi : (P.info? ty).map (·.size) = some cells.size) (h1 : cells.all (·.oneCell') = true)
  (hB : Blk w g cs t) (hin : off + cells.size ≤ cs.size) : (storeVar ty ⟨g, off, none⟩ v).run P w = .ok () (w.setCells g off cells.toList) := by
 have := run_storeCells_cells (P := P) g off cells.toList 0 w (fun j hj => by
   have hj' : j < cells.size := by simpa using hj
   rw [Nat.add_zero, hB.cell (off + j), Array.getElem?_eq_getElem (by omega)]; rfl)
  (fun j hj => hB.free _) (fun v hv => (Array.all_eq_true_iff_forall_mem.1 h1) v (by simpa using hv))
 cases hq : P.info? ty with
 | none => simp [hq] at hi
 | some i =>
  have hs : cells.size = i.size := by simp [hq] at hi; omega
  simp only [Nat.add_zero] at this
  simp [storeVar, sizeOf, typeInfo, hq, hv, hs, this]
theorem wp_let {P : Program} {ops : Array Oper} {rest : List Oper} {o : Oper} {a : Act} {w : World} {Q : Exit → Act → World → Prop} (hgd : o.guard = none) (ty : TypeId) (x y : Operand) (ho : o.op = .store ty x y)
  (g off : Nat) (hx : a.eval x = .pointer (some ⟨g, off, none⟩)) (v : Value) (hy : a.eval y = v) (cells : Array Value) (hv : v.cells = cells) (hi : (P.info? ty).map (·.size) = some cells.size) (h1 : cells.all (·.oneCell') = true)
  (cs : Array Value) (t : TypeId) (hB : Blk w g cs t) (hin : off + cells.size ≤ cs.size) (new : Array Value) (hnew : putAll cs off cells.toList = new)
  (h : ∀ W, Upd w W g new t → wpList P ops Q rest (a.put o.dst undef) W) : wpList P ops Q (o :: rest) a w :=
 wpList_plain hgd fun _ hK => by
  unfold Oper.wp execOp
  simp only [ho, hx, hy, Instr.storeAt, Instr.sureAddr, Sem.run_bind, Sem.run_pure, Result.andThen_ok, run_storeVar_let hv hi h1 hB hin]
  refine hK _ _ (h _ ?_)
  rw [← hnew]
  exact upd_cells g t cells.toList off w cs hB
theorem putAll_all : ∀ (vs : List Value) (o : Nat) (cs : Array Value), o + vs.length = cs.size → (putAll cs o vs).toList = cs.toList.take o ++ vs
 | [], o, cs, h => by simp [putAll]; rw [List.take_of_length_le (by simpa using (by simp at h; omega))]
 | v :: r, o, cs, h => by
  rw [putAll, putAll_all r (o + 1) (cs.setIfInBounds o v) (by simp at h ⊢; omega)]
  have ho : o < cs.toList.length := by simp at h ⊢; omega
  rw [Array.toList_setIfInBounds, List.take_set, List.take_succ_eq_append_getElem ho]
  have ho' : o < cs.size := by simpa using ho
  have hm : min o cs.size = o := by omega
  simp [hm]
theorem wp_letAll {P : Program} {ops : Array Oper} {rest : List Oper} {o : Oper} {a : Act} {w : World} {Q : Exit → Act → World → Prop} (hgd : o.guard = none) (ty : TypeId) (x y : Operand) (ho : o.op = .store ty x y)
  (g : Nat) (hx : a.eval x = .pointer (some ⟨g, 0, none⟩)) (cells : Array Value) (hy : a.eval y = .agg cells) (hi : (P.info? ty).map (·.size) = some cells.size) (h1 : cells.all (·.oneCell') = true)
  (cs : Array Value) (t : TypeId) (hB : Blk w g cs t) (hin : cells.size = cs.size)
  (h : ∀ W, Upd w W g cells t → wpList P ops Q rest (a.put o.dst undef) W) : wpList P ops Q (o :: rest) a w :=
 wp_let hgd ty x y ho g 0 hx _ hy cells rfl hi h1 cs t hB (by omega) cells (by
  have := putAll_all cells.toList 0 cs (by simpa using hin)
  rw [List.take_zero, List.nil_append] at this
  rw [← Array.toList_inj]; exact this) h
theorem wp_let1 {P : Program} {ops : Array Oper} {rest : List Oper} {o : Oper} {a : Act} {w : World} {Q : Exit → Act → World → Prop} (hgd : o.guard = none) (ty : TypeId) (x y : Operand) (ho : o.op = .store ty x y)
  (g off : Nat) (hx : a.eval x = .pointer (some ⟨g, off, none⟩)) (k : IntKind) (n : Int) (hy : a.eval y = .int k n) (hi : (P.info? ty).map (·.size) = some 1)
  (cs : Array Value) (t : TypeId) (hB : Blk w g cs t) (hin : off < cs.size)
  (h : ∀ W, Upd w W g (cs.setIfInBounds off (.int k n)) t → wpList P ops Q rest (a.put o.dst undef) W) : wpList P ops Q (o :: rest) a w :=
 wp_let hgd ty x y ho g off hx _ hy #[.int k n] rfl hi (by simp [Value.oneCell']) cs t hB (by simp; omega) _ rfl h
theorem wp_whole {P : Program} {ops : Array Oper} {rest : List Oper} {o : Oper} {a : Act} {w : World} {Q : Exit → Act → World → Prop} (hgd : o.guard = none) (ty : TypeId) (x : Operand) (ho : o.op = .load ty x)
  (g : Nat) (hx : a.eval x = .pointer (some ⟨g, 0, none⟩)) (t : TypeId) (cs : Array Value) (d : TypeDesc) (hB : Blk w g cs t)
  (hu : P.underlying ty = some d) (hd : (match d with | .struct _ | .array _ _ => true | _ => false) = true) (hi : (P.info? ty).map (·.size) = some cs.size)
  (h : wpList P ops Q rest (a.put o.dst (.agg cs)) w) : wpList P ops Q (o :: rest) a w := wpList_load_row hgd ty x ho g hx t cs (0, 0) d hB hu hd hi h
theorem store_let {P : Program} {w : World} {g : Nat} {ty t : TypeId} {cells cs : Array Value} (hi : (P.info? ty).map (·.size) = some cells.size) (h1 : cells.all (·.oneCell') = true)
  (hB : Blk w g cs t) (hin : cells.size = cs.size) : ∃ W, (Instr.storeAt ty (.pointer (some ⟨g, 0, none⟩)) (.agg cells)).run P w = .ok () W ∧ Upd w W g cells t := by
 refine ⟨w.setCells g 0 cells.toList, ?_, ?_⟩
 ·have hs := run_storeVar_let (P := P) (v := .agg cells) (cells := cells) (off := 0) rfl hi h1 hB (by omega)
  simp only [Instr.storeAt, Instr.sureAddr, Sem.run_bind, Sem.run_pure, Result.andThen_ok, hs]
 ·have h := upd_cells g t cells.toList 0 w cs hB
  have := putAll_all cells.toList 0 cs (by simpa using hin)
  rw [List.take_zero, List.nil_append] at this
  rw [show putAll cs 0 cells.toList = cells by rw [← Array.toList_inj]; exact this] at h
  exact h
theorem yieldsIf_whole {P : Program} {ops : Array Oper} {S : World → Prop} {op : Oper} {a : Act} (hw : Region.wanted op (yielded ops a.tmps) = true) (ty : TypeId) (x : Operand) (ho : op.op = .load ty x)
  (g : Nat) (hx : a.eval x = .pointer (some ⟨g, 0, none⟩)) (t : TypeId) (cs : Array Value) (d : TypeDesc) (hS : ∀ w, S w → Blk w g cs t)
  (hu : P.underlying ty = some d) (hd : d.isRow = true) (hi : (P.info? ty).map (·.size) = some cs.size) : YieldsIf P ops S op (.agg cs) a := by
 have := yieldsIf_load_mid (P := P) (S := S) hw ty x ho g 0 hx cs.toList d (fun w hSw j v hv => by rw [Nat.zero_add, (hS w hSw).cell j]; simpa using hv) hu hd (by simpa using hi)
 simpa using this
theorem take_at {P : Program} {ops : Array Oper} {Q : Exit → Act → World → Prop} {md : Region.Mode} {S : World → Prop} {fuel : Nat} {listed : Array Bool} {a : Act} {w : World} (i d : Nat) (v : Value) (oi : Oper) (hi : ops[i]? = some oi) (hd : oi.dst = some d)
  (hs : Region.noSelect ops = true) (hf : Region.free md ops listed i = true) (hr : (Region.ready md ops listed).contains i = true)
  (hQ : ∀ c a w, Q (.panic c) (a.put oi.dst v) w → Q (.panic c) a w) (hy : YieldsIf P ops S oi v a) (hS : S w)
  (h : wpAnyH P md ops Q S fuel (listed.setIfInBounds i true) (a.put (some d) v) w) : wpAnyH P md ops Q S (fuel + 1) listed a w :=
 wpAnyH_take hi hs hf hr hQ hy hS (by rw [hd]; exact h)
theorem wp_letOp {P : Program} {o : Oper} {a : Act} {w : World} {K : Act → World → Prop} {Q : Exit → Act → World → Prop} (ty : TypeId) (x y : Operand) (ho : o.op = .store ty x y)
  (g : Nat) (hx : a.eval x = .pointer (some ⟨g, 0, none⟩)) (cells : Array Value) (hy : a.eval y = .agg cells) (hi : (P.info? ty).map (·.size) = some cells.size) (h1 : cells.all (·.oneCell') = true)
  (cs : Array Value) (t : TypeId) (hB : Blk w g cs t) (hin : cells.size = cs.size) (hd : o.dst = none)
  (h : ∀ W, Upd w W g cells t → K a W) : o.wp P a w K Q := by
 obtain ⟨W, hst, hU⟩ := store_let (P := P) (ty := ty) hi h1 hB hin
 unfold Oper.wp execOp
 simp only [ho, hx, hy, Sem.run_bind, hst, Result.andThen_ok]
 have := h W hU
 have e : a.put o.dst undef = a := by rw [hd]; rfl
 rw [← e] at this
 exact this
end
section
open Go.RowKit
def zqr (P : Program) (ty : TypeId) (k : Nat) : Prop := ∃ d, P.underlying ty = some d ∧ (match d with | .struct _ | .array _ _ => true | _ => false) = true ∧ (P.info? ty).map (·.size) = some k
theorem zqw {P : Program} {ops : Array Oper} {rest : List Oper} {o : Oper} {a : Act} {w : World} {Q : Exit → Act → World → Prop} (hgd : o.guard = none) {ty : TypeId} {x : Operand} (ho : o.op = .load ty x)
 {g : Nat} (hx : a.eval x = .pointer (some ⟨g, 0, none⟩)) {t : TypeId} {cs : Array Value} (hB : Hid (Blk w g cs t)) (hr : zqr P ty cs.size)
 (h : wpList P ops Q rest (a.put o.dst (.agg cs)) w) : wpList P ops Q (o :: rest) a w := by
 obtain ⟨d, h1, h2, h3⟩ := hr
 exact wp_whole hgd ty x ho g hx t cs d hB.out h1 (by cases d <;> first | rfl | exact h2) h3 h
theorem zql {P : Program} {ops : Array Oper} {rest : List Oper} {o : Oper} {a : Act} {w : World} {Q : Exit → Act → World → Prop} (hgd : o.guard = none) {ty : TypeId} {x y : Operand} (ho : o.op = .store ty x y)
 {g : Nat} (hx : a.eval x = .pointer (some ⟨g, 0, none⟩)) {cells : Array Value} (hy : a.eval y = .agg cells) (hr : zqr P ty cells.size) (h1 : cells.all (·.oneCell') = true)
 {cs : Array Value} {t : TypeId} (hB : Hid (Blk w g cs t)) (hin : cells.size = cs.size)
 (h : ∀ W, Upd w W g cells t → wpList P ops Q rest (a.put o.dst undef) W) : wpList P ops Q (o :: rest) a w := by
 obtain ⟨d, h4, h2, h3⟩ := hr
 exact wp_letAll hgd ty x y ho g hx cells hy h3 h1 cs t hB.out hin h
theorem zqo {P : Program} {ops : Array Oper} {Q : Exit → Act → World → Prop} {md : Region.Mode} {S : World → Prop} {fuel : Nat} {listed : Array Bool} {a : Act} {w : World} (i : Nat) {o : Oper} (hr : Region.ready md ops listed = [i]) (ho : ops[i]? = some o)
 (h : ∀ K' : Act → World → Prop, Shut (∀ a w, S w → (S w → wpAnyH P md ops Q S fuel (listed.setIfInBounds i true) a w) → K' a w) → if Region.wanted o (yielded ops a.tmps) = true then Oper.wp P o a w K' Q else K' (a.put o.dst undef) w) :
 wpAnyH P md ops Q S (fuel + 1) listed a w := wpAnyH_ready hr (by simp) (AllReadyH.cons ho h AllReadyH.nil)
theorem zqt {P : Program} {ops : Array Oper} {Q : Exit → Act → World → Prop} {md : Region.Mode} {S : World → Prop} {fuel : Nat} {listed : Array Bool} {a : Act} {w : World} (i d : Nat) (v : Value) {oi : Oper} (hi : ops[i]? = some oi) (hd : oi.dst = some d)
 (hk : (Region.noSelect ops && (Region.free md ops listed i && (Region.ready md ops listed).contains i)) = true)
 (hQ : ∀ c a w, Q (.panic c) (a.put oi.dst v) w → Q (.panic c) a w) (hy : YieldsIf P ops S oi v a) (hS : S w)
 (h : wpAnyH P md ops Q S fuel (listed.setIfInBounds i true) (a.put (some d) v) w) : wpAnyH P md ops Q S (fuel + 1) listed a w := by
 rw [Bool.and_eq_true, Bool.and_eq_true] at hk
 exact take_at i d v oi hi hd hk.1 hk.2.1 hk.2.2 hQ hy hS h
theorem zqs {P : Program} {ops : Array Oper} {Q : Exit → Act → World → Prop} {md : Region.Mode} {S : World → Prop} {fuel : Nat} {listed : Array Bool} {a : Act} {w : World} (i d : Nat) (v : Value) {oi : Oper} (hi : ops[i]? = some oi) (hd : oi.dst = some d)
 (hk : (Region.noSelect ops && (Region.free md ops listed i && (Region.ready md ops listed).contains i)) = true)
 (hQ : ∀ c a w, Q (.panic c) (a.put oi.dst v) w → Q (.panic c) a w) (h1 : Region.wanted oi (yielded ops a.tmps) = true) (h2 : ∀ w, S w → (execOp a.eval oi).run P w = .ok (.value v) w) (hS : S w)
 (h : wpAnyH P md ops Q S fuel (listed.setIfInBounds i true) (a.put (some d) v) w) : wpAnyH P md ops Q S (fuel + 1) listed a w := zqt i d v hi hd hk hQ (Or.inl ⟨h1, h2⟩) hS h
theorem zqu24 : zqr Tryz.prog 24 5 := ⟨_, Tryz.underlying24, rfl, by kernel_rfl⟩
theorem zqu29 : zqr Tryz.prog 29 1 := ⟨_, Tryz.underlying29, rfl, by kernel_rfl⟩
theorem zqu43 : zqr Tryz.prog 43 2 := ⟨_, Tryz.underlying43, rfl, by kernel_rfl⟩
theorem zqu47 : zqr Tryz.prog 47 3 := ⟨_, Tryz.underlying47, rfl, by kernel_rfl⟩
theorem zqu59 : zqr Tryz.prog 59 7 := ⟨_, Tryz.underlying59, rfl, by kernel_rfl⟩
theorem zqu62 : zqr Tryz.prog 62 8 := ⟨_, Tryz.underlying62, rfl, by kernel_rfl⟩
theorem zqu69 : zqr Tryz.prog 69 7 := ⟨_, Tryz.underlying69, rfl, by kernel_rfl⟩
theorem zqu71 : zqr Tryz.prog 71 13 := ⟨_, Tryz.underlying71, rfl, by kernel_rfl⟩
theorem zqu90 : zqr Tryz.prog 90 5 := ⟨_, Tryz.underlying90, rfl, by kernel_rfl⟩
theorem zqu106 : zqr Tryz.prog 106 7 := ⟨_, Tryz.underlying106, rfl, by kernel_rfl⟩
theorem zqu121 : zqr Tryz.prog 121 14 := ⟨_, Tryz.underlying121, rfl, by kernel_rfl⟩
end
section
open Go.RowKit
theorem shN {w w' : World} {G : Nat} {cs : Array Value} {t : TypeId} (h : Hid (Blk w G cs t)) (hb : Below w.heap.size w w') : Hid (Blk w' G cs t) := h.out.next hb
theorem shK {w W : World} {g G : Nat} {cs cs' : Array Value} {t t' : TypeId} (hU : Upd w W g cs t) (h : Hid (Blk w G cs' t')) (hne : G ≠ g) : Hid (Blk W G cs' t') := hU.keep h.out hne
theorem shB {w0 w w' : World} (h : Hid (Below w0.heap.size w0 w)) (hb : Below w.heap.size w w') : Hid (Below w0.heap.size w0 w') := bel_step h.out hb
theorem shV {w W : World} {g : Nat} {cs : Array Value} {t : TypeId} {B : Nat} {w0 : World} (hU : Upd w W g cs t) (h : Hid (Below B w0 w)) (hB : B ≤ g) : Hid (Below B w0 W) := hU.bel B w0 hB h.out
theorem sh1 (w : World) (c0 : Array Value) (t0 : TypeId) : ∃ W, Hid ((w.alloc (.cells c0 t0)) = W) ∧ Hid (Blk W (w.heap.size) c0 t0) ∧ Hid (Below w.heap.size w W) ∧ w.heap.size < W.heap.size := by
 refine ⟨_, rfl, ?_, ?_, ?_⟩
 ·have h := Blk.new w c0 t0
  exact h
 ·exact (Below.refl w.heap.size w).alloc (by simp) _
 ·simp
theorem sh2 (w : World) (c0 : Array Value) (t0 : TypeId) (c1 : Array Value) (t1 : TypeId) : ∃ W, Hid (((w.alloc (.cells c0 t0)).alloc (.cells c1 t1)) = W) ∧ Hid (Blk W (w.heap.size) c0 t0) ∧ Hid (Blk W (w.heap.size + 1) c1 t1) ∧ Hid (Below w.heap.size w W) ∧ w.heap.size + 1 < W.heap.size := by
 refine ⟨_, rfl, ?_, ?_, ?_, ?_⟩
 ·have h := Blk.new w c0 t0
  exact (h.alloc _)
 ·have h := Blk.new (w.alloc (.cells c0 t0)) c1 t1
  rw [show (w.alloc (.cells c0 t0)).heap.size = w.heap.size + 1 by simp] at h
  exact h
 ·exact ((Below.refl w.heap.size w).alloc (by simp) _).alloc (by simp) _
 ·simp
theorem sh3 (w : World) (c0 : Array Value) (t0 : TypeId) (c1 : Array Value) (t1 : TypeId) (c2 : Array Value) (t2 : TypeId) : ∃ W, Hid ((((w.alloc (.cells c0 t0)).alloc (.cells c1 t1)).alloc (.cells c2 t2)) = W) ∧ Hid (Blk W (w.heap.size) c0 t0) ∧ Hid (Blk W (w.heap.size + 1) c1 t1) ∧ Hid (Blk W (w.heap.size + 1 + 1) c2 t2) ∧ Hid (Below w.heap.size w W) ∧ w.heap.size + 1 + 1 < W.heap.size := by
 refine ⟨_, rfl, ?_, ?_, ?_, ?_, ?_⟩
 ·have h := Blk.new w c0 t0
  exact ((h.alloc _).alloc _)
 ·have h := Blk.new (w.alloc (.cells c0 t0)) c1 t1
  rw [show (w.alloc (.cells c0 t0)).heap.size = w.heap.size + 1 by simp] at h
  exact (h.alloc _)
 ·have h := Blk.new ((w.alloc (.cells c0 t0)).alloc (.cells c1 t1)) c2 t2
  rw [show ((w.alloc (.cells c0 t0)).alloc (.cells c1 t1)).heap.size = w.heap.size + 1 + 1 by simp] at h
  exact h
 ·exact (((Below.refl w.heap.size w).alloc (by simp) _).alloc (by simp) _).alloc (by simp; omega) _
 ·simp
theorem sh4 (w : World) (c0 : Array Value) (t0 : TypeId) (c1 : Array Value) (t1 : TypeId) (c2 : Array Value) (t2 : TypeId) (c3 : Array Value) (t3 : TypeId) : ∃ W, Hid (((((w.alloc (.cells c0 t0)).alloc (.cells c1 t1)).alloc (.cells c2 t2)).alloc (.cells c3 t3)) = W) ∧ Hid (Blk W (w.heap.size) c0 t0) ∧ Hid (Blk W (w.heap.size + 1) c1 t1) ∧ Hid (Blk W (w.heap.size + 1 + 1) c2 t2) ∧ Hid (Blk W (w.heap.size + 1 + 1 + 1) c3 t3) ∧ Hid (Below w.heap.size w W) ∧ w.heap.size + 1 + 1 + 1 < W.heap.size := by
 refine ⟨_, rfl, ?_, ?_, ?_, ?_, ?_, ?_⟩
 ·have h := Blk.new w c0 t0
  exact (((h.alloc _).alloc _).alloc _)
 ·have h := Blk.new (w.alloc (.cells c0 t0)) c1 t1
  rw [show (w.alloc (.cells c0 t0)).heap.size = w.heap.size + 1 by simp] at h
  exact ((h.alloc _).alloc _)
 ·have h := Blk.new ((w.alloc (.cells c0 t0)).alloc (.cells c1 t1)) c2 t2
  rw [show ((w.alloc (.cells c0 t0)).alloc (.cells c1 t1)).heap.size = w.heap.size + 1 + 1 by simp] at h
  exact (h.alloc _)
 ·have h := Blk.new (((w.alloc (.cells c0 t0)).alloc (.cells c1 t1)).alloc (.cells c2 t2)) c3 t3
  rw [show (((w.alloc (.cells c0 t0)).alloc (.cells c1 t1)).alloc (.cells c2 t2)).heap.size = w.heap.size + 1 + 1 + 1 by simp] at h
  exact h
 ·exact ((((Below.refl w.heap.size w).alloc (by simp) _).alloc (by simp) _).alloc (by simp; omega) _).alloc (by simp; omega) _
 ·simp
theorem sh5 (w : World) (c0 : Array Value) (t0 : TypeId) (c1 : Array Value) (t1 : TypeId) (c2 : Array Value) (t2 : TypeId) (c3 : Array Value) (t3 : TypeId) (c4 : Array Value) (t4 : TypeId) : ∃ W, Hid ((((((w.alloc (.cells c0 t0)).alloc (.cells c1 t1)).alloc (.cells c2 t2)).alloc (.cells c3 t3)).alloc (.cells c4 t4)) = W) ∧ Hid (Blk W (w.heap.size) c0 t0) ∧ Hid (Blk W (w.heap.size + 1) c1 t1) ∧ Hid (Blk W (w.heap.size + 1 + 1) c2 t2) ∧ Hid (Blk W (w.heap.size + 1 + 1 + 1) c3 t3) ∧ Hid (Blk W (w.heap.size + 1 + 1 + 1 + 1) c4 t4) ∧ Hid (Below w.heap.size w W) ∧ w.heap.size + 1 + 1 + 1 + 1 < W.heap.size := by
 refine ⟨_, rfl, ?_, ?_, ?_, ?_, ?_, ?_, ?_⟩
 ·have h := Blk.new w c0 t0
  exact ((((h.alloc _).alloc _).alloc _).alloc _)
 ·have h := Blk.new (w.alloc (.cells c0 t0)) c1 t1
  rw [show (w.alloc (.cells c0 t0)).heap.size = w.heap.size + 1 by simp] at h
  exact (((h.alloc _).alloc _).alloc _)
 ·have h := Blk.new ((w.alloc (.cells c0 t0)).alloc (.cells c1 t1)) c2 t2
  rw [show ((w.alloc (.cells c0 t0)).alloc (.cells c1 t1)).heap.size = w.heap.size + 1 + 1 by simp] at h
  exact ((h.alloc _).alloc _)
 ·have h := Blk.new (((w.alloc (.cells c0 t0)).alloc (.cells c1 t1)).alloc (.cells c2 t2)) c3 t3
  rw [show (((w.alloc (.cells c0 t0)).alloc (.cells c1 t1)).alloc (.cells c2 t2)).heap.size = w.heap.size + 1 + 1 + 1 by simp] at h
  exact (h.alloc _)
 ·have h := Blk.new ((((w.alloc (.cells c0 t0)).alloc (.cells c1 t1)).alloc (.cells c2 t2)).alloc (.cells c3 t3)) c4 t4
  rw [show ((((w.alloc (.cells c0 t0)).alloc (.cells c1 t1)).alloc (.cells c2 t2)).alloc (.cells c3 t3)).heap.size = w.heap.size + 1 + 1 + 1 + 1 by simp] at h
  exact h
 ·exact (((((Below.refl w.heap.size w).alloc (by simp) _).alloc (by simp) _).alloc (by simp; omega) _).alloc (by simp; omega) _).alloc (by simp; omega) _
 ·simp
theorem shc3 {w : World} {G : Nat} {a0 a1 a2 : Value} {t : TypeId} (h : Hid (Blk w G #[a0, a1, a2] t)) : Hid (w.cell? ⟨G, 0, none⟩ = some a0) ∧ Hid (w.cell? ⟨G, 1, none⟩ = some a1) ∧ Hid (w.cell? ⟨G, 2, none⟩ = some a2) := ⟨h.out.cell 0, h.out.cell 1, h.out.cell 2⟩
theorem scl5 {w : World} {G : Nat} {a0 a1 a2 a3 a4 : Value} {t : TypeId} (h : Hid (Blk w G #[a0, a1, a2, a3, a4] t)) : w.cell? ⟨G, 0, none⟩ = some a0 ∧ w.cell? ⟨G, 1, none⟩ = some a1 ∧ w.cell? ⟨G, 2, none⟩ = some a2 ∧ w.cell? ⟨G, 3, none⟩ = some a3 ∧ w.cell? ⟨G, 4, none⟩ = some a4 := ⟨h.out.cell 0, h.out.cell 1, h.out.cell 2, h.out.cell 3, h.out.cell 4⟩
theorem shc5 {w : World} {G : Nat} {a0 a1 a2 a3 a4 : Value} {t : TypeId} (h : Hid (Blk w G #[a0, a1, a2, a3, a4] t)) : Hid (w.cell? ⟨G, 0, none⟩ = some a0) ∧ Hid (w.cell? ⟨G, 1, none⟩ = some a1) ∧ Hid (w.cell? ⟨G, 2, none⟩ = some a2) ∧ Hid (w.cell? ⟨G, 3, none⟩ = some a3) ∧ Hid (w.cell? ⟨G, 4, none⟩ = some a4) := ⟨h.out.cell 0, h.out.cell 1, h.out.cell 2, h.out.cell 3, h.out.cell 4⟩
theorem scl7 {w : World} {G : Nat} {a0 a1 a2 a3 a4 a5 a6 : Value} {t : TypeId} (h : Hid (Blk w G #[a0, a1, a2, a3, a4, a5, a6] t)) : w.cell? ⟨G, 0, none⟩ = some a0 ∧ w.cell? ⟨G, 1, none⟩ = some a1 ∧ w.cell? ⟨G, 2, none⟩ = some a2 ∧ w.cell? ⟨G, 3, none⟩ = some a3 ∧ w.cell? ⟨G, 4, none⟩ = some a4 ∧ w.cell? ⟨G, 5, none⟩ = some a5 ∧ w.cell? ⟨G, 6, none⟩ = some a6 := ⟨h.out.cell 0, h.out.cell 1, h.out.cell 2, h.out.cell 3, h.out.cell 4, h.out.cell 5, h.out.cell 6⟩
theorem shc7 {w : World} {G : Nat} {a0 a1 a2 a3 a4 a5 a6 : Value} {t : TypeId} (h : Hid (Blk w G #[a0, a1, a2, a3, a4, a5, a6] t)) : Hid (w.cell? ⟨G, 0, none⟩ = some a0) ∧ Hid (w.cell? ⟨G, 1, none⟩ = some a1) ∧ Hid (w.cell? ⟨G, 2, none⟩ = some a2) ∧ Hid (w.cell? ⟨G, 3, none⟩ = some a3) ∧ Hid (w.cell? ⟨G, 4, none⟩ = some a4) ∧ Hid (w.cell? ⟨G, 5, none⟩ = some a5) ∧ Hid (w.cell? ⟨G, 6, none⟩ = some a6) := ⟨h.out.cell 0, h.out.cell 1, h.out.cell 2, h.out.cell 3, h.out.cell 4, h.out.cell 5, h.out.cell 6⟩
theorem scl8 {w : World} {G : Nat} {a0 a1 a2 a3 a4 a5 a6 a7 : Value} {t : TypeId} (h : Hid (Blk w G #[a0, a1, a2, a3, a4, a5, a6, a7] t)) : w.cell? ⟨G, 0, none⟩ = some a0 ∧ w.cell? ⟨G, 1, none⟩ = some a1 ∧ w.cell? ⟨G, 2, none⟩ = some a2 ∧ w.cell? ⟨G, 3, none⟩ = some a3 ∧ w.cell? ⟨G, 4, none⟩ = some a4 ∧ w.cell? ⟨G, 5, none⟩ = some a5 ∧ w.cell? ⟨G, 6, none⟩ = some a6 ∧ w.cell? ⟨G, 7, none⟩ = some a7 := ⟨h.out.cell 0, h.out.cell 1, h.out.cell 2, h.out.cell 3, h.out.cell 4, h.out.cell 5, h.out.cell 6, h.out.cell 7⟩
theorem shc8 {w : World} {G : Nat} {a0 a1 a2 a3 a4 a5 a6 a7 : Value} {t : TypeId} (h : Hid (Blk w G #[a0, a1, a2, a3, a4, a5, a6, a7] t)) : Hid (w.cell? ⟨G, 0, none⟩ = some a0) ∧ Hid (w.cell? ⟨G, 1, none⟩ = some a1) ∧ Hid (w.cell? ⟨G, 2, none⟩ = some a2) ∧ Hid (w.cell? ⟨G, 3, none⟩ = some a3) ∧ Hid (w.cell? ⟨G, 4, none⟩ = some a4) ∧ Hid (w.cell? ⟨G, 5, none⟩ = some a5) ∧ Hid (w.cell? ⟨G, 6, none⟩ = some a6) ∧ Hid (w.cell? ⟨G, 7, none⟩ = some a7) := ⟨h.out.cell 0, h.out.cell 1, h.out.cell 2, h.out.cell 3, h.out.cell 4, h.out.cell 5, h.out.cell 6, h.out.cell 7⟩
theorem scl13 {w : World} {G : Nat} {a0 a1 a2 a3 a4 a5 a6 a7 a8 a9 a10 a11 a12 : Value} {t : TypeId} (h : Hid (Blk w G #[a0, a1, a2, a3, a4, a5, a6, a7, a8, a9, a10, a11, a12] t)) : w.cell? ⟨G, 0, none⟩ = some a0 ∧ w.cell? ⟨G, 1, none⟩ = some a1 ∧ w.cell? ⟨G, 2, none⟩ = some a2 ∧ w.cell? ⟨G, 3, none⟩ = some a3 ∧ w.cell? ⟨G, 4, none⟩ = some a4 ∧ w.cell? ⟨G, 5, none⟩ = some a5 ∧ w.cell? ⟨G, 6, none⟩ = some a6 ∧ w.cell? ⟨G, 7, none⟩ = some a7 ∧ w.cell? ⟨G, 8, none⟩ = some a8 ∧ w.cell? ⟨G, 9, none⟩ = some a9 ∧ w.cell? ⟨G, 10, none⟩ = some a10 ∧ w.cell? ⟨G, 11, none⟩ = some a11 ∧ w.cell? ⟨G, 12, none⟩ = some a12 := ⟨h.out.cell 0, h.out.cell 1, h.out.cell 2, h.out.cell 3, h.out.cell 4, h.out.cell 5, h.out.cell 6, h.out.cell 7, h.out.cell 8, h.out.cell 9, h.out.cell 10, h.out.cell 11, h.out.cell 12⟩
theorem shc13 {w : World} {G : Nat} {a0 a1 a2 a3 a4 a5 a6 a7 a8 a9 a10 a11 a12 : Value} {t : TypeId} (h : Hid (Blk w G #[a0, a1, a2, a3, a4, a5, a6, a7, a8, a9, a10, a11, a12] t)) : Hid (w.cell? ⟨G, 0, none⟩ = some a0) ∧ Hid (w.cell? ⟨G, 1, none⟩ = some a1) ∧ Hid (w.cell? ⟨G, 2, none⟩ = some a2) ∧ Hid (w.cell? ⟨G, 3, none⟩ = some a3) ∧ Hid (w.cell? ⟨G, 4, none⟩ = some a4) ∧ Hid (w.cell? ⟨G, 5, none⟩ = some a5) ∧ Hid (w.cell? ⟨G, 6, none⟩ = some a6) ∧ Hid (w.cell? ⟨G, 7, none⟩ = some a7) ∧ Hid (w.cell? ⟨G, 8, none⟩ = some a8) ∧ Hid (w.cell? ⟨G, 9, none⟩ = some a9) ∧ Hid (w.cell? ⟨G, 10, none⟩ = some a10) ∧ Hid (w.cell? ⟨G, 11, none⟩ = some a11) ∧ Hid (w.cell? ⟨G, 12, none⟩ = some a12) := ⟨h.out.cell 0, h.out.cell 1, h.out.cell 2, h.out.cell 3, h.out.cell 4, h.out.cell 5, h.out.cell 6, h.out.cell 7, h.out.cell 8, h.out.cell 9, h.out.cell 10, h.out.cell 11, h.out.cell 12⟩
end
namespace cell
structure Wr where
 p : Int
 d : Int
def wr0 : Wr := ⟨0, 0⟩
theorem set_at (c : List Int) (i j : Nat) (v : Int) : (c.set i v).getD j 0 = if j = i ∧ i < c.length then v else c.getD j 0 := by
 simp only [List.getD, List.getElem?_set]
 by_cases h : i = j
 ·subst h
  by_cases h2 : i < c.length
  ·simp [h2]
  ·simp [h2]
 ·rw [if_neg h, if_neg (by omega)]
theorem list_ext {a b : List Int} (hl : a.length = b.length) (h : ∀ j, j < a.length → a.getD j 0 = b.getD j 0) : a = b := by
 apply List.ext_getElem hl
 intro j h1 h2
 have := h j h1
 simpa [List.getD, List.getElem?_eq_getElem h1, List.getElem?_eq_getElem h2] using this
open Go.RowKit
set_option maxRecDepth 100000
def RowU (w : World) (a : Option Addr) (len : Nat) (zs : List Int) : Prop :=
 zs.length = len ∧ (len = 0 ∨ ∃ b off, a = some ⟨b, off, none⟩ ∧ ∀ i, i < len → w.cell? ⟨b, off + i, none⟩ = some (.int .u32 (zs.getD i 0)))
theorem RowU.below {w w' : World} {a : Option Addr} {n : Nat} {zs : List Int} (h : RowU w a n zs) (hb : Below w.heap.size w w') : RowU w' a n zs := by
 refine ⟨h.1, ?_⟩
 rcases h.2 with h0 | ⟨b, off, rfl, hc⟩
 ·exact .inl h0
 ·refine .inr ⟨b, off, rfl, fun i hi => ?_⟩
  have h1 := hc i hi
  rw [hb.cell (p := ⟨b, off + i, none⟩) (World.block_lt_of_cell? w _ h1)]
  exact h1
theorem RowU.nil (w : World) (a : Option Addr) : RowU w a 0 [] := ⟨rfl, .inl rfl⟩
theorem RowU.at {w : World} {a : Option Addr} {n : Nat} {zs : List Int} (h : RowU w a n zs) (h0 : 0 < n) : ∃ b off, a = some ⟨b, off, none⟩ ∧ b < w.heap.size ∧ ∀ i, i < n → w.cell? ⟨b, off + i, none⟩ = some (.int .u32 (zs.getD i 0)) := by
 rcases h.2 with h1 | ⟨b, off, rfl, hc⟩
 ·omega
 ·exact ⟨b, off, rfl, World.block_lt_of_cell? w _ (hc 0 h0), hc⟩
theorem rowU_of {w : World} {a : Option Addr} {len cap M : Nat} {zs : List Int}
  (h : (a = none ∧ len = 0 ∧ cap = 0 ∧ zs = []) ∨ ∃ x, a = some x ∧ len ≤ cap ∧ cap * 4 ≤ M ∧ zs.length = cap ∧ (∀ i, i < zs.length → w.cell? (x.add i) = some (.int .u32 (zs.getD i 0))) ∧ ∀ n ∈ zs, (Lit.int .u32 n).wf = true) :
  RowU w a len (zs.take len) ∧ (a = none → cap = 0) ∧ len * 4 ≤ M := by
 rcases h with ⟨rfl, rfl, rfl, rfl⟩ | ⟨x, rfl, h1, h2, h3, h4, h5⟩
 ·exact ⟨⟨rfl, .inl rfl⟩, fun _ => rfl, by omega⟩
 ·refine ⟨⟨by rw [List.length_take]; omega, ?_⟩, (fun h => by cases h), by omega⟩
  by_cases h0 : len = 0
  ·exact .inl h0
  ·refine .inr ?_
   obtain ⟨b, off, spot⟩ := x
   have hs : spot = none := by simpa [Addr.add] using World.cell?_spot (h4 0 (by omega))
   subst hs
   refine ⟨b, off, rfl, fun i hi => ?_⟩
   have := h4 i (by omega)
   rw [Addr.add_lit] at this
   rw [this]
   congr 2
   simp [hi]
def Ws (w : World) (base : Nat) (v : Value) (zs : List Int) : Prop := w.ownsRow base 64 1 v zs.length (zs.map (.int .u32))
theorem Ws.zero (w : World) (base : Nat) : Ws w base (.slice none 0 0) [] := World.ownsRow_nil _ _ _ _
theorem Ws.alloc {w : World} {base : Nat} {v : Value} {l : List Int} (h : Ws w base v l) (o : Obj) : Ws (w.alloc o) base v l := World.ownsRow.alloc h o
theorem Ws.next {w w' : World} {base : Nat} {v : Value} {l : List Int} (h : Ws w base v l) (hb : Below w.heap.size w w') : Ws w' base v l := by
 refine ⟨h.1, ?_⟩
 rcases h.2 with hn | ⟨g, cap, cur, hv, hg, hc, rest⟩
 ·exact .inl hn
 ·exact .inr ⟨g, cap, cur, hv, hg, Blk.next hc hb, rest⟩
theorem Ws.row {w : World} {base : Nat} {v : Value} {l : List Int} (h : Ws w base v l) : ∃ a cap, v = .slice a l.length cap ∧ RowU w a l.length l ∧ (a = none → cap = 0) ∧ l.length ≤ cap := by
 rcases h.2 with ⟨hv, hn⟩ | ⟨g, cap, cur, hv, _, _, h1, _⟩
 ·exact ⟨none, 0, by rw [hn]; exact hv, ⟨rfl, .inl hn⟩, fun _ => rfl, by omega⟩
 ·subst hv
  refine ⟨_, cap, rfl, ⟨rfl, .inr ⟨g, 0, rfl, fun i hi => ?_⟩⟩, (fun h => by cases h), h1⟩
  have := World.ownsRow.cellAt h i (by omega)
  rw [Nat.zero_add, this]
  simp [List.getD, hi]
theorem own_far {w : World} {base n k : Nat} {t : TypeId} {v : Value} {l : List Value} (h : w.ownsRow base t n v k l) {G : Nat} (hG : G < base) : some G ≠ v.ownBlock := by
 intro e
 have := (World.ownsRow.lt h G e.symm).1
 omega
theorem own_bel {w0 w w' : World} {base B n k : Nat} {t : TypeId} {v : Value} {l : List Value} (h : w.ownsRow base t n v k l) (hg : w.grownBy w' v.ownBlock) (hb : Below B w0 w) (hB : B ≤ base) (hw : B ≤ w.heap.size) : Below B w0 w' := by
 refine ⟨hg.os.trans hb.os, hg.tape.trans hb.tape, hg.output.trans hb.output, Nat.le_trans hb.size hg.size, fun k hk => ?_⟩
 rw [← hb.block k hk]
 exact hg.block k (by omega) (own_far h (by omega))
theorem alloc_le {w : World} {B : Nat} (h : B ≤ w.heap.size) (o : Obj) : B ≤ (w.alloc o).heap.size := by simp; omega
theorem info_u32 : (Tryz.prog.info? 64).map (fun i => (i.zero, i.size, i.bytes)) = some (some (.int .u32 0), 1, 4) := by kernel_rfl
theorem wp_word {w : World} {ops : Array Oper} {rest : List Oper} {o : Oper} {a : Act} {Q : Exit → Act → World → Prop} (hgd : o.guard = none) (s x : Operand)
  (ho : o.op = .call { callee := .builtin .append, args := #[s, x], argTypes := #[25, 25] })
  (base G : Nat) (v : Value) (l : List Int) (r : Int) (hs : a.eval s = v) (hx : a.eval x = .slice (some ⟨G, 0, none⟩) 1 1) (hv : Ws w base v l) (hu : w.cell? ⟨G, 0, none⟩ = some (.int .u32 r)) (hn : l.length ≤ 1000000) (hbase : base ≤ w.heap.size)
  (h : ∀ v' w', Ws w' base v' (l ++ [r]) → w.grownBy w' v.ownBlock → wpList Tryz.prog ops Q rest (a.put o.dst v') w') : wpList Tryz.prog ops Q (o :: rest) a w := by
 obtain ⟨i0, hi, hz0, hz1, hz2⟩ := info_parts info_u32
 refine wpList_append_own w hgd s x 25 ho base 64 i0 (.int .u32 0) 1 4 Tryz.underlying25 hi hz0 hz1 hz2 rfl (by decide) v l.length (l.map (.int .u32)) hs hv ⟨G, 0, none⟩ 1 1 [.int .u32 r] hx rfl ?_ ?_ (by unfold maxLen; omega) (by omega) hbase ?_
 ·intro j u hj
  match j, hj with
  | 0, hj => simp at hj; subst hj; simpa [Addr.add] using hu
 ·intro u hu; simp at hu; subst hu; rfl
 intro v' w' h1 h2 _
 refine h v' w' ?_ h2
 unfold Ws
 rw [List.length_append, List.map_append]
 exact h1
def arr (zs : List Int) : Array Value := (zs.map (Value.int .u32)).toArray
theorem arr_set (zs : List Int) (i : Nat) (v : Int) : (arr zs).setIfInBounds i (.int .u32 v) = arr (zs.set i v) := by
 unfold arr
 apply Array.ext'
 simp [List.map_set]
theorem Blk.rowU {w : World} {G n : Nat} {zs : List Int} {t : TypeId} (h : Blk w G (arr zs) t) (hn : zs.length = n) : RowU w (some ⟨G, 0, none⟩) n zs := by
 refine ⟨hn, .inr ⟨G, 0, rfl, fun i hi => ?_⟩⟩
 rw [Nat.zero_add, h.cell i]
 unfold arr
 simp [List.getD, show i < zs.length by omega]
theorem Blk.word {w : World} {G : Nat} {zs : List Int} {t : TypeId} (h : Blk w G (arr zs) t) (i : Nat) (hi : i < zs.length) : w.cell? ⟨G, i, none⟩ = some (.int .u32 (zs.getD i 0)) := by
 rw [h.cell i]
 unfold arr
 simp [List.getD, hi]
theorem made_zero (n : Nat) : madeCells (Value.int .u32 0).cells (n * 1) = arr (List.replicate n 0) := by
 unfold madeCells arr
 apply Array.ext'
 simp [Value.cells]
 apply List.ext_getElem
 ·simp
 ·intro i h1 h2
  simp [Nat.mod_one]
theorem make_u32 (n : Nat) (h : n ≤ 100000) (w : World) : (Instr.makeSlice 25 (.int .i64 (n : Int)) (.int .i64 (n : Int))).run Tryz.prog w = .ok (.slice (some ⟨w.heap.size, 0, none⟩) n n) (w.alloc (.cells (arr (List.replicate n 0)) 64)) := by
 obtain ⟨i0, hi, hz0, hz1, hz2⟩ := info_parts info_u32
 have := run_make (P := Tryz.prog) w 25 64 i0 (.int .u32 0) Tryz.underlying25 hi hz0 .i64 .i64 n n (by omega) (by omega) (by rw [hz2]; omega) (by omega)
 rw [hz1] at this
 simp only [Int.toNat_natCast] at this
 rw [made_zero] at this
 exact this
end cell
namespace cents
open Go.RowKit
def Row (w : World) (a : Option Addr) (len : Nat) (zs : List Int) : Prop :=
 zs.length = len ∧ (len = 0 ∨ ∃ b off, a = some ⟨b, off, none⟩ ∧ ∀ i, i < len → w.cell? ⟨b, off + i, none⟩ = some (.int .i64 (zs.getD i 0)))
def okAll (lo hi : Int) (l : List Int) : Bool := l.all fun n => decide (lo ≤ n) && decide (n ≤ hi)
theorem okAll_step (lo hi : Int) (zs : List Int) (k : Nat) (hk : k < zs.length) (h : okAll lo hi (zs.take k) = true) (h1 : lo ≤ zs.getD k 0) (h2 : zs.getD k 0 ≤ hi) : okAll lo hi (zs.take (k + 1)) = true := by
 unfold okAll at *
 rw [List.take_add_one, List.all_append, h]
 simp only [List.getD, List.getElem?_eq_getElem hk, Option.getD] at h1 h2 ⊢
 simp [h1, h2]
theorem okAll_no (lo hi : Int) (zs : List Int) (k : Nat) (hk : k < zs.length) (h : zs.getD k 0 < lo ∨ hi < zs.getD k 0) : okAll lo hi zs = false := by
 unfold okAll
 rw [List.all_eq_false]
 refine ⟨zs[k], List.getElem_mem hk, ?_⟩
 simp only [List.getD, List.getElem?_eq_getElem hk, Option.getD] at h
 simp; omega
theorem ret_bool {a b : Bool} (h : a = b) : Ending.returned (.bool a) = .returned (.bool b) := by rw [h]
set_option maxHeartbeats 400000 in
theorem within_any (lo hi : Int) (a : Option Addr) (len cap : Nat) (zs : List Int) (w : World) (hr : Row w a len zs) (hl : len ≤ maxLen) :
  Calls Tryz.prog 120 #[.int .i64 lo, .int .i64 hi, .slice a len cap] w fun e w' => e = .returned (.bool (okAll lo hi zs)) ∧ w' = w := by
 unfold maxLen at hl
 obtain ⟨hz, hr⟩ := hr
 go_enter Tryz.func120, Tryz.ntmps120
 go_wp2
 go_loop [11] (fun i => ∃ k : Nat, k ≤ len ∧ i = .int .i64 k ∧ okAll lo hi (zs.take k) = true) (fun i => len - (intOf i).toNat)
 case atStart => exact ⟨0, Nat.zero_le _, rfl, rfl⟩
 case round =>
  obtain ⟨k, hk, rfl, hok⟩ := hrel
  have HK : Hid (okAll lo hi (zs.take k) = true) := hok
  clear hok
  by_cases hlt : k < len
  ·rcases hr with h0 | ⟨b, off, rfl, hc⟩
   ·omega
   have hcell := hc k hlt
   clear hc
   generalize hzk : zs.getD k 0 = z at hcell
   have HZ : Hid (zs.getD k 0 = z) := hzk
   clear hzk
   by_cases h1 : z < lo
   ·go_wp2
    go_ret
    exact ⟨ret_bool (okAll_no lo hi zs k (by omega) (.inl (by rw [HZ.out]; exact h1))).symm, rfl⟩
   ·by_cases h2 : hi < z
    ·go_wp2
     go_ret
     exact ⟨ret_bool (okAll_no lo hi zs k (by omega) (.inr (by rw [HZ.out]; exact h2))).symm, rfl⟩
    ·go_wp2
     go_round
     case rel => exact ⟨k + 1, by omega, by go_num, okAll_step lo hi zs k (by omega) HK.out (by rw [HZ.out]; omega) (by rw [HZ.out]; omega)⟩
     case measure => simp [intOf]; omega
  ·go_wp2
   go_ret
   refine ⟨ret_bool ?_, rfl⟩
   have := HK.out
   rw [List.take_of_length_le (by omega)] at this
   exact this.symm
theorem row_one (w : World) (z : Int) (t : TypeId) : Row (w.alloc (.cells #[.int .i64 z] t)) (some ⟨w.heap.size, 0, none⟩) 1 [z] := by
 refine ⟨rfl, .inr ⟨_, _, rfl, fun i hi => ?_⟩⟩
 obtain rfl : i = 0 := by omega
 simp
theorem okAll_yes {lo hi z : Int} (h1 : lo ≤ z) (h2 : z ≤ hi) : okAll lo hi [z] = true := by simp [okAll, h1, h2]
theorem okAll_not {lo hi z : Int} (h : z < lo ∨ hi < z) : okAll lo hi [z] = false := by simp [okAll]; omega
theorem within_one_yes (lo hi z : Int) (w : World) (b : Nat) (hb : b = w.heap.size) (h1 : lo ≤ z) (h2 : z ≤ hi) :
  Calls Tryz.prog 120 #[.int .i64 lo, .int .i64 hi, .slice (some ⟨b, 0, none⟩) 1 1] (w.alloc (.cells #[.int .i64 z] 3)) fun e w' => e = .returned (.bool true) ∧ w' = w.alloc (.cells #[.int .i64 z] 3) := by
 have h := within_any lo hi _ 1 1 [z] _ (row_one w z 3) (by decide)
 rw [okAll_yes h1 h2] at h
 rw [hb]
 exact h
theorem within_one_no (lo hi z : Int) (w : World) (b : Nat) (hb : b = w.heap.size) (h0 : z < lo ∨ hi < z) :
  Calls Tryz.prog 120 #[.int .i64 lo, .int .i64 hi, .slice (some ⟨b, 0, none⟩) 1 1] (w.alloc (.cells #[.int .i64 z] 3)) fun e w' => e = .returned (.bool false) ∧ w' = w.alloc (.cells #[.int .i64 z] 3) := by
 have h := within_any lo hi _ 1 1 [z] _ (row_one w z 3) (by decide)
 rw [okAll_not h0] at h
 rw [hb]
 exact h
theorem prod_bd (a b A B : Int) (h1 : 0 ≤ a) (h2 : a ≤ A) (h3 : 0 ≤ b) (h4 : b ≤ B) : 0 ≤ a * b ∧ a * b ≤ A * B :=
 ⟨Int.mul_nonneg h1 h3, Int.mul_le_mul h2 h4 h3 (by omega)⟩
theorem bel1 (w : World) (o : Obj) : Below w.heap.size w (w.alloc o) := (Below.refl _ _).alloc (Nat.le_refl _) _
theorem bel2 (w : World) (o o' : Obj) : Below w.heap.size w ((w.alloc o).alloc o') := (bel1 w o).alloc (by simp) _
end cents
namespace acc
open Go.ChangeShapes Go.WideShapes Go.RowKit
set_option maxRecDepth 100000
theorem open_debt {H : Type} {enc : TypeId × Value → H} {W : World} {r : Reach} {b0 b1 : Nat} {spare : Nat → Bool} {held : Bool} {v : Value} {d : DataW H} {ps : List MemPlace}
  (hval : Value.okWide Tryz.prog W r b0 43 v) (h : DataW.Trod enc Tryz.prog W b1 spare held 43 v d ps) : ∃ x y, v = .agg #[.int .i64 x, .int .i64 y] ∧ (Lit.int .i64 x).wf = true ∧ (Lit.int .i64 y).wf = true := by
 obtain ⟨v0, v1, y0, y1, n, rfl, -, -, h0, h1⟩ := Joins.open_agg2 Tryz.underlying43 (by kernel_rfl) (by kernel_rfl) hval h
 obtain ⟨x0, q0, -, w0⟩ := DataW.trod_int Tryz.underlying3 h0
 obtain ⟨x1, q1, -, w1⟩ := DataW.trod_int Tryz.underlying3 h1
 simp at q0 q1
 subst q0 q1
 exact ⟨x0, x1, rfl, w0, w1⟩
end acc
end Go.Proofs.YtomibnggmhjdfaaGreat
