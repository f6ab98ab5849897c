import Derived.Test.YtnpblpbohcegoaaGreatDoorVVCut1
set_option linter.unusedVariables false
set_option linter.unusedSimpArgs false
set_option maxHeartbeats 4000000
set_option maxRecDepth 100000
namespace Go.Proofs.YtnpblpbohcegoaaGreatDoor
section
open Go.RowKit
def putAll (cs:Array Value):Nat→List Value→Array Value
 | _,[]=>cs
 | o,v :: r=>putAll (cs.setIfInBounds o v) (o+1) r
structure Upd (w W:World) (g:Nat) (cs:Array Value) (t:TypeId):Prop where
 blk:Blk W g cs t
 oth:∀ G,G≠g→W.heap[G]?=w.heap[G]?
 bel:∀ B w0,B≤g→Below B w0 w→Below B w0 W
 size:W.heap.size=w.heap.size
theorem Upd.keep {w W:World} {g G:Nat} {cs cs':Array Value} {t t':TypeId} (h:Upd w W g cs t) (hb:Blk w G cs' t') (hne:G≠g):Blk W G cs' t':=by
 unfold Blk at *;rw [h.oth G hne];exact hb
theorem Upd.cell {w W:World} {g:Nat} {cs:Array Value} {t:TypeId} (h:Upd w W g cs t) (x:Addr) (hne:x.block≠g) (hs:x.spot=none):W.cell? x=w.cell? x:=by
 obtain ⟨b,o,s⟩:=x;simp only at hs hne;subst hs;simp only [World.cell?,h.oth b hne]
theorem upd_cells (g:Nat) (t:TypeId):∀ (vs:List Value) (o:Nat) (w:World) (cs:Array Value),Blk w g cs t→Upd w (w.setCells g o vs) g (putAll cs o vs) t
 | [],o,w,cs,h=>⟨h,fun _ _=>rfl,fun _ _ _ hb=>hb,rfl⟩
 | v :: r,o,w,cs,h=>by
  have ih:=upd_cells g t r (o+1) (w.setCell ⟨g,o,none⟩ v) (cs.setIfInBounds o v) (h.set o v);refine ⟨ih.blk,fun G hG=>?_,fun B w0 hB hb=>ih.bel B w0 hB (bel_set hb g o v hB),?_⟩
  ·show ((w.setCell ⟨g,o,none⟩ v).setCells g (o+1) r).heap[G]?=_;rw [ih.oth G hG];simp only [World.setCell,Array.getElem?_modify];rw [if_neg (fun e=>hG e.symm)]
  ·show ((w.setCell ⟨g,o,none⟩ v).setCells g (o+1) r).heap.size=_;rw [ih.size];simp [World.setCell]
theorem run_storeVar_let {P:Program} {w:World} {g off:Nat} {ty t:TypeId} {v:Value} {cells cs:Array Value} (hv:v.cells=cells) (hi:(P.info? ty).map (·.size)=some cells.size) (h1:cells.all (·.oneCell')=true)
  (hB:Blk w g cs t) (hin:off+cells.size≤cs.size):(storeVar ty ⟨g,off,none⟩ v).run P w = .ok () (w.setCells g off cells.toList):=by
 have:=run_storeCells_cells (P:=P) g off cells.toList 0 w (fun j hj=>by
   have hj':j<cells.size:=by simpa using hj
   rw [Nat.add_zero,hB.cell (off+j),Array.getElem?_eq_getElem (by omega)];rfl)
  (fun j hj=>hB.free _) (fun v hv=>(Array.all_eq_true_iff_forall_mem.1 h1) v (by simpa using hv))
 cases hq:P.info? ty with
 | none=>simp [hq] at hi
 | some i=>
  have hs:cells.size=i.size:=by simp [hq] at hi;omega
  simp only [Nat.add_zero] at this;simp [storeVar,sizeOf,typeInfo,hq,hv,hs,this]
theorem wp_let {P:Program} {ops:Array Oper} {rest:List Oper} {o:Oper} {a:Act} {w:World} {Q:Exit→Act→World→Prop} (hgd:o.guard=none) (ty:TypeId) (x y:Operand) (ho:o.op = .store ty x y)
  (g off:Nat) (hx:a.eval x = .pointer (some ⟨g,off,none⟩)) (v:Value) (hy:a.eval y=v) (cells:Array Value) (hv:v.cells=cells) (hi:(P.info? ty).map (·.size)=some cells.size) (h1:cells.all (·.oneCell')=true)
  (cs:Array Value) (t:TypeId) (hB:Blk w g cs t) (hin:off+cells.size≤cs.size) (new:Array Value) (hnew:putAll cs off cells.toList=new)
  (h:∀ W,Upd w W g new t→wpList P ops Q rest (a.put o.dst undef) W):wpList P ops Q (o :: rest) a w:=
 wpList_plain hgd fun _ hK=>by
  unfold Oper.wp execOp;simp only [ho,hx,hy,Instr.storeAt,Instr.sureAddr,Sem.run_bind,Sem.run_pure,Result.andThen_ok,run_storeVar_let hv hi h1 hB hin];refine hK _ _ (h _ ?_);rw [← hnew];exact upd_cells g t cells.toList off w cs hB
theorem putAll_all:∀ (vs:List Value) (o:Nat) (cs:Array Value),o+vs.length=cs.size→(putAll cs o vs).toList=cs.toList.take o++vs
 | [],o,cs,h=>by simp [putAll];rw [List.take_of_length_le (by simpa using (by simp at h;omega))]
 | v :: r,o,cs,h=>by
  rw [putAll,putAll_all r (o+1) (cs.setIfInBounds o v) (by simp at h ⊢;omega)];have ho:o<cs.toList.length:=by simp at h ⊢;omega
  rw [Array.toList_setIfInBounds,List.take_set,List.take_succ_eq_append_getElem ho];have ho':o<cs.size:=by simpa using ho
  have hm:min o cs.size=o:=by omega
  simp [hm]
theorem wp_letAll {P:Program} {ops:Array Oper} {rest:List Oper} {o:Oper} {a:Act} {w:World} {Q:Exit→Act→World→Prop} (hgd:o.guard=none) (ty:TypeId) (x y:Operand) (ho:o.op = .store ty x y)
  (g:Nat) (hx:a.eval x = .pointer (some ⟨g,0,none⟩)) (cells:Array Value) (hy:a.eval y = .agg cells) (hi:(P.info? ty).map (·.size)=some cells.size) (h1:cells.all (·.oneCell')=true)
  (cs:Array Value) (t:TypeId) (hB:Blk w g cs t) (hin:cells.size=cs.size)
  (h:∀ W,Upd w W g cells t→wpList P ops Q rest (a.put o.dst undef) W):wpList P ops Q (o :: rest) a w:=
 wp_let hgd ty x y ho g 0 hx _ hy cells rfl hi h1 cs t hB (by omega) cells (by
  have:=putAll_all cells.toList 0 cs (by simpa using hin);rw [List.take_zero,List.nil_append] at this
  rw [← Array.toList_inj];exact this) h
theorem wp_let1 {P:Program} {ops:Array Oper} {rest:List Oper} {o:Oper} {a:Act} {w:World} {Q:Exit→Act→World→Prop} (hgd:o.guard=none) (ty:TypeId) (x y:Operand) (ho:o.op = .store ty x y)
  (g off:Nat) (hx:a.eval x = .pointer (some ⟨g,off,none⟩)) (k:IntKind) (n:Int) (hy:a.eval y = .int k n) (hi:(P.info? ty).map (·.size)=some 1)
  (cs:Array Value) (t:TypeId) (hB:Blk w g cs t) (hin:off<cs.size)
  (h:∀ W,Upd w W g (cs.setIfInBounds off (.int k n)) t→wpList P ops Q rest (a.put o.dst undef) W):wpList P ops Q (o :: rest) a w:=
 wp_let hgd ty x y ho g off hx _ hy #[.int k n] rfl hi (by simp [Value.oneCell']) cs t hB (by simp;omega) _ rfl h
theorem wp_whole {P:Program} {ops:Array Oper} {rest:List Oper} {o:Oper} {a:Act} {w:World} {Q:Exit→Act→World→Prop} (hgd:o.guard=none) (ty:TypeId) (x:Operand) (ho:o.op = .load ty x)
  (g:Nat) (hx:a.eval x = .pointer (some ⟨g,0,none⟩)) (t:TypeId) (cs:Array Value) (d:TypeDesc) (hB:Blk w g cs t)
  (hu:P.underlying ty=some d) (hd:(match d with | .struct _ | .array _ _=>true | _=>false)=true) (hi:(P.info? ty).map (·.size)=some cs.size)
  (h:wpList P ops Q rest (a.put o.dst (.agg cs)) w):wpList P ops Q (o :: rest) a w:=wpList_load_row hgd ty x ho g hx t cs (0,0) d hB hu hd hi h
theorem store_let {P:Program} {w:World} {g:Nat} {ty t:TypeId} {cells cs:Array Value} (hi:(P.info? ty).map (·.size)=some cells.size) (h1:cells.all (·.oneCell')=true)
  (hB:Blk w g cs t) (hin:cells.size=cs.size):∃ W,(Instr.storeAt ty (.pointer (some ⟨g,0,none⟩)) (.agg cells)).run P w = .ok () W∧Upd w W g cells t:=by
 refine ⟨w.setCells g 0 cells.toList,?_,?_⟩
 ·have hs:=run_storeVar_let (P:=P) (v:= .agg cells) (cells:=cells) (off:=0) rfl hi h1 hB (by omega);simp only [Instr.storeAt,Instr.sureAddr,Sem.run_bind,Sem.run_pure,Result.andThen_ok,hs]
 ·have h:=upd_cells g t cells.toList 0 w cs hB;have:=putAll_all cells.toList 0 cs (by simpa using hin);rw [List.take_zero,List.nil_append] at this;rw [show putAll cs 0 cells.toList=cells by rw [← Array.toList_inj];exact this] at h;exact h
theorem yieldsIf_whole {P:Program} {ops:Array Oper} {S:World→Prop} {op:Oper} {a:Act} (hw:Region.wanted op (yielded ops a.tmps)=true) (ty:TypeId) (x:Operand) (ho:op.op = .load ty x)
  (g:Nat) (hx:a.eval x = .pointer (some ⟨g,0,none⟩)) (t:TypeId) (cs:Array Value) (d:TypeDesc) (hS:∀ w,S w→Blk w g cs t)
  (hu:P.underlying ty=some d) (hd:d.isRow=true) (hi:(P.info? ty).map (·.size)=some cs.size):YieldsIf P ops S op (.agg cs) a:=by
 have:=yieldsIf_load_mid (P:=P) (S:=S) hw ty x ho g 0 hx cs.toList d (fun w hSw j v hv=>by rw [Nat.zero_add,(hS w hSw).cell j];simpa using hv) hu hd (by simpa using hi);simpa using this
theorem take_at {P:Program} {ops:Array Oper} {Q:Exit→Act→World→Prop} {md:Region.Mode} {S:World→Prop} {fuel:Nat} {listed:Array Bool} {a:Act} {w:World} (i d:Nat) (v:Value) (oi:Oper) (hi:ops[i]?=some oi) (hd:oi.dst=some d)
  (hs:Region.noSelect ops=true) (hf:Region.free md ops listed i=true) (hr:(Region.ready md ops listed).contains i=true)
  (hQ:∀ c a w,Q (.panic c) (a.put oi.dst v) w→Q (.panic c) a w) (hy:YieldsIf P ops S oi v a) (hS:S w)
  (h:wpAnyH P md ops Q S fuel (listed.setIfInBounds i true) (a.put (some d) v) w):wpAnyH P md ops Q S (fuel+1) listed a w:=
 wpAnyH_take hi hs hf hr hQ hy hS (by rw [hd];exact h)
theorem wp_letOp {P:Program} {o:Oper} {a:Act} {w:World} {K:Act→World→Prop} {Q:Exit→Act→World→Prop} (ty:TypeId) (x y:Operand) (ho:o.op = .store ty x y)
  (g:Nat) (hx:a.eval x = .pointer (some ⟨g,0,none⟩)) (cells:Array Value) (hy:a.eval y = .agg cells) (hi:(P.info? ty).map (·.size)=some cells.size) (h1:cells.all (·.oneCell')=true)
  (cs:Array Value) (t:TypeId) (hB:Blk w g cs t) (hin:cells.size=cs.size) (hd:o.dst=none)
  (h:∀ W,Upd w W g cells t→K a W):o.wp P a w K Q:=by
 obtain ⟨W,hst,hU⟩:=store_let (P:=P) (ty:=ty) hi h1 hB hin;unfold Oper.wp execOp;simp only [ho,hx,hy,Sem.run_bind,hst,Result.andThen_ok];have:=h W hU;have e:a.put o.dst undef=a:=by rw [hd];rfl
 rw [← e] at this;exact this
end
section
open Go.RowKit
def zqr (P : Program) (ty : TypeId) (k : Nat) : Prop := ∃ d, P.underlying ty = some d ∧ (match d with | .struct _ | .array _ _ => true | _ => false) = true ∧ (P.info? ty).map (·.size) = some k
theorem zqw {P : Program} {ops : Array Oper} {rest : List Oper} {o : Oper} {a : Act} {w : World} {Q : Exit → Act → World → Prop} (hgd : o.guard = none) {ty : TypeId} {x : Operand} (ho : o.op = .load ty x)
 {g : Nat} (hx : a.eval x = .pointer (some ⟨g, 0, none⟩)) {t : TypeId} {cs : Array Value} (hB : Hid (Blk w g cs t)) (hr : zqr P ty cs.size)
 (h : wpList P ops Q rest (a.put o.dst (.agg cs)) w) : wpList P ops Q (o :: rest) a w := by
 obtain ⟨d, h1, h2, h3⟩ := hr
 exact wp_whole hgd ty x ho g hx t cs d hB.out h1 (by cases d <;> first | rfl | exact h2) h3 h
theorem zql {P : Program} {ops : Array Oper} {rest : List Oper} {o : Oper} {a : Act} {w : World} {Q : Exit → Act → World → Prop} (hgd : o.guard = none) {ty : TypeId} {x y : Operand} (ho : o.op = .store ty x y)
 {g : Nat} (hx : a.eval x = .pointer (some ⟨g, 0, none⟩)) {cells : Array Value} (hy : a.eval y = .agg cells) (hr : zqr P ty cells.size) (h1 : cells.all (·.oneCell') = true)
 {cs : Array Value} {t : TypeId} (hB : Hid (Blk w g cs t)) (hin : cells.size = cs.size)
 (h : ∀ W, Upd w W g cells t → wpList P ops Q rest (a.put o.dst undef) W) : wpList P ops Q (o :: rest) a w := by
 obtain ⟨d, h4, h2, h3⟩ := hr
 exact wp_letAll hgd ty x y ho g hx cells hy h3 h1 cs t hB.out hin h
theorem zqo {P : Program} {ops : Array Oper} {Q : Exit → Act → World → Prop} {md : Region.Mode} {S : World → Prop} {fuel : Nat} {listed : Array Bool} {a : Act} {w : World} (i : Nat) {o : Oper} (hr : Region.ready md ops listed = [i]) (ho : ops[i]? = some o)
 (h : ∀ K' : Act → World → Prop, Shut (∀ a w, S w → (S w → wpAnyH P md ops Q S fuel (listed.setIfInBounds i true) a w) → K' a w) → if Region.wanted o (yielded ops a.tmps) = true then Oper.wp P o a w K' Q else K' (a.put o.dst undef) w) :
 wpAnyH P md ops Q S (fuel + 1) listed a w := wpAnyH_ready hr (by simp) (AllReadyH.cons ho h AllReadyH.nil)
theorem zqt {P : Program} {ops : Array Oper} {Q : Exit → Act → World → Prop} {md : Region.Mode} {S : World → Prop} {fuel : Nat} {listed : Array Bool} {a : Act} {w : World} (i d : Nat) (v : Value) {oi : Oper} (hi : ops[i]? = some oi) (hd : oi.dst = some d)
 (hk : (Region.noSelect ops && (Region.free md ops listed i && (Region.ready md ops listed).contains i)) = true)
 (hQ : ∀ c a w, Q (.panic c) (a.put oi.dst v) w → Q (.panic c) a w) (hy : YieldsIf P ops S oi v a) (hS : S w)
 (h : wpAnyH P md ops Q S fuel (listed.setIfInBounds i true) (a.put (some d) v) w) : wpAnyH P md ops Q S (fuel + 1) listed a w := by
 rw [Bool.and_eq_true, Bool.and_eq_true] at hk
 exact take_at i d v oi hi hd hk.1 hk.2.1 hk.2.2 hQ hy hS h
theorem zqs {P : Program} {ops : Array Oper} {Q : Exit → Act → World → Prop} {md : Region.Mode} {S : World → Prop} {fuel : Nat} {listed : Array Bool} {a : Act} {w : World} (i d : Nat) (v : Value) {oi : Oper} (hi : ops[i]? = some oi) (hd : oi.dst = some d)
 (hk : (Region.noSelect ops && (Region.free md ops listed i && (Region.ready md ops listed).contains i)) = true)
 (hQ : ∀ c a w, Q (.panic c) (a.put oi.dst v) w → Q (.panic c) a w) (h1 : Region.wanted oi (yielded ops a.tmps) = true) (h2 : ∀ w, S w → (execOp a.eval oi).run P w = .ok (.value v) w) (hS : S w)
 (h : wpAnyH P md ops Q S fuel (listed.setIfInBounds i true) (a.put (some d) v) w) : wpAnyH P md ops Q S (fuel + 1) listed a w := zqt i d v hi hd hk hQ (Or.inl ⟨h1, h2⟩) hS h
theorem zqu24 : zqr Tryz.prog 24 5 := ⟨_, Tryz.underlying24, rfl, by kernel_rfl⟩
theorem zqu35 : zqr Tryz.prog 35 5 := ⟨_, Tryz.underlying35, rfl, by kernel_rfl⟩
theorem zqu39 : zqr Tryz.prog 39 1 := ⟨_, Tryz.underlying39, rfl, by kernel_rfl⟩
theorem zqu41 : zqr Tryz.prog 41 7 := ⟨_, Tryz.underlying41, rfl, by kernel_rfl⟩
theorem zqu46 : zqr Tryz.prog 46 1 := ⟨_, Tryz.underlying46, rfl, by kernel_rfl⟩
theorem zqu51 : zqr Tryz.prog 51 7 := ⟨_, Tryz.underlying51, rfl, by kernel_rfl⟩
theorem zqu54 : zqr Tryz.prog 54 8 := ⟨_, Tryz.underlying54, rfl, by kernel_rfl⟩
theorem zqu56 : zqr Tryz.prog 56 5 := ⟨_, Tryz.underlying56, rfl, by kernel_rfl⟩
theorem zqu68 : zqr Tryz.prog 68 7 := ⟨_, Tryz.underlying68, rfl, by kernel_rfl⟩
theorem zqu70 : zqr Tryz.prog 70 2 := ⟨_, Tryz.underlying70, rfl, by kernel_rfl⟩
theorem zqu72 : zqr Tryz.prog 72 13 := ⟨_, Tryz.underlying72, rfl, by kernel_rfl⟩
theorem zqu78 : zqr Tryz.prog 78 9 := ⟨_, Tryz.underlying78, rfl, by kernel_rfl⟩
theorem zqu87 : zqr Tryz.prog 87 3 := ⟨_, Tryz.underlying87, rfl, by kernel_rfl⟩
theorem zqu96 : zqr Tryz.prog 96 4 := ⟨_, Tryz.underlying96, rfl, by kernel_rfl⟩
theorem zqu113 : zqr Tryz.prog 113 7 := ⟨_, Tryz.underlying113, rfl, by kernel_rfl⟩
theorem zqu166 : zqr Tryz.prog 166 5 := ⟨_, Tryz.underlying166, rfl, by kernel_rfl⟩
theorem zqu252 : zqr Tryz.prog 252 14 := ⟨_, Tryz.underlying252, rfl, by kernel_rfl⟩
end
section
open Go.RowKit
theorem shN {w w':World} {G:Nat} {cs:Array Value} {t:TypeId} (h:Hid (Blk w G cs t)) (hb:Below w.heap.size w w'):Hid (Blk w' G cs t):=h.o.next hb
theorem shK {w W:World} {g G:Nat} {cs cs':Array Value} {t t':TypeId} (hU:Upd w W g cs t) (h:Hid (Blk w G cs' t')) (hne:G≠g):Hid (Blk W G cs' t'):=hU.keep h.o hne
theorem shB {w0 w w':World} (h:Hid (Below w0.heap.size w0 w)) (hb:Below w.heap.size w w'):Hid (Below w0.heap.size w0 w'):=bel_step h.o hb
theorem shV {w W:World} {g:Nat} {cs:Array Value} {t:TypeId} {B:Nat} {w0:World} (hU:Upd w W g cs t) (h:Hid (Below B w0 w)) (hB:B≤g):Hid (Below B w0 W):=hU.bel B w0 hB h.o
theorem sh1 (w:World) (c0:Array Value) (t0:TypeId):∃ W,Hid ((w.alloc (.cells c0 t0))=W)∧Hid (Blk W (w.heap.size) c0 t0)∧Hid (Below w.heap.size w W)∧w.heap.size<W.heap.size:=by
 refine ⟨_,rfl,?_,?_,?_⟩
 ·have h:=Blk.new w c0 t0;exact h
 ·exact (Below.refl w.heap.size w).alloc (by simp) _
 ·simp
theorem sh2 (w:World) (c0:Array Value) (t0:TypeId) (c1:Array Value) (t1:TypeId):∃ W,Hid (((w.alloc (.cells c0 t0)).alloc (.cells c1 t1))=W)∧Hid (Blk W (w.heap.size) c0 t0)∧Hid (Blk W (w.heap.size+1) c1 t1)∧Hid (Below w.heap.size w W)∧w.heap.size+1<W.heap.size:=by
 refine ⟨_,rfl,?_,?_,?_,?_⟩
 ·have h:=Blk.new w c0 t0;exact (h.alloc _)
 ·have h:=Blk.new (w.alloc (.cells c0 t0)) c1 t1;rw [show (w.alloc (.cells c0 t0)).heap.size=w.heap.size+1 by simp] at h;exact h
 ·exact ((Below.refl w.heap.size w).alloc (by simp) _).alloc (by simp) _
 ·simp
theorem sh3 (w:World) (c0:Array Value) (t0:TypeId) (c1:Array Value) (t1:TypeId) (c2:Array Value) (t2:TypeId):∃ W,Hid ((((w.alloc (.cells c0 t0)).alloc (.cells c1 t1)).alloc (.cells c2 t2))=W)∧Hid (Blk W (w.heap.size) c0 t0)∧Hid (Blk W (w.heap.size+1) c1 t1)∧Hid (Blk W (w.heap.size+1+1) c2 t2)∧Hid (Below w.heap.size w W)∧w.heap.size+1+1<W.heap.size:=by
 refine ⟨_,rfl,?_,?_,?_,?_,?_⟩
 ·have h:=Blk.new w c0 t0;exact ((h.alloc _).alloc _)
 ·have h:=Blk.new (w.alloc (.cells c0 t0)) c1 t1;rw [show (w.alloc (.cells c0 t0)).heap.size=w.heap.size+1 by simp] at h;exact (h.alloc _)
 ·have h:=Blk.new ((w.alloc (.cells c0 t0)).alloc (.cells c1 t1)) c2 t2;rw [show ((w.alloc (.cells c0 t0)).alloc (.cells c1 t1)).heap.size=w.heap.size+1+1 by simp] at h;exact h
 ·exact (((Below.refl w.heap.size w).alloc (by simp) _).alloc (by simp) _).alloc (by simp;omega) _
 ·simp
theorem sh4 (w:World) (c0:Array Value) (t0:TypeId) (c1:Array Value) (t1:TypeId) (c2:Array Value) (t2:TypeId) (c3:Array Value) (t3:TypeId):∃ W,Hid (((((w.alloc (.cells c0 t0)).alloc (.cells c1 t1)).alloc (.cells c2 t2)).alloc (.cells c3 t3))=W)∧Hid (Blk W (w.heap.size) c0 t0)∧Hid (Blk W (w.heap.size+1) c1 t1)∧Hid (Blk W (w.heap.size+1+1) c2 t2)∧Hid (Blk W (w.heap.size+1+1+1) c3 t3)∧Hid (Below w.heap.size w W)∧w.heap.size+1+1+1<W.heap.size:=by
 refine ⟨_,rfl,?_,?_,?_,?_,?_,?_⟩
 ·have h:=Blk.new w c0 t0;exact (((h.alloc _).alloc _).alloc _)
 ·have h:=Blk.new (w.alloc (.cells c0 t0)) c1 t1;rw [show (w.alloc (.cells c0 t0)).heap.size=w.heap.size+1 by simp] at h;exact ((h.alloc _).alloc _)
 ·have h:=Blk.new ((w.alloc (.cells c0 t0)).alloc (.cells c1 t1)) c2 t2;rw [show ((w.alloc (.cells c0 t0)).alloc (.cells c1 t1)).heap.size=w.heap.size+1+1 by simp] at h;exact (h.alloc _)
 ·have h:=Blk.new (((w.alloc (.cells c0 t0)).alloc (.cells c1 t1)).alloc (.cells c2 t2)) c3 t3;rw [show (((w.alloc (.cells c0 t0)).alloc (.cells c1 t1)).alloc (.cells c2 t2)).heap.size=w.heap.size+1+1+1 by simp] at h;exact h
 ·exact ((((Below.refl w.heap.size w).alloc (by simp) _).alloc (by simp) _).alloc (by simp;omega) _).alloc (by simp;omega) _
 ·simp
theorem sh5 (w:World) (c0:Array Value) (t0:TypeId) (c1:Array Value) (t1:TypeId) (c2:Array Value) (t2:TypeId) (c3:Array Value) (t3:TypeId) (c4:Array Value) (t4:TypeId):∃ W,Hid ((((((w.alloc (.cells c0 t0)).alloc (.cells c1 t1)).alloc (.cells c2 t2)).alloc (.cells c3 t3)).alloc (.cells c4 t4))=W)∧Hid (Blk W (w.heap.size) c0 t0)∧Hid (Blk W (w.heap.size+1) c1 t1)∧Hid (Blk W (w.heap.size+1+1) c2 t2)∧Hid (Blk W (w.heap.size+1+1+1) c3 t3)∧Hid (Blk W (w.heap.size+1+1+1+1) c4 t4)∧Hid (Below w.heap.size w W)∧w.heap.size+1+1+1+1<W.heap.size:=by
 refine ⟨_,rfl,?_,?_,?_,?_,?_,?_,?_⟩
 ·have h:=Blk.new w c0 t0;exact ((((h.alloc _).alloc _).alloc _).alloc _)
 ·have h:=Blk.new (w.alloc (.cells c0 t0)) c1 t1;rw [show (w.alloc (.cells c0 t0)).heap.size=w.heap.size+1 by simp] at h;exact (((h.alloc _).alloc _).alloc _)
 ·have h:=Blk.new ((w.alloc (.cells c0 t0)).alloc (.cells c1 t1)) c2 t2;rw [show ((w.alloc (.cells c0 t0)).alloc (.cells c1 t1)).heap.size=w.heap.size+1+1 by simp] at h;exact ((h.alloc _).alloc _)
 ·have h:=Blk.new (((w.alloc (.cells c0 t0)).alloc (.cells c1 t1)).alloc (.cells c2 t2)) c3 t3;rw [show (((w.alloc (.cells c0 t0)).alloc (.cells c1 t1)).alloc (.cells c2 t2)).heap.size=w.heap.size+1+1+1 by simp] at h;exact (h.alloc _)
 ·have h:=Blk.new ((((w.alloc (.cells c0 t0)).alloc (.cells c1 t1)).alloc (.cells c2 t2)).alloc (.cells c3 t3)) c4 t4;rw [show ((((w.alloc (.cells c0 t0)).alloc (.cells c1 t1)).alloc (.cells c2 t2)).alloc (.cells c3 t3)).heap.size=w.heap.size+1+1+1+1 by simp] at h;exact h
 ·exact (((((Below.refl w.heap.size w).alloc (by simp) _).alloc (by simp) _).alloc (by simp;omega) _).alloc (by simp;omega) _).alloc (by simp;omega) _
 ·simp
theorem shc3 {w:World} {G:Nat} {a0 a1 a2:Value} {t:TypeId} (h:Hid (Blk w G #[a0,a1,a2] t)):Hid (w.cell? ⟨G,0,none⟩=some a0)∧Hid (w.cell? ⟨G,1,none⟩=some a1)∧Hid (w.cell? ⟨G,2,none⟩=some a2):=⟨h.o.cell 0,h.o.cell 1,h.o.cell 2⟩
theorem shc4 {w:World} {G:Nat} {a0 a1 a2 a3:Value} {t:TypeId} (h:Hid (Blk w G #[a0,a1,a2,a3] t)):Hid (w.cell? ⟨G,0,none⟩=some a0)∧Hid (w.cell? ⟨G,1,none⟩=some a1)∧Hid (w.cell? ⟨G,2,none⟩=some a2)∧Hid (w.cell? ⟨G,3,none⟩=some a3):=⟨h.o.cell 0,h.o.cell 1,h.o.cell 2,h.o.cell 3⟩
theorem scl5 {w:World} {G:Nat} {a0 a1 a2 a3 a4:Value} {t:TypeId} (h:Hid (Blk w G #[a0,a1,a2,a3,a4] t)):w.cell? ⟨G,0,none⟩=some a0∧w.cell? ⟨G,1,none⟩=some a1∧w.cell? ⟨G,2,none⟩=some a2∧w.cell? ⟨G,3,none⟩=some a3∧w.cell? ⟨G,4,none⟩=some a4:=⟨h.o.cell 0,h.o.cell 1,h.o.cell 2,h.o.cell 3,h.o.cell 4⟩
theorem shc5 {w:World} {G:Nat} {a0 a1 a2 a3 a4:Value} {t:TypeId} (h:Hid (Blk w G #[a0,a1,a2,a3,a4] t)):Hid (w.cell? ⟨G,0,none⟩=some a0)∧Hid (w.cell? ⟨G,1,none⟩=some a1)∧Hid (w.cell? ⟨G,2,none⟩=some a2)∧Hid (w.cell? ⟨G,3,none⟩=some a3)∧Hid (w.cell? ⟨G,4,none⟩=some a4):=⟨h.o.cell 0,h.o.cell 1,h.o.cell 2,h.o.cell 3,h.o.cell 4⟩
theorem scl7 {w:World} {G:Nat} {a0 a1 a2 a3 a4 a5 a6:Value} {t:TypeId} (h:Hid (Blk w G #[a0,a1,a2,a3,a4,a5,a6] t)):w.cell? ⟨G,0,none⟩=some a0∧w.cell? ⟨G,1,none⟩=some a1∧w.cell? ⟨G,2,none⟩=some a2∧w.cell? ⟨G,3,none⟩=some a3∧w.cell? ⟨G,4,none⟩=some a4∧w.cell? ⟨G,5,none⟩=some a5∧w.cell? ⟨G,6,none⟩=some a6:=⟨h.o.cell 0,h.o.cell 1,h.o.cell 2,h.o.cell 3,h.o.cell 4,h.o.cell 5,h.o.cell 6⟩
theorem shc7 {w:World} {G:Nat} {a0 a1 a2 a3 a4 a5 a6:Value} {t:TypeId} (h:Hid (Blk w G #[a0,a1,a2,a3,a4,a5,a6] t)):Hid (w.cell? ⟨G,0,none⟩=some a0)∧Hid (w.cell? ⟨G,1,none⟩=some a1)∧Hid (w.cell? ⟨G,2,none⟩=some a2)∧Hid (w.cell? ⟨G,3,none⟩=some a3)∧Hid (w.cell? ⟨G,4,none⟩=some a4)∧Hid (w.cell? ⟨G,5,none⟩=some a5)∧Hid (w.cell? ⟨G,6,none⟩=some a6):=⟨h.o.cell 0,h.o.cell 1,h.o.cell 2,h.o.cell 3,h.o.cell 4,h.o.cell 5,h.o.cell 6⟩
theorem scl8 {w:World} {G:Nat} {a0 a1 a2 a3 a4 a5 a6 a7:Value} {t:TypeId} (h:Hid (Blk w G #[a0,a1,a2,a3,a4,a5,a6,a7] t)):w.cell? ⟨G,0,none⟩=some a0∧w.cell? ⟨G,1,none⟩=some a1∧w.cell? ⟨G,2,none⟩=some a2∧w.cell? ⟨G,3,none⟩=some a3∧w.cell? ⟨G,4,none⟩=some a4∧w.cell? ⟨G,5,none⟩=some a5∧w.cell? ⟨G,6,none⟩=some a6∧w.cell? ⟨G,7,none⟩=some a7:=⟨h.o.cell 0,h.o.cell 1,h.o.cell 2,h.o.cell 3,h.o.cell 4,h.o.cell 5,h.o.cell 6,h.o.cell 7⟩
theorem shc8 {w:World} {G:Nat} {a0 a1 a2 a3 a4 a5 a6 a7:Value} {t:TypeId} (h:Hid (Blk w G #[a0,a1,a2,a3,a4,a5,a6,a7] t)):Hid (w.cell? ⟨G,0,none⟩=some a0)∧Hid (w.cell? ⟨G,1,none⟩=some a1)∧Hid (w.cell? ⟨G,2,none⟩=some a2)∧Hid (w.cell? ⟨G,3,none⟩=some a3)∧Hid (w.cell? ⟨G,4,none⟩=some a4)∧Hid (w.cell? ⟨G,5,none⟩=some a5)∧Hid (w.cell? ⟨G,6,none⟩=some a6)∧Hid (w.cell? ⟨G,7,none⟩=some a7):=⟨h.o.cell 0,h.o.cell 1,h.o.cell 2,h.o.cell 3,h.o.cell 4,h.o.cell 5,h.o.cell 6,h.o.cell 7⟩
theorem shc9 {w:World} {G:Nat} {a0 a1 a2 a3 a4 a5 a6 a7 a8:Value} {t:TypeId} (h:Hid (Blk w G #[a0,a1,a2,a3,a4,a5,a6,a7,a8] t)):Hid (w.cell? ⟨G,0,none⟩=some a0)∧Hid (w.cell? ⟨G,1,none⟩=some a1)∧Hid (w.cell? ⟨G,2,none⟩=some a2)∧Hid (w.cell? ⟨G,3,none⟩=some a3)∧Hid (w.cell? ⟨G,4,none⟩=some a4)∧Hid (w.cell? ⟨G,5,none⟩=some a5)∧Hid (w.cell? ⟨G,6,none⟩=some a6)∧Hid (w.cell? ⟨G,7,none⟩=some a7)∧Hid (w.cell? ⟨G,8,none⟩=some a8):=⟨h.o.cell 0,h.o.cell 1,h.o.cell 2,h.o.cell 3,h.o.cell 4,h.o.cell 5,h.o.cell 6,h.o.cell 7,h.o.cell 8⟩
theorem scl13 {w:World} {G:Nat} {a0 a1 a2 a3 a4 a5 a6 a7 a8 a9 a10 a11 a12:Value} {t:TypeId} (h:Hid (Blk w G #[a0,a1,a2,a3,a4,a5,a6,a7,a8,a9,a10,a11,a12] t)):w.cell? ⟨G,0,none⟩=some a0∧w.cell? ⟨G,1,none⟩=some a1∧w.cell? ⟨G,2,none⟩=some a2∧w.cell? ⟨G,3,none⟩=some a3∧w.cell? ⟨G,4,none⟩=some a4∧w.cell? ⟨G,5,none⟩=some a5∧w.cell? ⟨G,6,none⟩=some a6∧w.cell? ⟨G,7,none⟩=some a7∧w.cell? ⟨G,8,none⟩=some a8∧w.cell? ⟨G,9,none⟩=some a9∧w.cell? ⟨G,10,none⟩=some a10∧w.cell? ⟨G,11,none⟩=some a11∧w.cell? ⟨G,12,none⟩=some a12:=⟨h.o.cell 0,h.o.cell 1,h.o.cell 2,h.o.cell 3,h.o.cell 4,h.o.cell 5,h.o.cell 6,h.o.cell 7,h.o.cell 8,h.o.cell 9,h.o.cell 10,h.o.cell 11,h.o.cell 12⟩
end
namespace book
open Go.RowKit
structure Cu where
 me:Int
 rv:Int
 nx:Int
 mo:Int
 bo:Int
 fr:Int
 dp:Option Addr
 dn:Nat
 dc:Nat
 sp:Option Addr
 sn:Nat
 sc:Nat
def cu0:Cu:=⟨0,0,0,0,0,0,none,0,0,none,0,0⟩
def Cu.cs (x:Cu):List Value:=[zI x.me,zI x.rv,zI x.nx,zI x.mo,zI x.bo,zI x.fr,.slice x.dp x.dn x.dc,.slice x.sp x.sn x.sc]
def cellsC:List Cu→List Value
 | []=>[]
 | x :: l=>x.cs++cellsC l
theorem cellsC_len (l:List Cu):(cellsC l).length=l.length*8:=by
 induction l with
 | nil=>rfl
 | cons e l ih=>rw [cellsC,List.length_append,ih,List.length_cons];show 8+_=_;omega
theorem cellsC_app (l m:List Cu):cellsC (l++m)=cellsC l++cellsC m:=by
 induction l with
 | nil=>rfl
 | cons e l ih=>rw [List.cons_append,cellsC,cellsC,ih,List.append_assoc]
theorem oneC (l:List Cu):∀ u∈cellsC l,u.oneCell'=true:=by
 induction l with
 | nil=>intro u hu;cases hu
 | cons e l ih=>
  intro u hu;rw [cellsC] at hu;rcases List.mem_append.1 hu with hu | hu
  ·simp only [Cu.cs,List.mem_cons,List.not_mem_nil,or_false] at hu;rcases hu with rfl | rfl | rfl | rfl | rfl | rfl | rfl | rfl <;> rfl
  ·exact ih u hu
theorem cellsC_at (l:List Cu) (k j:Nat) (hk:k<l.length) (hj:j<8):(cellsC l)[k*8+j]?=(l.getD k cu0).cs[j]?:=by
 induction l generalizing k with
 | nil=>simp at hk
 | cons x l ih=>
  have h8:x.cs.length=8:=rfl;cases k with
  | zero=>rw [Nat.zero_mul,Nat.zero_add,cellsC,List.getElem?_append_left (by omega)];rfl
  | succ k=>
   rw [show (k+1)*8+j=x.cs.length+(k*8+j) by omega,cellsC,List.getElem?_append_right (by omega),Nat.add_sub_cancel_left];exact ih k (by simpa using hk)
def RowC (w:World) (a:Option Addr) (n:Nat) (l:List Cu):Prop:=l.length=n∧(n=0∨∃ b off,a=some ⟨b,off,none⟩∧b<w.heap.size∧∀ i j,i<n→j<8→w.cell? ⟨b,off+i*8+j,none⟩=(l.getD i cu0).cs[j]?)
theorem RowC.below {w w':World} {a:Option Addr} {n:Nat} {l:List Cu} (h:RowC w a n l) (hb:Below w.heap.size w w'):RowC w' a n l:=by
 refine ⟨h.1,?_⟩;rcases h.2 with h0 | ⟨b,off,rfl,lb,hc⟩
 ·exact .inl h0
 ·exact .inr ⟨b,off,rfl,Nat.lt_of_lt_of_le lb hb.size,fun i j hi hj=>(hb.cell (p:=⟨b,off+i*8+j,none⟩) lb).trans (hc i j hi hj)⟩
def Lc (w:World) (base:Nat) (v:Value) (l:List Cu):Prop:=w.ownsRow base 54 8 v l.length (cellsC l)
theorem Lc.zero (w:World) (base:Nat):Lc w base (zS) []:=World.ownsRow_nil _ _ _ _
theorem Lc.next {w w':World} {base:Nat} {v:Value} {l:List Cu} (h:Lc w base v l) (hb:Below w.heap.size w w'):Lc w' base v l:=by
 refine ⟨h.1,?_⟩;rcases h.2 with hn | ⟨g,cap,cur,hv,hg,hc,rest⟩
 ·exact .inl hn
 ·exact .inr ⟨g,cap,cur,hv,hg,Blk.next hc hb,rest⟩
theorem Lc.row {w:World} {base:Nat} {v:Value} {l:List Cu} (h:Lc w base v l):∃ a cap,v = .slice a l.length cap∧RowC w a l.length l∧(a=none→cap=0)∧l.length≤cap:=by
 rcases h.2 with ⟨hv,hn⟩ | ⟨g,cap,cur,hv,_,hc,h1,_⟩
 ·exact ⟨none,0,by rw [hn];exact hv,⟨rfl,.inl hn⟩,fun _=>rfl,by omega⟩
 ·subst hv;refine ⟨_,cap,rfl,⟨rfl,.inr ⟨g,0,rfl,Blk.lt hc,fun i j hi hj=>?_⟩⟩,(fun h=>by cases h),h1⟩;have e1:=World.ownsRow.cellAt h (i*8+j) (by omega);rw [Nat.zero_add,e1];exact cellsC_at l i j hi hj
theorem custI:(Tryz.prog.info? 54).map (fun i=>(i.zero,i.size,i.bytes))=some (some (.agg cu0.cs.toArray),8,96):=by kernel_rfl
theorem step_cust {w:World} {o:Oper} {a:Act} {K:Act→World→Prop} {Q:Exit→Act→World→Prop} (s x:Operand)
  (ho:o.op = .call { callee:= .builtin .append,args:=#[s,x],argTypes:=#[44,44] })
  (base G:Nat) (v:Value) (l:List Cu) (r:Cu) (hs:a.eval s=v) (hx:a.eval x = .slice (some ⟨G,0,none⟩) 1 1) (hv:Lc w base v l) (hu:Blk w G r.cs.toArray 54) (hn:l.length≤2000000) (hbase:base≤w.heap.size)
  (h:∀ v' w',Lc w' base v' (l++[r])→w.grownBy w' v.ownBlock→(v'.ownBlock=v.ownBlock∨v'.ownBlock=some w.heap.size)→K (a.put o.dst v') w'):Oper.wp Tryz.prog o a w K Q:=by
 obtain ⟨i0,hi,hz0,hz1,hz2⟩:=info_parts custI
 obtain ⟨v',w',hr,h2,h3,_,h5⟩:=run_append_own_at (P:=Tryz.prog) w base 44 o.type 54 i0 (.agg cu0.cs.toArray) 8 96 Tryz.underlying44 hi hz0 hz1 hz2 rfl (by decide) v l.length (cellsC l) hv ⟨G,0,none⟩ 1 1 (cellsC [r]) (by rw [cellsC_len];rfl) (by
  intro j u hj;rw [Addr.add_lit,Nat.zero_add,hu.cell j];rw [cellsC,cellsC,List.append_nil] at hj
  simpa using hj) (oneC [r]) (by unfold maxLen;omega) (by omega) hbase
 unfold Oper.wp execOp;simp only [ho,resolve,invoke,builtin,Sem.run_bind,Sem.run_pure,Result.andThen_ok,List.map_toArray,List.map_cons,List.map_nil,hs,hx,hr];refine h v' w' ?_ h3 h5;unfold Lc;rw [List.length_append,cellsC_app];exact h2
def FindIs (l:List Cu) (me at_ f:Int):Prop:=(∃ k,k<l.length∧(l.getD k cu0).me=me∧(∀ j,j<k→(l.getD j cu0).me≠me)∧at_=(k:Int)∧f=0)∨((∀ j,j<l.length→(l.getD j cu0).me≠me)∧at_=0∧f=18)
def FoundIs (l:List Cu) (me at_:Int):Prop:=(∃ k,k<l.length∧(l.getD k cu0).me=me∧(∀ j,j<k→(l.getD j cu0).me≠me)∧at_=(k:Int))∨((∀ j,j<l.length→(l.getD j cu0).me≠me)∧at_=-1)
end book
section
open Go.RowKit
section
variable {P:Program} {ops:Array Oper} {Q:Exit→Act→World→Prop} {md:Region.Mode} {S:World→Prop}
structure EntersIf (P:Program) (ops:Array Oper) (S:World→Prop) (o:Oper) (f:FuncId) (args:Array Value) (a:Act):Prop where
 want:Region.wanted o (yielded ops a.tmps)=true
 run:∀ w,S w→(execOp a.eval o).run P w = .ok (.enter f args) w
def Gives (P:Program) (S:World→Prop) (f:FuncId) (args:Array Value) (v:Value):Prop:=∀ w,S w→Calls P f args w fun e w'=>e = .returned v∧w'=w
theorem EntersIf.now {o:Oper} {f:FuncId} {args:Array Value} {a:Act} {v:Value} {i:Nat} (h:EntersIf P ops S o f args a) (hg:Gives P S f args v) (hi:ops[i]?=some o) {K:Act→World→Prop} {w:World} (hS:S w) (hk:K (a.put o.dst v) w):wpOp P ops Q i K a w:=by
 unfold wpOp;simp only [hi,h.want,if_true];left;unfold Oper.wp;rw [h.run w hS,Oper.upon_enter];refine (hg w hS).mono fun e w' he=>?_;obtain ⟨rfl,rfl⟩:=he;exact hk
theorem EntersIf.apart {o p:Oper} {f:FuncId} {args:Array Value} {v:Value} {j:Nat} (hj:ops[j]?=some p) (hap:o.apart ops p=true) (hso:∀ cs b,o.op ≠ .select cs b) (hsp:∀ cs b,p.op ≠ .select cs b)
  (hQ:∀ c a w,Q (.panic c) (a.put o.dst v) w→Q (.panic c) a w) {K:Act→World→Prop} {a:Act} {w:World} (he:EntersIf P ops S o f args a) (h:wpOp P ops Q j K (a.put o.dst v) w) :
  wpOp P ops Q j (fun a' w'=>EntersIf P ops S o f args a'∧K (a'.put o.dst v) w') a w:=by
 obtain ⟨n1,n2,n3⟩:=Oper.apart_spec hap;have stay:∀ b:Act,EntersIf P ops S o f args b→∀ u,EntersIf P ops S o f args (b.put p.dst u):=fun b hb u=>⟨by rw [wanted_put o b p.dst u n3];exact hb.want,fun w hw=>by rw [execOp_put o hso b p.dst u n3];exact hb.run w hw⟩;have both:∀ (b:Act) (u:Value) (w':World),EntersIf P ops S o f args b→K ((b.put o.dst v).put p.dst u) w'→EntersIf P ops S o f args (b.put p.dst u)∧K ((b.put p.dst u).put o.dst v) w':=fun b u w' hb hk=>⟨stay b hb u,by rw [← Act.put_comm b v u n2];exact hk⟩;unfold wpOp at h ⊢;simp only [hj] at h ⊢;rw [wanted_put p a o.dst v n1] at h;by_cases hw:Region.wanted p (yielded ops a.tmps)=true
 ·rw [if_pos hw] at h ⊢;rcases h with h | ⟨h,hl⟩
  ·left;unfold Oper.wp at h ⊢;rw [execOp_put p hsp a o.dst v n1] at h;cases hr:(execOp a.eval p).run P w with
   | halt x w'=>
    rw [hr] at h;cases x <;> simp only [Oper.upon] at h ⊢
    exact hQ _ _ _ h
   | ok n w'=>
    rw [hr] at h;cases n with
    | value u=>exact both a u w' he h
    | skip=>exact both a undef w' he h
    | defer d=>
     simp only [Oper.upon] at h ⊢;rw [Act.put_defers] at h;exact both _ _ _ ⟨he.want,he.run⟩ h
    | enter g xs=>
     simp only [Oper.upon] at h ⊢;refine Calls.mono h fun e w'' hx=>?_;cases e with
     | returned u=>exact both a u w'' he hx
     | panicked c=>exact hQ _ _ _ hx
     | outgrown=>exact hx
    | row r xs=>
     simp only [Oper.upon] at h ⊢;exact Rows.mono h fun u w'' hx=>both a u w'' he hx
    | _=>exact False.elim h
  ·right;unfold Oper.asks at h ⊢;rw [execOp_put p hsp a o.dst v n1] at h;exact ⟨h,hl⟩
 ·rw [if_neg hw] at h ⊢;exact both a undef w he h
theorem call_first {i:Nat} {o:Oper} {f:FuncId} {args:Array Value} {v:Value} (hi:ops[i]?=some o) (hsel:∀ (j:Nat) (o:Oper) cs b,ops[j]?=some o→o.op ≠ .select cs b)
  (hQ:∀ c a w,Q (.panic c) (a.put o.dst v) w→Q (.panic c) a w) (hg:Gives P S f args v) (fuel:Nat):∀ (listed:Array Bool) (a:Act) (w:World),
   (∀ j p,ops[j]?=some p→j≠i→listed.getD j true=false→(∀ e∈p.after,Region.binds md e=true→e.on≠i)→o.apart ops p=true) →
   i∈Region.ready md ops listed→EntersIf P ops S o f args a→S w →
   wpAnyH P md ops Q S fuel (listed.setIfInBounds i true) (a.put o.dst v) w→wpAnyH P md ops Q S (fuel+1) listed a w:=by
 induction fuel with
 | zero=>
  intro listed a w _ hr he hS H;refine ⟨fun h=>absurd hr (by rw [h];exact List.not_mem_nil),fun j hj=>?_⟩;by_cases e:j=i
  ·rw [e];exact he.now hg hi hS ⟨hS,H⟩
  ·have:=ready_mono hj e;rw [H.1] at this;exact absurd this List.not_mem_nil
 | succ fuel ih=>
  intro listed a w hfree hr he hS H;refine ⟨fun h=>absurd hr (by rw [h];exact List.not_mem_nil),fun j hj=>?_⟩;by_cases e:j=i
  ·rw [e];exact he.now hg hi hS ⟨hS,H⟩
  ·obtain ⟨hun,p,hp,hall⟩:=mem_ready.1 hj
   have hno:∀ x∈p.after,Region.binds md x=true→x.on≠i:=fun x hx hb hxi=>by
    have h1:=hall x hx hb;have h0:=(mem_ready.1 hr).1;rw [hxi] at h1;by_cases hlt:i<listed.size
    ·simp [hlt] at h0 h1;rw [h0] at h1;cases h1
    ·simp [hlt] at h1
   have h2:=EntersIf.apart hp (hfree j p hp e hun hno) (fun cs b=>hsel i o cs b hi) (fun cs b=>hsel j p cs b hp) hQ he (H.2 j (ready_mono hj e));refine wpOp_mono (fun a' w' h3=>⟨h3.2.1,ih (listed.setIfInBounds j true) a' w' (fun k q hq hki hku hkn=>hfree k q hq hki ?_ hkn) (ready_mono hr (Ne.symm e)) h3.1 h3.2.1 ?_⟩) h2
   ·by_cases hjk:j=k
    ·rw [← hjk];exact hun
    ·rw [getD_set_ne true hjk] at hku;exact hku
   ·rw [Array.setIfInBounds_comm _ _ e];exact h3.2.2
theorem call_at {fuel:Nat} {listed:Array Bool} {a:Act} {w:World} (i d:Nat) (v:Value) (o:Oper) (hi:ops[i]?=some o) (hd:o.dst=some d)
  (hs:Region.noSelect ops=true) (hf:Region.free md ops listed i=true) (hr:(Region.ready md ops listed).contains i=true)
  (hQ:∀ c a w,Q (.panic c) (a.put o.dst v) w→Q (.panic c) a w) (f:FuncId) (args:Array Value) (he:EntersIf P ops S o f args a) (hg:Gives P S f args v) (hS:S w)
  (h:wpAnyH P md ops Q S fuel (listed.setIfInBounds i true) (a.put (some d) v) w):wpAnyH P md ops Q S (fuel+1) listed a w:=
 call_first hi (Region.noSelect_spec hs) hQ hg fuel listed a w (Region.free_spec hi hf) (by simpa using hr) he hS (by rw [hd];exact h)
end
end
end Go.Proofs.YtnpblpbohcegoaaGreatDoor
