import Derived.Test.YtnpblpbohcegoaaGreatDoorVVRts1
set_option linter.unusedVariables false
set_option linter.unusedSimpArgs false
set_option maxHeartbeats 4000000
set_option maxRecDepth 100000
namespace Go.Proofs.YtnpblpbohcegoaaGreatDoor
section
open Go.RowKit
def Blk (w:World) (G:Nat) (cs:Array Value) (t:TypeId):Prop:=w.heap[G]?=some (.cells cs t (0,0))
theorem Blk.lt {w:World} {G:Nat} {cs:Array Value} {t:TypeId} (h:Blk w G cs t):G<w.heap.size:=by
 unfold Blk at h;by_cases hh:G<w.heap.size
 ·exact hh
 ·rw [Array.getElem?_eq_none (by omega)] at h;cases h
theorem Blk.new (w:World) (cs:Array Value) (t:TypeId):Blk (w.alloc (.cells cs t)) w.heap.size cs t:=by
 show (w.heap.push _)[w.heap.size]?=_;rw [Array.getElem?_push_size]
theorem Blk.new1 (w:World) (o:Obj) (cs:Array Value) (t:TypeId):Blk ((w.alloc o).alloc (.cells cs t)) (w.heap.size+1) cs t:=by
 have h:=Blk.new (w.alloc o) cs t
 rwa [show (w.alloc o).heap.size=w.heap.size+1 by simp] at h
theorem Blk.new2 (w:World) (o p:Obj) (cs:Array Value) (t:TypeId):Blk (((w.alloc o).alloc p).alloc (.cells cs t)) (w.heap.size+1+1) cs t:=by
 have h:=Blk.new ((w.alloc o).alloc p) cs t
 rwa [show ((w.alloc o).alloc p).heap.size=w.heap.size+1+1 by simp] at h
theorem Blk.new3 (w:World) (o p q:Obj) (cs:Array Value) (t:TypeId):Blk ((((w.alloc o).alloc p).alloc q).alloc (.cells cs t)) (w.heap.size+1+1+1) cs t:=by
 have h:=Blk.new (((w.alloc o).alloc p).alloc q) cs t
 rwa [show (((w.alloc o).alloc p).alloc q).heap.size=w.heap.size+1+1+1 by simp] at h
theorem Blk.alloc {w:World} {G:Nat} {cs:Array Value} {t:TypeId} (h:Blk w G cs t) (o:Obj):Blk (w.alloc o) G cs t:=by
 have hl:=h.lt;unfold Blk at *;show (w.heap.push o)[G]?=_;rw [Array.getElem?_push,if_neg (by omega)];exact h
theorem Blk.below {w w':World} {G B:Nat} {cs:Array Value} {t:TypeId} (h:Blk w G cs t) (hb:Below B w w') (hG:G<B):Blk w' G cs t:=by
 unfold Blk at *;rw [hb.block G hG];exact h
theorem Blk.next {w w':World} {G:Nat} {cs:Array Value} {t:TypeId} (h:Blk w G cs t) (hb:Below w.heap.size w w'):Blk w' G cs t:=h.below hb h.lt
theorem Blk.cell {w:World} {G:Nat} {cs:Array Value} {t:TypeId} (h:Blk w G cs t) (i:Nat):w.cell? ⟨G,i,none⟩=cs[i]?:=by
 unfold Blk at h;simp [World.cell?,h]
theorem Blk.free {w:World} {G:Nat} {cs:Array Value} {t:TypeId} (h:Blk w G cs t) (i:Nat):w.frozen? ⟨G,i,none⟩=false:=by
 unfold Blk at h;simp [World.frozen?,h]
theorem Blk.set {w:World} {G:Nat} {cs:Array Value} {t:TypeId} (h:Blk w G cs t) (i:Nat) (u:Value):Blk (w.setCell ⟨G,i,none⟩ u) G (cs.setIfInBounds i u) t:=by
 have hl:=h.lt;unfold Blk at *;have hl':=hl;simp [World.setCell,Array.getElem?_modify,h]
theorem Blk.other {w:World} {G G':Nat} {cs:Array Value} {t:TypeId} (h:Blk w G cs t) (i:Nat) (u:Value) (hne:G'≠G):Blk (w.setCell ⟨G',i,none⟩ u) G cs t:=by
 unfold Blk at *;simp only [World.setCell,Array.getElem?_modify];rw [if_neg hne];exact h
theorem Blk.drew {w:World} {G:Nat} {cs:Array Value} {t:TypeId} (h:Blk w G cs t) (q:Nat):Blk (w.drewN q) G cs t:=h
theorem bel_set {B:Nat} {w w':World} (h:Below B w w') (G i:Nat) (u:Value) (hG:B≤G):Below B w (w'.setCell ⟨G,i,none⟩ u):=by
 refine ⟨h.os,h.tape,h.output,by simp [World.setCell];exact h.size,fun k hk=>?_⟩;rw [← h.block k hk];simp only [World.setCell,Array.getElem?_modify];rw [if_neg (by omega)]
theorem bel_drew {B:Nat} {w0 w:World} (h:Below B w0 w) (q:Nat):Below B w0 (w.drewN q):=⟨h.os,h.tape,h.output,h.size,h.block⟩
theorem bel_step {w0 w w':World} (h:Below w0.heap.size w0 w) (h':Below w.heap.size w w'):Below w0.heap.size w0 w':=h.trans (h'.mono h.size)
end
section
open Go.RowKit
def putAll (cs:Array Value):Nat→List Value→Array Value
 | _,[]=>cs
 | o,v :: r=>putAll (cs.setIfInBounds o v) (o+1) r
structure Upd (w W:World) (g:Nat) (cs:Array Value) (t:TypeId):Prop where
 blk:Blk W g cs t
 oth:∀ G,G≠g→W.heap[G]?=w.heap[G]?
 bel:∀ B w0,B≤g→Below B w0 w→Below B w0 W
 size:W.heap.size=w.heap.size
theorem Upd.keep {w W:World} {g G:Nat} {cs cs':Array Value} {t t':TypeId} (h:Upd w W g cs t) (hb:Blk w G cs' t') (hne:G≠g):Blk W G cs' t':=by
 unfold Blk at *;rw [h.oth G hne];exact hb
theorem Upd.cell {w W:World} {g:Nat} {cs:Array Value} {t:TypeId} (h:Upd w W g cs t) (x:Addr) (hne:x.block≠g) (hs:x.spot=none):W.cell? x=w.cell? x:=by
 obtain ⟨b,o,s⟩:=x;simp only at hs hne;subst hs;simp only [World.cell?,h.oth b hne]
theorem upd_cells (g:Nat) (t:TypeId):∀ (vs:List Value) (o:Nat) (w:World) (cs:Array Value),Blk w g cs t→Upd w (w.setCells g o vs) g (putAll cs o vs) t
 | [],o,w,cs,h=>⟨h,fun _ _=>rfl,fun _ _ _ hb=>hb,rfl⟩
 | v :: r,o,w,cs,h=>by
  have ih:=upd_cells g t r (o+1) (w.setCell ⟨g,o,none⟩ v) (cs.setIfInBounds o v) (h.set o v);refine ⟨ih.blk,fun G hG=>?_,fun B w0 hB hb=>ih.bel B w0 hB (bel_set hb g o v hB),?_⟩
  ·show ((w.setCell ⟨g,o,none⟩ v).setCells g (o+1) r).heap[G]?=_;rw [ih.oth G hG];simp only [World.setCell,Array.getElem?_modify];rw [if_neg (fun e=>hG e.symm)]
  ·show ((w.setCell ⟨g,o,none⟩ v).setCells g (o+1) r).heap.size=_;rw [ih.size];simp [World.setCell]
theorem run_storeVar_let {P:Program} {w:World} {g off:Nat} {ty t:TypeId} {v:Value} {cells cs:Array Value} (hv:v.cells=cells) (hi:(P.info? ty).map (·.size)=some cells.size) (h1:cells.all (·.oneCell')=true)
  (hB:Blk w g cs t) (hin:off+cells.size≤cs.size):(storeVar ty ⟨g,off,none⟩ v).run P w = .ok () (w.setCells g off cells.toList):=by
 have:=run_storeCells_cells (P:=P) g off cells.toList 0 w (fun j hj=>by
   have hj':j<cells.size:=by simpa using hj
   rw [Nat.add_zero,hB.cell (off+j),Array.getElem?_eq_getElem (by omega)];rfl)
  (fun j hj=>hB.free _) (fun v hv=>(Array.all_eq_true_iff_forall_mem.1 h1) v (by simpa using hv))
 cases hq:P.info? ty with
 | none=>simp [hq] at hi
 | some i=>
  have hs:cells.size=i.size:=by simp [hq] at hi;omega
  simp only [Nat.add_zero] at this;simp [storeVar,sizeOf,typeInfo,hq,hv,hs,this]
theorem wp_let {P:Program} {ops:Array Oper} {rest:List Oper} {o:Oper} {a:Act} {w:World} {Q:Exit→Act→World→Prop} (hgd:o.guard=none) (ty:TypeId) (x y:Operand) (ho:o.op = .store ty x y)
  (g off:Nat) (hx:a.eval x = .pointer (some ⟨g,off,none⟩)) (v:Value) (hy:a.eval y=v) (cells:Array Value) (hv:v.cells=cells) (hi:(P.info? ty).map (·.size)=some cells.size) (h1:cells.all (·.oneCell')=true)
  (cs:Array Value) (t:TypeId) (hB:Blk w g cs t) (hin:off+cells.size≤cs.size) (new:Array Value) (hnew:putAll cs off cells.toList=new)
  (h:∀ W,Upd w W g new t→wpList P ops Q rest (a.put o.dst undef) W):wpList P ops Q (o :: rest) a w:=
 wpList_plain hgd fun _ hK=>by
  unfold Oper.wp execOp;simp only [ho,hx,hy,Instr.storeAt,Instr.sureAddr,Sem.run_bind,Sem.run_pure,Result.andThen_ok,run_storeVar_let hv hi h1 hB hin];refine hK _ _ (h _ ?_);rw [← hnew];exact upd_cells g t cells.toList off w cs hB
theorem putAll_all:∀ (vs:List Value) (o:Nat) (cs:Array Value),o+vs.length=cs.size→(putAll cs o vs).toList=cs.toList.take o++vs
 | [],o,cs,h=>by simp [putAll];rw [List.take_of_length_le (by simpa using (by simp at h;omega))]
 | v :: r,o,cs,h=>by
  rw [putAll,putAll_all r (o+1) (cs.setIfInBounds o v) (by simp at h ⊢;omega)];have ho:o<cs.toList.length:=by simp at h ⊢;omega
  rw [Array.toList_setIfInBounds,List.take_set,List.take_succ_eq_append_getElem ho];have ho':o<cs.size:=by simpa using ho
  have hm:min o cs.size=o:=by omega
  simp [hm]
theorem wp_letAll {P:Program} {ops:Array Oper} {rest:List Oper} {o:Oper} {a:Act} {w:World} {Q:Exit→Act→World→Prop} (hgd:o.guard=none) (ty:TypeId) (x y:Operand) (ho:o.op = .store ty x y)
  (g:Nat) (hx:a.eval x = .pointer (some ⟨g,0,none⟩)) (cells:Array Value) (hy:a.eval y = .agg cells) (hi:(P.info? ty).map (·.size)=some cells.size) (h1:cells.all (·.oneCell')=true)
  (cs:Array Value) (t:TypeId) (hB:Blk w g cs t) (hin:cells.size=cs.size)
  (h:∀ W,Upd w W g cells t→wpList P ops Q rest (a.put o.dst undef) W):wpList P ops Q (o :: rest) a w:=
 wp_let hgd ty x y ho g 0 hx _ hy cells rfl hi h1 cs t hB (by omega) cells (by
  have:=putAll_all cells.toList 0 cs (by simpa using hin);rw [List.take_zero,List.nil_append] at this;rw [← Array.toList_inj];exact this) h
theorem wp_let1 {P:Program} {ops:Array Oper} {rest:List Oper} {o:Oper} {a:Act} {w:World} {Q:Exit→Act→World→Prop} (hgd:o.guard=none) (ty:TypeId) (x y:Operand) (ho:o.op = .store ty x y)
  (g off:Nat) (hx:a.eval x = .pointer (some ⟨g,off,none⟩)) (k:IntKind) (n:Int) (hy:a.eval y = .int k n) (hi:(P.info? ty).map (·.size)=some 1)
  (cs:Array Value) (t:TypeId) (hB:Blk w g cs t) (hin:off<cs.size)
  (h:∀ W,Upd w W g (cs.setIfInBounds off (.int k n)) t→wpList P ops Q rest (a.put o.dst undef) W):wpList P ops Q (o :: rest) a w:=
 wp_let hgd ty x y ho g off hx _ hy #[.int k n] rfl hi (by simp [Value.oneCell']) cs t hB (by simp;omega) _ rfl h
theorem wp_whole {P:Program} {ops:Array Oper} {rest:List Oper} {o:Oper} {a:Act} {w:World} {Q:Exit→Act→World→Prop} (hgd:o.guard=none) (ty:TypeId) (x:Operand) (ho:o.op = .load ty x)
  (g:Nat) (hx:a.eval x = .pointer (some ⟨g,0,none⟩)) (t:TypeId) (cs:Array Value) (d:TypeDesc) (hB:Blk w g cs t)
  (hu:P.underlying ty=some d) (hd:(match d with | .struct _ | .array _ _=>true | _=>false)=true) (hi:(P.info? ty).map (·.size)=some cs.size)
  (h:wpList P ops Q rest (a.put o.dst (.agg cs)) w):wpList P ops Q (o :: rest) a w:=wpList_load_row hgd ty x ho g hx t cs (0,0) d hB hu hd hi h
theorem store_let {P:Program} {w:World} {g:Nat} {ty t:TypeId} {cells cs:Array Value} (hi:(P.info? ty).map (·.size)=some cells.size) (h1:cells.all (·.oneCell')=true)
  (hB:Blk w g cs t) (hin:cells.size=cs.size):∃ W,(Instr.storeAt ty (.pointer (some ⟨g,0,none⟩)) (.agg cells)).run P w = .ok () W∧Upd w W g cells t:=by
 refine ⟨w.setCells g 0 cells.toList,?_,?_⟩
 ·have hs:=run_storeVar_let (P:=P) (v:= .agg cells) (cells:=cells) (off:=0) rfl hi h1 hB (by omega);simp only [Instr.storeAt,Instr.sureAddr,Sem.run_bind,Sem.run_pure,Result.andThen_ok,hs]
 ·have h:=upd_cells g t cells.toList 0 w cs hB;have:=putAll_all cells.toList 0 cs (by simpa using hin);rw [List.take_zero,List.nil_append] at this;rw [show putAll cs 0 cells.toList=cells by rw [← Array.toList_inj];exact this] at h;exact h
theorem yieldsIf_whole {P:Program} {ops:Array Oper} {S:World→Prop} {op:Oper} {a:Act} (hw:Region.wanted op (yielded ops a.tmps)=true) (ty:TypeId) (x:Operand) (ho:op.op = .load ty x)
  (g:Nat) (hx:a.eval x = .pointer (some ⟨g,0,none⟩)) (t:TypeId) (cs:Array Value) (d:TypeDesc) (hS:∀ w,S w→Blk w g cs t)
  (hu:P.underlying ty=some d) (hd:d.isRow=true) (hi:(P.info? ty).map (·.size)=some cs.size):YieldsIf P ops S op (.agg cs) a:=by
 have:=yieldsIf_load_mid (P:=P) (S:=S) hw ty x ho g 0 hx cs.toList d (fun w hSw j v hv=>by rw [Nat.zero_add,(hS w hSw).cell j];simpa using hv) hu hd (by simpa using hi);simpa using this
theorem take_at {P:Program} {ops:Array Oper} {Q:Exit→Act→World→Prop} {md:Region.Mode} {S:World→Prop} {fuel:Nat} {listed:Array Bool} {a:Act} {w:World} (i d:Nat) (v:Value) (oi:Oper) (hi:ops[i]?=some oi) (hd:oi.dst=some d)
  (hs:Region.noSelect ops=true) (hf:Region.free md ops listed i=true) (hr:(Region.ready md ops listed).contains i=true)
  (hQ:∀ c a w,Q (.panic c) (a.put oi.dst v) w→Q (.panic c) a w) (hy:YieldsIf P ops S oi v a) (hS:S w)
  (h:wpAnyH P md ops Q S fuel (listed.setIfInBounds i true) (a.put (some d) v) w):wpAnyH P md ops Q S (fuel+1) listed a w:=
 wpAnyH_take hi hs hf hr hQ hy hS (by rw [hd];exact h)
theorem wp_letOp {P:Program} {o:Oper} {a:Act} {w:World} {K:Act→World→Prop} {Q:Exit→Act→World→Prop} (ty:TypeId) (x y:Operand) (ho:o.op = .store ty x y)
  (g:Nat) (hx:a.eval x = .pointer (some ⟨g,0,none⟩)) (cells:Array Value) (hy:a.eval y = .agg cells) (hi:(P.info? ty).map (·.size)=some cells.size) (h1:cells.all (·.oneCell')=true)
  (cs:Array Value) (t:TypeId) (hB:Blk w g cs t) (hin:cells.size=cs.size) (hd:o.dst=none)
  (h:∀ W,Upd w W g cells t→K a W):o.wp P a w K Q:=by
 obtain ⟨W,hst,hU⟩:=store_let (P:=P) (ty:=ty) hi h1 hB hin;unfold Oper.wp execOp;simp only [ho,hx,hy,Sem.run_bind,hst,Result.andThen_ok];have:=h W hU;have e:a.put o.dst undef=a:=by rw [hd];rfl
 rw [← e] at this;exact this
end
section
open Go.RowKit
def zqr (P : Program) (ty : TypeId) (k : Nat) : Prop := ∃ d, P.underlying ty = some d ∧ (match d with | .struct _ | .array _ _ => true | _ => false) = true ∧ (P.info? ty).map (·.size) = some k
theorem zqw {P : Program} {ops : Array Oper} {rest : List Oper} {o : Oper} {a : Act} {w : World} {Q : Exit → Act → World → Prop} (hgd : o.guard = none) {ty : TypeId} {x : Operand} (ho : o.op = .load ty x)
 {g : Nat} (hx : a.eval x = .pointer (some ⟨g, 0, none⟩)) {t : TypeId} {cs : Array Value} (hB : Hid (Blk w g cs t)) (hr : zqr P ty cs.size)
 (h : wpList P ops Q rest (a.put o.dst (.agg cs)) w) : wpList P ops Q (o :: rest) a w := by
 obtain ⟨d, h1, h2, h3⟩ := hr
 exact wp_whole hgd ty x ho g hx t cs d hB.out h1 (by cases d <;> first | rfl | exact h2) h3 h
theorem zql {P : Program} {ops : Array Oper} {rest : List Oper} {o : Oper} {a : Act} {w : World} {Q : Exit → Act → World → Prop} (hgd : o.guard = none) {ty : TypeId} {x y : Operand} (ho : o.op = .store ty x y)
 {g : Nat} (hx : a.eval x = .pointer (some ⟨g, 0, none⟩)) {cells : Array Value} (hy : a.eval y = .agg cells) (hr : zqr P ty cells.size) (h1 : cells.all (·.oneCell') = true)
 {cs : Array Value} {t : TypeId} (hB : Hid (Blk w g cs t)) (hin : cells.size = cs.size)
 (h : ∀ W, Upd w W g cells t → wpList P ops Q rest (a.put o.dst undef) W) : wpList P ops Q (o :: rest) a w := by
 obtain ⟨d, h4, h2, h3⟩ := hr
 exact wp_letAll hgd ty x y ho g hx cells hy h3 h1 cs t hB.out hin h
theorem zqo {P : Program} {ops : Array Oper} {Q : Exit → Act → World → Prop} {md : Region.Mode} {S : World → Prop} {fuel : Nat} {listed : Array Bool} {a : Act} {w : World} (i : Nat) {o : Oper} (hr : Region.ready md ops listed = [i]) (ho : ops[i]? = some o)
 (h : ∀ K' : Act → World → Prop, Shut (∀ a w, S w → (S w → wpAnyH P md ops Q S fuel (listed.setIfInBounds i true) a w) → K' a w) → if Region.wanted o (yielded ops a.tmps) = true then Oper.wp P o a w K' Q else K' (a.put o.dst undef) w) :
 wpAnyH P md ops Q S (fuel + 1) listed a w := wpAnyH_ready hr (by simp) (AllReadyH.cons ho h AllReadyH.nil)
theorem zqt {P : Program} {ops : Array Oper} {Q : Exit → Act → World → Prop} {md : Region.Mode} {S : World → Prop} {fuel : Nat} {listed : Array Bool} {a : Act} {w : World} (i d : Nat) (v : Value) {oi : Oper} (hi : ops[i]? = some oi) (hd : oi.dst = some d)
 (hk : (Region.noSelect ops && (Region.free md ops listed i && (Region.ready md ops listed).contains i)) = true)
 (hQ : ∀ c a w, Q (.panic c) (a.put oi.dst v) w → Q (.panic c) a w) (hy : YieldsIf P ops S oi v a) (hS : S w)
 (h : wpAnyH P md ops Q S fuel (listed.setIfInBounds i true) (a.put (some d) v) w) : wpAnyH P md ops Q S (fuel + 1) listed a w := by
 rw [Bool.and_eq_true, Bool.and_eq_true] at hk
 exact take_at i d v oi hi hd hk.1 hk.2.1 hk.2.2 hQ hy hS h
theorem zqs {P : Program} {ops : Array Oper} {Q : Exit → Act → World → Prop} {md : Region.Mode} {S : World → Prop} {fuel : Nat} {listed : Array Bool} {a : Act} {w : World} (i d : Nat) (v : Value) {oi : Oper} (hi : ops[i]? = some oi) (hd : oi.dst = some d)
 (hk : (Region.noSelect ops && (Region.free md ops listed i && (Region.ready md ops listed).contains i)) = true)
 (hQ : ∀ c a w, Q (.panic c) (a.put oi.dst v) w → Q (.panic c) a w) (h1 : Region.wanted oi (yielded ops a.tmps) = true) (h2 : ∀ w, S w → (execOp a.eval oi).run P w = .ok (.value v) w) (hS : S w)
 (h : wpAnyH P md ops Q S fuel (listed.setIfInBounds i true) (a.put (some d) v) w) : wpAnyH P md ops Q S (fuel + 1) listed a w := zqt i d v hi hd hk hQ (Or.inl ⟨h1, h2⟩) hS h
theorem zqu24 : zqr Tryz.prog 24 5 := ⟨_, Tryz.underlying24, rfl, by kernel_rfl⟩
theorem zqu46 : zqr Tryz.prog 46 1 := ⟨_, Tryz.underlying46, rfl, by kernel_rfl⟩
theorem zqu51 : zqr Tryz.prog 51 7 := ⟨_, Tryz.underlying51, rfl, by kernel_rfl⟩
theorem zqu54 : zqr Tryz.prog 54 8 := ⟨_, Tryz.underlying54, rfl, by kernel_rfl⟩
theorem zqu56 : zqr Tryz.prog 56 5 := ⟨_, Tryz.underlying56, rfl, by kernel_rfl⟩
theorem zqu68 : zqr Tryz.prog 68 7 := ⟨_, Tryz.underlying68, rfl, by kernel_rfl⟩
theorem zqu70 : zqr Tryz.prog 70 2 := ⟨_, Tryz.underlying70, rfl, by kernel_rfl⟩
theorem zqu72 : zqr Tryz.prog 72 13 := ⟨_, Tryz.underlying72, rfl, by kernel_rfl⟩
theorem zqu87 : zqr Tryz.prog 87 3 := ⟨_, Tryz.underlying87, rfl, by kernel_rfl⟩
theorem zqu113 : zqr Tryz.prog 113 7 := ⟨_, Tryz.underlying113, rfl, by kernel_rfl⟩
theorem zqu252 : zqr Tryz.prog 252 14 := ⟨_, Tryz.underlying252, rfl, by kernel_rfl⟩
end
section
open Go.RowKit
theorem shN {w w':World} {G:Nat} {cs:Array Value} {t:TypeId} (h:Hid (Blk w G cs t)) (hb:Below w.heap.size w w'):Hid (Blk w' G cs t):=h.o.next hb
theorem shK {w W:World} {g G:Nat} {cs cs':Array Value} {t t':TypeId} (hU:Upd w W g cs t) (h:Hid (Blk w G cs' t')) (hne:G≠g):Hid (Blk W G cs' t'):=hU.keep h.o hne
theorem shB {w0 w w':World} (h:Hid (Below w0.heap.size w0 w)) (hb:Below w.heap.size w w'):Hid (Below w0.heap.size w0 w'):=bel_step h.o hb
theorem shV {w W:World} {g:Nat} {cs:Array Value} {t:TypeId} {B:Nat} {w0:World} (hU:Upd w W g cs t) (h:Hid (Below B w0 w)) (hB:B≤g):Hid (Below B w0 W):=hU.bel B w0 hB h.o
theorem sh1 (w:World) (c0:Array Value) (t0:TypeId):∃ W,Hid ((w.alloc (.cells c0 t0))=W)∧Hid (Blk W (w.heap.size) c0 t0)∧Hid (Below w.heap.size w W)∧w.heap.size<W.heap.size:=by
 refine ⟨_,rfl,?_,?_,?_⟩
 ·have h:=Blk.new w c0 t0;exact h
 ·exact (Below.refl w.heap.size w).alloc (by simp) _
 ·simp
theorem sh2 (w:World) (c0:Array Value) (t0:TypeId) (c1:Array Value) (t1:TypeId):∃ W,Hid (((w.alloc (.cells c0 t0)).alloc (.cells c1 t1))=W)∧Hid (Blk W (w.heap.size) c0 t0)∧Hid (Blk W (w.heap.size+1) c1 t1)∧Hid (Below w.heap.size w W)∧w.heap.size+1<W.heap.size:=by
 refine ⟨_,rfl,?_,?_,?_,?_⟩
 ·have h:=Blk.new w c0 t0;exact (h.alloc _)
 ·have h:=Blk.new (w.alloc (.cells c0 t0)) c1 t1;rw [show (w.alloc (.cells c0 t0)).heap.size=w.heap.size+1 by simp] at h;exact h
 ·exact ((Below.refl w.heap.size w).alloc (by simp) _).alloc (by simp) _
 ·simp
theorem sh3 (w:World) (c0:Array Value) (t0:TypeId) (c1:Array Value) (t1:TypeId) (c2:Array Value) (t2:TypeId):∃ W,Hid ((((w.alloc (.cells c0 t0)).alloc (.cells c1 t1)).alloc (.cells c2 t2))=W)∧Hid (Blk W (w.heap.size) c0 t0)∧Hid (Blk W (w.heap.size+1) c1 t1)∧Hid (Blk W (w.heap.size+1+1) c2 t2)∧Hid (Below w.heap.size w W)∧w.heap.size+1+1<W.heap.size:=by
 refine ⟨_,rfl,?_,?_,?_,?_,?_⟩
 ·have h:=Blk.new w c0 t0;exact ((h.alloc _).alloc _)
 ·have h:=Blk.new (w.alloc (.cells c0 t0)) c1 t1;rw [show (w.alloc (.cells c0 t0)).heap.size=w.heap.size+1 by simp] at h;exact (h.alloc _)
 ·have h:=Blk.new ((w.alloc (.cells c0 t0)).alloc (.cells c1 t1)) c2 t2;rw [show ((w.alloc (.cells c0 t0)).alloc (.cells c1 t1)).heap.size=w.heap.size+1+1 by simp] at h;exact h
 ·exact (((Below.refl w.heap.size w).alloc (by simp) _).alloc (by simp) _).alloc (by simp;omega) _
 ·simp
theorem sh4 (w:World) (c0:Array Value) (t0:TypeId) (c1:Array Value) (t1:TypeId) (c2:Array Value) (t2:TypeId) (c3:Array Value) (t3:TypeId):∃ W,Hid (((((w.alloc (.cells c0 t0)).alloc (.cells c1 t1)).alloc (.cells c2 t2)).alloc (.cells c3 t3))=W)∧Hid (Blk W (w.heap.size) c0 t0)∧Hid (Blk W (w.heap.size+1) c1 t1)∧Hid (Blk W (w.heap.size+1+1) c2 t2)∧Hid (Blk W (w.heap.size+1+1+1) c3 t3)∧Hid (Below w.heap.size w W)∧w.heap.size+1+1+1<W.heap.size:=by
 refine ⟨_,rfl,?_,?_,?_,?_,?_,?_⟩
 ·have h:=Blk.new w c0 t0;exact (((h.alloc _).alloc _).alloc _)
 ·have h:=Blk.new (w.alloc (.cells c0 t0)) c1 t1;rw [show (w.alloc (.cells c0 t0)).heap.size=w.heap.size+1 by simp] at h;exact ((h.alloc _).alloc _)
 ·have h:=Blk.new ((w.alloc (.cells c0 t0)).alloc (.cells c1 t1)) c2 t2;rw [show ((w.alloc (.cells c0 t0)).alloc (.cells c1 t1)).heap.size=w.heap.size+1+1 by simp] at h;exact (h.alloc _)
 ·have h:=Blk.new (((w.alloc (.cells c0 t0)).alloc (.cells c1 t1)).alloc (.cells c2 t2)) c3 t3;rw [show (((w.alloc (.cells c0 t0)).alloc (.cells c1 t1)).alloc (.cells c2 t2)).heap.size=w.heap.size+1+1+1 by simp] at h;exact h
 ·exact ((((Below.refl w.heap.size w).alloc (by simp) _).alloc (by simp) _).alloc (by simp;omega) _).alloc (by simp;omega) _
 ·simp
theorem sh5 (w:World) (c0:Array Value) (t0:TypeId) (c1:Array Value) (t1:TypeId) (c2:Array Value) (t2:TypeId) (c3:Array Value) (t3:TypeId) (c4:Array Value) (t4:TypeId):∃ W,Hid ((((((w.alloc (.cells c0 t0)).alloc (.cells c1 t1)).alloc (.cells c2 t2)).alloc (.cells c3 t3)).alloc (.cells c4 t4))=W)∧Hid (Blk W (w.heap.size) c0 t0)∧Hid (Blk W (w.heap.size+1) c1 t1)∧Hid (Blk W (w.heap.size+1+1) c2 t2)∧Hid (Blk W (w.heap.size+1+1+1) c3 t3)∧Hid (Blk W (w.heap.size+1+1+1+1) c4 t4)∧Hid (Below w.heap.size w W)∧w.heap.size+1+1+1+1<W.heap.size:=by
 refine ⟨_,rfl,?_,?_,?_,?_,?_,?_,?_⟩
 ·have h:=Blk.new w c0 t0;exact ((((h.alloc _).alloc _).alloc _).alloc _)
 ·have h:=Blk.new (w.alloc (.cells c0 t0)) c1 t1;rw [show (w.alloc (.cells c0 t0)).heap.size=w.heap.size+1 by simp] at h;exact (((h.alloc _).alloc _).alloc _)
 ·have h:=Blk.new ((w.alloc (.cells c0 t0)).alloc (.cells c1 t1)) c2 t2;rw [show ((w.alloc (.cells c0 t0)).alloc (.cells c1 t1)).heap.size=w.heap.size+1+1 by simp] at h;exact ((h.alloc _).alloc _)
 ·have h:=Blk.new (((w.alloc (.cells c0 t0)).alloc (.cells c1 t1)).alloc (.cells c2 t2)) c3 t3;rw [show (((w.alloc (.cells c0 t0)).alloc (.cells c1 t1)).alloc (.cells c2 t2)).heap.size=w.heap.size+1+1+1 by simp] at h;exact (h.alloc _)
 ·have h:=Blk.new ((((w.alloc (.cells c0 t0)).alloc (.cells c1 t1)).alloc (.cells c2 t2)).alloc (.cells c3 t3)) c4 t4;rw [show ((((w.alloc (.cells c0 t0)).alloc (.cells c1 t1)).alloc (.cells c2 t2)).alloc (.cells c3 t3)).heap.size=w.heap.size+1+1+1+1 by simp] at h;exact h
 ·exact (((((Below.refl w.heap.size w).alloc (by simp) _).alloc (by simp) _).alloc (by simp;omega) _).alloc (by simp;omega) _).alloc (by simp;omega) _
 ·simp
theorem shc3 {w:World} {G:Nat} {a0 a1 a2:Value} {t:TypeId} (h:Hid (Blk w G #[a0,a1,a2] t)):Hid (w.cell? ⟨G,0,none⟩=some a0)∧Hid (w.cell? ⟨G,1,none⟩=some a1)∧Hid (w.cell? ⟨G,2,none⟩=some a2):=⟨h.o.cell 0,h.o.cell 1,h.o.cell 2⟩
theorem scl5 {w:World} {G:Nat} {a0 a1 a2 a3 a4:Value} {t:TypeId} (h:Hid (Blk w G #[a0,a1,a2,a3,a4] t)):w.cell? ⟨G,0,none⟩=some a0∧w.cell? ⟨G,1,none⟩=some a1∧w.cell? ⟨G,2,none⟩=some a2∧w.cell? ⟨G,3,none⟩=some a3∧w.cell? ⟨G,4,none⟩=some a4:=⟨h.o.cell 0,h.o.cell 1,h.o.cell 2,h.o.cell 3,h.o.cell 4⟩
theorem shc5 {w:World} {G:Nat} {a0 a1 a2 a3 a4:Value} {t:TypeId} (h:Hid (Blk w G #[a0,a1,a2,a3,a4] t)):Hid (w.cell? ⟨G,0,none⟩=some a0)∧Hid (w.cell? ⟨G,1,none⟩=some a1)∧Hid (w.cell? ⟨G,2,none⟩=some a2)∧Hid (w.cell? ⟨G,3,none⟩=some a3)∧Hid (w.cell? ⟨G,4,none⟩=some a4):=⟨h.o.cell 0,h.o.cell 1,h.o.cell 2,h.o.cell 3,h.o.cell 4⟩
theorem scl7 {w:World} {G:Nat} {a0 a1 a2 a3 a4 a5 a6:Value} {t:TypeId} (h:Hid (Blk w G #[a0,a1,a2,a3,a4,a5,a6] t)):w.cell? ⟨G,0,none⟩=some a0∧w.cell? ⟨G,1,none⟩=some a1∧w.cell? ⟨G,2,none⟩=some a2∧w.cell? ⟨G,3,none⟩=some a3∧w.cell? ⟨G,4,none⟩=some a4∧w.cell? ⟨G,5,none⟩=some a5∧w.cell? ⟨G,6,none⟩=some a6:=⟨h.o.cell 0,h.o.cell 1,h.o.cell 2,h.o.cell 3,h.o.cell 4,h.o.cell 5,h.o.cell 6⟩
theorem shc7 {w:World} {G:Nat} {a0 a1 a2 a3 a4 a5 a6:Value} {t:TypeId} (h:Hid (Blk w G #[a0,a1,a2,a3,a4,a5,a6] t)):Hid (w.cell? ⟨G,0,none⟩=some a0)∧Hid (w.cell? ⟨G,1,none⟩=some a1)∧Hid (w.cell? ⟨G,2,none⟩=some a2)∧Hid (w.cell? ⟨G,3,none⟩=some a3)∧Hid (w.cell? ⟨G,4,none⟩=some a4)∧Hid (w.cell? ⟨G,5,none⟩=some a5)∧Hid (w.cell? ⟨G,6,none⟩=some a6):=⟨h.o.cell 0,h.o.cell 1,h.o.cell 2,h.o.cell 3,h.o.cell 4,h.o.cell 5,h.o.cell 6⟩
theorem scl8 {w:World} {G:Nat} {a0 a1 a2 a3 a4 a5 a6 a7:Value} {t:TypeId} (h:Hid (Blk w G #[a0,a1,a2,a3,a4,a5,a6,a7] t)):w.cell? ⟨G,0,none⟩=some a0∧w.cell? ⟨G,1,none⟩=some a1∧w.cell? ⟨G,2,none⟩=some a2∧w.cell? ⟨G,3,none⟩=some a3∧w.cell? ⟨G,4,none⟩=some a4∧w.cell? ⟨G,5,none⟩=some a5∧w.cell? ⟨G,6,none⟩=some a6∧w.cell? ⟨G,7,none⟩=some a7:=⟨h.o.cell 0,h.o.cell 1,h.o.cell 2,h.o.cell 3,h.o.cell 4,h.o.cell 5,h.o.cell 6,h.o.cell 7⟩
theorem shc8 {w:World} {G:Nat} {a0 a1 a2 a3 a4 a5 a6 a7:Value} {t:TypeId} (h:Hid (Blk w G #[a0,a1,a2,a3,a4,a5,a6,a7] t)):Hid (w.cell? ⟨G,0,none⟩=some a0)∧Hid (w.cell? ⟨G,1,none⟩=some a1)∧Hid (w.cell? ⟨G,2,none⟩=some a2)∧Hid (w.cell? ⟨G,3,none⟩=some a3)∧Hid (w.cell? ⟨G,4,none⟩=some a4)∧Hid (w.cell? ⟨G,5,none⟩=some a5)∧Hid (w.cell? ⟨G,6,none⟩=some a6)∧Hid (w.cell? ⟨G,7,none⟩=some a7):=⟨h.o.cell 0,h.o.cell 1,h.o.cell 2,h.o.cell 3,h.o.cell 4,h.o.cell 5,h.o.cell 6,h.o.cell 7⟩
theorem scl13 {w:World} {G:Nat} {a0 a1 a2 a3 a4 a5 a6 a7 a8 a9 a10 a11 a12:Value} {t:TypeId} (h:Hid (Blk w G #[a0,a1,a2,a3,a4,a5,a6,a7,a8,a9,a10,a11,a12] t)):w.cell? ⟨G,0,none⟩=some a0∧w.cell? ⟨G,1,none⟩=some a1∧w.cell? ⟨G,2,none⟩=some a2∧w.cell? ⟨G,3,none⟩=some a3∧w.cell? ⟨G,4,none⟩=some a4∧w.cell? ⟨G,5,none⟩=some a5∧w.cell? ⟨G,6,none⟩=some a6∧w.cell? ⟨G,7,none⟩=some a7∧w.cell? ⟨G,8,none⟩=some a8∧w.cell? ⟨G,9,none⟩=some a9∧w.cell? ⟨G,10,none⟩=some a10∧w.cell? ⟨G,11,none⟩=some a11∧w.cell? ⟨G,12,none⟩=some a12:=⟨h.o.cell 0,h.o.cell 1,h.o.cell 2,h.o.cell 3,h.o.cell 4,h.o.cell 5,h.o.cell 6,h.o.cell 7,h.o.cell 8,h.o.cell 9,h.o.cell 10,h.o.cell 11,h.o.cell 12⟩
theorem shc13 {w:World} {G:Nat} {a0 a1 a2 a3 a4 a5 a6 a7 a8 a9 a10 a11 a12:Value} {t:TypeId} (h:Hid (Blk w G #[a0,a1,a2,a3,a4,a5,a6,a7,a8,a9,a10,a11,a12] t)):Hid (w.cell? ⟨G,0,none⟩=some a0)∧Hid (w.cell? ⟨G,1,none⟩=some a1)∧Hid (w.cell? ⟨G,2,none⟩=some a2)∧Hid (w.cell? ⟨G,3,none⟩=some a3)∧Hid (w.cell? ⟨G,4,none⟩=some a4)∧Hid (w.cell? ⟨G,5,none⟩=some a5)∧Hid (w.cell? ⟨G,6,none⟩=some a6)∧Hid (w.cell? ⟨G,7,none⟩=some a7)∧Hid (w.cell? ⟨G,8,none⟩=some a8)∧Hid (w.cell? ⟨G,9,none⟩=some a9)∧Hid (w.cell? ⟨G,10,none⟩=some a10)∧Hid (w.cell? ⟨G,11,none⟩=some a11)∧Hid (w.cell? ⟨G,12,none⟩=some a12):=⟨h.o.cell 0,h.o.cell 1,h.o.cell 2,h.o.cell 3,h.o.cell 4,h.o.cell 5,h.o.cell 6,h.o.cell 7,h.o.cell 8,h.o.cell 9,h.o.cell 10,h.o.cell 11,h.o.cell 12⟩
end
namespace tar
open Go.RowKit
def RowD (w:World) (a:Option Addr) (len:Nat) (ls:List Du):Prop:=
 ls.length=len∧(len=0∨∃ b off,a=some ⟨b,off,none⟩∧∀ i,i<len→w.cell? ⟨b,off+i*2,none⟩=some (zI (ls.getD i du0).a)∧w.cell? ⟨b,off+i*2+1,none⟩=some (zI (ls.getD i du0).b))
theorem RowD.below {w w':World} {a:Option Addr} {n:Nat} {zs:List Du} (h:RowD w a n zs) (hb:Below w.heap.size w w'):RowD w' a n zs:=by
 refine ⟨h.1,?_⟩;rcases h.2 with h0 | ⟨b,off,rfl,hc⟩
 ·exact .inl h0
 ·refine .inr ⟨b,off,rfl,fun i hi=>?_⟩;have h1:=hc i hi;rw [hb.cell (p:=⟨b,off+i*2,none⟩) (World.block_lt_of_cell? w _ h1.1),hb.cell (p:=⟨b,off+i*2+1,none⟩) (World.block_lt_of_cell? w _ h1.2)];exact h1
theorem RowD.nil (w:World) (a:Option Addr):RowD w a 0 []:=⟨rfl,.inl rfl⟩
theorem RowD.at {w:World} {a:Option Addr} {n:Nat} {zs:List Du} (h:RowD w a n zs) (h0:0<n):∃ b off,a=some ⟨b,off,none⟩∧b<w.heap.size∧∀ i,i<n→w.cell? ⟨b,off+i*2,none⟩=some (zI (zs.getD i du0).a)∧w.cell? ⟨b,off+i*2+1,none⟩=some (zI (zs.getD i du0).b):=by
 rcases h.2 with h1 | ⟨b,off,rfl,hc⟩
 ·omega
 ·exact ⟨b,off,rfl,World.block_lt_of_cell? w _ (hc 0 h0).1,hc⟩
theorem rowD_of {w:World} {a:Addr} {m len:Nat} (hl:len≤m)
  (h:∀ j,j<m→∃ z0 z1,w.cell? (a.add (j*2))=some (zI z0)∧w.cell? (a.add (j*2+1))=some (zI z1)∧(Lit.int .i64 z0).wf=true∧(Lit.int .i64 z1).wf=true) :
  ∃ zs:List Du,RowD w (some a) len zs∧∀ x∈zs,(Lit.int .i64 x.a).wf=true∧(Lit.int .i64 x.b).wf=true:=by
 have h':∀ j,∃ e:Du,j<m→w.cell? (a.add (j*2))=some (zI e.a)∧w.cell? (a.add (j*2+1))=some (zI e.b)∧(Lit.int .i64 e.a).wf=true∧(Lit.int .i64 e.b).wf=true:=fun j=>by
  by_cases hj:j<m
  ·obtain ⟨z0,z1,hz⟩:=h j hj;exact ⟨⟨z0,z1⟩,fun _=>hz⟩
  ·exact ⟨du0,fun hh=>absurd hh hj⟩
 obtain ⟨f,hf⟩:∃ f:Nat→Du,∀ j,j<m→w.cell? (a.add (j*2))=some (zI (f j).a)∧w.cell? (a.add (j*2+1))=some (zI (f j).b)∧(Lit.int .i64 (f j).a).wf=true∧(Lit.int .i64 (f j).b).wf=true:=⟨fun j=>Classical.choose (h' j),fun j hj=>Classical.choose_spec (h' j) hj⟩
 clear h' h;refine ⟨(List.range len).map f,⟨by simp,?_⟩,fun x hx=>?_⟩
 ·by_cases h0:len=0
  ·exact .inl h0
  ·obtain ⟨b,off,spot⟩:=a;have hs:spot=none:=by simpa [Addr.add] using World.cell?_spot (hf 0 (by omega)).1
   subst hs;refine .inr ⟨b,off,rfl,fun i hi=>?_⟩;have h1:=hf i (by omega);rw [Addr.add_lit,Addr.add_lit,← Nat.add_assoc] at h1;have e:((List.range len).map f).getD i du0=f i:=by simp [List.getD,hi]
   rw [e];exact ⟨h1.1,h1.2.1⟩
 ·obtain ⟨j,hj,rfl⟩:=List.mem_map.1 hx;exact (hf j (by have:=List.mem_range.1 hj;omega)).2.2
def cellsD:List Du→List Value
 | []=>[]
 | e :: l=>zI e.a :: zI e.b :: cellsD l
theorem cellsD_len (l:List Du):(cellsD l).length=l.length*2:=by
 induction l with
 | nil=>rfl
 | cons e l ih=>simp [cellsD,ih];omega
theorem cellsD_app (l m:List Du):cellsD (l++m)=cellsD l++cellsD m:=by
 induction l with
 | nil=>rfl
 | cons e l ih=>simp [cellsD,ih]
theorem oneD (l:List Du):∀ u∈cellsD l,u.oneCell'=true:=by
 induction l with
 | nil=>intro u hu;cases hu
 | cons e l ih=>
  intro u hu;simp only [cellsD,List.mem_cons] at hu;rcases hu with rfl | rfl | hu
  ·rfl
  ·rfl
  ·exact ih u hu
theorem cellsD_at (l:List Du) (k:Nat) (hk:k<l.length):(cellsD l)[k*2]?=some (zI (l.getD k du0).a)∧(cellsD l)[k*2+1]?=some (zI (l.getD k du0).b):=by
 induction l generalizing k with
 | nil=>simp at hk
 | cons x l ih=>
  cases k with
  | zero=>exact ⟨rfl,rfl⟩
  | succ k=>
   rw [show (k+1)*2=k*2+1+1 by omega];have:=ih k (by simpa using hk);simpa [cellsD] using this
theorem cellsD_get {w:World} {b off len:Nat} {zs:List Du} (hz:zs.length=len) (hc:∀ i,i<len→w.cell? ⟨b,off+i*2,none⟩=some (zI (zs.getD i du0).a)∧w.cell? ⟨b,off+i*2+1,none⟩=some (zI (zs.getD i du0).b)) (j:Nat) (u:Value) (hu:(cellsD zs)[j]?=some u):w.cell? ⟨b,off+j,none⟩=some u:=by
 have hj:j<(cellsD zs).length:=by
  by_cases h:j<(cellsD zs).length
  ·exact h
  ·rw [List.getElem?_eq_none (by omega)] at hu;cases hu
 rw [cellsD_len] at hj;have h1:=cellsD_at zs (j / 2) (by omega);have h2:=hc (j / 2) (by omega);rcases Nat.mod_two_eq_zero_or_one j with e | e
 ·have e2:j / 2*2=j:=by omega
  rw [e2] at h1 h2;rw [h1.1] at hu;rw [h2.1];exact hu
 ·have e2:j / 2*2+1=j:=by omega
  rw [Nat.add_assoc,e2] at h2;rw [e2] at h1;rw [h1.2] at hu;rw [h2.2];exact hu
def Ld (T:TypeId) (w:World) (base:Nat) (v:Value) (l:List Du):Prop:=w.ownsRow base T 2 v l.length (cellsD l)
theorem Ld.zero (T:TypeId) (w:World) (base:Nat):Ld T w base (zS) []:=World.ownsRow_nil _ _ _ _
theorem Ld.alloc {T:TypeId} {w:World} {base:Nat} {v:Value} {l:List Du} (h:Ld T w base v l) (o:Obj):Ld T (w.alloc o) base v l:=World.ownsRow.alloc h o
theorem Ld.next {T:TypeId} {w w':World} {base:Nat} {v:Value} {l:List Du} (h:Ld T w base v l) (hb:Below w.heap.size w w'):Ld T w' base v l:=by
 refine ⟨h.1,?_⟩;rcases h.2 with hn | ⟨g,cap,cur,hv,hg,hc,rest⟩
 ·exact .inl hn
 ·exact .inr ⟨g,cap,cur,hv,hg,Blk.next hc hb,rest⟩
theorem Ld.low {T:TypeId} {w:World} {base base':Nat} {v:Value} {l:List Du} (h:Ld T w base v l) (hb:base'≤base):Ld T w base' v l:=by
 refine ⟨h.1,?_⟩;rcases h.2 with hn | ⟨g,cap,cur,hv,hg,rest⟩
 ·exact .inl hn
 ·exact .inr ⟨g,cap,cur,hv,by omega,rest⟩
theorem Ld.row {T:TypeId} {w:World} {base:Nat} {v:Value} {l:List Du} (h:Ld T w base v l):∃ a cap,v = .slice a l.length cap∧RowD w a l.length l∧(a=none→cap=0)∧l.length≤cap∧(∀ x,a=some x→x.off=0∧x.spot=none):=by
 rcases h.2 with ⟨hv,hn⟩ | ⟨g,cap,cur,hv,_,_,h1,_⟩
 ·exact ⟨none,0,by rw [hn];exact hv,⟨rfl,.inl hn⟩,fun _=>rfl,by omega,fun x h=>by cases h⟩
 ·subst hv;refine ⟨_,cap,rfl,⟨rfl,.inr ⟨g,0,rfl,fun i hi=>?_⟩⟩,(fun h=>by cases h),h1,fun x h=>by cases h;exact ⟨rfl,rfl⟩⟩;have e1:=World.ownsRow.cellAt h (i*2) (by omega);have e2:=World.ownsRow.cellAt h (i*2+1) (by omega);rw [Nat.zero_add,e1,e2];exact cellsD_at l i hi
theorem own_far {w:World} {base n k:Nat} {t:TypeId} {v:Value} {l:List Value} (h:w.ownsRow base t n v k l) {G:Nat} (hG:G<base):some G≠v.ownBlock:=by
 intro e;have:=(World.ownsRow.lt h G e.symm).1;omega
theorem own_bel {w0 w w':World} {base B n k:Nat} {t:TypeId} {v:Value} {l:List Value} (h:w.ownsRow base t n v k l) (hg:w.grownBy w' v.ownBlock) (hb:Below B w0 w) (hB:B≤base) (hw:B≤w.heap.size):Below B w0 w':=by
 refine ⟨hg.os.trans hb.os,hg.tape.trans hb.tape,hg.output.trans hb.output,Nat.le_trans hb.size hg.size,fun k hk=>?_⟩;rw [← hb.block k hk];exact hg.block k (by omega) (own_far h (by omega))
theorem bel_drewN {B:Nat} {w w':World} (h:Below B w w') (n:Nat):Below B w (w'.drewN n):=⟨h.os,h.tape,h.output,h.size,h.block⟩
structure PairT (P:Program) (T S:TypeId):Prop where
 info:(P.info? T).map (fun i=>(i.zero,i.size,i.bytes))=some (some (.agg #[zI 0,zI 0]),2,16)
 under:P.underlying S=some (.slice T)
theorem wp_pair {P:Program} {T S:TypeId} (hP:PairT P T S) {w:World} {ops:Array Oper} {rest:List Oper} {o:Oper} {a:Act} {Q:Exit→Act→World→Prop} (hgd:o.guard=none) (s x:Operand)
  (ho:o.op = .call { callee:= .builtin .append,args:=#[s,x],argTypes:=#[S,S] })
  (base G:Nat) (v:Value) (l:List Du) (r:Du) (hs:a.eval s=v) (hx:a.eval x = .slice (some ⟨G,0,none⟩) 1 1) (hv:Ld T w base v l) (hu:w.cell? ⟨G,0,none⟩=some (zI r.a)∧w.cell? ⟨G,1,none⟩=some (zI r.b)) (hn:l.length≤1000000) (hbase:base≤w.heap.size)
  (h:∀ v' w',Ld T w' base v' (l++[r])→w.grownBy w' v.ownBlock→wpList P ops Q rest (a.put o.dst v') w'):wpList P ops Q (o :: rest) a w:=by
 obtain ⟨i0,hi,hz0,hz1,hz2⟩:=info_parts hP.info;refine wpList_append_own w hgd s x S ho base T i0 (.agg #[zI 0,zI 0]) 2 16 hP.under hi hz0 hz1 hz2 rfl (by decide) v l.length (cellsD l) hs hv ⟨G,0,none⟩ 1 1 (cellsD [r]) hx rfl ?_ (oneD [r]) (by unfold maxLen;omega) (by omega) hbase ?_
 ·intro j u hj
  match j,hj with
  | 0,hj=>simp [cellsD] at hj;subst hj;simpa [Addr.add] using hu.1
  | 1,hj=>simp [cellsD] at hj;subst hj;simpa [Addr.add] using hu.2
  | j+2,hj=>simp [cellsD] at hj
 intro v' w' h1 h2 _;refine h v' w' ?_ h2;unfold Ld;rw [List.length_append,cellsD_app];exact h1
theorem step_pair {P:Program} {T S:TypeId} (hP:PairT P T S) {w:World} {ops:Array Oper} {o:Oper} {a:Act} {K:Act→World→Prop} {Q:Exit→Act→World→Prop} {E:Prop} (hgd:o.guard=none) (s x:Operand)
  (ho:o.op = .call { callee:= .builtin .append,args:=#[s,x],argTypes:=#[S,S] })
  (base G:Nat) (v:Value) (l:List Du) (r:Du) (hs:a.eval s=v) (hx:a.eval x = .slice (some ⟨G,0,none⟩) 1 1) (hv:Ld T w base v l) (hu:w.cell? ⟨G,0,none⟩=some (zI r.a)∧w.cell? ⟨G,1,none⟩=some (zI r.b)) (hn:l.length≤1000000) (hbase:base≤w.heap.size)
  (h:∀ v' w',Ld T w' base v' (l++[r])→w.grownBy w' v.ownBlock→K (a.put o.dst v') w'):if Region.wanted o (yielded ops a.tmps)=true then Oper.wp P o a w K Q else E:=by
 have hw:Region.wanted o (yielded ops a.tmps)=true:=by simp [Region.wanted,hgd]
 rw [if_pos hw];obtain ⟨i0,hi,hz0,hz1,hz2⟩:=info_parts hP.info
 obtain ⟨v',w',hr,h2,h3,_⟩:=run_append_own (P:=P) w base S o.type T i0 (.agg #[zI 0,zI 0]) 2 16 hP.under hi hz0 hz1 hz2 rfl (by decide) v l.length (cellsD l) hv ⟨G,0,none⟩ 1 1 (cellsD [r]) rfl (by
  intro j u hj
  match j,hj with
  | 0,hj=>simp [cellsD] at hj;subst hj;simpa [Addr.add] using hu.1
  | 1,hj=>simp [cellsD] at hj;subst hj;simpa [Addr.add] using hu.2
  | j+2,hj=>simp [cellsD] at hj) (oneD [r]) (by unfold maxLen;omega) (by omega) hbase
 unfold Oper.wp execOp;simp only [ho,resolve,invoke,builtin,Sem.run_bind,Sem.run_pure,Result.andThen_ok,List.map_toArray,List.map_cons,List.map_nil,hs,hx,hr];refine h v' w' ?_ h3;unfold Ld;rw [List.length_append,cellsD_app];exact h2
theorem wp_pairs {P:Program} {T S:TypeId} (hP:PairT P T S) {w:World} {ops:Array Oper} {rest:List Oper} {o:Oper} {a:Act} {Q:Exit→Act→World→Prop} (hgd:o.guard=none) (s x:Operand)
  (ho:o.op = .call { callee:= .builtin .append,args:=#[s,x],argTypes:=#[S,S] })
  (base:Nat) (A:Addr) (len cap:Nat) (zs:List Du) (hs:a.eval s=zS) (hx:a.eval x = .slice (some A) len cap) (hr:RowD w (some A) len zs) (hl:len*16≤140737488351232) (hbase:base≤w.heap.size)
  (h:∀ v' w',Ld T w' base v' zs→w.grownBy w' none→wpList P ops Q rest (a.put o.dst v') w'):wpList P ops Q (o :: rest) a w:=by
 obtain ⟨i0,hi,hz0,hz1,hz2⟩:=info_parts hP.info;obtain ⟨hz,hr⟩:=hr;refine wpList_append_own w hgd s x S ho base T i0 (.agg #[zI 0,zI 0]) 2 16 hP.under hi hz0 hz1 hz2 rfl (by decide) _ _ _ hs (World.ownsRow_nil _ _ _ _) A len cap (cellsD zs) hx ?_ ?_ (oneD zs) (by unfold maxLen;omega) (by omega) hbase ?_
 ·rw [cellsD_len,hz]
 ·intro j u hu;rcases hr with h | ⟨b,off,h,hc⟩
  ·rw [List.getElem?_eq_none (by rw [cellsD_len];omega)] at hu;cases hu
  ·obtain rfl:=Option.some.inj h;rw [Addr.add_lit];exact cellsD_get hz hc j u hu
 ·intro v' w' h1 h2 _;refine h v' w' ?_ (by simpa [Value.ownBlock] using h2);show w'.ownsRow _ _ _ _ _ _;rw [hz];simpa using h1
def RowL (w:World) (a:Option Addr) (len:Nat) (ls:List Tr):Prop:=
 ls.length=len∧(len=0∨∃ b off,a=some ⟨b,off,none⟩∧∀ i,i<len→w.cell? ⟨b,off+i*3,none⟩=some (zI (ls.getD i tr0).a)∧w.cell? ⟨b,off+i*3+1,none⟩=some (zI (ls.getD i tr0).b)∧w.cell? ⟨b,off+i*3+2,none⟩=some (zI (ls.getD i tr0).c))
theorem RowL.at {w:World} {a:Option Addr} {n:Nat} {zs:List Tr} (h:RowL w a n zs) (h0:0<n):∃ b off,a=some ⟨b,off,none⟩∧b<w.heap.size∧∀ i,i<n→w.cell? ⟨b,off+i*3,none⟩=some (zI (zs.getD i tr0).a)∧w.cell? ⟨b,off+i*3+1,none⟩=some (zI (zs.getD i tr0).b)∧w.cell? ⟨b,off+i*3+2,none⟩=some (zI (zs.getD i tr0).c):=by
 rcases h.2 with h1 | ⟨b,off,rfl,hc⟩
 ·omega
 ·exact ⟨b,off,rfl,World.block_lt_of_cell? w _ (hc 0 h0).1,hc⟩
def ErrPost (w:World) (R:Int→Prop) (e:Ending) (w':World):Prop:=∃ f,e = .returned (zI f)∧R f∧Below w.heap.size w w'
def ValPost (w:World) (z:Int) (e:Ending) (w':World):Prop:=e = .returned (zI z)∧Below w.heap.size w w'
def TwoPost (w:World) (R:Int→Int→Prop) (e:Ending) (w':World):Prop:=∃ p f,e = .returned (.tuple #[zI p,zI f])∧R p f∧Below w.heap.size w w'
def ThreePost (w:World) (R:Int→Int→Int→Prop) (e:Ending) (w':World):Prop:=∃ u p f,e = .returned (.tuple #[zI u,zI p,zI f])∧R u p f∧Below w.heap.size w w'
structure Came (w:World) (a:Option Addr) (len cap:Nat) (ls:List Du):Prop where
 row:RowD w a len ls
 nil:a=none→cap=0
 room:len≤cap
 bytes:len*16≤140737488351232
 wf:∀ x∈ls,(Lit.int .i64 x.a).wf=true∧(Lit.int .i64 x.b).wf=true
theorem Came.below {w w':World} {a:Option Addr} {len cap:Nat} {ls:List Du} (h:Came w a len cap ls) (hb:Below w.heap.size w w'):Came w' a len cap ls:=⟨h.row.below hb,h.nil,h.room,h.bytes,h.wf⟩
theorem Came.most {w:World} {a:Option Addr} {len cap:Nat} {ls:List Du} (h:Came w a len cap ls):len≤maxLen:=by have:=h.bytes;unfold maxLen;omega
theorem Ld.came {T:TypeId} {w:World} {base:Nat} {v:Value} {l:List Du} (h:Ld T w base v l) (hl:l.length*16≤140737488351232) (hw:∀ x∈l,(Lit.int .i64 x.a).wf=true∧(Lit.int .i64 x.b).wf=true):∃ a cap,v = .slice a l.length cap∧Came w a l.length cap l:=by
 obtain ⟨a,cap,hv,hr,hn,hc,_⟩:=h.row;exact ⟨a,cap,hv,hr,hn,hc,hl,hw⟩
def GaveD (T:TypeId) (w:World) (zs:List Du) (e:Ending) (w':World):Prop:=∃ v,e = .returned v∧Ld T w' w.heap.size v zs∧Below w.heap.size w w'
theorem GaveD.mk {T:TypeId} {w w':World} {zs:List Du} {v:Value} (h1:Ld T w' w.heap.size v zs) (h2:Below w.heap.size w w'):GaveD T w zs (.returned v) w':=⟨v,rfl,h1,h2⟩
theorem wf_mid {z:Int} (h0:0≤z) (h1:z≤4000000000000):(Lit.int .i64 z).wf=true:=by
 have h1:IntKind.i64.min≤z:=by
  have e:IntKind.i64.min=-9223372036854775808:=by decide
  omega
 have h2:z≤IntKind.i64.max:=by
  have e:IntKind.i64.max=9223372036854775807:=by decide
  omega
 show (decide (IntKind.i64.min≤z) && decide (z≤IntKind.i64.max))=true;rw [Bool.and_eq_true];exact ⟨decide_eq_true h1,decide_eq_true h2⟩
theorem MostIs.got {l:List Du} {x m u p e:Int} (h:MostIs l x m u p e) (hR:Right l) (hM:MayMost x m):e=0∧MostOf l x m u∧p=cost l x (x+u):=by
 rcases h with ⟨a,_⟩ | ⟨_,b,_⟩ | ⟨_,_,c,d⟩
 ·exact absurd hR a
 ·exact absurd hM b
 ·exact ⟨c,d⟩
end tar
namespace cell
open Go.RowKit
def RowU (w:World) (a:Option Addr) (len:Nat) (zs:List Int):Prop:=
 zs.length=len∧(len=0∨∃ b off,a=some ⟨b,off,none⟩∧∀ i,i<len→w.cell? ⟨b,off+i,none⟩=some (.int .u32 (zs.getD i 0)))
theorem RowU.below {w w':World} {a:Option Addr} {n:Nat} {zs:List Int} (h:RowU w a n zs) (hb:Below w.heap.size w w'):RowU w' a n zs:=by
 refine ⟨h.1,?_⟩;rcases h.2 with h0 | ⟨b,off,rfl,hc⟩
 ·exact .inl h0
 ·refine .inr ⟨b,off,rfl,fun i hi=>?_⟩;have h1:=hc i hi;rw [hb.cell (p:=⟨b,off+i,none⟩) (World.block_lt_of_cell? w _ h1)];exact h1
theorem RowU.nil (w:World) (a:Option Addr):RowU w a 0 []:=⟨rfl,.inl rfl⟩
theorem RowU.at {w:World} {a:Option Addr} {n:Nat} {zs:List Int} (h:RowU w a n zs) (h0:0<n):∃ b off,a=some ⟨b,off,none⟩∧b<w.heap.size∧∀ i,i<n→w.cell? ⟨b,off+i,none⟩=some (.int .u32 (zs.getD i 0)):=by
 rcases h.2 with h1 | ⟨b,off,rfl,hc⟩
 ·omega
 ·exact ⟨b,off,rfl,World.block_lt_of_cell? w _ (hc 0 h0),hc⟩
theorem rowU_of {w:World} {a:Option Addr} {len cap M:Nat} {zs:List Int}
  (h:(a=none∧len=0∧cap=0∧zs=[])∨∃ x,a=some x∧len≤cap∧cap*4≤M∧zs.length=cap∧(∀ i,i<zs.length→w.cell? (x.add i)=some (.int .u32 (zs.getD i 0)))∧∀ n∈zs,(Lit.int .u32 n).wf=true) :
  RowU w a len (zs.take len)∧(a=none→cap=0)∧len*4≤M:=by
 rcases h with ⟨rfl,rfl,rfl,rfl⟩ | ⟨x,rfl,h1,h2,h3,h4,h5⟩
 ·exact ⟨⟨rfl,.inl rfl⟩,fun _=>rfl,by omega⟩
 ·refine ⟨⟨by rw [List.length_take];omega,?_⟩,(fun h=>by cases h),by omega⟩;by_cases h0:len=0
  ·exact .inl h0
  ·refine .inr ?_;obtain ⟨b,off,spot⟩:=x;have hs:spot=none:=by simpa [Addr.add] using World.cell?_spot (h4 0 (by omega))
   subst hs;refine ⟨b,off,rfl,fun i hi=>?_⟩;have:=h4 i (by omega);rw [Addr.add_lit] at this;rw [this]
   congr 2
   simp [hi]
def Ws (w:World) (base:Nat) (v:Value) (zs:List Int):Prop:=w.ownsRow base 99 1 v zs.length (zs.map (.int .u32))
theorem Ws.zero (w:World) (base:Nat):Ws w base (zS) []:=World.ownsRow_nil _ _ _ _
theorem Ws.row {w:World} {base:Nat} {v:Value} {l:List Int} (h:Ws w base v l):∃ a cap,v = .slice a l.length cap∧RowU w a l.length l∧(a=none→cap=0)∧l.length≤cap:=by
 rcases h.2 with ⟨hv,hn⟩ | ⟨g,cap,cur,hv,_,_,h1,_⟩
 ·exact ⟨none,0,by rw [hn];exact hv,⟨rfl,.inl hn⟩,fun _=>rfl,by omega⟩
 ·subst hv;refine ⟨_,cap,rfl,⟨rfl,.inr ⟨g,0,rfl,fun i hi=>?_⟩⟩,(fun h=>by cases h),h1⟩;have:=World.ownsRow.cellAt h i (by omega);rw [Nat.zero_add,this];simp [List.getD,hi]
theorem own_far {w:World} {base n k:Nat} {t:TypeId} {v:Value} {l:List Value} (h:w.ownsRow base t n v k l) {G:Nat} (hG:G<base):some G≠v.ownBlock:=by
 intro e;have:=(World.ownsRow.lt h G e.symm).1;omega
theorem own_bel {w0 w w':World} {base B n k:Nat} {t:TypeId} {v:Value} {l:List Value} (h:w.ownsRow base t n v k l) (hg:w.grownBy w' v.ownBlock) (hb:Below B w0 w) (hB:B≤base) (hw:B≤w.heap.size):Below B w0 w':=by
 refine ⟨hg.os.trans hb.os,hg.tape.trans hb.tape,hg.output.trans hb.output,Nat.le_trans hb.size hg.size,fun k hk=>?_⟩;rw [← hb.block k hk];exact hg.block k (by omega) (own_far h (by omega))
theorem alloc_le {w:World} {B:Nat} (h:B≤w.heap.size) (o:Obj):B≤(w.alloc o).heap.size:=by simp;omega
theorem info_u32:(Tryz.prog.info? 99).map (fun i=>(i.zero,i.size,i.bytes))=some (some (.int .u32 0),1,4):=by kernel_rfl
end cell
namespace cal
open Go.RowKit
theorem cin (n lo hi:Int) (w:World):Calls Tryz.prog 101 #[zI n,zI lo,zI hi] w fun e w'=>e = .returned (.bool (decide (lo≤n∧n≤hi)))∧w'=w:=by
 by_cases h1:lo≤n
 ·by_cases h2:n≤hi
  ·have h3:decide (lo≤n∧n≤hi)=true:=by simp;omega
   rw [h3];clear h3;go_enter Tryz.func101,Tryz.ntmps101;go_wp2;go_ret;exact ⟨rfl,rfl⟩
  ·have h3:decide (lo≤n∧n≤hi)=false:=by simp;omega
   have h4:decide (n≤hi)=false:=by simp;omega
   rw [h3];clear h3 h2;go_enter Tryz.func101,Tryz.ntmps101;go_wp2;go_ret;exact ⟨rfl,rfl⟩
 ·have h3:decide (lo≤n∧n≤hi)=false:=by simp;omega
  have h4:decide (lo≤n)=false:=by simp;omega
  rw [h3];clear h3 h1;go_enter Tryz.func101,Tryz.ntmps101;go_wp2;go_ret;exact ⟨rfl,rfl⟩
end cal
namespace cell
open Go.RowKit
def RowW (w:World) (a:Option Addr) (len:Nat) (ls:List Wr):Prop:=
 ls.length=len∧(len=0∨∃ b off,a=some ⟨b,off,none⟩∧∀ i,i<len→w.cell? ⟨b,off+i*2,none⟩=some (zI (ls.getD i wr0).p)∧w.cell? ⟨b,off+i*2+1,none⟩=some (.int .u32 (ls.getD i wr0).d))
theorem RowW.at {w:World} {a:Option Addr} {n:Nat} {zs:List Wr} (h:RowW w a n zs) (h0:0<n):∃ b off,a=some ⟨b,off,none⟩∧b<w.heap.size∧∀ i,i<n→w.cell? ⟨b,off+i*2,none⟩=some (zI (zs.getD i wr0).p)∧w.cell? ⟨b,off+i*2+1,none⟩=some (.int .u32 (zs.getD i wr0).d):=by
 rcases h.2 with h1 | ⟨b,off,rfl,hc⟩
 ·omega
 ·exact ⟨b,off,rfl,World.block_lt_of_cell? w _ (hc 0 h0).1,hc⟩
end cell
namespace book
open Go.RowKit
def refV (f:Int):Value:= .iface 150 (.agg #[zI f])
def thrown (f:Int):List PanicEntry:=[{ v:=refV f,recovered:=false }]
theorem insist_ok (w:World):Calls Tryz.prog 112 #[zI 0] w fun e w'=>e = .returned (.tuple #[])∧w'=w:=by
 go_enter Tryz.func112,Tryz.ntmps112;go_wp2;go_end0;exact ⟨rfl,rfl⟩
theorem insist_no (f:Int) (hf:f≠0) (w:World):Calls Tryz.prog 112 #[zI f] w fun e w'=>e = .panicked (thrown f)∧w'=w:=by
 have nf:(f != 0)=true:=by simpa using hf
 clear hf;go_enter Tryz.func112,Tryz.ntmps112;go_wp2;exact ⟨rfl,rfl,rfl⟩
theorem reason_nil (w:World):Calls Tryz.prog 39 #[.nilIface] w fun e w'=>e = .returned (zI 0)∧w'=w:=by
 have hq:∀ w:World,(binOp BinOp.eql 20 .nilIface .nilIface).run Tryz.prog w = .ok (.bool true) w:=fun _=>by kernel_rfl
 go_enter Tryz.func39,Tryz.ntmps39;go_wp2;go_ret;exact ⟨rfl,rfl⟩
theorem reason_is (f:Int) (w:World):Calls Tryz.prog 39 #[refV f] w fun e w'=>e = .returned (zI f)∧Below w.heap.size w w':=by
 have hq:∀ w:World,(binOp BinOp.eql 20 (refV f) .nilIface).run Tryz.prog w = .ok (.bool false) w:=fun _=>by kernel_rfl
 have h1:∀ w:World,(Instr.typeAssert (refV f) 20 148 false).run Tryz.prog w = .ok (refV f) w:=fun _=>by kernel_rfl
 have h2:∀ w:World,(Instr.typeAssert (refV f) 148 150 true).run Tryz.prog w = .ok (.tuple #[.agg #[zI f],.bool true]) w:=fun _=>by kernel_rfl
 have HB:Hid (Below w.heap.size w (w.alloc (.cells #[zI f] 150))):=(Below.refl _ _).alloc (Nat.le_refl _) _;unfold refV at *;go_enter Tryz.func39,Tryz.ntmps39;go_wp2;go_ret;exact ⟨rfl,HB.o⟩
theorem decode_caught (g:Nat) (f0 f:Int) (w:World) (hb:Blk w g #[zI f0] 27) :
  CallsD Tryz.prog 65 #[.pointer (some ⟨g,0,none⟩)] (.panicking (thrown f)) w fun e u' w'=>e = .returned (.tuple #[])∧settle u' = .returning∧∃ W,Below w.heap.size w W∧Upd W w' g #[zI f] 27:=by
 refine callsD_of_wpS Tryz.func65 rfl fun c₀ cs hu=>?_;apply wpS_region;simp only [thrown] at hu;simp [wpOpsS,go_sem,recoverD,hu,Tryz.ntmps65,Exit.thenS];refine (reason_is f w).mono ?_;rintro e w1 ⟨rfl,hb1⟩;have hB:=hb.next hb1;have hc:w1.cell? ⟨g,0,none⟩=some (zI f0):=hB.cell 0;have hz:w1.frozen? ⟨g,0,none⟩=false:=hB.free 0;have hU:Upd w1 (w1.setCell ⟨g,0,none⟩ (zI f)) g #[zI f] 27:=upd_cells g _ [zI f] 0 w1 _ hB;simp [go_sem,hc,hz,bodyPostS,results,Tryz.results65,settle];exact ⟨w1,hb1,hU⟩
theorem decode_idle (g:Nat) (f0:Int) (w:World) (hb:Blk w g #[zI f0] 27) :
  CallsD Tryz.prog 65 #[.pointer (some ⟨g,0,none⟩)] .returning w fun e u' w'=>e = .returned (.tuple #[])∧settle u' = .returning∧∃ W,Below w.heap.size w W∧Upd W w' g #[zI 0] 27:=by
 refine callsD_of_wpS Tryz.func65 rfl fun c₀ cs hu=>?_;apply wpS_region;simp [wpOpsS,go_sem,recoverD,hu,Tryz.ntmps65,Exit.thenS];refine (reason_nil w).mono ?_;rintro e w1 ⟨rfl,rfl⟩;have hc:w1.cell? ⟨g,0,none⟩=some (zI f0):=hb.cell 0;have hz:w1.frozen? ⟨g,0,none⟩=false:=hb.free 0;have hU:Upd w1 (w1.setCell ⟨g,0,none⟩ (zI 0)) g #[zI 0] 27:=upd_cells g _ [zI 0] 0 w1 _ hb;simp [go_sem,hc,hz,bodyPostS,results,Tryz.results65,hu,settle];exact ⟨.returning,(by cases c₀;simp_all),rfl,w1,Below.refl _ _,hU⟩
end book
namespace words
theorem ofInt_nat (k a:Nat) (h:a<2 ^ k):(BitVec.ofInt k (a:Int)).toNat=a:=by
 rw [BitVec.ofInt_natCast,BitVec.toNat_ofNat];exact Nat.mod_eq_of_lt h
theorem wrap_u32 (n:Int):IntKind.u32.wrap n=n % 4294967296:=by simp [IntKind.wrap,IntKind.bits,IntKind.signed]
theorem or64 (a b:Nat) (ha:a<2 ^ 64) (hb:b<2 ^ 64):bits .or .u64 (a:Int) (b:Int)=((a ||| b:Nat):Int):=by
 have h:=Nat.or_lt_two_pow ha hb;show IntKind.u64.wrap ((BitVec.ofInt 64 (a:Int) ||| BitVec.ofInt 64 (b:Int)).toNat:Int)=_;rw [BitVec.toNat_or,ofInt_nat 64 a ha,ofInt_nat 64 b hb,IntKind.wrap_u64];omega
theorem or32 (a b:Nat) (ha:a<2 ^ 32) (hb:b<2 ^ 32):bits .or .u32 (a:Int) (b:Int)=((a ||| b:Nat):Int):=by
 have h:=Nat.or_lt_two_pow ha hb;show IntKind.u32.wrap ((BitVec.ofInt 32 (a:Int) ||| BitVec.ofInt 32 (b:Int)).toNat:Int)=_;rw [BitVec.toNat_or,ofInt_nat 32 a ha,ofInt_nat 32 b hb,wrap_u32];omega
theorem andNot32 (a b:Nat) (ha:a<2 ^ 32) (hb:b<2 ^ 32):bits .andNot .u32 (a:Int) (b:Int)=((a &&& (2 ^ 32 - 1 - b):Nat):Int):=by
 have h:a &&& (2 ^ 32 - 1 - b)<2 ^ 32:=Nat.and_lt_two_pow a (by omega);show IntKind.u32.wrap ((BitVec.ofInt 32 (a:Int) &&& ~~~ BitVec.ofInt 32 (b:Int)).toNat:Int)=_;rw [BitVec.toNat_and,BitVec.toNat_not,ofInt_nat 32 a ha,ofInt_nat 32 b hb,wrap_u32];omega
theorem or_words (n x:Int) (n0:0≤n) (n1:n<4294967296) (x0:0≤x) (x1:x<4294967296):bits .or .u64 (n*4294967296) x=n*4294967296+x:=by
 obtain ⟨p,rfl⟩:=Int.eq_ofNat_of_zero_le n0;obtain ⟨q,rfl⟩:=Int.eq_ofNat_of_zero_le x0;have e:((p:Int)*4294967296)=((p*4294967296:Nat):Int):=by simp
 rw [e,or64 _ _ (by omega) (by omega)];have h:=Nat.shiftLeft_add_eq_or_of_lt (show q<2 ^ 32 by omega) p;rw [Nat.shiftLeft_eq] at h;have h2:p*4294967296 ||| q=p*4294967296+q:=h.symm
 rw [h2];simp
end words
end Go.Proofs.YtnpblpbohcegoaaGreatDoor
