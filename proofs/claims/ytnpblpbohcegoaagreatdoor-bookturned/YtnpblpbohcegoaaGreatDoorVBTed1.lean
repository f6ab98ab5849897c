import Derived.Test.YtnpblpbohcegoaaGreatDoorVBTed0
set_option linter.unusedVariables false
set_option linter.unusedSimpArgs false
set_option maxHeartbeats 4000000
set_option maxRecDepth 100000
namespace Go.Proofs.YtnpblpbohcegoaaGreatDoor
section
open Go.RowKit
def Blk (w:World) (G:Nat) (cs:Array Value) (t:TypeId):Prop:=w.heap[G]?=some (.cells cs t (0,0))
theorem Blk.lt {w:World} {G:Nat} {cs:Array Value} {t:TypeId} (h:Blk w G cs t):G<w.heap.size:=by
 unfold Blk at h;by_cases hh:G<w.heap.size
 ·exact hh
 ·rw [Array.getElem?_eq_none (by omega)] at h;cases h
theorem Blk.new (w:World) (cs:Array Value) (t:TypeId):Blk (w.alloc (.cells cs t)) w.heap.size cs t:=by
 show (w.heap.push _)[w.heap.size]?=_;rw [Array.getElem?_push_size]
theorem Blk.new1 (w:World) (o:Obj) (cs:Array Value) (t:TypeId):Blk ((w.alloc o).alloc (.cells cs t)) (w.heap.size+1) cs t:=by
 have h:=Blk.new (w.alloc o) cs t
 rwa [show (w.alloc o).heap.size=w.heap.size+1 by simp] at h
theorem Blk.new2 (w:World) (o p:Obj) (cs:Array Value) (t:TypeId):Blk (((w.alloc o).alloc p).alloc (.cells cs t)) (w.heap.size+1+1) cs t:=by
 have h:=Blk.new ((w.alloc o).alloc p) cs t
 rwa [show ((w.alloc o).alloc p).heap.size=w.heap.size+1+1 by simp] at h
theorem Blk.new3 (w:World) (o p q:Obj) (cs:Array Value) (t:TypeId):Blk ((((w.alloc o).alloc p).alloc q).alloc (.cells cs t)) (w.heap.size+1+1+1) cs t:=by
 have h:=Blk.new (((w.alloc o).alloc p).alloc q) cs t
 rwa [show (((w.alloc o).alloc p).alloc q).heap.size=w.heap.size+1+1+1 by simp] at h
theorem Blk.alloc {w:World} {G:Nat} {cs:Array Value} {t:TypeId} (h:Blk w G cs t) (o:Obj):Blk (w.alloc o) G cs t:=by
 have hl:=h.lt;unfold Blk at *;show (w.heap.push o)[G]?=_;rw [Array.getElem?_push,if_neg (by omega)];exact h
theorem Blk.below {w w':World} {G B:Nat} {cs:Array Value} {t:TypeId} (h:Blk w G cs t) (hb:Below B w w') (hG:G<B):Blk w' G cs t:=by
 unfold Blk at *;rw [hb.block G hG];exact h
theorem Blk.next {w w':World} {G:Nat} {cs:Array Value} {t:TypeId} (h:Blk w G cs t) (hb:Below w.heap.size w w'):Blk w' G cs t:=h.below hb h.lt
theorem Blk.cell {w:World} {G:Nat} {cs:Array Value} {t:TypeId} (h:Blk w G cs t) (i:Nat):w.cell? ⟨G,i,none⟩=cs[i]?:=by
 unfold Blk at h;simp [World.cell?,h]
theorem Blk.free {w:World} {G:Nat} {cs:Array Value} {t:TypeId} (h:Blk w G cs t) (i:Nat):w.frozen? ⟨G,i,none⟩=false:=by
 unfold Blk at h;simp [World.frozen?,h]
theorem Blk.set {w:World} {G:Nat} {cs:Array Value} {t:TypeId} (h:Blk w G cs t) (i:Nat) (u:Value):Blk (w.setCell ⟨G,i,none⟩ u) G (cs.setIfInBounds i u) t:=by
 have hl:=h.lt;unfold Blk at *;have hl':=hl;simp [World.setCell,Array.getElem?_modify,h]
theorem Blk.other {w:World} {G G':Nat} {cs:Array Value} {t:TypeId} (h:Blk w G cs t) (i:Nat) (u:Value) (hne:G'≠G):Blk (w.setCell ⟨G',i,none⟩ u) G cs t:=by
 unfold Blk at *;simp only [World.setCell,Array.getElem?_modify];rw [if_neg hne];exact h
theorem Blk.drew {w:World} {G:Nat} {cs:Array Value} {t:TypeId} (h:Blk w G cs t) (q:Nat):Blk (w.drewN q) G cs t:=h
theorem bel_set {B:Nat} {w w':World} (h:Below B w w') (G i:Nat) (u:Value) (hG:B≤G):Below B w (w'.setCell ⟨G,i,none⟩ u):=by
 refine ⟨h.os,h.tape,h.output,by simp [World.setCell];exact h.size,fun k hk=>?_⟩;rw [← h.block k hk];simp only [World.setCell,Array.getElem?_modify];rw [if_neg (by omega)]
theorem bel_drew {B:Nat} {w0 w:World} (h:Below B w0 w) (q:Nat):Below B w0 (w.drewN q):=⟨h.os,h.tape,h.output,h.size,h.block⟩
theorem bel_step {w0 w w':World} (h:Below w0.heap.size w0 w) (h':Below w.heap.size w w'):Below w0.heap.size w0 w':=h.trans (h'.mono h.size)
end
section
open Go.RowKit
def putAll (cs:Array Value):Nat→List Value→Array Value
 | _,[]=>cs
 | o,v :: r=>putAll (cs.setIfInBounds o v) (o+1) r
structure Upd (w W:World) (g:Nat) (cs:Array Value) (t:TypeId):Prop where
 blk:Blk W g cs t
 oth:∀ G,G≠g→W.heap[G]?=w.heap[G]?
 bel:∀ B w0,B≤g→Below B w0 w→Below B w0 W
 size:W.heap.size=w.heap.size
theorem Upd.keep {w W:World} {g G:Nat} {cs cs':Array Value} {t t':TypeId} (h:Upd w W g cs t) (hb:Blk w G cs' t') (hne:G≠g):Blk W G cs' t':=by
 unfold Blk at *;rw [h.oth G hne];exact hb
theorem Upd.cell {w W:World} {g:Nat} {cs:Array Value} {t:TypeId} (h:Upd w W g cs t) (x:Addr) (hne:x.block≠g) (hs:x.spot=none):W.cell? x=w.cell? x:=by
 obtain ⟨b,o,s⟩:=x;simp only at hs hne;subst hs;simp only [World.cell?,h.oth b hne]
theorem upd_cells (g:Nat) (t:TypeId):∀ (vs:List Value) (o:Nat) (w:World) (cs:Array Value),Blk w g cs t→Upd w (w.setCells g o vs) g (putAll cs o vs) t
 | [],o,w,cs,h=>⟨h,fun _ _=>rfl,fun _ _ _ hb=>hb,rfl⟩
 | v :: r,o,w,cs,h=>by
  have ih:=upd_cells g t r (o+1) (w.setCell ⟨g,o,none⟩ v) (cs.setIfInBounds o v) (h.set o v);refine ⟨ih.blk,fun G hG=>?_,fun B w0 hB hb=>ih.bel B w0 hB (bel_set hb g o v hB),?_⟩
  ·show ((w.setCell ⟨g,o,none⟩ v).setCells g (o+1) r).heap[G]?=_;rw [ih.oth G hG];simp only [World.setCell,Array.getElem?_modify];rw [if_neg (fun e=>hG e.symm)]
  ·show ((w.setCell ⟨g,o,none⟩ v).setCells g (o+1) r).heap.size=_;rw [ih.size];simp [World.setCell]
theorem run_storeVar_let {P:Program} {w:World} {g off:Nat} {ty t:TypeId} {v:Value} {cells cs:Array Value} (hv:v.cells=cells) (hi:(P.info? ty).map (·.size)=some cells.size) (h1:cells.all (·.oneCell')=true)
  (hB:Blk w g cs t) (hin:off+cells.size≤cs.size):(storeVar ty ⟨g,off,none⟩ v).run P w = .ok () (w.setCells g off cells.toList):=by
 have:=run_storeCells_cells (P:=P) g off cells.toList 0 w (fun j hj=>by
   have hj':j<cells.size:=by simpa using hj
   rw [Nat.add_zero,hB.cell (off+j),Array.getElem?_eq_getElem (by omega)];rfl)
  (fun j hj=>hB.free _) (fun v hv=>(Array.all_eq_true_iff_forall_mem.1 h1) v (by simpa using hv))
 cases hq:P.info? ty with
 | none=>simp [hq] at hi
 | some i=>
  have hs:cells.size=i.size:=by simp [hq] at hi;omega
  simp only [Nat.add_zero] at this;simp [storeVar,sizeOf,typeInfo,hq,hv,hs,this]
theorem wp_let {P:Program} {ops:Array Oper} {rest:List Oper} {o:Oper} {a:Act} {w:World} {Q:Exit→Act→World→Prop} (hgd:o.guard=none) (ty:TypeId) (x y:Operand) (ho:o.op = .store ty x y)
  (g off:Nat) (hx:a.eval x = .pointer (some ⟨g,off,none⟩)) (v:Value) (hy:a.eval y=v) (cells:Array Value) (hv:v.cells=cells) (hi:(P.info? ty).map (·.size)=some cells.size) (h1:cells.all (·.oneCell')=true)
  (cs:Array Value) (t:TypeId) (hB:Blk w g cs t) (hin:off+cells.size≤cs.size) (new:Array Value) (hnew:putAll cs off cells.toList=new)
  (h:∀ W,Upd w W g new t→wpList P ops Q rest (a.put o.dst undef) W):wpList P ops Q (o :: rest) a w:=
 wpList_plain hgd fun _ hK=>by
  unfold Oper.wp execOp;simp only [ho,hx,hy,Instr.storeAt,Instr.sureAddr,Sem.run_bind,Sem.run_pure,Result.andThen_ok,run_storeVar_let hv hi h1 hB hin];refine hK _ _ (h _ ?_);rw [← hnew];exact upd_cells g t cells.toList off w cs hB
theorem putAll_all:∀ (vs:List Value) (o:Nat) (cs:Array Value),o+vs.length=cs.size→(putAll cs o vs).toList=cs.toList.take o++vs
 | [],o,cs,h=>by simp [putAll];rw [List.take_of_length_le (by simpa using (by simp at h;omega))]
 | v :: r,o,cs,h=>by
  rw [putAll,putAll_all r (o+1) (cs.setIfInBounds o v) (by simp at h ⊢;omega)];have ho:o<cs.toList.length:=by simp at h ⊢;omega
  rw [Array.toList_setIfInBounds,List.take_set,List.take_succ_eq_append_getElem ho];have ho':o<cs.size:=by simpa using ho
  have hm:min o cs.size=o:=by omega
  simp [hm]
theorem wp_letAll {P:Program} {ops:Array Oper} {rest:List Oper} {o:Oper} {a:Act} {w:World} {Q:Exit→Act→World→Prop} (hgd:o.guard=none) (ty:TypeId) (x y:Operand) (ho:o.op = .store ty x y)
  (g:Nat) (hx:a.eval x = .pointer (some ⟨g,0,none⟩)) (cells:Array Value) (hy:a.eval y = .agg cells) (hi:(P.info? ty).map (·.size)=some cells.size) (h1:cells.all (·.oneCell')=true)
  (cs:Array Value) (t:TypeId) (hB:Blk w g cs t) (hin:cells.size=cs.size)
  (h:∀ W,Upd w W g cells t→wpList P ops Q rest (a.put o.dst undef) W):wpList P ops Q (o :: rest) a w:=
 wp_let hgd ty x y ho g 0 hx _ hy cells rfl hi h1 cs t hB (by omega) cells (by
  have:=putAll_all cells.toList 0 cs (by simpa using hin);rw [List.take_zero,List.nil_append] at this
  rw [← Array.toList_inj];exact this) h
theorem wp_let1 {P:Program} {ops:Array Oper} {rest:List Oper} {o:Oper} {a:Act} {w:World} {Q:Exit→Act→World→Prop} (hgd:o.guard=none) (ty:TypeId) (x y:Operand) (ho:o.op = .store ty x y)
  (g off:Nat) (hx:a.eval x = .pointer (some ⟨g,off,none⟩)) (k:IntKind) (n:Int) (hy:a.eval y = .int k n) (hi:(P.info? ty).map (·.size)=some 1)
  (cs:Array Value) (t:TypeId) (hB:Blk w g cs t) (hin:off<cs.size)
  (h:∀ W,Upd w W g (cs.setIfInBounds off (.int k n)) t→wpList P ops Q rest (a.put o.dst undef) W):wpList P ops Q (o :: rest) a w:=
 wp_let hgd ty x y ho g off hx _ hy #[.int k n] rfl hi (by simp [Value.oneCell']) cs t hB (by simp;omega) _ rfl h
theorem wp_whole {P:Program} {ops:Array Oper} {rest:List Oper} {o:Oper} {a:Act} {w:World} {Q:Exit→Act→World→Prop} (hgd:o.guard=none) (ty:TypeId) (x:Operand) (ho:o.op = .load ty x)
  (g:Nat) (hx:a.eval x = .pointer (some ⟨g,0,none⟩)) (t:TypeId) (cs:Array Value) (d:TypeDesc) (hB:Blk w g cs t)
  (hu:P.underlying ty=some d) (hd:(match d with | .struct _ | .array _ _=>true | _=>false)=true) (hi:(P.info? ty).map (·.size)=some cs.size)
  (h:wpList P ops Q rest (a.put o.dst (.agg cs)) w):wpList P ops Q (o :: rest) a w:=wpList_load_row hgd ty x ho g hx t cs (0,0) d hB hu hd hi h
theorem store_let {P:Program} {w:World} {g:Nat} {ty t:TypeId} {cells cs:Array Value} (hi:(P.info? ty).map (·.size)=some cells.size) (h1:cells.all (·.oneCell')=true)
  (hB:Blk w g cs t) (hin:cells.size=cs.size):∃ W,(Instr.storeAt ty (.pointer (some ⟨g,0,none⟩)) (.agg cells)).run P w = .ok () W∧Upd w W g cells t:=by
 refine ⟨w.setCells g 0 cells.toList,?_,?_⟩
 ·have hs:=run_storeVar_let (P:=P) (v:= .agg cells) (cells:=cells) (off:=0) rfl hi h1 hB (by omega);simp only [Instr.storeAt,Instr.sureAddr,Sem.run_bind,Sem.run_pure,Result.andThen_ok,hs]
 ·have h:=upd_cells g t cells.toList 0 w cs hB;have:=putAll_all cells.toList 0 cs (by simpa using hin);rw [List.take_zero,List.nil_append] at this;rw [show putAll cs 0 cells.toList=cells by rw [← Array.toList_inj];exact this] at h;exact h
theorem yieldsIf_whole {P:Program} {ops:Array Oper} {S:World→Prop} {op:Oper} {a:Act} (hw:Region.wanted op (yielded ops a.tmps)=true) (ty:TypeId) (x:Operand) (ho:op.op = .load ty x)
  (g:Nat) (hx:a.eval x = .pointer (some ⟨g,0,none⟩)) (t:TypeId) (cs:Array Value) (d:TypeDesc) (hS:∀ w,S w→Blk w g cs t)
  (hu:P.underlying ty=some d) (hd:d.isRow=true) (hi:(P.info? ty).map (·.size)=some cs.size):YieldsIf P ops S op (.agg cs) a:=by
 have:=yieldsIf_load_mid (P:=P) (S:=S) hw ty x ho g 0 hx cs.toList d (fun w hSw j v hv=>by rw [Nat.zero_add,(hS w hSw).cell j];simpa using hv) hu hd (by simpa using hi);simpa using this
theorem take_at {P:Program} {ops:Array Oper} {Q:Exit→Act→World→Prop} {md:Region.Mode} {S:World→Prop} {fuel:Nat} {listed:Array Bool} {a:Act} {w:World} (i d:Nat) (v:Value) (oi:Oper) (hi:ops[i]?=some oi) (hd:oi.dst=some d)
  (hs:Region.noSelect ops=true) (hf:Region.free md ops listed i=true) (hr:(Region.ready md ops listed).contains i=true)
  (hQ:∀ c a w,Q (.panic c) (a.put oi.dst v) w→Q (.panic c) a w) (hy:YieldsIf P ops S oi v a) (hS:S w)
  (h:wpAnyH P md ops Q S fuel (listed.setIfInBounds i true) (a.put (some d) v) w):wpAnyH P md ops Q S (fuel+1) listed a w:=
 wpAnyH_take hi hs hf hr hQ hy hS (by rw [hd];exact h)
theorem wp_letOp {P:Program} {o:Oper} {a:Act} {w:World} {K:Act→World→Prop} {Q:Exit→Act→World→Prop} (ty:TypeId) (x y:Operand) (ho:o.op = .store ty x y)
  (g:Nat) (hx:a.eval x = .pointer (some ⟨g,0,none⟩)) (cells:Array Value) (hy:a.eval y = .agg cells) (hi:(P.info? ty).map (·.size)=some cells.size) (h1:cells.all (·.oneCell')=true)
  (cs:Array Value) (t:TypeId) (hB:Blk w g cs t) (hin:cells.size=cs.size) (hd:o.dst=none)
  (h:∀ W,Upd w W g cells t→K a W):o.wp P a w K Q:=by
 obtain ⟨W,hst,hU⟩:=store_let (P:=P) (ty:=ty) hi h1 hB hin;unfold Oper.wp execOp;simp only [ho,hx,hy,Sem.run_bind,hst,Result.andThen_ok];have:=h W hU;have e:a.put o.dst undef=a:=by rw [hd];rfl
 rw [← e] at this;exact this
end
section
open Go.RowKit
def zqr (P : Program) (ty : TypeId) (k : Nat) : Prop := ∃ d, P.underlying ty = some d ∧ (match d with | .struct _ | .array _ _ => true | _ => false) = true ∧ (P.info? ty).map (·.size) = some k
theorem zqw {P : Program} {ops : Array Oper} {rest : List Oper} {o : Oper} {a : Act} {w : World} {Q : Exit → Act → World → Prop} (hgd : o.guard = none) {ty : TypeId} {x : Operand} (ho : o.op = .load ty x)
 {g : Nat} (hx : a.eval x = .pointer (some ⟨g, 0, none⟩)) {t : TypeId} {cs : Array Value} (hB : Hid (Blk w g cs t)) (hr : zqr P ty cs.size)
 (h : wpList P ops Q rest (a.put o.dst (.agg cs)) w) : wpList P ops Q (o :: rest) a w := by
 obtain ⟨d, h1, h2, h3⟩ := hr
 exact wp_whole hgd ty x ho g hx t cs d hB.out h1 (by cases d <;> first | rfl | exact h2) h3 h
theorem zql {P : Program} {ops : Array Oper} {rest : List Oper} {o : Oper} {a : Act} {w : World} {Q : Exit → Act → World → Prop} (hgd : o.guard = none) {ty : TypeId} {x y : Operand} (ho : o.op = .store ty x y)
 {g : Nat} (hx : a.eval x = .pointer (some ⟨g, 0, none⟩)) {cells : Array Value} (hy : a.eval y = .agg cells) (hr : zqr P ty cells.size) (h1 : cells.all (·.oneCell') = true)
 {cs : Array Value} {t : TypeId} (hB : Hid (Blk w g cs t)) (hin : cells.size = cs.size)
 (h : ∀ W, Upd w W g cells t → wpList P ops Q rest (a.put o.dst undef) W) : wpList P ops Q (o :: rest) a w := by
 obtain ⟨d, h4, h2, h3⟩ := hr
 exact wp_letAll hgd ty x y ho g hx cells hy h3 h1 cs t hB.out hin h
theorem zqo {P : Program} {ops : Array Oper} {Q : Exit → Act → World → Prop} {md : Region.Mode} {S : World → Prop} {fuel : Nat} {listed : Array Bool} {a : Act} {w : World} (i : Nat) {o : Oper} (hr : Region.ready md ops listed = [i]) (ho : ops[i]? = some o)
 (h : ∀ K' : Act → World → Prop, Shut (∀ a w, S w → (S w → wpAnyH P md ops Q S fuel (listed.setIfInBounds i true) a w) → K' a w) → if Region.wanted o (yielded ops a.tmps) = true then Oper.wp P o a w K' Q else K' (a.put o.dst undef) w) :
 wpAnyH P md ops Q S (fuel + 1) listed a w := wpAnyH_ready hr (by simp) (AllReadyH.cons ho h AllReadyH.nil)
theorem zqt {P : Program} {ops : Array Oper} {Q : Exit → Act → World → Prop} {md : Region.Mode} {S : World → Prop} {fuel : Nat} {listed : Array Bool} {a : Act} {w : World} (i d : Nat) (v : Value) {oi : Oper} (hi : ops[i]? = some oi) (hd : oi.dst = some d)
 (hk : (Region.noSelect ops && (Region.free md ops listed i && (Region.ready md ops listed).contains i)) = true)
 (hQ : ∀ c a w, Q (.panic c) (a.put oi.dst v) w → Q (.panic c) a w) (hy : YieldsIf P ops S oi v a) (hS : S w)
 (h : wpAnyH P md ops Q S fuel (listed.setIfInBounds i true) (a.put (some d) v) w) : wpAnyH P md ops Q S (fuel + 1) listed a w := by
 rw [Bool.and_eq_true, Bool.and_eq_true] at hk
 exact take_at i d v oi hi hd hk.1 hk.2.1 hk.2.2 hQ hy hS h
theorem zqs {P : Program} {ops : Array Oper} {Q : Exit → Act → World → Prop} {md : Region.Mode} {S : World → Prop} {fuel : Nat} {listed : Array Bool} {a : Act} {w : World} (i d : Nat) (v : Value) {oi : Oper} (hi : ops[i]? = some oi) (hd : oi.dst = some d)
 (hk : (Region.noSelect ops && (Region.free md ops listed i && (Region.ready md ops listed).contains i)) = true)
 (hQ : ∀ c a w, Q (.panic c) (a.put oi.dst v) w → Q (.panic c) a w) (h1 : Region.wanted oi (yielded ops a.tmps) = true) (h2 : ∀ w, S w → (execOp a.eval oi).run P w = .ok (.value v) w) (hS : S w)
 (h : wpAnyH P md ops Q S fuel (listed.setIfInBounds i true) (a.put (some d) v) w) : wpAnyH P md ops Q S (fuel + 1) listed a w := zqt i d v hi hd hk hQ (Or.inl ⟨h1, h2⟩) hS h
theorem zqu24 : zqr Tryz.prog 24 5 := ⟨_, Tryz.underlying24, rfl, by kernel_rfl⟩
theorem zqu35 : zqr Tryz.prog 35 5 := ⟨_, Tryz.underlying35, rfl, by kernel_rfl⟩
theorem zqu39 : zqr Tryz.prog 39 1 := ⟨_, Tryz.underlying39, rfl, by kernel_rfl⟩
theorem zqu41 : zqr Tryz.prog 41 7 := ⟨_, Tryz.underlying41, rfl, by kernel_rfl⟩
theorem zqu46 : zqr Tryz.prog 46 1 := ⟨_, Tryz.underlying46, rfl, by kernel_rfl⟩
theorem zqu51 : zqr Tryz.prog 51 7 := ⟨_, Tryz.underlying51, rfl, by kernel_rfl⟩
theorem zqu54 : zqr Tryz.prog 54 8 := ⟨_, Tryz.underlying54, rfl, by kernel_rfl⟩
theorem zqu56 : zqr Tryz.prog 56 5 := ⟨_, Tryz.underlying56, rfl, by kernel_rfl⟩
theorem zqu68 : zqr Tryz.prog 68 7 := ⟨_, Tryz.underlying68, rfl, by kernel_rfl⟩
theorem zqu70 : zqr Tryz.prog 70 2 := ⟨_, Tryz.underlying70, rfl, by kernel_rfl⟩
theorem zqu72 : zqr Tryz.prog 72 13 := ⟨_, Tryz.underlying72, rfl, by kernel_rfl⟩
theorem zqu78 : zqr Tryz.prog 78 9 := ⟨_, Tryz.underlying78, rfl, by kernel_rfl⟩
theorem zqu87 : zqr Tryz.prog 87 3 := ⟨_, Tryz.underlying87, rfl, by kernel_rfl⟩
theorem zqu96 : zqr Tryz.prog 96 4 := ⟨_, Tryz.underlying96, rfl, by kernel_rfl⟩
theorem zqu113 : zqr Tryz.prog 113 7 := ⟨_, Tryz.underlying113, rfl, by kernel_rfl⟩
theorem zqu166 : zqr Tryz.prog 166 5 := ⟨_, Tryz.underlying166, rfl, by kernel_rfl⟩
theorem zqu252 : zqr Tryz.prog 252 14 := ⟨_, Tryz.underlying252, rfl, by kernel_rfl⟩
end
namespace cell
structure Wr where
 p:Int
 d:Int
def wr0:Wr:=⟨0,0⟩
def wrt:List Int→List Wr→List Int
 | c,[]=>c
 | c,e :: l=>wrt (c.set e.p.toNat e.d) l
theorem wrt_app (c:List Int) (l m:List Wr):wrt c (l++m)=wrt (wrt c l) m:=by
 induction l generalizing c with
 | nil=>rfl
 | cons e l ih=>exact ih _
theorem wrt_one (c:List Int) (e:Wr):wrt c [e]=c.set e.p.toNat e.d:=rfl
theorem wrt_len (c:List Int) (l:List Wr):(wrt c l).length=c.length:=by
 induction l generalizing c with
 | nil=>rfl
 | cons e l ih=>rw [wrt,ih,List.length_set]
theorem take_one (l:List Wr) (k:Nat) (h:k<l.length):l.take (k+1)=l.take k++[l.getD k wr0]:=by
 rw [List.take_succ_eq_append_getElem h];simp [List.getD,List.getElem?_eq_getElem h]
theorem wrt_step (c:List Int) (l:List Wr) (k:Nat) (h:k<l.length):wrt c (l.take (k+1))=(wrt c (l.take k)).set (l.getD k wr0).p.toNat (l.getD k wr0).d:=by
 rw [take_one l k h,wrt_app,wrt_one]
theorem set_at (c:List Int) (i j:Nat) (v:Int):(c.set i v).getD j 0=if j=i∧i<c.length then v else c.getD j 0:=by
 simp only [List.getD,List.getElem?_set];by_cases h:i=j
 ·subst h;by_cases h2:i<c.length
  ·simp [h2]
  ·simp [h2]
 ·rw [if_neg h,if_neg (by omega)]
def inN (n:Nat) (e:Wr):Bool:=decide (0≤e.p) && decide (e.p<n)
theorem inN_iff {n:Nat} {e:Wr}:inN n e=true↔0≤e.p∧e.p<n:=by simp [inN]
def allN (n:Nat) (l:List Wr):Bool:=l.all (inN n)
theorem allN_at {n:Nat} {l:List Wr} (h:allN n l=true) (k:Nat) (hk:k<l.length):0≤(l.getD k wr0).p∧(l.getD k wr0).p<n:=by
 have:=List.all_eq_true.1 h l[k] (List.getElem_mem hk);rw [inN_iff] at this;simpa [List.getD,List.getElem?_eq_getElem hk] using this
theorem allN_take {n:Nat} {l:List Wr} (h:allN n l=true) (k:Nat):allN n (l.take k)=true:=by
 refine List.all_eq_true.2 fun e he=>?_;exact List.all_eq_true.1 h e (List.mem_of_mem_take he)
theorem allN_step (n:Nat) (l:List Wr) (k:Nat) (hk:k<l.length):allN n (l.take (k+1))=(allN n (l.take k) && inN n (l.getD k wr0)):=by
 rw [take_one l k hk];simp [allN]
theorem allN_of_false {n:Nat} {l:List Wr} {k:Nat} (hk:k<l.length) (h:inN n (l.getD k wr0)=false):allN n l=false:=by
 refine Bool.eq_false_iff.2 fun ha=>?_;have:=allN_at ha k hk;rw [← inN_iff] at this;rw [h] at this;cases this
theorem allN_snoc {n:Nat} {l:List Wr} {e:Wr} (h:allN n l=true) (he:0≤e.p∧e.p<n):allN n (l++[e])=true:=by
 unfold allN at *;rw [List.all_append,h];simp [inN,he]
theorem list_ext {a b:List Int} (hl:a.length=b.length) (h:∀ j,j<a.length→a.getD j 0=b.getD j 0):a=b:=by
 apply List.ext_getElem hl;intro j h1 h2;have:=h j h1;simpa [List.getD,List.getElem?_eq_getElem h1,List.getElem?_eq_getElem h2] using this
end cell
namespace words
structure W3 where
 a:Int
 b:Int
 c:Int
def W3.ok (w:W3):Prop:=(0≤w.a∧w.a<4294967296)∧(0≤w.b∧w.b<4294967296)∧(0≤w.c∧w.c<4294967296)
def W3.val (w:W3):Int:=w.a+w.b*4294967296+w.c*18446744073709551616
def top:Int:=79228162514264337593543950336
theorem W3.bd {w:W3} (h:w.ok):0≤w.val∧w.val<top:=by
 obtain ⟨h1,h2,h3⟩:=h;unfold W3.val top;omega
def carry3 (p q r:Int):W3:=⟨p % 4294967296,(p / 4294967296+q) % 4294967296,((p / 4294967296+q) / 4294967296+r) % 4294967296⟩
def carry3o (p q r:Int):Int:=((p / 4294967296+q) / 4294967296+r) / 4294967296
theorem carry3_ok (p q r:Int):(carry3 p q r).ok:=by
 unfold carry3 W3.ok;simp only;omega
theorem carry3_val (p q r:Int):(carry3 p q r).val+carry3o p q r*top=p+q*4294967296+r*18446744073709551616:=by
 unfold carry3 carry3o W3.val top;simp only;omega
def timesW (w:W3) (m:Int):W3:=carry3 (w.a*m) (w.b*m) (w.c*m)
def timesO (w:W3) (m:Int):Int:=carry3o (w.a*m) (w.b*m) (w.c*m)
theorem times_val (w:W3) (m:Int):(timesW w m).val+timesO w m*top=w.val*m:=by
 have:=carry3_val (w.a*m) (w.b*m) (w.c*m);unfold timesW timesO;rw [this];unfold W3.val;rw [Int.add_mul,Int.add_mul,Int.mul_right_comm w.b,Int.mul_right_comm w.c]
theorem prod_bd {x m:Int} (x0:0≤x) (x1:x<4294967296) (m0:0≤m) (m1:m<4294967296):0≤x*m∧x*m≤4294967295*4294967295:=
 ⟨Int.mul_nonneg x0 m0,Int.mul_le_mul (by omega) (by omega) m0 (by omega)⟩
theorem times_mod {w:W3} (m:Int):(timesW w m).val=w.val*m % top:=by
 have h:=times_val w m;have b:=W3.bd (carry3_ok (w.a*m) (w.b*m) (w.c*m));have e:(timesW w m).val=(carry3 (w.a*m) (w.b*m) (w.c*m)).val:=rfl;rw [← h,Int.add_mul_emod_self_right,Int.emod_eq_of_lt (by omega) (by omega)]
def over2 (w:W3) (d:Int):Int:=w.c % d
def over1 (w:W3) (d:Int):Int:=(over2 w d*4294967296+w.b) % d
def overR (w:W3) (d:Int):Int:=(over1 w d*4294967296+w.a) % d
def overW (w:W3) (d:Int):W3:=⟨(over1 w d*4294967296+w.a) / d,(over2 w d*4294967296+w.b) / d,w.c / d⟩
theorem word_div {r x d:Int} (h0:0<d) (r0:0≤r) (r1:r<d) (x0:0≤x) (x1:x<4294967296):0≤(r*4294967296+x) / d∧(r*4294967296+x) / d<4294967296:=by
 refine ⟨Int.ediv_nonneg (by omega) (by omega),?_⟩;rw [Int.ediv_lt_iff_lt_mul h0];omega
theorem over_left {w:W3} (d:Int) (h:0<d):0≤overR w d∧overR w d<d:=⟨Int.emod_nonneg _ (by omega),Int.emod_lt_of_pos _ h⟩
theorem over_ok {w:W3} (hw:w.ok) {d:Int} (h:0<d):(overW w d).ok:=by
 obtain ⟨⟨a1,a2⟩,⟨b1,b2⟩,c1,c2⟩:=hw;have r2:0≤over2 w d∧over2 w d<d:=⟨Int.emod_nonneg _ (by omega),Int.emod_lt_of_pos _ h⟩
 have r1:0≤over1 w d∧over1 w d<d:=⟨Int.emod_nonneg _ (by omega),Int.emod_lt_of_pos _ h⟩
 refine ⟨word_div h r1.1 r1.2 a1 a2,word_div h r2.1 r2.2 b1 b2,?_⟩;have:=word_div h (r:=0) (by omega) h c1 c2;simpa [overW] using this
theorem over_val (w:W3) (d:Int):(overW w d).val*d+overR w d=w.val:=by
 have e2:=Int.emod_add_mul_ediv w.c d;have e1:=Int.emod_add_mul_ediv (over2 w d*4294967296+w.b) d;have e0:=Int.emod_add_mul_ediv (over1 w d*4294967296+w.a) d;have f2:over2 w d=w.c % d:=rfl;have f1:over1 w d=(over2 w d*4294967296+w.b) % d:=rfl;have f0:overR w d=(over1 w d*4294967296+w.a) % d:=rfl;rw [← f2] at e2;rw [← f1] at e1;rw [← f0] at e0;unfold W3.val overW;simp only;rw [Int.add_mul,Int.add_mul,Int.mul_right_comm _ 4294967296,Int.mul_right_comm _ 18446744073709551616,Int.mul_comm _ d,Int.mul_comm _ d,Int.mul_comm _ d];generalize d*((over1 w d*4294967296+w.a) / d)=P0 at *;generalize d*((over2 w d*4294967296+w.b) / d)=P1 at *;generalize d*(w.c / d)=P2 at *;omega
end words
end Go.Proofs.YtnpblpbohcegoaaGreatDoor
namespace Go.Proofs
open Go.Shelf
def Tryz.lays105_ren : Go.Shelf.Ren := ⟨fun | 105 => 54 | 212 => 89 | 99 => 90 | 165 => 91 | 166 => 92 | 170 => 93 | 169 => 94 | 263 => 135 | 264 => 136 | 206 => 137 | 240 => 138 | 241 => 139 | 276 => 171 | 277 => 172 | n => n, fun | 9 => 9 | 3 => 3 | 4 => 4 | 20 => 20 | 0 => 0 | 46 => 178 | 109 => 179 | 5 => 5 | 72 => 184 | 76 => 185 | 51 => 99 | 146 => 233 | 53 => 223 | 148 => 235 | 70 => 182 | 37 => 177 | 75 => 148 | 127 => 237 | 164 => 263 | 80 => 139 | n => n, fun | n => n⟩
theorem Tryz.lays105 : Go.Proofs.Lays.n105 Tryz.prog Tryz.lays105_ren := {
 mixed := by kernel_rfl
 f99 := Tryz.func90.trans (congrArg some (by kernel_rfl))
 f105 := Tryz.func54.trans (congrArg some (by kernel_rfl))
 f165 := Tryz.func91.trans (congrArg some (by kernel_rfl))
 f166 := Tryz.func92.trans (congrArg some (by kernel_rfl))
 f169 := Tryz.func94.trans (congrArg some (by kernel_rfl))
 f170 := Tryz.func93.trans (congrArg some (by kernel_rfl))
 f206 := Tryz.func137.trans (congrArg some (by kernel_rfl))
 f212 := Tryz.func89.trans (congrArg some (by kernel_rfl))
 f240 := Tryz.func138.trans (congrArg some (by kernel_rfl))
 f241 := Tryz.func139.trans (congrArg some (by kernel_rfl))
 f263 := Tryz.func135.trans (congrArg some (by kernel_rfl))
 f264 := Tryz.func136.trans (congrArg some (by kernel_rfl))
 f276 := Tryz.func171.trans (congrArg some (by kernel_rfl))
 f277 := Tryz.func172.trans (congrArg some (by kernel_rfl))
 t0 := Tryz.underlying0
 a0 := Tryz.isAgg0
 z0 := Tryz.sizeOf0
 v0 := Tryz.zeroValue0
 t3 := Tryz.underlying3
 a3 := Tryz.isAgg3
 z3 := Tryz.sizeOf3
 v3 := Tryz.zeroValue3
 t4 := Tryz.underlying4
 a4 := Tryz.isAgg4
 z4 := Tryz.sizeOf4
 v4 := Tryz.zeroValue4
 t5 := Tryz.underlying5
 a5 := Tryz.isAgg5
 z5 := Tryz.sizeOf5
 v5 := Tryz.zeroValue5
 t9 := Tryz.underlying9
 a9 := Tryz.isAgg9
 z9 := Tryz.sizeOf9
 v9 := Tryz.zeroValue9
 t20 := Tryz.underlying20
 a20 := Tryz.isAgg20
 z20 := Tryz.sizeOf20
 v20 := Tryz.zeroValue20
 t37 := Tryz.underlying177
 a37 := Tryz.isAgg177
 z37 := Tryz.sizeOf177
 v37 := Tryz.zeroValue177
 t46 := Tryz.underlying178
 a46 := Tryz.isAgg178
 z46 := Tryz.sizeOf178
 v46 := Tryz.zeroValue178
 t51 := Tryz.underlying99
 a51 := Tryz.isAgg99
 z51 := Tryz.sizeOf99
 v51 := Tryz.zeroValue99
 t53 := Tryz.underlying223
 a53 := Tryz.isAgg223
 z53 := Tryz.sizeOf223
 v53 := Tryz.zeroValue223
 t70 := Tryz.underlying182
 a70 := Tryz.isAgg182
 z70 := Tryz.sizeOf182
 v70 := Tryz.zeroValue182
 t72 := Tryz.underlying184
 a72 := Tryz.isAgg184
 z72 := Tryz.sizeOf184
 v72 := Tryz.zeroValue184
 t75 := Tryz.underlying148
 a75 := Tryz.isAgg148
 z75 := Tryz.sizeOf148
 v75 := Tryz.zeroValue148
 t76 := Tryz.underlying185
 a76 := Tryz.isAgg185
 z76 := Tryz.sizeOf185
 v76 := Tryz.zeroValue185
 t109 := Tryz.underlying179
 a109 := Tryz.isAgg179
 z109 := Tryz.sizeOf179
 v109 := Tryz.zeroValue179
 t127 := Tryz.underlying237
 a127 := Tryz.isAgg237
 z127 := Tryz.sizeOf237
 v127 := Tryz.zeroValue237
 t146 := Tryz.underlying233
 a146 := Tryz.isAgg233
 z146 := Tryz.sizeOf233
 v146 := Tryz.zeroValue233
 t148 := Tryz.underlying235
 a148 := Tryz.isAgg235
 z148 := Tryz.sizeOf235
 v148 := Tryz.zeroValue235
 t164 := Tryz.underlying263
 a164 := Tryz.isAgg263
 z164 := Tryz.sizeOf263
 v164 := Tryz.zeroValue263 }
theorem Tryz.Builder_Extra_105 : Builder.Extra Tryz.prog Tryz.lays105_ren := {
 sizeBuilder := by kernel_rfl
 liesBuilder := by kernel_rfl
 t5 := Tryz.underlying5
 a5 := Tryz.isAgg5
 z5 := Tryz.sizeOf5
 v5 := Tryz.zeroValue5
 infoByte := by kernel_rfl
 cellsByte := by kernel_rfl
 sizeByte := by kernel_rfl
 neB5 := by decide }
open Go.RowKit Go.Lib in
theorem Tryz.strings_Repeat (s : ByteArray) (c : Nat) (w : World) (hc : c ≤ 9223372036854775807) (hlen : s.size * c ≤ 140737488355328) :
  Calls Tryz.prog 54 #[.string s, .int .i64 c] w fun e w' => e = .returned (.string ⟨(Lib.repeatL s.data.toList c).toArray⟩) ∧ Below w.heap.size w w' := Any.strings_Repeat Tryz.lays105 Tryz.Builder_Extra_105 s c w hc hlen
end Go.Proofs
namespace Go.Proofs.YtnpblpbohcegoaaGreatDoor
end Go.Proofs.YtnpblpbohcegoaaGreatDoor
