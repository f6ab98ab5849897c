import Derived.Test.YtdpfnedfakgolaaGreatDoorVVRnt1
set_option linter.unusedVariables false
set_option linter.unusedSimpArgs false
set_option maxHeartbeats 4000000
set_option maxRecDepth 100000
namespace Go.Proofs.YtdpfnedfakgolaaGreatDoor
section
open Go.RowKit
def putAll (cs:Array Value):Nat→List Value→Array Value
 | _,[]=>cs
 | o,v :: r=>putAll (cs.setIfInBounds o v) (o+1) r
structure Upd (w W:World) (g:Nat) (cs:Array Value) (t:TypeId):Prop where
 blk:Blk W g cs t
 oth:∀ G,G≠g→W.heap[G]?=w.heap[G]?
 bel:∀ B w0,B≤g→Below B w0 w→Below B w0 W
 size:W.heap.size=w.heap.size
theorem Upd.keep {w W:World} {g G:Nat} {cs cs':Array Value} {t t':TypeId} (h:Upd w W g cs t) (hb:Blk w G cs' t') (hne:G≠g):Blk W G cs' t':=by
 unfold Blk at *;rw [h.oth G hne];exact hb
theorem Upd.cell {w W:World} {g:Nat} {cs:Array Value} {t:TypeId} (h:Upd w W g cs t) (x:Addr) (hne:x.block≠g) (hs:x.spot=none):W.cell? x=w.cell? x:=by
 obtain ⟨b,o,s⟩:=x;simp only at hs hne;subst hs;simp only [World.cell?,h.oth b hne]
theorem upd_cells (g:Nat) (t:TypeId):∀ (vs:List Value) (o:Nat) (w:World) (cs:Array Value),Blk w g cs t→Upd w (w.setCells g o vs) g (putAll cs o vs) t
 | [],o,w,cs,h=>⟨h,fun _ _=>rfl,fun _ _ _ hb=>hb,rfl⟩
 | v :: r,o,w,cs,h=>by
  have ih:=upd_cells g t r (o+1) (w.setCell ⟨g,o,none⟩ v) (cs.setIfInBounds o v) (h.set o v);refine ⟨ih.blk,fun G hG=>?_,fun B w0 hB hb=>ih.bel B w0 hB (bel_set hb g o v hB),?_⟩
  ·show ((w.setCell ⟨g,o,none⟩ v).setCells g (o+1) r).heap[G]?=_;rw [ih.oth G hG];simp only [World.setCell,Array.getElem?_modify];rw [if_neg (fun e=>hG e.symm)]
  ·show ((w.setCell ⟨g,o,none⟩ v).setCells g (o+1) r).heap.size=_;rw [ih.size];simp [World.setCell]
theorem run_storeVar_let {P:Program} {w:World} {g off:Nat} {ty t:TypeId} {v:Value} {cells cs:Array Value} (hv:v.cells=cells) (hi:(P.info? ty).map (·.size)=some cells.size) (h1:cells.all (·.oneCell')=true)
  (hB:Blk w g cs t) (hin:off+cells.size≤cs.size):(storeVar ty ⟨g,off,none⟩ v).run P w = .ok () (w.setCells g off cells.toList):=by
 have:=run_storeCells_cells (P:=P) g off cells.toList 0 w (fun j hj=>by
   have hj':j<cells.size:=by simpa using hj
   rw [Nat.add_zero,hB.cell (off+j),Array.getElem?_eq_getElem (by omega)];rfl)
  (fun j hj=>hB.free _) (fun v hv=>(Array.all_eq_true_iff_forall_mem.1 h1) v (by simpa using hv))
 cases hq:P.info? ty with
 | none=>simp [hq] at hi
 | some i=>
  have hs:cells.size=i.size:=by simp [hq] at hi;omega
  simp only [Nat.add_zero] at this;simp [storeVar,sizeOf,typeInfo,hq,hv,hs,this]
theorem wp_let {P:Program} {ops:Array Oper} {rest:List Oper} {o:Oper} {a:Act} {w:World} {Q:Exit→Act→World→Prop} (hgd:o.guard=none) (ty:TypeId) (x y:Operand) (ho:o.op = .store ty x y)
  (g off:Nat) (hx:a.eval x = .pointer (some ⟨g,off,none⟩)) (v:Value) (hy:a.eval y=v) (cells:Array Value) (hv:v.cells=cells) (hi:(P.info? ty).map (·.size)=some cells.size) (h1:cells.all (·.oneCell')=true)
  (cs:Array Value) (t:TypeId) (hB:Blk w g cs t) (hin:off+cells.size≤cs.size) (new:Array Value) (hnew:putAll cs off cells.toList=new)
  (h:∀ W,Upd w W g new t→wpList P ops Q rest (a.put o.dst undef) W):wpList P ops Q (o :: rest) a w:=
 wpList_plain hgd fun _ hK=>by
  unfold Oper.wp execOp;simp only [ho,hx,hy,Instr.storeAt,Instr.sureAddr,Sem.run_bind,Sem.run_pure,Result.andThen_ok,run_storeVar_let hv hi h1 hB hin];refine hK _ _ (h _ ?_);rw [← hnew];exact upd_cells g t cells.toList off w cs hB
theorem putAll_all:∀ (vs:List Value) (o:Nat) (cs:Array Value),o+vs.length=cs.size→(putAll cs o vs).toList=cs.toList.take o++vs
 | [],o,cs,h=>by simp [putAll];rw [List.take_of_length_le (by simpa using (by simp at h;omega))]
 | v :: r,o,cs,h=>by
  rw [putAll,putAll_all r (o+1) (cs.setIfInBounds o v) (by simp at h ⊢;omega)];have ho:o<cs.toList.length:=by simp at h ⊢;omega
  rw [Array.toList_setIfInBounds,List.take_set,List.take_succ_eq_append_getElem ho];have ho':o<cs.size:=by simpa using ho
  have hm:min o cs.size=o:=by omega
  simp [hm]
theorem wp_letAll {P:Program} {ops:Array Oper} {rest:List Oper} {o:Oper} {a:Act} {w:World} {Q:Exit→Act→World→Prop} (hgd:o.guard=none) (ty:TypeId) (x y:Operand) (ho:o.op = .store ty x y)
  (g:Nat) (hx:a.eval x = .pointer (some ⟨g,0,none⟩)) (cells:Array Value) (hy:a.eval y = .agg cells) (hi:(P.info? ty).map (·.size)=some cells.size) (h1:cells.all (·.oneCell')=true)
  (cs:Array Value) (t:TypeId) (hB:Blk w g cs t) (hin:cells.size=cs.size)
  (h:∀ W,Upd w W g cells t→wpList P ops Q rest (a.put o.dst undef) W):wpList P ops Q (o :: rest) a w:=
 wp_let hgd ty x y ho g 0 hx _ hy cells rfl hi h1 cs t hB (by omega) cells (by
  have:=putAll_all cells.toList 0 cs (by simpa using hin);rw [List.take_zero,List.nil_append] at this
  rw [← Array.toList_inj];exact this) h
theorem wp_let1 {P:Program} {ops:Array Oper} {rest:List Oper} {o:Oper} {a:Act} {w:World} {Q:Exit→Act→World→Prop} (hgd:o.guard=none) (ty:TypeId) (x y:Operand) (ho:o.op = .store ty x y)
  (g off:Nat) (hx:a.eval x = .pointer (some ⟨g,off,none⟩)) (k:IntKind) (n:Int) (hy:a.eval y = .int k n) (hi:(P.info? ty).map (·.size)=some 1)
  (cs:Array Value) (t:TypeId) (hB:Blk w g cs t) (hin:off<cs.size)
  (h:∀ W,Upd w W g (cs.setIfInBounds off (.int k n)) t→wpList P ops Q rest (a.put o.dst undef) W):wpList P ops Q (o :: rest) a w:=
 wp_let hgd ty x y ho g off hx _ hy #[.int k n] rfl hi (by simp [Value.oneCell']) cs t hB (by simp;omega) _ rfl h
theorem wp_whole {P:Program} {ops:Array Oper} {rest:List Oper} {o:Oper} {a:Act} {w:World} {Q:Exit→Act→World→Prop} (hgd:o.guard=none) (ty:TypeId) (x:Operand) (ho:o.op = .load ty x)
  (g:Nat) (hx:a.eval x = .pointer (some ⟨g,0,none⟩)) (t:TypeId) (cs:Array Value) (d:TypeDesc) (hB:Blk w g cs t)
  (hu:P.underlying ty=some d) (hd:(match d with | .struct _ | .array _ _=>true | _=>false)=true) (hi:(P.info? ty).map (·.size)=some cs.size)
  (h:wpList P ops Q rest (a.put o.dst (.agg cs)) w):wpList P ops Q (o :: rest) a w:=wpList_load_row hgd ty x ho g hx t cs (0,0) d hB hu hd hi h
theorem store_let {P:Program} {w:World} {g:Nat} {ty t:TypeId} {cells cs:Array Value} (hi:(P.info? ty).map (·.size)=some cells.size) (h1:cells.all (·.oneCell')=true)
  (hB:Blk w g cs t) (hin:cells.size=cs.size):∃ W,(Instr.storeAt ty (.pointer (some ⟨g,0,none⟩)) (.agg cells)).run P w = .ok () W∧Upd w W g cells t:=by
 refine ⟨w.setCells g 0 cells.toList,?_,?_⟩
 ·have hs:=run_storeVar_let (P:=P) (v:= .agg cells) (cells:=cells) (off:=0) rfl hi h1 hB (by omega);simp only [Instr.storeAt,Instr.sureAddr,Sem.run_bind,Sem.run_pure,Result.andThen_ok,hs]
 ·have h:=upd_cells g t cells.toList 0 w cs hB;have:=putAll_all cells.toList 0 cs (by simpa using hin);rw [List.take_zero,List.nil_append] at this;rw [show putAll cs 0 cells.toList=cells by rw [← Array.toList_inj];exact this] at h;exact h
theorem yieldsIf_whole {P:Program} {ops:Array Oper} {S:World→Prop} {op:Oper} {a:Act} (hw:Region.wanted op (yielded ops a.tmps)=true) (ty:TypeId) (x:Operand) (ho:op.op = .load ty x)
  (g:Nat) (hx:a.eval x = .pointer (some ⟨g,0,none⟩)) (t:TypeId) (cs:Array Value) (d:TypeDesc) (hS:∀ w,S w→Blk w g cs t)
  (hu:P.underlying ty=some d) (hd:d.isRow=true) (hi:(P.info? ty).map (·.size)=some cs.size):YieldsIf P ops S op (.agg cs) a:=by
 have:=yieldsIf_load_mid (P:=P) (S:=S) hw ty x ho g 0 hx cs.toList d (fun w hSw j v hv=>by rw [Nat.zero_add,(hS w hSw).cell j];simpa using hv) hu hd (by simpa using hi);simpa using this
theorem take_at {P:Program} {ops:Array Oper} {Q:Exit→Act→World→Prop} {md:Region.Mode} {S:World→Prop} {fuel:Nat} {listed:Array Bool} {a:Act} {w:World} (i d:Nat) (v:Value) (oi:Oper) (hi:ops[i]?=some oi) (hd:oi.dst=some d)
  (hs:Region.noSelect ops=true) (hf:Region.free md ops listed i=true) (hr:(Region.ready md ops listed).contains i=true)
  (hQ:∀ c a w,Q (.panic c) (a.put oi.dst v) w→Q (.panic c) a w) (hy:YieldsIf P ops S oi v a) (hS:S w)
  (h:wpAnyH P md ops Q S fuel (listed.setIfInBounds i true) (a.put (some d) v) w):wpAnyH P md ops Q S (fuel+1) listed a w:=
 wpAnyH_take hi hs hf hr hQ hy hS (by rw [hd];exact h)
theorem wp_letOp {P:Program} {o:Oper} {a:Act} {w:World} {K:Act→World→Prop} {Q:Exit→Act→World→Prop} (ty:TypeId) (x y:Operand) (ho:o.op = .store ty x y)
  (g:Nat) (hx:a.eval x = .pointer (some ⟨g,0,none⟩)) (cells:Array Value) (hy:a.eval y = .agg cells) (hi:(P.info? ty).map (·.size)=some cells.size) (h1:cells.all (·.oneCell')=true)
  (cs:Array Value) (t:TypeId) (hB:Blk w g cs t) (hin:cells.size=cs.size) (hd:o.dst=none)
  (h:∀ W,Upd w W g cells t→K a W):o.wp P a w K Q:=by
 obtain ⟨W,hst,hU⟩:=store_let (P:=P) (ty:=ty) hi h1 hB hin;unfold Oper.wp execOp;simp only [ho,hx,hy,Sem.run_bind,hst,Result.andThen_ok];have:=h W hU;have e:a.put o.dst undef=a:=by rw [hd];rfl
 rw [← e] at this;exact this
end
section
open Go.RowKit
def zqr (P : Program) (ty : TypeId) (k : Nat) : Prop := ∃ d, P.underlying ty = some d ∧ (match d with | .struct _ | .array _ _ => true | _ => false) = true ∧ (P.info? ty).map (·.size) = some k
theorem zqw {P : Program} {ops : Array Oper} {rest : List Oper} {o : Oper} {a : Act} {w : World} {Q : Exit → Act → World → Prop} (hgd : o.guard = none) {ty : TypeId} {x : Operand} (ho : o.op = .load ty x)
 {g : Nat} (hx : a.eval x = .pointer (some ⟨g, 0, none⟩)) {t : TypeId} {cs : Array Value} (hB : Hid (Blk w g cs t)) (hr : zqr P ty cs.size)
 (h : wpList P ops Q rest (a.put o.dst (.agg cs)) w) : wpList P ops Q (o :: rest) a w := by
 obtain ⟨d, h1, h2, h3⟩ := hr
 exact wp_whole hgd ty x ho g hx t cs d hB.out h1 (by cases d <;> first | rfl | exact h2) h3 h
theorem zql {P : Program} {ops : Array Oper} {rest : List Oper} {o : Oper} {a : Act} {w : World} {Q : Exit → Act → World → Prop} (hgd : o.guard = none) {ty : TypeId} {x y : Operand} (ho : o.op = .store ty x y)
 {g : Nat} (hx : a.eval x = .pointer (some ⟨g, 0, none⟩)) {cells : Array Value} (hy : a.eval y = .agg cells) (hr : zqr P ty cells.size) (h1 : cells.all (·.oneCell') = true)
 {cs : Array Value} {t : TypeId} (hB : Hid (Blk w g cs t)) (hin : cells.size = cs.size)
 (h : ∀ W, Upd w W g cells t → wpList P ops Q rest (a.put o.dst undef) W) : wpList P ops Q (o :: rest) a w := by
 obtain ⟨d, h4, h2, h3⟩ := hr
 exact wp_letAll hgd ty x y ho g hx cells hy h3 h1 cs t hB.out hin h
theorem zqo {P : Program} {ops : Array Oper} {Q : Exit → Act → World → Prop} {md : Region.Mode} {S : World → Prop} {fuel : Nat} {listed : Array Bool} {a : Act} {w : World} (i : Nat) {o : Oper} (hr : Region.ready md ops listed = [i]) (ho : ops[i]? = some o)
 (h : ∀ K' : Act → World → Prop, Shut (∀ a w, S w → (S w → wpAnyH P md ops Q S fuel (listed.setIfInBounds i true) a w) → K' a w) → if Region.wanted o (yielded ops a.tmps) = true then Oper.wp P o a w K' Q else K' (a.put o.dst undef) w) :
 wpAnyH P md ops Q S (fuel + 1) listed a w := wpAnyH_ready hr (by simp) (AllReadyH.cons ho h AllReadyH.nil)
theorem zqt {P : Program} {ops : Array Oper} {Q : Exit → Act → World → Prop} {md : Region.Mode} {S : World → Prop} {fuel : Nat} {listed : Array Bool} {a : Act} {w : World} (i d : Nat) (v : Value) {oi : Oper} (hi : ops[i]? = some oi) (hd : oi.dst = some d)
 (hk : (Region.noSelect ops && (Region.free md ops listed i && (Region.ready md ops listed).contains i)) = true)
 (hQ : ∀ c a w, Q (.panic c) (a.put oi.dst v) w → Q (.panic c) a w) (hy : YieldsIf P ops S oi v a) (hS : S w)
 (h : wpAnyH P md ops Q S fuel (listed.setIfInBounds i true) (a.put (some d) v) w) : wpAnyH P md ops Q S (fuel + 1) listed a w := by
 rw [Bool.and_eq_true, Bool.and_eq_true] at hk
 exact take_at i d v oi hi hd hk.1 hk.2.1 hk.2.2 hQ hy hS h
theorem zqs {P : Program} {ops : Array Oper} {Q : Exit → Act → World → Prop} {md : Region.Mode} {S : World → Prop} {fuel : Nat} {listed : Array Bool} {a : Act} {w : World} (i d : Nat) (v : Value) {oi : Oper} (hi : ops[i]? = some oi) (hd : oi.dst = some d)
 (hk : (Region.noSelect ops && (Region.free md ops listed i && (Region.ready md ops listed).contains i)) = true)
 (hQ : ∀ c a w, Q (.panic c) (a.put oi.dst v) w → Q (.panic c) a w) (h1 : Region.wanted oi (yielded ops a.tmps) = true) (h2 : ∀ w, S w → (execOp a.eval oi).run P w = .ok (.value v) w) (hS : S w)
 (h : wpAnyH P md ops Q S fuel (listed.setIfInBounds i true) (a.put (some d) v) w) : wpAnyH P md ops Q S (fuel + 1) listed a w := zqt i d v hi hd hk hQ (Or.inl ⟨h1, h2⟩) hS h
theorem zqu24 : zqr Tryz.prog 24 5 := ⟨_, Tryz.underlying24, rfl, by kernel_rfl⟩
theorem zqu30 : zqr Tryz.prog 30 5 := ⟨_, Tryz.underlying30, rfl, by kernel_rfl⟩
theorem zqu34 : zqr Tryz.prog 34 1 := ⟨_, Tryz.underlying34, rfl, by kernel_rfl⟩
theorem zqu36 : zqr Tryz.prog 36 7 := ⟨_, Tryz.underlying36, rfl, by kernel_rfl⟩
theorem zqu41 : zqr Tryz.prog 41 1 := ⟨_, Tryz.underlying41, rfl, by kernel_rfl⟩
theorem zqu48 : zqr Tryz.prog 48 7 := ⟨_, Tryz.underlying48, rfl, by kernel_rfl⟩
theorem zqu50 : zqr Tryz.prog 50 9 := ⟨_, Tryz.underlying50, rfl, by kernel_rfl⟩
theorem zqu54 : zqr Tryz.prog 54 4 := ⟨_, Tryz.underlying54, rfl, by kernel_rfl⟩
theorem zqu61 : zqr Tryz.prog 61 7 := ⟨_, Tryz.underlying61, rfl, by kernel_rfl⟩
theorem zqu64 : zqr Tryz.prog 64 8 := ⟨_, Tryz.underlying64, rfl, by kernel_rfl⟩
theorem zqu78 : zqr Tryz.prog 78 3 := ⟨_, Tryz.underlying78, rfl, by kernel_rfl⟩
theorem zqu83 : zqr Tryz.prog 83 2 := ⟨_, Tryz.underlying83, rfl, by kernel_rfl⟩
theorem zqu114 : zqr Tryz.prog 114 5 := ⟨_, Tryz.underlying114, rfl, by kernel_rfl⟩
theorem zqu125 : zqr Tryz.prog 125 13 := ⟨_, Tryz.underlying125, rfl, by kernel_rfl⟩
theorem zqu138 : zqr Tryz.prog 138 5 := ⟨_, Tryz.underlying138, rfl, by kernel_rfl⟩
theorem zqu182 : zqr Tryz.prog 182 7 := ⟨_, Tryz.underlying182, rfl, by kernel_rfl⟩
theorem zqu233 : zqr Tryz.prog 233 14 := ⟨_, Tryz.underlying233, rfl, by kernel_rfl⟩
end
namespace words
open Go.RowKit
structure Acc (w0 w:World) (B:Nat) (v:Value):Prop where
 os:w.os=w0.os
 tape:w.tape=w0.tape
 output:w.output=w0.output
 size:w0.heap.size≤w.heap.size
 block:∀ k,k<w0.heap.size→k≠B→w.heap[k]?=w0.heap[k]?
 old:B<w0.heap.size
 cell:w.cell? ⟨B,0,none⟩=some v
 free:w.frozen? ⟨B,0,none⟩=false
theorem Acc.trans {w0 w1 w2:World} {B:Nat} {v v':Value} (h:Acc w0 w1 B v) (h':Acc w1 w2 B v'):Acc w0 w2 B v':=
 ⟨h'.os.trans h.os,h'.tape.trans h.tape,h'.output.trans h.output,Nat.le_trans h.size h'.size,fun k hk hB=>(h'.block k (Nat.lt_of_lt_of_le hk h.size) hB).trans (h.block k hk hB),h.old,h'.cell,h'.free⟩
theorem Acc.refl {w:World} {B:Nat} {v:Value} (hc:w.cell? ⟨B,0,none⟩=some v) (hf:w.frozen? ⟨B,0,none⟩=false):Acc w w B v:=by
 refine ⟨rfl,rfl,rfl,Nat.le_refl _,fun _ _ _=>rfl,?_,hc,hf⟩;by_cases hh:B<w.heap.size
 ·exact hh
 ·simp [World.cell?,Array.getElem?_eq_none (show w.heap.size≤B by omega)] at hc
theorem Acc.set {w0 w:World} {B:Nat} {v:Value} (h:Acc w0 w B v) (u:Value):Acc w0 (w.setCell ⟨B,0,none⟩ u) B u:=by
 refine ⟨h.os,h.tape,h.output,by simp [World.setCell];exact h.size,fun k hk hB=>?_,h.old,?_,?_⟩
 ·simp only [World.setCell,Array.getElem?_modify];rw [if_neg (fun e=>hB e.symm)];exact h.block k hk hB
 ·apply World.cell?_setCell_same;exact h.cell
 ·rw [World.frozen?_setCell];exact h.free
theorem Acc.drewN {w0 w:World} {B:Nat} {v:Value} (h:Acc w0 w B v) (n:Nat):Acc w0 (w.drewN n) B v:=⟨h.os,h.tape,h.output,h.size,h.block,h.old,h.cell,h.free⟩
def Trio (w:World) (G:Nat) (y0 y1 y2:Value):Prop:=w.heap[G]?=some (.cells #[y0,y1,y2] 89 (0,0))
theorem Trio.c0 {w:World} {G:Nat} {y0 y1 y2:Value} (h:Trio w G y0 y1 y2):w.cell? ⟨G,0,none⟩=some y0:=by unfold Trio at h;simp [World.cell?,h]
theorem Trio.c1 {w:World} {G:Nat} {y0 y1 y2:Value} (h:Trio w G y0 y1 y2):w.cell? ⟨G,1,none⟩=some y1:=by unfold Trio at h;simp [World.cell?,h]
theorem Trio.c2 {w:World} {G:Nat} {y0 y1 y2:Value} (h:Trio w G y0 y1 y2):w.cell? ⟨G,2,none⟩=some y2:=by unfold Trio at h;simp [World.cell?,h]
theorem Trio.free {w:World} {G:Nat} {y0 y1 y2:Value} (h:Trio w G y0 y1 y2) (i:Nat):w.frozen? ⟨G,i,none⟩=false:=by unfold Trio at h;simp [World.frozen?,h]
theorem Trio.acc {w w':World} {G B:Nat} {y0 y1 y2 v:Value} (h:Trio w G y0 y1 y2) (ha:Acc w w' B v) (hG:G≠B):Trio w' G y0 y1 y2:=by
 have hlt:G<w.heap.size:=by
  by_cases hh:G<w.heap.size
  ·exact hh
  ·unfold Trio at h;rw [Array.getElem?_eq_none (by omega)] at h;cases h
 unfold Trio at *;rw [ha.block G hlt hG];exact h
theorem Trio.set0 {w:World} {G:Nat} {y0 y1 y2:Value} (h:Trio w G y0 y1 y2) (u:Value):Trio (w.setCell ⟨G,0,none⟩ u) G u y1 y2:=by
 unfold Trio at *;simp [World.setCell,Array.getElem?_modify,h]
theorem Trio.set1 {w:World} {G:Nat} {y0 y1 y2:Value} (h:Trio w G y0 y1 y2) (u:Value):Trio (w.setCell ⟨G,1,none⟩ u) G y0 u y2:=by
 unfold Trio at *;simp [World.setCell,Array.getElem?_modify,h]
theorem Trio.set2 {w:World} {G:Nat} {y0 y1 y2:Value} (h:Trio w G y0 y1 y2) (u:Value):Trio (w.setCell ⟨G,2,none⟩ u) G y0 y1 u:=by
 unfold Trio at *;simp [World.setCell,Array.getElem?_modify,h]
theorem Trio.other {w:World} {G G':Nat} {y0 y1 y2:Value} (h:Trio w G y0 y1 y2) (i:Nat) (u:Value) (hne:G'≠G):Trio (w.setCell ⟨G',i,none⟩ u) G y0 y1 y2:=by
 unfold Trio at *;simp only [World.setCell,Array.getElem?_modify];rw [if_neg hne];exact h
theorem Acc.setNew {w0 w:World} {B:Nat} {v:Value} (h:Acc w0 w B v) (G i:Nat) (u:Value) (hG:w0.heap.size≤G):Acc w0 (w.setCell ⟨G,i,none⟩ u) B v:=by
 have hne:G≠B:=by have:=h.old;omega
 refine ⟨h.os,h.tape,h.output,by simp [World.setCell];exact h.size,fun k hk hB=>?_,h.old,?_,?_⟩
 ·simp only [World.setCell,Array.getElem?_modify];rw [if_neg (by omega)];exact h.block k hk hB
 ·rw [World.cell?_setCell_other]
  ·exact h.cell
  ·intro e;exact hne (congrArg Addr.block e)
 ·rw [World.frozen?_setCell];exact h.free
theorem Acc.alloc {w0 w:World} {B:Nat} {v:Value} (h:Acc w0 w B v) (o:Obj):Acc w0 (w.alloc o) B v:=by
 have hlt:∀ k,k<w.heap.size→(w.alloc o).heap[k]?=w.heap[k]?:=fun k hk=>by
  show (w.heap.push o)[k]?=_;rw [Array.getElem?_push,if_neg (by omega)]
 have hB:=Nat.lt_of_lt_of_le h.old h.size;refine ⟨h.os,h.tape,h.output,?_,fun k hk hB=>?_,h.old,?_,?_⟩
 ·show _≤(w.heap.push o).size;have:=h.size;simp;omega
 ·rw [hlt k (Nat.lt_of_lt_of_le hk h.size)];exact h.block k hk hB
 ·rw [← h.cell];exact World.cell?_of_block (w:=w) (a:=⟨B,0,none⟩) (hlt B hB)
 ·have:((w.alloc o).frozen? ⟨B,0,none⟩)=w.frozen? ⟨B,0,none⟩:=by simp only [World.frozen?,hlt B hB]
  rw [this];exact h.free
theorem trio_a (w:World) (x y z:Value) (o:Obj):Trio ((w.alloc (.cells #[x,y,z] 89)).alloc o) w.heap.size x y z:=by
 show ((w.heap.push _).push o)[w.heap.size]?=_;rw [Array.getElem?_push,if_neg (by simp),Array.getElem?_push_size]
theorem trio_b (w:World) (o:Obj) (x y z:Value):Trio ((w.alloc o).alloc (.cells #[x,y,z] 89)) (w.heap.size+1) x y z:=by
 show ((w.heap.push o).push _)[w.heap.size+1]?=_;have:w.heap.size+1=(w.heap.push o).size:=by simp
 rw [this,Array.getElem?_push_size]
theorem upward_any (K:Nat) (caps:Array Value) (B:Nat) (v0 v1 v2 v3:Value) (x0 x1 x2 y0 y1 y2:Int) (w:World) (h:Acc w w B v0) (hK:∀ args w,(callFunc K args).run Tryz.prog w = .ok (.enter K args) w)
  (s0:∀ w',Acc w w' B v0→Calls Tryz.prog K (#[.int .u32 x0]++caps) w' fun e w''=>e = .returned (.int .u32 y0)∧Acc w' w'' B v1)
  (s1:∀ w',Acc w w' B v1→Calls Tryz.prog K (#[.int .u32 x1]++caps) w' fun e w''=>e = .returned (.int .u32 y1)∧Acc w' w'' B v2)
  (s2:∀ w',Acc w w' B v2→Calls Tryz.prog K (#[.int .u32 x2]++caps) w' fun e w''=>e = .returned (.int .u32 y2)∧Acc w' w'' B v3) :
  Calls Tryz.prog 89 #[.agg #[.int .u32 x0,.int .u32 x1,.int .u32 x2],.func (.func K) #[] caps] w fun e w'=>e = .returned (.agg #[.int .u32 y0,.int .u32 y1,.int .u32 y2])∧Acc w w' B v3:=by
 have HS0:Hid (∀ w',Acc w w' B v0→Calls Tryz.prog K (#[.int .u32 x0]++caps) w' fun e w''=>e = .returned (.int .u32 y0)∧Acc w' w'' B v1):=s0;have HS1:Hid (∀ w',Acc w w' B v1→Calls Tryz.prog K (#[.int .u32 x1]++caps) w' fun e w''=>e = .returned (.int .u32 y1)∧Acc w' w'' B v2):=s1;have HS2:Hid (∀ w',Acc w w' B v2→Calls Tryz.prog K (#[.int .u32 x2]++caps) w' fun e w''=>e = .returned (.int .u32 y2)∧Acc w' w'' B v3):=s2;have HA:Hid (Acc w w B v0):=h;clear s0 s1 s2 h;go_enter Tryz.func89,Tryz.ntmps89;go_wp2_with fail;refine wp_loop_rounds 4 ?_;rw [rounds_succ];go_wp2_with fail;refine (HS0.o _ ((HA.o.alloc _).alloc _)).mono ?_;rintro e w1 ⟨rfl,h1⟩;have hB:=HA.o.old;have T1:Trio w1 w.heap.size (.int .u32 x0) (.int .u32 x1) (.int .u32 x2):=(trio_a _ _ _ _ _).acc h1 (by omega);have R1:Trio w1 (w.heap.size+1) (.int .u32 0) (.int .u32 0) (.int .u32 0):=(trio_b _ _ _ _ _).acc h1 (by omega);have A1:=((HA.o.alloc _).alloc _).trans h1;have c0:=T1.c0;have f0:=T1.free 0;have T1':=T1.set0 (.int .u32 y0);have d1:=T1'.c1;have HT:Hid (Trio (w1.setCell ⟨w.heap.size,0,none⟩ (.int .u32 y0)) w.heap.size (.int .u32 y0) (.int .u32 x1) (.int .u32 x2)):=T1';have HR:Hid (Trio (w1.setCell ⟨w.heap.size,0,none⟩ (.int .u32 y0)) (w.heap.size+1) (.int .u32 0) (.int .u32 0) (.int .u32 0)):=R1.other _ _ (by omega);have HA1:Hid (Acc w (w1.setCell ⟨w.heap.size,0,none⟩ (.int .u32 y0)) B v1):=A1.setNew _ _ _ (Nat.le_refl _);clear h1 T1 R1 A1 T1' HA HS0;go_wp2_with fail;rw [rounds_succ];go_wp2_with fail;refine (HS1.o _ HA1.o).mono ?_;rintro e w2 ⟨rfl,h2⟩;have T2:=HT.o.acc h2 (by omega);have R2:=HR.o.acc h2 (by omega);have A2:=HA1.o.trans h2;clear c0 f0 d1 HT HR HA1 HS1 h2;have c1:=T2.c1;have f1:=T2.free 1;have T2':=T2.set1 (.int .u32 y1);have d2:=T2'.c2;have HT:Hid (Trio (w2.setCell ⟨w.heap.size,1,none⟩ (.int .u32 y1)) w.heap.size (.int .u32 y0) (.int .u32 y1) (.int .u32 x2)):=T2';have HR:Hid (Trio (w2.setCell ⟨w.heap.size,1,none⟩ (.int .u32 y1)) (w.heap.size+1) (.int .u32 0) (.int .u32 0) (.int .u32 0)):=R2.other _ _ (by omega)
 have HA2:Hid (Acc w (w2.setCell ⟨w.heap.size,1,none⟩ (.int .u32 y1)) B v2):=A2.setNew _ _ _ (Nat.le_refl _);clear T2 R2 A2 T2';go_wp2_with fail;rw [rounds_succ];go_wp2_with fail;refine (HS2.o _ HA2.o).mono ?_;rintro e w3 ⟨rfl,h3⟩;have T3:=HT.o.acc h3 (by omega);have R3:=HR.o.acc h3 (by omega);have A3:=HA2.o.trans h3;clear c1 f1 d2 HT HR HA2 HS2 h3;have c2:=T3.c2;have f2:=T3.free 2;have T3':=T3.set2 (.int .u32 y2);have R3':=R3.other (G':=w.heap.size) 2 (.int .u32 y2) (by omega);have e0:=T3'.c0;have e1:=T3'.c1;have e2:=T3'.c2;have r0:=R3'.c0;have r1:=R3'.c1;have r2:=R3'.c2;have g0:=R3'.free 0;have g1:=R3'.free 1;have g2:=R3'.free 2;have HR3:Hid (Trio (w3.setCell ⟨w.heap.size,2,none⟩ (.int .u32 y2)) (w.heap.size+1) (.int .u32 0) (.int .u32 0) (.int .u32 0)):=R3';have HA3:Hid (Acc w (w3.setCell ⟨w.heap.size,2,none⟩ (.int .u32 y2)) B v3):=A3.setNew _ _ _ (Nat.le_refl _);clear T3 R3 A3 T3' R3';go_wp2_with fail;rw [rounds_succ];go_wp2_with fail;have RR:=((HR3.o.set0 (.int .u32 y0)).set1 (.int .u32 y1)).set2 (.int .u32 y2);have AA:=((HA3.o.setNew (w.heap.size+1) 0 (.int .u32 y0) (by omega)).setNew (w.heap.size+1) 1 (.int .u32 y1) (by omega)).setNew (w.heap.size+1) 2 (.int .u32 y2) (by omega);refine bodyPost_ret (v:= .agg #[.int .u32 y0,.int .u32 y1,.int .u32 y2]) (by simp [results,Tryz.results89,RR.c0,RR.c1,RR.c2,go_sem]) rfl ⟨rfl,AA⟩
theorem below_set {B:Nat} {w w':World} (h:Below B w w') (G i:Nat) (u:Value) (hG:B≤G):Below B w (w'.setCell ⟨G,i,none⟩ u):=by
 refine ⟨h.os,h.tape,h.output,by simp [World.setCell];exact h.size,fun k hk=>?_⟩;rw [← h.block k hk];simp only [World.setCell,Array.getElem?_modify];rw [if_neg (by omega)]
theorem Acc.below {w0 w1 w:World} {B:Nat} {v:Value} (hb:Below w0.heap.size w0 w1) (h:Acc w1 w B v) (hB:w0.heap.size≤B):Below w0.heap.size w0 w:=
 hb.trans ⟨h.os,h.tape,h.output,h.size,fun k hk=>h.block k (Nat.lt_of_lt_of_le hk hb.size) (by omega)⟩
theorem Trio.alloc {w:World} {G:Nat} {y0 y1 y2:Value} (h:Trio w G y0 y1 y2) (o:Obj):Trio (w.alloc o) G y0 y1 y2:=by
 have hlt:G<w.heap.size:=by
  by_cases hh:G<w.heap.size
  ·exact hh
  ·unfold Trio at h;rw [Array.getElem?_eq_none (by omega)] at h;cases h
 unfold Trio at *;show (w.heap.push o)[G]?=_;rw [Array.getElem?_push,if_neg (by omega)];exact h
theorem below_put {B:Nat} {w w':World} (h:Below B w w') (G i j k:Nat) (u v x:Value) (hG:B≤G):Below B w (((w'.setCell ⟨G,i,none⟩ u).setCell ⟨G,j,none⟩ v).setCell ⟨G,k,none⟩ x).drew:=
 (below_set (below_set (below_set h G i u hG) G j v hG) G k x hG).drew
theorem bel2 (w:World) (o1 o2:Obj):Below w.heap.size w ((w.alloc o1).alloc o2):=((Below.refl _ _).alloc (Nat.le_refl _) o1).alloc (by simp) o2
theorem bel3 (w:World) (o1 o2 o3:Obj):Below w.heap.size w (((w.alloc o1).alloc o2).alloc o3):=(bel2 w o1 o2).alloc (by simp;omega) _
theorem Acc.keep {w0 w:World} {B M:Nat} {v u:Value} (h:Acc w0 w B v) (hc:w0.cell? ⟨M,0,none⟩=some u) (hM:M≠B):w.cell? ⟨M,0,none⟩=some u:=by
 have hlt:M<w0.heap.size:=by
  by_cases hh:M<w0.heap.size
  ·exact hh
  ·simp [World.cell?,Array.getElem?_eq_none (show w0.heap.size≤M by omega)] at hc
 rw [← hc];exact World.cell?_of_block (w:=w0) (a:=⟨M,0,none⟩) (h.block M hlt hM)
theorem bel4 (w:World) (o1 o2 o3 o4:Obj):Below w.heap.size w ((((w.alloc o1).alloc o2).alloc o3).alloc o4):=(bel3 w o1 o2 o3).alloc (by simp;omega) _
theorem trio_d (w:World) (cs:Array Value) (m:Value) (T:TypeId) (x y z u:Value) (U:TypeId) :
  (((((w.alloc (.cells cs 89)).alloc (.cells #[m] T)).alloc (.cells #[x,y,z] 89)).alloc (.cells #[u] U)).cell? ⟨w.heap.size+1+1+1,0,none⟩=some u) ∧
  (((((w.alloc (.cells cs 89)).alloc (.cells #[m] T)).alloc (.cells #[x,y,z] 89)).alloc (.cells #[u] U)).frozen? ⟨w.heap.size+1+1+1,0,none⟩=false) ∧
  Trio ((((w.alloc (.cells cs 89)).alloc (.cells #[m] T)).alloc (.cells #[x,y,z] 89)).alloc (.cells #[u] U)) (w.heap.size+1+1) x y z ∧
  ((((w.alloc (.cells cs 89)).alloc (.cells #[m] T)).alloc (.cells #[x,y,z] 89)).alloc (.cells #[u] U)).cell? ⟨w.heap.size+1,0,none⟩=some m:=by
 have s1:w.heap.size+1=(w.heap.push (.cells cs 89)).size:=by simp
 have s2:w.heap.size+1+1=((w.heap.push (.cells cs 89)).push (.cells #[m] T)).size:=by simp
 have s3:w.heap.size+1+1+1=(((w.heap.push (.cells cs 89)).push (.cells #[m] T)).push (.cells #[x,y,z] 89)).size:=by simp
 have e:((((w.heap.push (.cells cs 89)).push (.cells #[m] T)).push (.cells #[x,y,z] 89)).push (.cells #[u] U))[w.heap.size+1+1+1]?=some (.cells #[u] U):=by
  rw [s3,Array.getElem?_push_size]
 have em:((((w.heap.push (.cells cs 89)).push (.cells #[m] T)).push (.cells #[x,y,z] 89)).push (.cells #[u] U))[w.heap.size+1]?=some (.cells #[m] T):=by
  rw [Array.getElem?_push,if_neg (by simp),Array.getElem?_push,if_neg (by simp),s1,Array.getElem?_push_size]
 refine ⟨?_,?_,?_,?_⟩
 ·simp only [World.cell?,World.alloc,e];rfl
 ·simp only [World.frozen?,World.alloc,e];rfl
 ·show ((((w.heap.push _).push _).push _).push _)[w.heap.size+1+1]?=_;rw [Array.getElem?_push,if_neg (by simp),s2,Array.getElem?_push_size]
 ·simp only [World.cell?,World.alloc,em];rfl
end words
end Go.Proofs.YtdpfnedfakgolaaGreatDoor
