import Derived.Test.YtoepgdhiepedeaaGreatDoorVVRys1
set_option linter.unusedVariables false
set_option linter.unusedSimpArgs false
set_option maxHeartbeats 4000000
set_option maxRecDepth 100000
namespace Go.Proofs.YtoepgdhiepedeaaGreatDoor
section
open Go.RowKit
def putAll(cs:Array Value):Nat→List Value→Array Value
 |_,[]=>cs
 |o,v::r=>putAll (cs.setIfInBounds o v) (o+1) r
structure Upd (w W:World) (g:Nat) (cs:Array Value) (t:TypeId):Prop where
 blk:Blk W g cs t
 oth:∀G,G≠g→W.heap[G]?=w.heap[G]?
 bel:∀B w0,B≤g→Below B w0 w→Below B w0 W
 size:W.heap.size=w.heap.size
theorem Upd.keep{w W:World}{g G:Nat}{cs cs':Array Value}{t t':TypeId}(h:Upd w W g cs t)(hb:Blk w G cs' t')(hne:G≠g):Blk W G cs' t':=by
 unfold Blk at *;rw[h.oth G hne];exact hb
theorem Upd.cell{w W:World}{g:Nat}{cs:Array Value}{t:TypeId}(h:Upd w W g cs t)(x:Addr)(hne:x.block≠g)(hs:x.spot=none):W.cell? x=w.cell? x:=by
 obtain⟨b,o,s⟩:=x
 simp only at hs hne
 subst hs
 simp only[World.cell?,h.oth b hne]
theorem upd_cells(g:Nat)(t:TypeId):∀(vs:List Value)(o:Nat)(w:World)(cs:Array Value),Blk w g cs t→Upd w (w.setCells g o vs) g (putAll cs o vs) t
 |[],o,w,cs,h=>⟨h,λ_ _=>rfl,λ_ _ _ hb=>hb,rfl⟩
 |v::r,o,w,cs,h=>by
  have ih:=upd_cells g t r (o+1) (w.setCell ⟨g,o,none⟩ v) (cs.setIfInBounds o v) (h.set o v)
  refine⟨ih.blk,λG hG=>?_,λB w0 hB hb=>ih.bel B w0 hB (bel_set hb g o v hB),?_⟩
  ·show ((w.setCell ⟨g,o,none⟩ v).setCells g (o+1) r).heap[G]?=_
   rw[ih.oth G hG]
   simp only[World.setCell,Array.getElem?_modify]
   rw[if_neg (λe=>hG e.symm)]
  ·show ((w.setCell ⟨g,o,none⟩ v).setCells g (o+1) r).heap.size=_
   rw[ih.size];simp[World.setCell]
variable{Q:Exit→Act→World→Prop}{P:Program}{ops:Array Oper}{w:World}{rest:List Oper}{a:Act}{o:Oper}
theorem run_storeVar_let{g off:Nat}{ty t:TypeId}{v:Value}{cells cs:Array Value}(hv:v.cells=cells)(hi:(P.info? ty).map (·.size)=some cells.size)(h1:cells.all (·.oneCell')=true)
  (hB:Blk w g cs t) (hin:off+cells.size≤cs.size):(storeVar ty ⟨g,off,none⟩ v).run P w=.ok () (w.setCells g off cells.toList):=by
 have:=run_storeCells_cells (P:=P) g off cells.toList 0 w (fun j hj=>by
   have hj':j<cells.size:=by simpa using hj
   rw [Nat.add_zero,hB.cell (off+j),Array.getElem?_eq_getElem (by omega)];rfl)
  (λj hj=>hB.free _) (λv hv=>(Array.all_eq_true_iff_forall_mem.1 h1) v (by simpa using hv))
 cases hq:P.info? ty with
 |none=>simp[hq] at hi
 |some i=>
  have hs:cells.size=i.size:=by simp[hq] at hi;omega
  simp only[Nat.add_zero] at this
  simp[storeVar,sizeOf,typeInfo,hq,hv,hs,this]
theorem wp_let(hgd:o.guard=none)(ty:TypeId)(x y:Operand)(ho:o.op=.store ty x y)
  (g off:Nat) (hx:a.eval x=.pointer (some ⟨g,off,none⟩)) (v:Value) (hy:a.eval y=v) (cells:Array Value) (hv:v.cells=cells) (hi:(P.info? ty).map (·.size)=some cells.size) (h1:cells.all (·.oneCell')=true)
  (cs:Array Value) (t:TypeId) (hB:Blk w g cs t) (hin:off+cells.size≤cs.size) (new:Array Value) (hnew:putAll cs off cells.toList=new)
  (h:∀W,Upd w W g new t→wpList P ops Q rest (a.put o.dst undef) W):wpList P ops Q (o::rest) a w:=
 wpList_plain hgd λ_ hK=>by
  unfold Oper.wp execOp
  simp only[ho,hx,hy,Instr.storeAt,Instr.sureAddr,Sem.run_bind,Sem.run_pure,Result.andThen_ok,run_storeVar_let hv hi h1 hB hin]
  refine hK _ _ (h _ ?_)
  rw[← hnew]
  exact upd_cells g t cells.toList off w cs hB
theorem putAll_all:∀(vs:List Value)(o:Nat)(cs:Array Value),o+vs.length=cs.size→(putAll cs o vs).toList=cs.toList.take o++vs
 |[],o,cs,h=>by simp[putAll];rw[List.take_of_length_le (by simpa using(by simp at h;omega))]
 |v::r,o,cs,h=>by
  rw[putAll,putAll_all r (o+1) (cs.setIfInBounds o v) (by simp at h ⊢;omega)]
  have ho:o<cs.toList.length:=by simp at h ⊢;omega
  rw[Array.toList_setIfInBounds,List.take_set,List.take_succ_eq_append_getElem ho]
  have ho':o<cs.size:=by simpa using ho
  have hm:min o cs.size=o:=by omega
  simp[hm]
theorem wp_letAll(hgd:o.guard=none)(ty:TypeId)(x y:Operand)(ho:o.op=.store ty x y)
  (g:Nat) (hx:a.eval x=.pointer (some ⟨g,0,none⟩)) (cells:Array Value) (hy:a.eval y=.agg cells) (hi:(P.info? ty).map (·.size)=some cells.size) (h1:cells.all (·.oneCell')=true)
  (cs:Array Value) (t:TypeId) (hB:Blk w g cs t) (hin:cells.size=cs.size)
  (h:∀W,Upd w W g cells t→wpList P ops Q rest (a.put o.dst undef) W):wpList P ops Q (o::rest) a w:=
 wp_let hgd ty x y ho g 0 hx _ hy cells rfl hi h1 cs t hB (by omega) cells (by
  have:=putAll_all cells.toList 0 cs (by simpa using hin)
  rw[List.take_zero,List.nil_append] at this
  rw [← Array.toList_inj];exact this) h
theorem wp_let1(hgd:o.guard=none)(ty:TypeId)(x y:Operand)(ho:o.op=.store ty x y)
  (g off:Nat) (hx:a.eval x=.pointer (some ⟨g,off,none⟩)) (k:IntKind) (n:Int) (hy:a.eval y=.int k n) (hi:(P.info? ty).map (·.size)=some 1)
  (cs:Array Value) (t:TypeId) (hB:Blk w g cs t) (hin:off<cs.size)
  (h:∀W,Upd w W g (cs.setIfInBounds off (.int k n)) t→wpList P ops Q rest (a.put o.dst undef) W):wpList P ops Q (o::rest) a w:=
 wp_let hgd ty x y ho g off hx _ hy #[.int k n] rfl hi (by simp[Value.oneCell']) cs t hB (by simp;omega) _ rfl h
theorem wp_whole(hgd:o.guard=none)(ty:TypeId)(x:Operand)(ho:o.op=.load ty x)
  (g:Nat) (hx:a.eval x=.pointer (some ⟨g,0,none⟩)) (t:TypeId) (cs:Array Value) (d:TypeDesc) (hB:Blk w g cs t)
  (hu:P.underlying ty=some d) (hd:(match d with | .struct _ | .array _ _=>true|_=>false)=true) (hi:(P.info? ty).map (·.size)=some cs.size)
  (h:wpList P ops Q rest (a.put o.dst (.agg cs)) w):wpList P ops Q (o::rest) a w:=wpList_load_row hgd ty x ho g hx t cs (0,0) d hB hu hd hi h
theorem store_let{g:Nat}{ty t:TypeId}{cells cs:Array Value}(hi:(P.info? ty).map (·.size)=some cells.size)(h1:cells.all (·.oneCell')=true)
  (hB:Blk w g cs t) (hin:cells.size=cs.size):∃W,(Instr.storeAt ty (.pointer (some ⟨g,0,none⟩)) (.agg cells)).run P w=.ok () W∧Upd w W g cells t:=by
 refine⟨w.setCells g 0 cells.toList,?_,?_⟩
 ·have hs:=run_storeVar_let (P:=P) (v:=.agg cells) (cells:=cells) (off:=0) rfl hi h1 hB (by omega)
  simp only[Instr.storeAt,Instr.sureAddr,Sem.run_bind,Sem.run_pure,Result.andThen_ok,hs]
 ·have h:=upd_cells g t cells.toList 0 w cs hB
  have:=putAll_all cells.toList 0 cs (by simpa using hin)
  rw[List.take_zero,List.nil_append] at this
  rw[show putAll cs 0 cells.toList=cells by rw[← Array.toList_inj];exact this] at h
  exact h
theorem yieldsIf_whole{S:World→Prop}{op:Oper}(hw:Region.wanted op (yielded ops a.tmps)=true)(ty:TypeId)(x:Operand)(ho:op.op=.load ty x)
  (g:Nat) (hx:a.eval x=.pointer (some ⟨g,0,none⟩)) (t:TypeId) (cs:Array Value) (d:TypeDesc) (hS:∀w,S w→Blk w g cs t)
  (hu:P.underlying ty=some d) (hd:d.isRow=true) (hi:(P.info? ty).map (·.size)=some cs.size):YieldsIf P ops S op (.agg cs) a:=by
 have:=yieldsIf_load_mid (P:=P) (S:=S) hw ty x ho g 0 hx cs.toList d (λw hSw j v hv=>by rw[Nat.zero_add,(hS w hSw).cell j];simpa using hv) hu hd (by simpa using hi)
 simpa using this
theorem take_at{md:Region.Mode}{S:World→Prop}{fuel:Nat}{listed:Array Bool}(i d:Nat)(v:Value)(oi:Oper)(hi:ops[i]?=some oi)(hd:oi.dst=some d)
  (hs:Region.noSelect ops=true) (hf:Region.free md ops listed i=true) (hr:(Region.ready md ops listed).contains i=true)
  (hQ:∀c a w,Q (.panic c) (a.put oi.dst v) w→Q (.panic c) a w) (hy:YieldsIf P ops S oi v a) (hS:S w)
  (h:wpAnyH P md ops Q S fuel (listed.setIfInBounds i true) (a.put (some d) v) w):wpAnyH P md ops Q S (fuel+1) listed a w:=
 wpAnyH_take hi hs hf hr hQ hy hS (by rw[hd];exact h)
theorem wp_letOp{K:Act→World→Prop}(ty:TypeId)(x y:Operand)(ho:o.op=.store ty x y)
  (g:Nat) (hx:a.eval x=.pointer (some ⟨g,0,none⟩)) (cells:Array Value) (hy:a.eval y=.agg cells) (hi:(P.info? ty).map (·.size)=some cells.size) (h1:cells.all (·.oneCell')=true)
  (cs:Array Value) (t:TypeId) (hB:Blk w g cs t) (hin:cells.size=cs.size) (hd:o.dst=none)
  (h:∀W,Upd w W g cells t→K a W):o.wp P a w K Q:=by
 obtain⟨W,hst,hU⟩:=store_let (P:=P) (ty:=ty) hi h1 hB hin
 unfold Oper.wp execOp
 simp only[ho,hx,hy,Sem.run_bind,hst,Result.andThen_ok]
 have:=h W hU
 have e:a.put o.dst undef=a:=by rw[hd];rfl
 rw[← e] at this
 exact this
end
section
open Go.RowKit
def zqr (P : Program) (ty : TypeId) (k : Nat) : Prop := ∃ d, P.underlying ty = some d ∧ (match d with | .struct _ | .array _ _ => true | _ => false) = true ∧ (P.info? ty).map (·.size) = some k
theorem zqw {P : Program} {ops : Array Oper} {rest : List Oper} {o : Oper} {a : Act} {w : World} {Q : Exit → Act → World → Prop} (hgd : o.guard = none) {ty : TypeId} {x : Operand} (ho : o.op = .load ty x)
 {g : Nat} (hx : a.eval x = .pointer (some ⟨g, 0, none⟩)) {t : TypeId} {cs : Array Value} (hB : Hid (Blk w g cs t)) (hr : zqr P ty cs.size)
 (h : wpList P ops Q rest (a.put o.dst (.agg cs)) w) : wpList P ops Q (o :: rest) a w := by
 obtain ⟨d, h1, h2, h3⟩ := hr
 exact wp_whole hgd ty x ho g hx t cs d hB.out h1 (by cases d <;> first | rfl | exact h2) h3 h
theorem zql {P : Program} {ops : Array Oper} {rest : List Oper} {o : Oper} {a : Act} {w : World} {Q : Exit → Act → World → Prop} (hgd : o.guard = none) {ty : TypeId} {x y : Operand} (ho : o.op = .store ty x y)
 {g : Nat} (hx : a.eval x = .pointer (some ⟨g, 0, none⟩)) {cells : Array Value} (hy : a.eval y = .agg cells) (hr : zqr P ty cells.size) (h1 : cells.all (·.oneCell') = true)
 {cs : Array Value} {t : TypeId} (hB : Hid (Blk w g cs t)) (hin : cells.size = cs.size)
 (h : ∀ W, Upd w W g cells t → wpList P ops Q rest (a.put o.dst undef) W) : wpList P ops Q (o :: rest) a w := by
 obtain ⟨d, h4, h2, h3⟩ := hr
 exact wp_letAll hgd ty x y ho g hx cells hy h3 h1 cs t hB.out hin h
theorem zqo {P : Program} {ops : Array Oper} {Q : Exit → Act → World → Prop} {md : Region.Mode} {S : World → Prop} {fuel : Nat} {listed : Array Bool} {a : Act} {w : World} (i : Nat) {o : Oper} (hr : Region.ready md ops listed = [i]) (ho : ops[i]? = some o)
 (h : ∀ K' : Act → World → Prop, Shut (∀ a w, S w → (S w → wpAnyH P md ops Q S fuel (listed.setIfInBounds i true) a w) → K' a w) → if Region.wanted o (yielded ops a.tmps) = true then Oper.wp P o a w K' Q else K' (a.put o.dst undef) w) :
 wpAnyH P md ops Q S (fuel + 1) listed a w := wpAnyH_ready hr (by simp) (AllReadyH.cons ho h AllReadyH.nil)
theorem zqt {P : Program} {ops : Array Oper} {Q : Exit → Act → World → Prop} {md : Region.Mode} {S : World → Prop} {fuel : Nat} {listed : Array Bool} {a : Act} {w : World} (i d : Nat) (v : Value) {oi : Oper} (hi : ops[i]? = some oi) (hd : oi.dst = some d)
 (hk : (Region.noSelect ops && (Region.free md ops listed i && (Region.ready md ops listed).contains i)) = true)
 (hQ : ∀ c a w, Q (.panic c) (a.put oi.dst v) w → Q (.panic c) a w) (hy : YieldsIf P ops S oi v a) (hS : S w)
 (h : wpAnyH P md ops Q S fuel (listed.setIfInBounds i true) (a.put (some d) v) w) : wpAnyH P md ops Q S (fuel + 1) listed a w := by
 rw [Bool.and_eq_true, Bool.and_eq_true] at hk
 exact take_at i d v oi hi hd hk.1 hk.2.1 hk.2.2 hQ hy hS h
theorem zqs {P : Program} {ops : Array Oper} {Q : Exit → Act → World → Prop} {md : Region.Mode} {S : World → Prop} {fuel : Nat} {listed : Array Bool} {a : Act} {w : World} (i d : Nat) (v : Value) {oi : Oper} (hi : ops[i]? = some oi) (hd : oi.dst = some d)
 (hk : (Region.noSelect ops && (Region.free md ops listed i && (Region.ready md ops listed).contains i)) = true)
 (hQ : ∀ c a w, Q (.panic c) (a.put oi.dst v) w → Q (.panic c) a w) (h1 : Region.wanted oi (yielded ops a.tmps) = true) (h2 : ∀ w, S w → (execOp a.eval oi).run P w = .ok (.value v) w) (hS : S w)
 (h : wpAnyH P md ops Q S fuel (listed.setIfInBounds i true) (a.put (some d) v) w) : wpAnyH P md ops Q S (fuel + 1) listed a w := zqt i d v hi hd hk hQ (Or.inl ⟨h1, h2⟩) hS h
theorem zqu24 : zqr Tryz.prog 24 5 := ⟨_, Tryz.underlying24, rfl, by kernel_rfl⟩
theorem zqu28 : zqr Tryz.prog 28 1 := ⟨_, Tryz.underlying28, rfl, by kernel_rfl⟩
theorem zqu33 : zqr Tryz.prog 33 7 := ⟨_, Tryz.underlying33, rfl, by kernel_rfl⟩
theorem zqu35 : zqr Tryz.prog 35 9 := ⟨_, Tryz.underlying35, rfl, by kernel_rfl⟩
theorem zqu42 : zqr Tryz.prog 42 2 := ⟨_, Tryz.underlying42, rfl, by kernel_rfl⟩
theorem zqu44 : zqr Tryz.prog 44 13 := ⟨_, Tryz.underlying44, rfl, by kernel_rfl⟩
theorem zqu55 : zqr Tryz.prog 55 7 := ⟨_, Tryz.underlying55, rfl, by kernel_rfl⟩
theorem zqu61 : zqr Tryz.prog 61 5 := ⟨_, Tryz.underlying61, rfl, by kernel_rfl⟩
theorem zqu65 : zqr Tryz.prog 65 1 := ⟨_, Tryz.underlying65, rfl, by kernel_rfl⟩
theorem zqu71 : zqr Tryz.prog 71 8 := ⟨_, Tryz.underlying71, rfl, by kernel_rfl⟩
theorem zqu73 : zqr Tryz.prog 73 4 := ⟨_, Tryz.underlying73, rfl, by kernel_rfl⟩
theorem zqu93 : zqr Tryz.prog 93 3 := ⟨_, Tryz.underlying93, rfl, by kernel_rfl⟩
theorem zqu132 : zqr Tryz.prog 132 14 := ⟨_, Tryz.underlying132, rfl, by kernel_rfl⟩
theorem zqu170 : zqr Tryz.prog 170 7 := ⟨_, Tryz.underlying170, rfl, by kernel_rfl⟩
theorem zqu183 : zqr Tryz.prog 183 3 := ⟨_, Tryz.underlying183, rfl, by kernel_rfl⟩
theorem zqu212 : zqr Tryz.prog 212 5 := ⟨_, Tryz.underlying212, rfl, by kernel_rfl⟩
end
section
open Go.RowKit
theorem zw {P : Program} {ops : Array Oper} {rest : List Oper} {o : Oper} {a : Act} {w : World} {Q : Exit → Act → World → Prop} {ty : TypeId} {x : Operand} {g : Nat} {t : TypeId} {cs : Array Value}
 (h : wpList P ops Q rest (a.put o.dst (.agg cs)) w) (hgd : o.guard = none := by exact rfl) (ho : o.op = .load ty x := by exact rfl) (hx : a.eval x = .pointer (some ⟨g, 0, none⟩) := by exact rfl)
 (hB : Hid (Blk w g cs t) := by assumption) (hr : zqr P ty cs.size := by first|exact zqu24|exact zqu28|exact zqu33|exact zqu35|exact zqu42|exact zqu44|exact zqu55|exact zqu61|exact zqu65|exact zqu71|exact zqu73|exact zqu93|exact zqu132|exact zqu170|exact zqu183|exact zqu212) : wpList P ops Q (o :: rest) a w := by
 obtain ⟨d, h1, h2, h3⟩ := hr
 exact wp_whole hgd ty x ho g hx t cs d hB.out h1 (by cases d <;> first | rfl | exact h2) h3 h
theorem zs {P : Program} {ops : Array Oper} {rest : List Oper} {o : Oper} {a : Act} {w : World} {Q : Exit → Act → World → Prop} {ty : TypeId} {x y : Operand} {g : Nat} {cells cs : Array Value} {t : TypeId}
 (h : ∀ W, Upd w W g cells t → wpList P ops Q rest (a.put o.dst undef) W) (hgd : o.guard = none := by exact rfl) (ho : o.op = .store ty x y := by exact rfl) (hx : a.eval x = .pointer (some ⟨g, 0, none⟩) := by exact rfl)
 (hy : a.eval y = .agg cells := by exact rfl) (hr : zqr P ty cells.size := by first|exact zqu24|exact zqu28|exact zqu33|exact zqu35|exact zqu42|exact zqu44|exact zqu55|exact zqu61|exact zqu65|exact zqu71|exact zqu73|exact zqu93|exact zqu132|exact zqu170|exact zqu183|exact zqu212) (h1 : cells.all (·.oneCell') = true := by simp [Value.oneCell'])
 (hB : Hid (Blk w g cs t) := by assumption) (hin : cells.size = cs.size := by exact rfl) : wpList P ops Q (o :: rest) a w := by
 obtain ⟨d, h4, h2, h3⟩ := hr
 exact wp_letAll hgd ty x y ho g hx cells hy h3 h1 cs t hB.out hin h
theorem zl {P : Program} {ops : Array Oper} {rest : List Oper} {o : Oper} {a : Act} {w : World} {Q : Exit → Act → World → Prop} {ty : TypeId} {x y : Operand} {g off : Nat} {k : IntKind} {n : Int} {cs : Array Value} {t : TypeId}
 (h : ∀ W, Upd w W g (cs.setIfInBounds off (.int k n)) t → wpList P ops Q rest (a.put o.dst undef) W) (hgd : o.guard = none := by exact rfl) (ho : o.op = .store ty x y := by exact rfl)
 (hx : a.eval x = .pointer (some ⟨g, off, none⟩) := by exact rfl) (hy : a.eval y = .int k n := by exact rfl) (hi : (P.info? ty).map (·.size) = some 1 := by kernel_rfl)
 (hB : Hid (Blk w g cs t) := by assumption) (hin : off < cs.size := by simp) : wpList P ops Q (o :: rest) a w := wp_let1 hgd ty x y ho g off hx k n hy hi cs t hB.out hin h
theorem zt {P : Program} {ops : Array Oper} {Q : Exit → Act → World → Prop} {md : Region.Mode} {S : World → Prop} {fuel : Nat} {listed : Array Bool} {a : Act} {w : World} (i : Nat) (v : Value) {d : Nat} {oi : Oper}
 (h : wpAnyH P md ops Q S fuel (listed.setIfInBounds i true) (a.put (some d) v) w) (hi : ops[i]? = some oi := by exact rfl) (hd : oi.dst = some d := by exact rfl)
 (hk : (Region.noSelect ops && (Region.free md ops listed i && (Region.ready md ops listed).contains i)) = true := by kernel_rfl)
 (hQ : ∀ c a w, Q (.panic c) (a.put oi.dst v) w → Q (.panic c) a w := by exact fun _ _ _ h => h) (h1 : Region.wanted oi (yielded ops a.tmps) = true := by exact rfl)
 (h2 : ∀ w, S w → (execOp a.eval oi).run P w = .ok (.value v) w := by exact fun v hv => by clear hv; go_simp) (hS : S w := by assumption) : wpAnyH P md ops Q S (fuel + 1) listed a w := by
 rw [Bool.and_eq_true, Bool.and_eq_true] at hk
 exact take_at i d v oi hi hd hk.1 hk.2.1 hk.2.2 hQ (Or.inl ⟨h1, h2⟩) hS h
theorem zu {P : Program} {ops : Array Oper} {Q : Exit → Act → World → Prop} {md : Region.Mode} {S : World → Prop} {fuel : Nat} {listed : Array Bool} {a : Act} {w : World} (i : Nat) (v : Value) {d : Nat} {oi : Oper}
 (hi : ops[i]? = some oi) (hd : oi.dst = some d) (hy : YieldsIf P ops S oi v a) (h : wpAnyH P md ops Q S fuel (listed.setIfInBounds i true) (a.put (some d) v) w)
 (hk : (Region.noSelect ops && (Region.free md ops listed i && (Region.ready md ops listed).contains i)) = true := by kernel_rfl)
 (hQ : ∀ c a w, Q (.panic c) (a.put oi.dst v) w → Q (.panic c) a w := by exact fun _ _ _ h => h) (hS : S w := by assumption) : wpAnyH P md ops Q S (fuel + 1) listed a w := by
 rw [Bool.and_eq_true, Bool.and_eq_true] at hk
 exact take_at i d v oi hi hd hk.1 hk.2.1 hk.2.2 hQ hy hS h
theorem zv {P : Program} {ops : Array Oper} {Q : Exit → Act → World → Prop} {md : Region.Mode} {S : World → Prop} {fuel : Nat} {listed : Array Bool} {a : Act} {w : World} (i : Nat) (v : Value) {d : Nat} {oi : Oper}
 (hi : ops[i]? = some oi) (hd : oi.dst = some d) (h2 : ∀ w, S w → (execOp a.eval oi).run P w = .ok (.value v) w) (h : wpAnyH P md ops Q S fuel (listed.setIfInBounds i true) (a.put (some d) v) w)
 (hk : (Region.noSelect ops && (Region.free md ops listed i && (Region.ready md ops listed).contains i)) = true := by kernel_rfl)
 (hQ : ∀ c a w, Q (.panic c) (a.put oi.dst v) w → Q (.panic c) a w := by exact fun _ _ _ h => h) (h1 : Region.wanted oi (yielded ops a.tmps) = true := by exact rfl) (hS : S w := by assumption) : wpAnyH P md ops Q S (fuel + 1) listed a w := by
 rw [Bool.and_eq_true, Bool.and_eq_true] at hk
 exact take_at i d v oi hi hd hk.1 hk.2.1 hk.2.2 hQ (Or.inl ⟨h1, h2⟩) hS h
theorem zt' {P : Program} {ops : Array Oper} {Q : Exit → Act → World → Prop} {md : Region.Mode} {S : World → Prop} {fuel : Nat} {listed l' : Array Bool} {a a' : Act} {w : World} (i : Nat) (v : Value) {d : Nat} {oi : Oper}
 (h : wpAnyH P md ops Q S fuel l' a' w) (hi : ops[i]? = some oi := by exact rfl) (hd : oi.dst = some d := by exact rfl)
 (hk : (Region.noSelect ops && (Region.free md ops listed i && (Region.ready md ops listed).contains i)) = true := by kernel_rfl)
 (hQ : ∀ c a w, Q (.panic c) (a.put oi.dst v) w → Q (.panic c) a w := by exact fun _ _ _ h => h) (h1 : Region.wanted oi (yielded ops a.tmps) = true := by exact rfl)
 (h2 : ∀ w, S w → (execOp a.eval oi).run P w = .ok (.value v) w := by exact fun v hv => by clear hv; go_simp) (hl : listed.setIfInBounds i true = l' := by (try simp only [zq]); exact rfl)
 (ha : a.put (some d) v = a' := by (try simp only [Act.put, zq]); exact rfl) (hS : S w := by assumption) : wpAnyH P md ops Q S (fuel + 1) listed a w := by
 subst hl ha; exact zt i v h hi hd hk hQ h1 h2 hS
theorem zu' {P : Program} {ops : Array Oper} {Q : Exit → Act → World → Prop} {md : Region.Mode} {S : World → Prop} {fuel : Nat} {listed l' : Array Bool} {a a' : Act} {w : World} (i : Nat) (v : Value) {d : Nat} {oi : Oper}
 (hi : ops[i]? = some oi) (hd : oi.dst = some d) (hy : YieldsIf P ops S oi v a) (h : wpAnyH P md ops Q S fuel l' a' w)
 (hk : (Region.noSelect ops && (Region.free md ops listed i && (Region.ready md ops listed).contains i)) = true := by kernel_rfl)
 (hQ : ∀ c a w, Q (.panic c) (a.put oi.dst v) w → Q (.panic c) a w := by exact fun _ _ _ h => h) (hl : listed.setIfInBounds i true = l' := by (try simp only [zq]); exact rfl)
 (ha : a.put (some d) v = a' := by (try simp only [Act.put, zq]); exact rfl) (hS : S w := by assumption) : wpAnyH P md ops Q S (fuel + 1) listed a w := by
 subst hl ha; exact zu i v hi hd hy h hk hQ hS
theorem zv' {P : Program} {ops : Array Oper} {Q : Exit → Act → World → Prop} {md : Region.Mode} {S : World → Prop} {fuel : Nat} {listed l' : Array Bool} {a a' : Act} {w : World} (i : Nat) (v : Value) {d : Nat} {oi : Oper}
 (hi : ops[i]? = some oi) (hd : oi.dst = some d) (h2 : ∀ w, S w → (execOp a.eval oi).run P w = .ok (.value v) w) (h : wpAnyH P md ops Q S fuel l' a' w)
 (hk : (Region.noSelect ops && (Region.free md ops listed i && (Region.ready md ops listed).contains i)) = true := by kernel_rfl)
 (hQ : ∀ c a w, Q (.panic c) (a.put oi.dst v) w → Q (.panic c) a w := by exact fun _ _ _ h => h) (h1 : Region.wanted oi (yielded ops a.tmps) = true := by exact rfl) (hl : listed.setIfInBounds i true = l' := by (try simp only [zq]); exact rfl)
 (ha : a.put (some d) v = a' := by (try simp only [Act.put, zq]); exact rfl) (hS : S w := by assumption) : wpAnyH P md ops Q S (fuel + 1) listed a w := by
 subst hl ha; exact zv i v hi hd h2 h hk hQ h1 hS
theorem zo {P : Program} {ops : Array Oper} {Q : Exit → Act → World → Prop} {md : Region.Mode} {S : World → Prop} {fuel : Nat} {listed : Array Bool} {a : Act} {w : World} (i : Nat) {o : Oper}
 (h : ∀ K' : Act → World → Prop, Shut (∀ a w, S w → (S w → wpAnyH P md ops Q S fuel (listed.setIfInBounds i true) a w) → K' a w) → if Region.wanted o (yielded ops a.tmps) = true then Oper.wp P o a w K' Q else K' (a.put o.dst undef) w)
 (hr : Region.ready md ops listed = [i] := by kernel_rfl) (ho : ops[i]? = some o := by exact rfl) :
 wpAnyH P md ops Q S (fuel + 1) listed a w := wpAnyH_ready hr (by simp) (AllReadyH.cons ho h AllReadyH.nil)
theorem zh {p : Prop} (h : p) : Hid p := h
theorem zr {P : Program} {fn : Func} {R : Ending → World → Prop} {a : Act} {w : World} (v : Value) (hr : (results fn a.tmps).run P w = .ok v w) (hR : R (.returned v) w) (hd : a.defers = [] := by exact rfl) : bodyPost P fn R .ret a w := bodyPost_ret hr hd hR
end
section
open Go.RowKit
theorem zyb {w W : World} {g : Nat} {cs : Array Value} {t : TypeId} (h : Upd w W g cs t) : Hid (Blk W g cs t) := h.blk
theorem zyk {w W : World} {g G : Nat} {cs cs' : Array Value} {t t' : TypeId} (h : Upd w W g cs t) (hb : Hid (Blk w G cs' t')) (hne : G ≠ g) : Hid (Blk W G cs' t') := h.keep hb.out hne
theorem zya {w : World} {G : Nat} {cs : Array Value} {t : TypeId} (h : Hid (Blk w G cs t)) (o : Obj) : Hid (Blk (w.alloc o) G cs t) := h.out.alloc o
theorem zye (w : World) (cs : Array Value) (t : TypeId) : Hid (Blk (w.alloc (.cells cs t)) w.heap.size cs t) := Blk.new w cs t
theorem zyf {w0 w : World} (h : Hid (Below w0.heap.size w0 w)) (o : Obj) : Hid (Below w0.heap.size w0 (w.alloc o)) := h.out.alloc h.out.size o
theorem zy0 {w : World} {G : Nat} {t : TypeId} {a0 : Value} {l : List Value} (h : Hid (Blk w G (List.toArray (a0::l)) t)) : w.cell? ⟨G, 0, none⟩ = some a0 := h.out.cell 0
theorem zx0 {w W : World} {G : Nat} {t : TypeId} {a0 : Value} {l : List Value} (h : Upd w W G (List.toArray (a0::l)) t) : W.cell? ⟨G, 0, none⟩ = some a0 := h.blk.cell 0
theorem zy1 {w : World} {G : Nat} {t : TypeId} {a0 a1 : Value} {l : List Value} (h : Hid (Blk w G (List.toArray (a0::a1::l)) t)) : w.cell? ⟨G, 1, none⟩ = some a1 := h.out.cell 1
theorem zy2 {w : World} {G : Nat} {t : TypeId} {a0 a1 a2 : Value} {l : List Value} (h : Hid (Blk w G (List.toArray (a0::a1::a2::l)) t)) : w.cell? ⟨G, 2, none⟩ = some a2 := h.out.cell 2
theorem zy3 {w : World} {G : Nat} {t : TypeId} {a0 a1 a2 a3 : Value} {l : List Value} (h : Hid (Blk w G (List.toArray (a0::a1::a2::a3::l)) t)) : w.cell? ⟨G, 3, none⟩ = some a3 := h.out.cell 3
theorem zy4 {w : World} {G : Nat} {t : TypeId} {a0 a1 a2 a3 a4 : Value} {l : List Value} (h : Hid (Blk w G (List.toArray (a0::a1::a2::a3::a4::l)) t)) : w.cell? ⟨G, 4, none⟩ = some a4 := h.out.cell 4
theorem zy5 {w : World} {G : Nat} {t : TypeId} {a0 a1 a2 a3 a4 a5 : Value} {l : List Value} (h : Hid (Blk w G (List.toArray (a0::a1::a2::a3::a4::a5::l)) t)) : w.cell? ⟨G, 5, none⟩ = some a5 := h.out.cell 5
theorem zy6 {w : World} {G : Nat} {t : TypeId} {a0 a1 a2 a3 a4 a5 a6 : Value} {l : List Value} (h : Hid (Blk w G (List.toArray (a0::a1::a2::a3::a4::a5::a6::l)) t)) : w.cell? ⟨G, 6, none⟩ = some a6 := h.out.cell 6
theorem zy7 {w : World} {G : Nat} {t : TypeId} {a0 a1 a2 a3 a4 a5 a6 a7 : Value} {l : List Value} (h : Hid (Blk w G (List.toArray (a0::a1::a2::a3::a4::a5::a6::a7::l)) t)) : w.cell? ⟨G, 7, none⟩ = some a7 := h.out.cell 7
theorem zy8 {w : World} {G : Nat} {t : TypeId} {a0 a1 a2 a3 a4 a5 a6 a7 a8 : Value} {l : List Value} (h : Hid (Blk w G (List.toArray (a0::a1::a2::a3::a4::a5::a6::a7::a8::l)) t)) : w.cell? ⟨G, 8, none⟩ = some a8 := h.out.cell 8
theorem zy9 {w : World} {G : Nat} {t : TypeId} {a0 a1 a2 a3 a4 a5 a6 a7 a8 a9 : Value} {l : List Value} (h : Hid (Blk w G (List.toArray (a0::a1::a2::a3::a4::a5::a6::a7::a8::a9::l)) t)) : w.cell? ⟨G, 9, none⟩ = some a9 := h.out.cell 9
theorem zy10 {w : World} {G : Nat} {t : TypeId} {a0 a1 a2 a3 a4 a5 a6 a7 a8 a9 a10 : Value} {l : List Value} (h : Hid (Blk w G (List.toArray (a0::a1::a2::a3::a4::a5::a6::a7::a8::a9::a10::l)) t)) : w.cell? ⟨G, 10, none⟩ = some a10 := h.out.cell 10
theorem zy11 {w : World} {G : Nat} {t : TypeId} {a0 a1 a2 a3 a4 a5 a6 a7 a8 a9 a10 a11 : Value} {l : List Value} (h : Hid (Blk w G (List.toArray (a0::a1::a2::a3::a4::a5::a6::a7::a8::a9::a10::a11::l)) t)) : w.cell? ⟨G, 11, none⟩ = some a11 := h.out.cell 11
theorem zy12 {w : World} {G : Nat} {t : TypeId} {a0 a1 a2 a3 a4 a5 a6 a7 a8 a9 a10 a11 a12 : Value} {l : List Value} (h : Hid (Blk w G (List.toArray (a0::a1::a2::a3::a4::a5::a6::a7::a8::a9::a10::a11::a12::l)) t)) : w.cell? ⟨G, 12, none⟩ = some a12 := h.out.cell 12
end
end Go.Proofs.YtoepgdhiepedeaaGreatDoor
