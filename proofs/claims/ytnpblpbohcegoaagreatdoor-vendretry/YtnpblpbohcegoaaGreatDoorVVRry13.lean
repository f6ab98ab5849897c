import Derived.Test.YtnpblpbohcegoaaGreatDoorVVRry7
import Derived.Test.YtnpblpbohcegoaaGreatDoorVVRry8
set_option linter.unusedVariables false
set_option linter.unusedSimpArgs false
set_option maxHeartbeats 4000000
set_option maxRecDepth 100000
namespace Go.Proofs.YtnpblpbohcegoaaGreatDoor
namespace disk
open Go.RowKit cell
def KReplay:Prop:=∀ (W:World) (a:Option Addr) (n cap:Nat) (c:List Int),RowU W a n c→(a=none→cap=0)→n≤cap→n*4≤140737488351232→(∀ x∈c,0≤x∧x<4294967296)→Calls Tryz.prog 35 #[.slice a n cap] W fun e w'=>RepNew W c e w'
end disk
section
open Go.RowKit
theorem run_neOp {P:Program} {o:Oper} {a:Act} {w:World} (ty rt:TypeId) (x y:Operand) (ho:o.op = .binOp .neq ty x y rt) (ca cb:Array Value) (hx:a.eval x = .agg ca) (hy:a.eval y = .agg cb) (hg:P.eqGuardType P.depth ty=false) (b:Bool)
  (hr:(Op.equalIn 10000 ty (.agg ca) (.agg cb)).run P w = .ok b w):(execOp a.eval o).run P w = .ok (.value (.bool (!b))) w:=by
 have hr':(Op.equal ty (.agg ca) (.agg cb)).run P w = .ok b w:=hr;unfold execOp;simp only [ho,hx,hy];have hp:∀ w':World,(program:Sem Program).run P w' = .ok P w':=fun _=>rfl;simp [eqGuard,hg,binOp,hr',hp,Sem.run_bind]
theorem wp_neE {P:Program} {ops:Array Oper} {rest:List Oper} {o:Oper} {a:Act} {w:World} {Q:Exit→Act→World→Prop} (hw:Region.wanted o (yielded ops a.tmps)=true) (ty rt:TypeId) (x y:Operand) (ho:o.op = .binOp .neq ty x y rt) (ca cb:Array Value) (hx:a.eval x = .agg ca) (hy:a.eval y = .agg cb) (hg:P.eqGuardType P.depth ty=false) (b:Bool)
  (hr:(Op.equalIn 10000 ty (.agg ca) (.agg cb)).run P w = .ok b w) (d:Nat) (hd:o.dst=some d) (h:wpList P ops Q rest (a.put (some d) (.bool (!b))) w):wpList P ops Q (o :: rest) a w:=
 wpList_step fun K hK=>by
  rw [if_pos hw];exact wp_runOp d hd (run_neOp ty rt x y ho ca cb hx hy hg b hr) (hK _ _ h)
end
namespace book
open Go.RowKit
open Go.ChangeMaps (setBlock heap_setBlock_same heap_setBlock_other)
def entI (m:Int) (i:Nat):MapEntry:={ key:=zI m,val:=zI (i:Int),born:=i }
def entsI:List Int→Nat→List MapEntry
 | [],_=>[]
 | p :: l,i=>entI p i :: entsI l (i+1)
theorem entsI_app (l:List Int) (p:Int) (i:Nat):entsI (l++[p]) i=entsI l i++[entI p (i+l.length)]:=by
 induction l generalizing i with
 | nil=>rfl
 | cons x l ih=>simp only [List.cons_append,entsI,ih,List.length_cons];rw [show i+1+l.length=i+(l.length+1) by omega]
def MpI (w:World) (B:Nat) (l:List Int):Prop:=w.heap[B]?=some (.map (entsI l 0).toArray l.length)
theorem MpI.lt {w:World} {B:Nat} {l:List Int} (h:MpI w B l):B<w.heap.size:=by
 unfold MpI at h;by_cases hh:B<w.heap.size
 ·exact hh
 ·rw [Array.getElem?_eq_none (by omega)] at h;cases h
theorem MpI.below {w w':World} {B:Nat} {l:List Int} (h:MpI w B l) (hb:Below w.heap.size w w'):MpI w' B l:=by
 have hl:=h.lt;unfold MpI at *;rw [hb.block B hl];exact h
theorem MpI.upd {w W:World} {B g:Nat} {cs:Array Value} {t:TypeId} {l:List Int} (h:MpI w B l) (hU:Upd w W g cs t) (hne:B≠g):MpI W B l:=by
 unfold MpI at *;rw [hU.oth B hne];exact h
theorem MpI.new (w:World):MpI (w.alloc (.map #[] 0)) w.heap.size []:=by
 show (w.heap.push _)[w.heap.size]?=_;rw [Array.getElem?_push_size];rfl
def firstI:List Int→Int→Option Nat
 | [],_=>none
 | m :: l,x=>if x=m then some 0 else (firstI l x).map (·+1)
theorem findingI (x:Int):∀ (l:List Int) (i j:Nat),Instr.findNow (.int .i64) (zI x) (entsI l i) j=some ((firstI l x).map fun k=>(j+k,Value.int .i64 ((i+k:Nat):Int)))
 | [],i,j=>rfl
 | m :: l,i,j=>by
  have ih:=findingI x l (i+1) (j+1);unfold firstI;by_cases h:x=m
  ·subst h;simp [entsI,entI,Instr.findNow,Instr.sameNow]
  ·have hb:(x == m)=false:=by simpa using h
   rw [if_neg h];simp only [entsI,entI,Instr.findNow,Instr.sameNow,if_true,hb];rw [ih];cases firstI l x with
   | none=>rfl
   | some k=>simp [show j+1+k=j+(k+1) by omega,show i+1+k=i+(k+1) by omega];omega
theorem zintI (w:World):(zeroValue 3).run Tryz.prog w = .ok (zI 0) w:=by kernel_rfl
theorem chkI (em:Bool) (x:Int) (w:World):(Instr.checkKey em 10000 3 (zI x)).run Tryz.prog w = .ok () w:=by kernel_rfl
theorem keyI (x:Int) (l:List Int) (w:World):(Instr.findKey 3 (zI x) (entsI l 0)).run Tryz.prog w = .ok ((firstI l x).map fun k=>(k,Value.int .i64 (k:Int))) w:=by
 have h:=findingI x l 0 0;simp only [Nat.zero_add] at h;simp [Instr.findKey,run_underlying Tryz.underlying3,Sem.run_bind,h]
theorem lookI_run {w:World} {B:Nat} {l:List Int} (h:MpI w B l) (x:Int) :
  (Instr.lookup 111 (.map (some B)) (zI x) true).run Tryz.prog w = .ok (.tuple #[zI (((firstI l x).getD 0:Nat):Int),.bool (firstI l x).isSome]) w:=by
 have hf:=keyI x l w;cases hl:firstI l x with
 | none=>rw [hl] at hf;simp [Instr.lookup,run_underlying Tryz.underlying111,MapKept.run_getObj_map h,chkI,hf,zintI,Result.andThen,Sem.run_bind]
 | some k=>rw [hl] at hf;simp [Instr.lookup,run_underlying Tryz.underlying111,MapKept.run_getObj_map h,chkI,hf,Result.andThen,Sem.run_bind]
theorem updI_run {w:World} {B:Nat} {l:List Int} (h:MpI w B l) (x:Int) (hn:firstI l x=none) :
  ∃ W,(Instr.mapUpdate 111 (.map (some B)) (zI x) (zI (l.length:Int))).run Tryz.prog w = .ok () W∧MpI W B (l++[x])∧(∀ G,G≠B→W.heap[G]?=w.heap[G]?)∧(∀ B0 w0,B0≤B→Below B0 w0 w→Below B0 w0 W)∧W.heap.size=w.heap.size∧w.grownBy W (some B):=by
 have hf:=keyI x l w;rw [hn] at hf;refine ⟨setBlock w B (.map ((entsI l 0).toArray.push ⟨zI x,zI (l.length:Int),l.length⟩) (l.length+1)),?_,?_,fun G hG=>heap_setBlock_other h _ hG,fun B0 w0 hB hb=>?_,by simp [setBlock],⟨rfl,rfl,rfl,by simp [setBlock],fun k hk hne=>heap_setBlock_other h _ (fun e=>hne (by rw [e]))⟩⟩
 ·simp [Instr.mapUpdate,run_underlying Tryz.underlying111,MapKept.run_getObj_map h,chkI,hf,MapKept.run_setObj_map _ h,Result.andThen,setBlock,Sem.run_bind]
 ·unfold MpI;rw [heap_setBlock_same h,entsI_app,List.length_append];simp [entI]
 ·refine ⟨hb.os,hb.tape,hb.output,by simp [setBlock];exact hb.size,fun k hk=>?_⟩;rw [heap_setBlock_other h _ (by omega)];exact hb.block k hk
theorem mkMapI (w:World):(Instr.makeMap 111 none).run Tryz.prog w = .ok (.map (some w.heap.size)) (w.alloc (.map #[] 0)):=by kernel_rfl
def mes (bk:List Cm):List Int:=bk.map fun c=>c.a.me
theorem mes_len (bk:List Cm):(mes bk).length=bk.length:=by simp [mes]
theorem first_some {bk:List Cm} {x:Int} {k:Nat} (h:firstI (mes bk) x=some k):FirstAt bk x k:=by
 induction bk generalizing k with
 | nil=>cases h
 | cons c bk ih=>
  unfold mes firstI at h;simp only [List.map_cons] at h;by_cases hx:x=c.a.me
  ·rw [if_pos hx] at h;cases h;exact ⟨by simp,hx.symm,fun j hj=>absurd hj (Nat.not_lt_zero _)⟩
  ·rw [if_neg hx] at h;cases hf:firstI (mes bk) x with
   | none=>rw [show firstI (List.map (fun c=>c.a.me) bk) x=none from hf] at h;cases h
   | some m=>
    rw [show firstI (List.map (fun c=>c.a.me) bk) x=some m from hf] at h;cases h;have:=ih hf
    exact ⟨by have:=this.1;simp;omega,this.2.1,fun j hj=>by
     cases j with
     | zero=>exact fun e=>hx e.symm
     | succ j=>exact this.2.2 j (by have:j+1<m+1:=hj;omega)⟩
theorem first_none {bk:List Cm} {x:Int} (h:firstI (mes bk) x=none):NoneAt bk x:=by
 induction bk with
 | nil=>intro j hj;cases hj
 | cons c bk ih=>
  unfold mes firstI at h;simp only [List.map_cons] at h;by_cases hx:x=c.a.me
  ·rw [if_pos hx] at h;cases h
  ·rw [if_neg hx] at h
   have hf:firstI (mes bk) x=none:=by
    cases hf:firstI (mes bk) x with
    | none=>rfl
    | some m=>rw [show firstI (List.map (fun c=>c.a.me) bk) x=some m from hf] at h;cases h
   intro j hj;cases j with
   | zero=>exact fun e=>hx e.symm
   | succ j=>exact ih hf j (by simpa using hj)
theorem mes_set {bk:List Cm} {k:Nat} {c:Cm} (h:c.a.me=(bk.getD k cm0).a.me):mes (bk.set k c)=mes bk:=by
 unfold mes;apply List.ext_getElem?;intro j;simp only [List.getElem?_map,List.getElem?_set];by_cases hj:k=j
 ·subst hj;rw [if_pos rfl];by_cases hl:k<bk.length
  ·rw [if_pos hl,List.getElem?_eq_getElem hl];simp only [Option.map_some,h,List.getD,List.getElem?_eq_getElem hl,Option.getD]
  ·rw [if_neg hl,List.getElem?_eq_none (by omega)]
 ·rw [if_neg hj]
end book
namespace deb
open tar (Du du0 Came TwoPost)
open Go.RowKit
def KdAge:Prop:=∀ (W:World) (a:Option Addr) (len cap:Nat) (ls:List Du) (m:Int),Came W a len cap ls→(Lit.int .i64 m).wf=true→Calls Tryz.prog 201 #[.slice a len cap,zI m] W fun e w'=>AgePost W ls m e w'
end deb
namespace tar
open Go.RowKit Go.Shelf
attribute [local go_sem] Oper.semAt_some
theorem blk_own {β:Type} (B:Nat) (t:TypeId) (f:β→Array Value):Own (fun s W=>Blk W B (f s) t):=fun s X Y row hs hg hrow=>by
 have hl:=hs.lt;refine (hg.block B hl fun e'=>?_).trans hs;obtain ⟨o,ho,hc⟩:=hrow B e'.symm;rw [show X.heap[B]?=_ from hs] at ho;cases ho;cases hc
def boxes (w:World) (v:Value) (x u:Int):World:=((w.alloc (.cells #[v] 22)).alloc (.cells #[zI x] 3)).alloc (.cells #[zI u] 3)
theorem boxes_size (w:World) (v:Value) (x u:Int):(boxes w v x u).heap.size=w.heap.size+3:=by unfold boxes;simp
theorem boxes_t (w:World) (v:Value) (x u:Int):Boxed (boxes w v x u) w.heap.size 22 v:=((Boxed.new w _ v).alloc _).alloc _
theorem boxes_x (w:World) (v:Value) (x u:Int):Boxed (boxes w v x u) (w.heap.size+1) 3 (zI x):=by
 have h:=(Boxed.new (w.alloc (.cells #[v] 22)) 3 (zI x)).alloc (.cells #[zI u] 3);rw [World.size_alloc] at h;exact h
theorem boxes_u (w:World) (v:Value) (x u:Int):Boxed (boxes w v x u) (w.heap.size+1+1) 3 (zI u):=by
 have h:=Boxed.new ((w.alloc (.cells #[v] 22)).alloc (.cells #[zI x] 3)) 3 (zI u);rw [World.size_alloc,World.size_alloc] at h;exact h
theorem boxes_bel {n:Nat} {w0 w:World} (h:Below n w0 w) (hn:n≤w.heap.size) (v:Value) (x u:Int):Below n w0 (boxes w v x u):=((h.alloc hn _).alloc (by simp;omega) _).alloc (by simp;omega) _
theorem boxes_boxed {w:World} {B:Nat} {t:TypeId} {o:Value} (h:Boxed w B t o) (v:Value) (x u:Int):Boxed (boxes w v x u) B t o:=((h.alloc _).alloc _).alloc _
theorem lines_in (F:Fence) (n:Nat) (hF:F.fn 193) (hro:F.round=none) (a:Option Addr) (len cap:Nat) (x u:Int) (w:World) :
  CallsIn F n Tryz.prog 193 #[.slice a len cap,zI x,zI u] w fun e w'=>e = .returned (.func (.func 203) #[] #[.pointer (some ⟨w.heap.size+1,0,none⟩),.pointer (some ⟨w.heap.size,0,none⟩),.pointer (some ⟨w.heap.size+1+1,0,none⟩)])∧w'=boxes w (.slice a len cap) x u:=by
 refine callsIn_of_wp Tryz.func193 rfl hF ?_ hro;simp only [Tryz.ntmps193,List.size_toArray,List.length_cons,List.length_nil,Nat.reduceAdd,Nat.reduceSub,Array.replicate_succ,Array.replicate_zero,List.push_toArray,List.append_toArray,List.nil_append,List.cons_append]
 gi_wp2
 go_ret;exact ⟨rfl,rfl⟩
structure Lnd (w:World) (n₀ B b off len cap:Nat) (ls:List Du) (x u:Int):Prop where
 right:Right ls
 many:ls.length=len
 x0:0≤x
 x1:x≤10000000
 u0:0≤u
 u1:x+u≤10000000
 bt:Boxed w B 22 (.slice (some ⟨b,off,none⟩) len cap)
 bx:Boxed w (B+1) 3 (zI x)
 bu:Boxed w (B+1+1) 3 (zI u)
 hb:b<n₀
 hn:n₀≤w.heap.size
 row:∀ i,i<len→w.cell? ⟨b,off+i*2,none⟩=some (zI (ls.getD i du0).a)∧w.cell? ⟨b,off+i*2+1,none⟩=some (zI (ls.getD i du0).b)
theorem lines_stops (F:Fence) (n:Nat) (hF:F.fn 203) (hro:F.round=none) (hn:1≤n) (n₀ B b off len cap:Nat) (ls:List Du) (x u:Int) (w:World) (h:Lnd w n₀ B b off len cap ls x u) :
  SeqStopsK F n Tryz.prog 203 #[.pointer (some ⟨B+1,0,none⟩),.pointer (some ⟨B,0,none⟩),.pointer (some ⟨B+1+1,0,none⟩)] encL (Kq n₀ B (B+3)) (fun ys=>lns ys=billK ls x (x+u) len) (fun pre=>lns pre <+: billK ls x (x+u) len) len w:=fun l J Jx W hW hJ _ hY h0=>
 lines1_in F n hF hro hn l (B+1) B (B+1+1) n₀ B (B+3) b off len cap W.heap.size ls x u J Jx h.right h.many ⟨h.x0,h.x1⟩ ⟨h.u0,h.u1⟩ hJ hY W
  (boxed_same h.bx (hW.block _ h.bx.lt)) (boxed_same h.bt (hW.block _ h.bt.lt)) (boxed_same h.bu (hW.block _ h.bu.lt)) ⟨by omega,by omega⟩ ⟨by omega,by omega⟩ h.hb (Nat.le_trans h.hn hW.size)
  (fun i hi=>⟨(hW.cell (p:=⟨b,off+i*2,none⟩) (Nat.lt_of_lt_of_le h.hb h.hn)).trans (h.row i hi).1,(hW.cell (p:=⟨b,off+i*2+1,none⟩) (Nat.lt_of_lt_of_le h.hb h.hn)).trans (h.row i hi).2⟩) h0
theorem Kq.refl (n lo hi:Nat) (W:World):Kq n lo hi W W:=⟨Below.refl _ _,fun _ _ _=>rfl⟩
theorem Kq.alloc {n lo hi:Nat} {W W':World} (h:Kq n lo hi W W') (o:Obj) (hn:n≤W'.heap.size) (hs:hi≤W'.heap.size):Kq n lo hi W (W'.alloc o):=⟨h.1.alloc hn o,fun j a b=>(Below.heap_alloc W' o j (by omega)).trans (h.2 j a b)⟩
theorem Kq.set {n lo hi:Nat} {W W':World} (h:Kq n lo hi W W') (B i:Nat) (v:Value) (hB:n≤B) (hl:B<lo∨hi≤B):Kq n lo hi W (W'.setCell ⟨B,i,none⟩ v):=⟨h.1.setCell (p:=⟨B,i,none⟩) hB v,fun j a b=>(Below.heap_setCell W' ⟨B,i,none⟩ v j (by show j≠B;omega)).trans (h.2 j a b)⟩
theorem kq_b {n lo hi:Nat} {w:World} (hn:n≤w.heap.size) (hh:hi≤w.heap.size) (W:World) (l:Nat) (o o':Obj) (hl:w.heap.size≤l) (h:W.heap[l]?=some o) (hc:o.isCells=false) (hw:o.isWalk=false):Kq n lo hi W (W.putObj l o'):=⟨belowK_b hn W l o o' hl h hc hw,fun j a b=>(grownBy_putObj' W l o').block j (by have:=(Array.getElem?_eq_some_iff.1 h).1;omega) (fun e=>by cases e;omega)⟩
theorem lnd_of {w w1:World} (n₀ B b off len cap:Nat) {ls:List Du} {x u:Int} (hr:Right ls) (hl:ls.length=len) (hx:0≤x∧x≤10000000) (hu:0≤u∧x+u≤10000000) (hB:w1.heap.size=B) (hb:b<n₀) (hn:n₀≤w1.heap.size)
  (hbel:Below n₀ w w1) (hc:∀ i,i<len→w.cell? ⟨b,off+i*2,none⟩=some (zI (ls.getD i du0).a)∧w.cell? ⟨b,off+i*2+1,none⟩=some (zI (ls.getD i du0).b)):Lnd (boxes w1 (.slice (some ⟨b,off,none⟩) len cap) x u) n₀ B b off len cap ls x u:=by
 subst hB;have h2:=boxes_bel hbel hn (.slice (some ⟨b,off,none⟩) len cap) x u;exact ⟨hr,hl,hx.1,hx.2,hu.1,hu.2,boxes_t _ _ _ _,boxes_x _ _ _ _,boxes_u _ _ _ _,hb,by rw [boxes_size];omega,fun i hi=>⟨(h2.cell (p:=⟨b,off+i*2,none⟩) hb).trans (hc i hi).1,(h2.cell (p:=⟨b,off+i*2+1,none⟩) hb).trans (hc i hi).2⟩⟩
theorem ov_before {l:List Du} (h:Right l) (x y z:Int) (k j:Nat) (hk:k<l.length) (hj:j<k) (hy:low l k≤y) (hz:low l k≤z):ov (low l j) (l.getD j du0).a x z=ov (low l j) (l.getD j du0).a x y:=by
 have h1:=low_mono h (j+1) k (by omega) (by omega);rw [low_next] at h1;unfold ov;omega
theorem costK_before {l:List Du} (h:Right l) (x y z:Int) (k j:Nat) (hk:k<l.length) (hj:j≤k) (hy:low l k≤y) (hz:low l k≤z):costK l x z j=costK l x y j:=by
 induction j with
 | zero=>rfl
 | succ j ih=>rw [costK_next,costK_next,ih (by omega),ov_before h x y z k j hk (by omega) hy hz]
theorem costK_behind {l:List Du} (h:Right l) (x z:Int) (k j:Nat) (hkj:k≤j) (hj:j≤l.length) (hz:z≤low l k):costK l x z j=costK l x z k:=by
 induction j with
 | zero=>
  have:k=0:=by omega
  subst this;rfl
 | succ j ih=>
  by_cases e:k=j+1
  ·subst e;rfl
  ·have h1:=ih (by omega) (by omega);have h2:=low_mono h k j (by omega) (by omega);rw [costK_next,h1,show ov (low l j) (l.getD j du0).a x z=0 by unfold ov;omega];omega
theorem cost_part {l:List Du} (h:Right l) (x y:Int) (hx:0≤x) (hxy:x≤y) (k:Nat) (hk:k<l.length) (q:Int) (hq:0≤q) (hq2:q≤ov (low l k) (l.getD k du0).a x y) (hp:0<ov (low l k) (l.getD k du0).a x y) :
  cost l x (x+(manyK l x y k+q))=costK l x y k+q*(l.getD k du0).b:=by
 have h1:=many_eq h x y hx hxy k (by omega);have h2:=h.rise k hk;have h3:=h.low_pos k (by omega);have hlo:low l k≤y:=by unfold ov at hp;omega
 have hz:low l k≤x+(manyK l x y k+q):=by rw [h1];omega
 have hz2:x+(manyK l x y k+q)≤low l (k+1):=by rw [h1,low_next];unfold ov at hq2 hp;omega
 unfold cost;rw [costK_behind h x _ (k+1) l.length (by omega) (Nat.le_refl _) hz2,costK_next,costK_before h x y _ k k hk (Nat.le_refl _) hlo hz];rw [show ov (low l k) (l.getD k du0).a x (x+(manyK l x y k+q))=q by rw [h1];unfold ov at hq2 hp ⊢;omega]
theorem bill_at (l:List Du) (x y:Int) (n:Nat) (p:List Tr) (t:Tr) (h:p++[t] <+: billK l x y n):∃ k,k<n∧p=billK l x y k∧0<ov (low l k) (l.getD k du0).a x y∧t=⟨ov (low l k) (l.getD k du0).a x y,(l.getD k du0).b,ov (low l k) (l.getD k du0).a x y*(l.getD k du0).b⟩:=by
 induction n with
 | zero=>
  have:=h.length_le;simp [billK] at this
 | succ n ih=>
  by_cases hp:0<ov (low l n) (l.getD n du0).a x y
  ·rw [billK_yes l x y n hp] at h;rcases List.prefix_concat_iff.1 h with h | h
   ·obtain ⟨h1,h2⟩:=List.append_inj' h rfl;exact ⟨n,by omega,h1,hp,by simpa using h2⟩
   ·obtain ⟨k,a,b⟩:=ih h;exact ⟨k,by omega,b⟩
  ·rw [billK_no l x y n hp] at h;obtain ⟨k,a,b⟩:=ih h;exact ⟨k,by omega,b⟩
theorem top_bd {x:Int} (hx:0≤x∧x≤10000000):0≤Top x∧x+Top x≤10000000:=by unfold Top;omega
theorem most_all {l:List Du} (h:Right l) (x m:Int) (hx:0≤x∧x≤10000000) (hm:sumC (billK l x (x+Top x) l.length)≤m):MostOf l x m (sumA (billK l x (x+Top x) l.length))∧sumC (billK l x (x+Top x) l.length)=cost l x (x+sumA (billK l x (x+Top x) l.length)):=by
 have ht:=top_bd hx;have h1:=bill_sums l x (x+Top x) l.length;have h2:=many_all h x (x+Top x) hx.1 (by omega) ht.2;have e:sumA (billK l x (x+Top x) l.length)=Top x:=by rw [h1.1,h2];omega
 have e2:sumC (billK l x (x+Top x) l.length)=cost l x (x+Top x):=h1.2;rw [e,e2];rw [e2] at hm;exact ⟨⟨⟨ht.1,Int.le_refl _⟩,hm,.inl rfl⟩,rfl⟩
theorem most_cut {l:List Du} (h:Right l) (x m q:Int) (hx:0≤x∧x≤10000000) (p:List Tr) (t:Tr) (hpre:p++[t] <+: billK l x (x+Top x) l.length) (hq0:0≤q) (hq:q<t.a) (h1:sumC p+q*t.b≤m) (h2:m<sumC p+(q+1)*t.b) :
  MostOf l x m (sumA p+q)∧sumC p+q*t.b=cost l x (x+(sumA p+q)):=by
 have ht:=top_bd hx;obtain ⟨k,hk,rfl,hp,rfl⟩:=bill_at l x (x+Top x) l.length p t hpre;have hs:=bill_sums l x (x+Top x) k;rw [hs.1,hs.2];rw [hs.2] at h1 h2;dsimp only at hq h1 h2 ⊢;have e1:=cost_part h x (x+Top x) hx.1 (by omega) k hk q hq0 (by omega) hp;have e2:=cost_part h x (x+Top x) hx.1 (by omega) k hk (q+1) (by omega) (by omega) hp;have hb:=many_bd h x (x+Top x) hx.1 (by omega) k (by omega);have hb2:=many_bd h x (x+Top x) hx.1 (by omega) (k+1) (by omega);rw [many_next] at hb2;rw [e1];refine ⟨⟨⟨by omega,by omega⟩,by rw [e1];exact h1,.inr ?_⟩,rfl⟩;rw [show manyK l x (x+Top x) k+q+1=manyK l x (x+Top x) k+(q+1) by omega,e2];exact h2
theorem sums_bd (l:List Tr) (h:∀ t∈l,LineOk t):(0≤sumA l∧sumA l≤(l.length:Int)*10000000)∧0≤sumC l:=by
 induction l with
 | nil=>exact ⟨⟨Int.le_refl _,Int.le_refl _⟩,Int.le_refl _⟩
 | cons t l ih=>
  have h1:=ih fun x hx=>h x (List.mem_cons_of_mem _ hx);obtain ⟨a1,a2,a3,a4,a5⟩:=h t List.mem_cons_self;have h2:=prod_bd (show 0≤t.a by omega) a2 a3 a4;rw [← a5] at h2;have e:((t :: l).length:Int)=(l.length:Int)+1:=by simp
  rw [e,Int.add_mul];exact ⟨⟨by show 0≤t.a+sumA l;omega,by show t.a+sumA l≤_;omega⟩,by show 0≤t.c+sumC l;omega⟩
theorem quo_bd {d p q:Int} (hd:0≤d) (hp:1≤p) (hq:d / p=q):0≤q∧q*p≤d∧d<(q+1)*p∧q≤d:=by
 subst hq;have h1:=Int.ediv_nonneg hd (show 0≤p by omega);have h2:=Int.mul_ediv_self_le (x:=d) (k:=p) (by omega);have h3:=Int.lt_mul_ediv_self_add (x:=d) (k:=p) (by omega);have h4:d / p≤d:=Int.ediv_le_self _ hd;rw [Int.mul_comm] at h2 h3;exact ⟨h1,h2,by rw [Int.add_mul];omega,h4⟩
theorem snoc_one {p:List Ln} {t:Ln}:lns (p++[t])=lns p++[t.1]:=by rw [lns_app];rfl
theorem sums_one (p:List Ln) (t:Ln):sumA (lns (p++[t]))=sumA (lns p)+t.1.a∧sumC (lns (p++[t]))=sumC (lns p)+t.1.c:=by
 rw [snoc_one,sumA_app,sumC_app];exact ⟨by show _+(t.1.a+0)=_;omega,by show _+(t.1.c+0)=_;omega⟩
def KtMost:Prop:=∀ (W:World) (a:Option Addr) (len cap:Nat) (ls:List Du) (x n:Int),Came W a len cap ls→(Lit.int .i64 x).wf=true→(Lit.int .i64 n).wf=true→Calls Tryz.prog 166 #[.slice a len cap,zI x,zI n] W fun e w'=>ThreePost W (MostIs ls x n) e w'
end tar
namespace acc
open tar (Du)
open Go.RowKit
def KcOwe:Prop:=∀ (W:World) (x:Ac) (p:Option Addr) (len cap:Nat) (q:Du),ACame W x p len cap→(Lit.int .i64 q.a).wf=true∧(Lit.int .i64 q.b).wf=true→Calls Tryz.prog 75 #[x.v p len cap,.agg #[zI q.a,zI q.b]] W fun e w'=>APost W (OweIs x q) e w'
open Go.ChangeShapes Go.WideShapes Go.ChangeAt Go.Deep
theorem open_deal {H:Type} {enc:TypeId × Value→H} {W:World} {r:Reach} {b0 b1:Nat} {held:Bool} {v:Value} {d:DataW H} {ps:List MemPlace}
  (hval:Value.okWide Tryz.prog W r b0 35 v) (h:DataW.Trod enc Tryz.prog W b1 (fun _=>true) held 35 v d ps) (hs:∀ n∈d.weights Tryz.prog 35,n≤reachBytes) :
  ∃ (x:Tm) (p:Option Addr) (len cap:Nat),v=x.v p len cap∧TCame W x p len cap:=by
 have hu:=Tryz.underlying35;have hc:Tryz.prog.cellsOf 35=5:=by kernel_rfl
 have ci:Tryz.prog.cellsOf 3=1:=by kernel_rfl
 have csl:Tryz.prog.cellsOf 33=1:=by kernel_rfl
 obtain ⟨cs,rfl,hsz⟩:=okWide_struct hu hval;rw [hc] at hsz
 obtain ⟨c0,c1,c2,c3,c4,rfl⟩:∃ c0 c1 c2 c3 c4,cs=#[c0,c1,c2,c3,c4]:=by
  cases cs with
  | mk l=>match l,hsz with
   | [c0,c1,c2,c3,c4],_=>exact ⟨c0,c1,c2,c3,c4,rfl⟩
 obtain ⟨fuel,hf⟩:=h;obtain ⟨xs,n,hx,hd,_,hlen,hg⟩:=DataW.trod_struct hu hf
 match xs,hlen with
 | [y0,y1,y2,y3,y4],_=>
  have g0:=hg 0 _ rfl;have g1:=hg 1 _ rfl;have g2:=hg 2 _ rfl;have g3:=hg 3 _ rfl;have g4:=hg 4 _ rfl;simp [Value.cells,ci,csl] at g0 g1 g2 g3 g4;obtain ⟨x1,e1,-,w1⟩:=DataW.trod_int Tryz.underlying3 g1;obtain ⟨x2,e2,-,w2⟩:=DataW.trod_int Tryz.underlying3 g2;obtain ⟨x3,e3,-,w3⟩:=DataW.trod_int Tryz.underlying3 g3;obtain ⟨x4,e4,-,w4⟩:=DataW.trod_int Tryz.underlying3 g4;simp at e1 e2 e3 e4;subst e1 e2 e3 e4;rcases Deep.open_slice_pairs Tryz.underlying33 Tryz.underlying196 (by kernel_rfl) rfl rfl (by kernel_rfl) (by kernel_rfl) g0 with ⟨hcs,_⟩ | ⟨x,l,c,mm,fu,V0,V1,D0,D1,P0,P1,hcs,_,hl,hm,hmm,hy,hall⟩
  ·simp at hcs;subst hcs;exact ⟨⟨[],x1,x2,x3,x4⟩,none,0,0,rfl,⟨tar.RowD.nil _ _,(fun _=>rfl),Nat.le_refl _,by omega,(fun x hx=>by cases hx)⟩,⟨w1,w2,w3,w4⟩⟩
  ·simp at hcs;subst hcs;simp only [if_true] at hmm;subst hmm
   have hr:=tar.rowD_of (len:=l) (w:=W) (a:=x) (m:=mm) (by omega) (fun j hj=>by
    obtain ⟨k0,k1,t0,t1⟩:=hall j hj;obtain ⟨z0,hv0,_,hw0⟩:=DataW.trod_int Tryz.underlying3 t0;obtain ⟨z1,hv1,_,hw1⟩:=DataW.trod_int Tryz.underlying3 t1;simp only [List.cons.injEq,and_true] at hv0 hv1;rw [hv0] at k0;rw [hv1] at k1
    exact ⟨z0,z1,k0,k1,hw0,hw1⟩)
   obtain ⟨zs,r1,r2⟩:=hr;subst hy;obtain ⟨hd1,_⟩:=Prod.mk.inj hd;subst hd1;have h1:=hs ((l+(mm - l))*Tryz.prog.bytesOf 196) (by simp [DataW.weights,hu,DataW.weightsEach,Tryz.underlying33]);rw [show Tryz.prog.bytesOf 196=16 from by kernel_rfl] at h1;simp only [reachBytes] at h1;exact ⟨⟨zs,x1,x2,x3,x4⟩,some x,l,mm,rfl,⟨r1,(fun h=>by cases h),hl,by omega,r2⟩,⟨w1,w2,w3,w4⟩⟩
end acc
end Go.Proofs.YtnpblpbohcegoaaGreatDoor
