import Derived.Test.YtoepgdhiepedeaaGreatDoorVVRys16
set_option linter.unusedVariables false
set_option linter.unusedSimpArgs false
set_option maxHeartbeats 4000000
set_option maxRecDepth 100000
namespace Go.Proofs.YtoepgdhiepedeaaGreatDoor
namespace book
open Go.RowKit
def cellsE:List Ev→List Value
 |[]=>[]
 |x::l=>x.cl++cellsE l
theorem cellsE_len(l:List Ev):(cellsE l).length=l.length*13:=by
 induction l with
 |nil=>rfl
 |cons e l ih=>rw[cellsE,List.length_append,ih,List.length_cons];show 13+_=_;omega
theorem oneE(l:List Ev):∀u∈cellsE l,u.oneCell'=true:=by
 induction l with
 |nil=>intro u a;cases a
 |cons e l ih=>
  intro u a;rw[cellsE] at a;rcases List.mem_append.1 a with a|a
  ·simp only[Ev.cl,List.mem_cons,List.not_mem_nil,or_false] at a;rcases a with rfl|rfl|rfl|rfl|rfl|rfl|rfl|rfl|rfl|rfl|rfl|rfl|rfl<;>rfl
  ·exact ih u a
theorem cellsE_at(l:List Ev)(k j:Nat)(hk:k<l.length)(hj:j<13):(cellsE l)[k*13+j]?=(l.getD k ev0).cl[j]?:=by
 induction l generalizing k with
 |nil=>simp at hk
 |cons x l ih=>
  have a:x.cl.length=13:=rfl;cases k with
  |zero=>rw[Nat.zero_mul,Nat.zero_add,cellsE,List.getElem?_append_left (by omega)];rfl
  |succ k=>
   rw[show (k+1)*13+j=x.cl.length+(k*13+j) by omega,cellsE,List.getElem?_append_right (by omega),Nat.add_sub_cancel_left];exact ih k (by simpa using hk)
structure ECame (w:World) (a:Option Addr) (n cap:Nat) (l:List Ev):Prop where
 row:RowE w a n l
 nil:a=none→cap=0
 room:n≤cap
 bytes:n*104≤140737488351232
 wf:∀v∈l,wf13 v
theorem evI:(Tryz.prog.info? 44).map (λi=>(i.zero,i.size,i.bytes))=some (some (.agg ev0.cl.toArray),13,104):=by kernel_rfl
end book
section
open Go.RowKit
theorem run_eqOp{P:Program}{o:Oper}{a:Act}{w:World}(ty rt:TypeId)(x y:Operand)(ho:o.op=.binOp .eql ty x y rt)(ca cb:Array Value)(hx:a.eval x=.agg ca)(hy:a.eval y=.agg cb)(hg:P.eqGuardType P.depth ty=false)(b:Bool)
  (hr:(Op.equalIn 10000 ty (.agg ca) (.agg cb)).run P w=.ok b w):(execOp a.eval o).run P w=.ok (.value (.bool b)) w:=by
 have c:(Op.equal ty (.agg ca) (.agg cb)).run P w=.ok b w:=hr;unfold execOp;simp only[ho,hx,hy];have d:∀w':World,(program:Sem Program).run P w'=.ok P w':=λ_=>rfl;simp[eqGuard,hg,binOp,c,d,Sem.run_bind]
theorem wp_eqE{P:Program}{ops:Array Oper}{rest:List Oper}{o:Oper}{a:Act}{w:World}{Q:Exit→Act→World→Prop}(hw:Region.wanted o (yielded ops a.tmps)=true)(ty rt:TypeId)(x y:Operand)(ho:o.op=.binOp .eql ty x y rt)(ca cb:Array Value)(hx:a.eval x=.agg ca)(hy:a.eval y=.agg cb)(hg:P.eqGuardType P.depth ty=false)(b:Bool)
  (hr:(Op.equalIn 10000 ty (.agg ca) (.agg cb)).run P w=.ok b w) (d:Nat) (hd:o.dst=some d) (h:wpList P ops Q rest (a.put (some d) (.bool b)) w):wpList P ops Q (o::rest) a w:=
 wpList_step λK c=>by
  rw[if_pos hw];exact wp_runOp d hd (run_eqOp ty rt x y ho ca cb hx hy hg b hr) (c _ _ h)
end
namespace vnd
open book (Ev ev0 Cm cm0 So so0 Sees)
open acc (Ac Tm Bi)
open ora (Pr)
open cell (Wr RowU RowW)
open rcp (Rc rc0)
open Go.RowKit
def TokGot(w:World)(R:List Wr→List Pr→Rc→Int→Prop)(e:Ending)(w':World):Prop:=∃p m cp ls p5 n5 c5 o' r f,e=.returned (.tuple #[.slice p m cp,.agg #[.slice p5 n5 c5],rcp.Rc.v r,zI f])∧R ls o' r f∧RowW w' p m ls∧(∀x,p=some x→w.heap.size≤x.block)∧m≤cp∧m≤100000∧ora.RowP w' p5 n5 o'∧(p5=none→c5=0)∧n5≤c5∧(∀y,p5=some y→w.heap.size≤y.block)∧zB w w'
theorem blk_new4(w:World)(o p q r:Obj)(cs:Array Value)(t:TypeId):Blk (((((w.alloc o).alloc p).alloc q).alloc r).alloc (.cells cs t)) (w.heap.size+1+1+1+1) cs t:=by
 have h:=Blk.new ((((w.alloc o).alloc p).alloc q).alloc r) cs t
 rwa [show ((((w.alloc o).alloc p).alloc q).alloc r).heap.size=w.heap.size+1+1+1+1 by simp] at h
open disk (RepIs AppIs)
open book (EMay evL evOf EncIs DecIs BookIs ECame FirstAt NoneAt)
open acc (TCame ACame)
theorem rowP_off{w W:World}{g:Nat}{v':Array Value}{T':TypeId}{p:Option Addr}{n:Nat}{l:List ora.Pr}(h:ora.RowP w p n l)(hg:∀y,p=some y→y.block≠g)(hU:Upd w W g v' T'):ora.RowP W p n l:=by
 refine⟨h.1,?_⟩;rcases h.2 with e|⟨b,c,rfl,f⟩
 ·exact .inl e
 ·refine .inr ⟨b,c,rfl,λi j=>?_⟩;have a:b≠g:=hg _ rfl;have d:=f i j;unfold ora.PrAt at d ⊢;have k:∀o,W.cell? ⟨b,o,none⟩=w.cell? ⟨b,o,none⟩:=λo=>hU.cell ⟨b,o,none⟩ a rfl;simpa only[k] using d
end vnd
namespace token
open words
open Go.RowKit
structure WN (a b c V:Nat):Prop where
 a1:a<2^32
 b1:b<2^32
 c1:c<2^32
 val:bigV a b c=V
theorem wn_zero:WN 0 0 0 0:=⟨by decide,by decide,by decide,rfl⟩
def loP:Nat→Nat
 |0=>57
 |1=>37
 |2=>16
 |_=>0
def nP:Nat→Nat
 |0=>3
 |1=>20
 |2=>21
 |_=>16
def vP(k:Tok):Nat→Nat
 |0=>k.c
 |1=>k.i
 |2=>k.a
 |_=>k.t
def pP(k:Tok):Nat→Nat
 |0=>0
 |1=>k.c*144115188075855872
 |2=>k.c*144115188075855872+k.i*137438953472
 |3=>k.c*144115188075855872+k.i*137438953472+k.a*65536
 |_=>k.num
theorem step_P{k:Tok}(h:k.ok)(j:Nat)(hj:j<4):vP k j<2^nP j∧1≤nP j∧nP j≤64∧loP j+nP j≤96∧pP k j/2^loP j%2^nP j=0∧pP k (j+1)=pP k j+vP k j*2^loP j∧vP k j<9223372036854775808:=by
 have:=h.c3;have:=h.i2;have:=h.t2;have:=h.a2
 match j,hj with
 |0,_=>exact⟨by show k.c<8;omega,by decide,by decide,by decide,by show 0/_%_=0;simp,by show k.c*144115188075855872=0+k.c*144115188075855872;omega,by show k.c<_;omega⟩
 |1,_=>exact⟨by show k.i<1048576;omega,by decide,by decide,by decide,by show k.c*144115188075855872/137438953472%1048576=0;omega,by show k.c*144115188075855872+k.i*137438953472=k.c*144115188075855872+k.i*137438953472;rfl,by show k.i<_;omega⟩
 |2,_=>exact⟨by show k.a<2097152;omega,by decide,by decide,by decide,by show (k.c*144115188075855872+k.i*137438953472)/65536%2097152=0;omega,by show k.c*144115188075855872+k.i*137438953472+k.a*65536=k.c*144115188075855872+k.i*137438953472+k.a*65536;rfl,by show k.a<_;omega⟩
 |3,_=>exact⟨by show k.t<65536;omega,by decide,by decide,by decide,by show (k.c*144115188075855872+k.i*137438953472+k.a*65536)/1%65536=0;omega,by show k.num=k.c*144115188075855872+k.i*137438953472+k.a*65536+k.t*1;unfold Tok.num;omega,by show k.t<_;omega⟩
theorem wrap_u(v:Nat)(h:v<9223372036854775808):IntKind.u64.wrap (v:Int)=(v:Int):=by rw[IntKind.wrap_u64];omega
theorem idxP(j:Nat)(hj:j<4)(w:World):
  (Instr.index 247 (.agg #[zI 57,zI 3,zI 37,zI 20,zI 16,zI 21,zI 0,zI 16]) (zI (j:Int))).run Tryz.prog w=.ok (.agg #[zI (loP j:Int),zI (nP j:Int)]) w:=by
 rcases (by omega:j=0∨j=1∨j=2∨j=3) with rfl|rfl|rfl|rfl
 ·kernel_rfl
 ·kernel_rfl
 ·kernel_rfl
 ·kernel_rfl
theorem bits_wn(a b c lo n V:Nat)(w:World)(h:WN a b c V)(n0:1≤n)(n1:n≤64)(hl:lo+n≤96):
  Calls Tryz.prog 112 #[.agg #[.int .u32 (a:Int),.int .u32 (b:Int),.int .u32 (c:Int)],zI (lo:Int),zI (n:Int)] w λe w'=>e=.returned (.tuple #[.int .u64 (V/2^lo%2^n:Nat),zI 0])∧zB w w':=by
 have:=bits_any a b c lo n w h.a1 h.b1 h.c1 n0 n1 hl
 rwa [bits_num h.a1 h.b1 h.c1 n1,h.val] at this
theorem wrap_i(v:Nat)(h:v<9223372036854775808):IntKind.i64.wrap (v:Int)=(v:Int):=by rw[IntKind.wrap_i64];omega
end token
namespace words
open Go.RowKit
theorem run_putStep(args:Array Value)(w:World):(callFunc 184 args).run Tryz.prog w=.ok (.enter 184 args) w:=by kernel_rfl
theorem low32(s:Nat):((s:Nat):Int)%4294967296=((s%2^32:Nat):Int):=by omega
theorem putStep_abs(N At V:Nat)(x v n k M s r f g z y:Int)(w:World)(hn:w.cell? ⟨N,0,none⟩=some (zI n))(hat:w.cell? ⟨At,0,none⟩=some (zI k))(hf:w.frozen? ⟨At,0,none⟩=false)(hv:w.cell? ⟨V,0,none⟩=some (.int .u64 v))
  (HO:Hid (∀w,zC 159 #[zI n] w λe w'=>e=.returned (.int .u64 M)∧w'=w))
  (HS:Hid (∀w,zC 158 #[.int .u64 M,zI k] w λe w'=>e=.returned (.int .u64 s)∧w'=w))
  (HT:Hid (∀w,zC 158 #[.int .u64 v,zI k] w λe w'=>e=.returned (.int .u64 r)∧w'=w))
  (q1:s%4294967296=f) (q2:r%4294967296=g) (o1:bits .andNot .u32 x f=z) (o2:bits .or .u32 z g=y) (k0:-64≤k) (k1:k≤96):
  Calls Tryz.prog 184 #[.int .u32 x,.pointer (some ⟨N,0,none⟩),.pointer (some ⟨At,0,none⟩),.pointer (some ⟨V,0,none⟩)] w λe w'=>e=.returned (.int .u32 y)∧Acc w w' At (zI (k-32)):=by
 have a:Acc w w At (zI k):=Acc.refl hat hf;have b:Hid (Acc w w At (zI k)):=a;clear a;go_enter Tryz.func184,Tryz.ntmps184;go_wp2_with fail
 go_quiet (first
  |(go_at_call 159;exact(HO.o _).mono λ_ _ h=>⟨h.1,_,h.2⟩)
  |(go_at_call_of 158 (Value.int .u64 M);exact(HS.o _).mono λ_ _ h=>⟨h.1,_,h.2⟩)
  | (go_at_call_of 158 (Value.int .u64 v);exact (HT.o _).mono fun _ _ h=>⟨h.1,_,h.2⟩))
 go_wp2_with fail;go_ret;exact⟨rfl,(b.o.drewN _).set _⟩
theorem putStep_any(N At V:Nat)(x v n:Nat)(k:Int)(w:World)(hn:w.cell? ⟨N,0,none⟩=some (zI (n:Int)))(hat:w.cell? ⟨At,0,none⟩=some (zI k))(hf:w.frozen? ⟨At,0,none⟩=false)(hv:w.cell? ⟨V,0,none⟩=some (.int .u64 (v:Int)))
  (x1:x<2^32) (v1:v<2^64) (n0:1≤n) (n1:n≤64) (k0:-64≤k) (k1:k≤96):
  Calls Tryz.prog 184 #[.int .u32 (x:Int),.pointer (some ⟨N,0,none⟩),.pointer (some ⟨At,0,none⟩),.pointer (some ⟨V,0,none⟩)] w λe w'=>e=.returned (.int .u32 (putN x v n k:Nat))∧Acc w w' At (zI (k-32)):=by
 have a:sh (onesN n) k%2^32<2^32:=Nat.mod_lt _ (by decide);have b:sh v k%2^32<2^32:=Nat.mod_lt _ (by decide);have c:x &&& (2^32-1-sh (onesN n) k%2^32)<2^32:=Nat.lt_of_le_of_lt Nat.and_le_left x1
 exact putStep_abs N At V x v n k (onesN n:Nat) (sh (onesN n) k:Nat) (sh v k:Nat) _ _ _ _ w hn hat hf hv
  (λw=>ones_any n w n0 n1) (λw=>shift_any _ _ w (ones_lt n n1) (by omega) k1) (λw=>shift_any _ _ w v1 (by omega) k1)
  (low32 _) (low32 _) (andNot32 x _ x1 a) (or32 _ _ c b) k0 k1
theorem five(w:World)(cs:Array Value)(T1 T2 T3 T5:TypeId)(m v x y z u:Value)(q:Nat):
  (((((((w.alloc (.cells cs T1)).alloc (.cells #[m] T2)).alloc (.cells #[v] T3)).alloc (.cells #[x,y,z] 135)).drewN q).alloc (.cells #[u] T5)).cell? ⟨w.heap.size+1,0,none⟩=some m) ∧
  (((((((w.alloc (.cells cs T1)).alloc (.cells #[m] T2)).alloc (.cells #[v] T3)).alloc (.cells #[x,y,z] 135)).drewN q).alloc (.cells #[u] T5)).cell? ⟨w.heap.size+1+1,0,none⟩=some v) ∧
  Trio ((((((w.alloc (.cells cs T1)).alloc (.cells #[m] T2)).alloc (.cells #[v] T3)).alloc (.cells #[x,y,z] 135)).drewN q).alloc (.cells #[u] T5)) (w.heap.size+1+1+1) x y z ∧
  (((((((w.alloc (.cells cs T1)).alloc (.cells #[m] T2)).alloc (.cells #[v] T3)).alloc (.cells #[x,y,z] 135)).drewN q).alloc (.cells #[u] T5)).cell? ⟨w.heap.size+1+1+1+1,0,none⟩=some u) ∧
  (((((((w.alloc (.cells cs T1)).alloc (.cells #[m] T2)).alloc (.cells #[v] T3)).alloc (.cells #[x,y,z] 135)).drewN q).alloc (.cells #[u] T5)).frozen? ⟨w.heap.size+1+1+1+1,0,none⟩=false):=by
 have a:((((((w.alloc (.cells cs T1)).alloc (.cells #[m] T2)).alloc (.cells #[v] T3)).alloc (.cells #[x,y,z] 135)).drewN q).alloc (.cells #[u] T5)).heap=((((w.heap.push (.cells cs T1)).push (.cells #[m] T2)).push (.cells #[v] T3)).push (.cells #[x,y,z] 135)).push (.cells #[u] T5):=rfl;have f:w.heap.size+1=(w.heap.push (.cells cs T1)).size:=by simp
 have g:w.heap.size+1+1=((w.heap.push (.cells cs T1)).push (.cells #[m] T2)).size:=by simp
 have h:w.heap.size+1+1+1=(((w.heap.push (.cells cs T1)).push (.cells #[m] T2)).push (.cells #[v] T3)).size:=by simp
 have i:w.heap.size+1+1+1+1=((((w.heap.push (.cells cs T1)).push (.cells #[m] T2)).push (.cells #[v] T3)).push (.cells #[x,y,z] 135)).size:=by simp
 generalize ((((((w.alloc (.cells cs T1)).alloc (.cells #[m] T2)).alloc (.cells #[v] T3)).alloc (.cells #[x,y,z] 135)).drewN q).alloc (.cells #[u] T5))=W at *
 have c:W.heap[w.heap.size+1]?=some (.cells #[m] T2):=by
  rw[a,Array.getElem?_push,if_neg (by simp),Array.getElem?_push,if_neg (by simp),Array.getElem?_push,if_neg (by simp),f,Array.getElem?_push_size]
 have d:W.heap[w.heap.size+1+1]?=some (.cells #[v] T3):=by
  rw[a,Array.getElem?_push,if_neg (by simp),Array.getElem?_push,if_neg (by simp),g,Array.getElem?_push_size]
 have e:W.heap[w.heap.size+1+1+1]?=some (.cells #[x,y,z] 135):=by
  rw[a,Array.getElem?_push,if_neg (by simp),h,Array.getElem?_push_size]
 have b:W.heap[w.heap.size+1+1+1+1]?=some (.cells #[u] T5):=by
  rw[a,i,Array.getElem?_push_size]
 refine⟨?_,?_,e,?_,?_⟩
 ·simp only[World.cell?,c];rfl
 ·simp only[World.cell?,d];rfl
 ·simp only[World.cell?,b];rfl
 ·simp only[World.frozen?,b];rfl
theorem bel5(w:World)(o1 o2 o3 o4 o5:Obj)(q:Nat):zB w (((((w.alloc o1).alloc o2).alloc o3).alloc o4).drewN q |>.alloc o5):=
 (below_drewN (bel4 w o1 o2 o3 o4) q).alloc (by show _≤((((w.heap.push o1).push o2).push o3).push o4).size;simp;omega) _
theorem put_any(a b c v lo n:Nat)(w:World)(ha:a<2^32)(hb:b<2^32)(hc:c<2^32)(hv:v<2^n)(n0:1≤n)(n1:n≤64)(hl:lo+n≤96):
  Calls Tryz.prog 160 #[.agg #[.int .u32 (a:Int),.int .u32 (b:Int),.int .u32 (c:Int)],zI (lo:Int),zI (n:Int),.int .u64 (v:Int)] w λe w'=>
   e=.returned (.tuple #[.agg #[.int .u32 (putN a v n lo:Nat),.int .u32 (putN b v n ((lo:Int)-32):Nat),.int .u32 (putN c v n ((lo:Int)-64):Nat)],zI 0])∧zB w w':=by
 have q:v<2^64:=Nat.lt_of_lt_of_le hv (Nat.pow_le_pow_right (by decide) n1);have z:Hid (∀w,zC 157 #[zI (lo:Int),zI (n:Int)] w λe w'=>e=.returned (.bool true)∧w'=w):=λw=>isField_yes _ _ w (by omega) (by omega) (by omega) (by omega);have A:Hid (∀w,zC 159 #[zI (n:Int)] w λe w'=>e=.returned (.int .u64 (onesN n:Nat))∧w'=w):=λw=>ones_any n w n0 n1;have F:decide (((onesN n:Nat):Int)<(v:Int))=false:=decide_eq_false (by unfold onesN;omega);have m:(lo:Int)-32-32=(lo:Int)-64:=by omega
 generalize ((onesN n:Nat):Int)=M at *;rw[← m];go_enter Tryz.func160,Tryz.ntmps160;go_wp2_with fail
 go_quiet (first
  |(go_at_call 157;exact(z.o _).mono λ_ _ h=>⟨h.1,_,h.2⟩)
  | (go_at_call 159;exact (A.o _).mono fun _ _ h=>⟨h.1,_,h.2⟩))
 go_wp2_with fail;obtain⟨i,j,r,s,t⟩:=five w #[.int .u32 (a:Int),.int .u32 (b:Int),.int .u32 (c:Int)] 135 3 174 3 (zI (n:Int)) (.int .u64 (v:Int)) (.int .u32 0) (.int .u32 0) (.int .u32 0) (zI (lo:Int)) nq;have g:=bel5 w (.cells #[.int .u32 (a:Int),.int .u32 (b:Int),.int .u32 (c:Int)] 135) (.cells #[zI (n:Int)] 3) (.cells #[.int .u64 (v:Int)] 174) (.cells #[.int .u32 0,.int .u32 0,.int .u32 0] 135) (.cells #[zI (lo:Int)] 3) nq
 refine (upward_any 184 #[.pointer (some ⟨w.heap.size+1,0,none⟩),.pointer (some ⟨w.heap.size+1+1+1+1,0,none⟩),.pointer (some ⟨w.heap.size+1+1,0,none⟩)] (w.heap.size+1+1+1+1) (zI (lo:Int)) (zI ((lo:Int) - 32)) (zI ((lo:Int) - 32 - 32)) (zI ((lo:Int) - 32 - 32 - 32)) a b c
  (putN a v n lo:Nat) (putN b v n ((lo:Int)-32):Nat) (putN c v n ((lo:Int)-32-32):Nat) _ (Acc.refl s t) run_putStep
  (λw' h=>putStep_any _ _ _ _ _ _ _ w' (h.keep i (by omega)) h.cell h.free (h.keep j (by omega)) ha q n0 n1 (by omega) (by omega))
  (λw' h=>putStep_any _ _ _ _ _ _ _ w' (h.keep i (by omega)) h.cell h.free (h.keep j (by omega)) hb q n0 n1 (by omega) (by omega))
  (fun w' h=>putStep_any _ _ _ _ _ _ _ w' (h.keep i (by omega)) h.cell h.free (h.keep j (by omega)) hc q n0 n1 (by omega) (by omega))).mono ?_
 rintro e x ⟨u,p⟩;have d:=r.acc p (by omega);have y:Hid (zB w x):=p.below g (by omega);clear p i j r s t g;have f:Hid (e=.returned (.agg #[.int .u32 (putN a v n lo:Nat),.int .u32 (putN b v n ((lo:Int)-32):Nat),.int .u32 (putN c v n ((lo:Int)-32-32):Nat)])):=u;clear u;obtain⟨y0,h0⟩:∃y0:Int,y0=(putN a v n lo:Nat):=⟨_,rfl⟩
 obtain⟨y1,h1⟩:∃y1:Int,y1=(putN b v n ((lo:Int)-32):Nat):=⟨_,rfl⟩
 obtain⟨y2,h2⟩:∃y2:Int,y2=(putN c v n ((lo:Int)-32-32):Nat):=⟨_,rfl⟩
 have k:Hid (y0=(putN a v n lo:Nat)∧y1=(putN b v n ((lo:Int)-32):Nat)∧y2=(putN c v n ((lo:Int)-32-32):Nat)):=⟨h0,h1,h2⟩
 rw[← h0,← h1,← h2] at f;obtain rfl:=f.o;clear h0 h1 h2;have G:=d.c0;have H:=d.c1;have I:=d.c2;have C:=d.free 0;have D:=d.free 1;have E:=d.free 2;have B:Hid (Trio x (w.heap.size+1+1+1) (.int .u32 0) (.int .u32 0) (.int .u32 0)):=d;clear d;go_wp2_with fail;have l:=B.o.put (.int .u32 y0) (.int .u32 y1) (.int .u32 y2);refine bodyPost_ret (v:=.tuple #[.agg #[.int .u32 y0,.int .u32 y1,.int .u32 y2],zI 0]) (by simp[results,Tryz.results160,l.c0,l.c1,l.c2,go_sem]) rfl ⟨?_,?_⟩
 ·rw[k.o.1,k.o.2.1,k.o.2.2]
 ·exact below_put3 y.o _ _ _ _ (by omega)
end words
namespace token
open Go.RowKit
structure Rdy (w W:World) (c i a t:Int):Prop where
 below:zB w W
 b0:W.cell? ⟨w.heap.size,0,none⟩=some (zI c)
 b1:W.cell? ⟨w.heap.size,1,none⟩=some (zI i)
 b2:W.cell? ⟨w.heap.size,2,none⟩=some (zI a)
 b3:W.cell? ⟨w.heap.size,3,none⟩=some (zI t)
 i0:W.cell? ⟨w.heap.size+1,0,none⟩=some (zI 1)
 i1:W.cell? ⟨w.heap.size+1,1,none⟩=some (zI 1048575)
 t0:W.cell? ⟨w.heap.size+1+1,0,none⟩=some (zI 0)
 t1:W.cell? ⟨w.heap.size+1+1,1,none⟩=some (zI 65535)
theorem rdy_of(w:World)(c i a t:Int):Rdy w (((w.alloc (.cells #[zI c,zI i,zI a,zI t] 73)).alloc (.cells #[zI 1,zI 1048575] 238)).alloc (.cells #[zI 0,zI 65535] 238)) c i a t:=by
 have b:=((Blk.new w #[zI c,zI i,zI a,zI t] 73).alloc (.cells #[zI 1,zI 1048575] 238)).alloc (.cells #[zI 0,zI 65535] 238);have d:=(Blk.new1 w (.cells #[zI c,zI i,zI a,zI t] 73) #[zI 1,zI 1048575] 238).alloc (.cells #[zI 0,zI 65535] 238);have e:=Blk.new2 w (.cells #[zI c,zI i,zI a,zI t] 73) (.cells #[zI 1,zI 1048575] 238) #[zI 0,zI 65535] 238;exact⟨(((zb.alloc zc _).alloc (by simp) _).alloc (by simp;omega) _),b.cell 0,b.cell 1,b.cell 2,b.cell 3,d.cell 0,d.cell 1,e.cell 0,e.cell 1⟩
theorem flaw_class(c i a t:Int)(w:World)(h:c<0∨3<c):
  Calls Tryz.prog 111 #[.agg #[zI c,zI i,zI a,zI t]] w λe w'=>e=.returned (zI 9)∧zB w w':=by
 have b:zB w (w.alloc (.cells #[zI c,zI i,zI a,zI t] 73)):=zb.alloc zc _;by_cases d:c<0
 ·clear h;go_enter Tryz.func111,Tryz.ntmps111;go_wp2;go_ret;exact⟨rfl,b⟩
 ·have f:0≤c:=by omega
  have g:4≤c:=by omega
  clear h;go_enter Tryz.func111,Tryz.ntmps111;go_wp2;go_ret;exact⟨rfl,b⟩
theorem flaw_in(c:Nat)(lo hi i a t:Int)(w:World)(hc:c<4)(g0:w.cell? ⟨0,c*2,none⟩=some (zI lo))(g1:w.cell? ⟨0,c*2+1,none⟩=some (zI hi)):
  Calls Tryz.prog 111 #[.agg #[zI (c:Int),zI i,zI a,zI t]] w λe w'=>e=.returned (zI (if hasI 1 1048575 i&&(hasI lo hi a&&hasI 0 65535 t) then 0 else 2))∧zB w w':=by
 have d:Hid (Rdy w (((w.alloc (.cells #[zI (c:Int),zI i,zI a,zI t] 73)).alloc (.cells #[zI 1,zI 1048575] 238)).alloc (.cells #[zI 0,zI 65535] 238)) c i a t):=rdy_of w c i a t;have g:=d.o.below.cell (World.block_lt_of_cell? w _ g0);rw[g0] at g;have h:=d.o.below.cell (World.block_lt_of_cell? w _ g1);rw[g1] at h;have n:Hid (∀W,zC 156 #[.agg #[zI 1,zI 1048575],zI i] W λe w'=>e=.returned (.bool (hasI 1 1048575 i))∧zB W w'):=λW=>has_any _ _ _ W;have p:Hid (∀W,zC 156 #[.agg #[zI lo,zI hi],zI a] W λe w'=>e=.returned (.bool (hasI lo hi a))∧zB W w'):=λW=>has_any _ _ _ W;have D:Hid (∀W,zC 156 #[.agg #[zI 0,zI 65535],zI t] W λe w'=>e=.returned (.bool (hasI 0 65535 t))∧zB W w'):=λW=>has_any _ _ _ W;clear g0 g1;have c0:¬ (c:Int)<0:=by omega
 have c1:¬ 4≤(c:Int):=by omega
 have c2:(c:Int)<4:=by omega
 generalize hasI 1 1048575 i=F at *;generalize hasI lo hi a=E at *;generalize hasI 0 65535 t=G at *;cases F with
 |false=>
  go_enter Tryz.func111,Tryz.ntmps111;go_wp2_with fail;generalize (((w.alloc (.cells #[zI (c:Int),zI i,zI a,zI t] 73)).alloc (.cells #[zI 1,zI 1048575] 238)).alloc (.cells #[zI 0,zI 65535] 238))=W at *;have q:=cell_regrown d.o.b0;have r:=cell_regrown d.o.b1;have s:=cell_regrown d.o.b2;have u:=cell_regrown d.o.b3;have x:=cell_regrown d.o.i0;have y:=cell_regrown d.o.i1;have z:=cell_regrown d.o.t0;have A:=cell_regrown d.o.t1;have B:=cell_regrown g;have C:=cell_regrown h;have l:Hid (zB w W):=d.o.below;clear g h;refine wq_below (by kernel_rfl) (by kernel_rfl) ?_
  iterate 3 (refine wq_step (λK b=>?_);go_simp;refine b _ ?_;clear b K)
  refine wq_step (λK b=>?_);go_simp;apply Exists.intro;refine⟨λ_=>?_,b _ ?_⟩;exact Calls.regrown_of (n.o _);clear b K
  iterate 2 (refine wq_step (λK b=>?_);go_simp;refine b _ ?_;clear b K)
  iterate 8 (refine wq_skip (by kernel_rfl) ?_;simp only[Act.put,zq])
  iterate 2 (refine wq_step (λK b=>?_);go_simp;refine b _ ?_;clear b K)
  iterate 5 (refine wq_skip (by kernel_rfl) ?_;simp only[Act.put,zq])
  iterate 1 (refine wq_step (λK b=>?_);go_simp;refine b _ ?_;clear b K)
  refine wq_nil ?_;intro _ j;obtain⟨⟨m,k⟩,f⟩:=j;subst f;go_wp2_with fail;go_ret;exact⟨rfl,l.o.trans ((below_regrown W m k).mono l.o.size)⟩
 |true=>
  cases E with
  |false=>
   go_enter Tryz.func111,Tryz.ntmps111;go_wp2_with fail;generalize (((w.alloc (.cells #[zI (c:Int),zI i,zI a,zI t] 73)).alloc (.cells #[zI 1,zI 1048575] 238)).alloc (.cells #[zI 0,zI 65535] 238))=W at *;have q:=cell_regrown d.o.b0;have r:=cell_regrown d.o.b1;have s:=cell_regrown d.o.b2;have u:=cell_regrown d.o.b3;have x:=cell_regrown d.o.i0;have y:=cell_regrown d.o.i1;have z:=cell_regrown d.o.t0;have A:=cell_regrown d.o.t1;have B:=cell_regrown g;have C:=cell_regrown h;have l:Hid (zB w W):=d.o.below;clear g h;refine wq_below (by kernel_rfl) (by kernel_rfl) ?_
   iterate 3 (refine wq_step (λK b=>?_);go_simp;refine b _ ?_;clear b K)
   refine wq_step (λK b=>?_);go_simp;apply Exists.intro;refine⟨λ_=>?_,b _ ?_⟩;exact Calls.regrown_of (n.o _);clear b K
   iterate 8 (refine wq_step (λK b=>?_);go_simp;refine b _ ?_;clear b K)
   refine wq_step (λK b=>?_);go_simp;apply Exists.intro;refine⟨λ_=>?_,b _ ?_⟩;exact Calls.regrown_of (p.o _);clear b K
   iterate 3 (refine wq_step (λK b=>?_);go_simp;refine b _ ?_;clear b K)
   iterate 5 (refine wq_skip (by kernel_rfl) ?_;simp only[Act.put,zq])
   iterate 1 (refine wq_step (λK b=>?_);go_simp;refine b _ ?_;clear b K)
   refine wq_nil ?_;intro _ j;obtain⟨⟨m,k⟩,f⟩:=j;subst f;go_wp2_with fail;go_ret;exact⟨rfl,l.o.trans ((below_regrown W m k).mono l.o.size)⟩
  |true=>
   cases G with
   |false=>
    go_enter Tryz.func111,Tryz.ntmps111;go_wp2_with fail;generalize (((w.alloc (.cells #[zI (c:Int),zI i,zI a,zI t] 73)).alloc (.cells #[zI 1,zI 1048575] 238)).alloc (.cells #[zI 0,zI 65535] 238))=W at *;have q:=cell_regrown d.o.b0;have r:=cell_regrown d.o.b1;have s:=cell_regrown d.o.b2;have u:=cell_regrown d.o.b3;have x:=cell_regrown d.o.i0;have y:=cell_regrown d.o.i1;have z:=cell_regrown d.o.t0;have A:=cell_regrown d.o.t1;have B:=cell_regrown g;have C:=cell_regrown h;have l:Hid (zB w W):=d.o.below;clear g h;refine wq_below (by kernel_rfl) (by kernel_rfl) ?_
    iterate 3 (refine wq_step (λK b=>?_);go_simp;refine b _ ?_;clear b K)
    refine wq_step (λK b=>?_);go_simp;apply Exists.intro;refine⟨λ_=>?_,b _ ?_⟩;exact Calls.regrown_of (n.o _);clear b K
    iterate 8 (refine wq_step (λK b=>?_);go_simp;refine b _ ?_;clear b K)
    refine wq_step (λK b=>?_);go_simp;apply Exists.intro;refine⟨λ_=>?_,b _ ?_⟩;exact Calls.regrown_of (p.o _);clear b K
    iterate 6 (refine wq_step (λK b=>?_);go_simp;refine b _ ?_;clear b K)
    refine wq_step (λK b=>?_);go_simp;apply Exists.intro;refine⟨λ_=>?_,b _ ?_⟩;exact Calls.regrown_of (D.o _);clear b K
    iterate 2 (refine wq_step (λK b=>?_);go_simp;refine b _ ?_;clear b K)
    refine wq_nil ?_;intro _ j;obtain⟨⟨m,k⟩,f⟩:=j;subst f;go_wp2_with fail;go_ret;exact⟨rfl,l.o.trans ((below_regrown W m k).mono l.o.size)⟩
   |true=>
    go_enter Tryz.func111,Tryz.ntmps111;go_wp2_with fail;generalize (((w.alloc (.cells #[zI (c:Int),zI i,zI a,zI t] 73)).alloc (.cells #[zI 1,zI 1048575] 238)).alloc (.cells #[zI 0,zI 65535] 238))=W at *;have q:=cell_regrown d.o.b0;have r:=cell_regrown d.o.b1;have s:=cell_regrown d.o.b2;have u:=cell_regrown d.o.b3;have x:=cell_regrown d.o.i0;have y:=cell_regrown d.o.i1;have z:=cell_regrown d.o.t0;have A:=cell_regrown d.o.t1;have B:=cell_regrown g;have C:=cell_regrown h;have l:Hid (zB w W):=d.o.below;clear g h;refine wq_below (by kernel_rfl) (by kernel_rfl) ?_
    iterate 3 (refine wq_step (λK b=>?_);go_simp;refine b _ ?_;clear b K)
    refine wq_step (λK b=>?_);go_simp;apply Exists.intro;refine⟨λ_=>?_,b _ ?_⟩;exact Calls.regrown_of (n.o _);clear b K
    iterate 8 (refine wq_step (λK b=>?_);go_simp;refine b _ ?_;clear b K)
    refine wq_step (λK b=>?_);go_simp;apply Exists.intro;refine⟨λ_=>?_,b _ ?_⟩;exact Calls.regrown_of (p.o _);clear b K
    iterate 6 (refine wq_step (λK b=>?_);go_simp;refine b _ ?_;clear b K)
    refine wq_step (λK b=>?_);go_simp;apply Exists.intro;refine⟨λ_=>?_,b _ ?_⟩;exact Calls.regrown_of (D.o _);clear b K
    iterate 2 (refine wq_step (λK b=>?_);go_simp;refine b _ ?_;clear b K)
    refine wq_nil ?_;intro _ j;obtain⟨⟨m,k⟩,f⟩:=j;subst f;go_wp2_with fail;go_ret;exact⟨rfl,l.o.trans ((below_regrown W m k).mono l.o.size)⟩
theorem flaw_any(c i a t:Int)(w:World)(ht:TTab w):
  Calls Tryz.prog 111 #[.agg #[zI c,zI i,zI a,zI t]] w λe w'=>e=.returned (zI (flawT c i a t))∧zB w w':=by
 by_cases h:c<0∨3<c
 ·rw[flawT_class h];exact flaw_class c i a t w h
 ·have b:=ht.amounts.cell;rw[flawT_in h];rcases (by omega:c=0∨c=1∨c=2∨c=3) with rfl|rfl|rfl|rfl
  ·exact flaw_in 0 1 2097151 i a t w (by omega) b.1 b.2.1
  ·exact flaw_in 1 0 0 i a t w (by omega) b.2.2.1 b.2.2.2.1
  ·exact flaw_in 2 1 15 i a t w (by omega) b.2.2.2.2.1 b.2.2.2.2.2.1
  ·exact flaw_in 3 0 0 i a t w (by omega) b.2.2.2.2.2.2.1 b.2.2.2.2.2.2.2
end token
namespace acc
open tar (Du du0 Came RowD Ld PairT)
open Go.RowKit
theorem wp_copyD{P:Program}{T S:TypeId}(hP:PairT P T S){w:World}{ops:Array Oper}{rest:List Oper}{o:Oper}{a:Act}{Q:Exit→Act→World→Prop}(hgd:o.guard=none)(s x:Operand)
  (ho:o.op=.call { callee:=.builtin .append,args:=#[s,x],argTypes:=#[S,S] })
  (base:Nat) (p:Option Addr) (len cap:Nat) (zs:List Du) (hs:a.eval s=zS) (hx:a.eval x=.slice p len cap) (hc:Came w p len cap zs) (hbase:base≤w.heap.size)
  (h:∀v' w',Ld T w' base v' zs→w.grownBy w' none→wpList P ops Q rest (a.put o.dst v') w'):wpList P ops Q (o::rest) a w:=by
 cases p with
 |some A=>exact tar.wp_pairs hP hgd s x ho base A len cap zs hs hx hc.row hc.bytes hbase h
 |none=>
  have c:=hc.nil rfl;have d:len=0:=by have:=hc.room;omega
  have e:zs=[]:=List.eq_nil_of_length_eq_zero (by have:=hc.row.1;omega);subst c d e;have f:=hP.under;have b:=hP.info;cases hq:P.info? T with
  |none=>rw[hq] at b;cases b
  |some i=>
   refine wpList_append_own_none hgd s x S ho base T i 2 f hq (zS) 0 [] hs (World.ownsRow_nil _ _ _ _) hx ?_;exact h _ _ (tar.Ld.zero _ _ _) ⟨rfl,rfl,rfl,zc,λ_ _ _=>rfl⟩
theorem pwork(F:Nat)(caps:Array Value)(Is:Ac→Bi→Int→Prop)(x:Ac)(p:Option Addr)(len cap:Nat)(w:World)(hc:Came w p len cap x.ds)(h5:¬ AMay x→Is ac0 bi0 5)(hK:∀args w,(callFunc F args).run Tryz.prog w=.ok (.enter F args) w)
  (hf:AMay x→∀(W:World)(g:Nat)(p':Option Addr)(cap':Nat),zB w W→w.heap.size≤g→Blk W g (wcs x bi0 p' len cap') 132→Ld 42 W (g+1) (.slice p' len cap') x.ds→zC F (#[.pointer (some ⟨g,0,none⟩)]++caps) W λe w'=>WPost W g (Or0 Is) e w'):
  Calls Tryz.prog 32 #[.agg #[zI x.me,zI x.rv,zI x.nx,zI x.mo,zI x.bo,zI x.fr,.slice p len cap],.func (.func F) #[] caps] w λe w'=>BPost w Is e w':=by
 have ay:=zh hf;have a6:=zh hc.row.1;have H5:=zh h5;clear hf h5;obtain⟨W0,aD,ah,aj,ai,R,aP⟩:=sh3 w #[zI x.me,zI x.rv,zI x.nx,zI x.mo,zI x.bo,zI x.fr,.slice p len cap] 55 #[zI 0,zI 0,zI 0,zI 0,zI 0,zI 0,zS] 55 #[zI 0,zI 0,zI 0,zI 0,zI 0,zI 0,zI 0] 33;have T:=zh (hc.below R.o);go_enter Tryz.func32,Tryz.ntmps32;go_upto_region 1 with fail
 rw[aD.o];clear hc;have aB:=zh (pmay x p len cap W0 T.o);go_wp2_with refine zw ?_;refine aB.o.mono ?_;rintro e s ⟨r,rfl,hr,t⟩;obtain⟨C,al,V⟩:=zn3 t ah aj ai;have ak:=zh (T.o.below t);have U:=shB R t;have aJ:=t.size;clear t;cases r with
 |false=>
  have HV:Hid (Is ac0 bi0 5):=H5.o λh=>Bool.noConfusion (hr.2 h);clear hr hK;go_wp2_with (first|refine zs ?_|refine zw ?_)
  intro aQ a;obtain⟨u,X⟩:=zk2 a C V;have D:=zk a U;have E:=zyb a;have aE:=a.size;clear a;go_wp2_with (first|refine zs ?_|refine zw ?_)
  intro aM a;obtain⟨Y,I⟩:=zk2 a u E;have G:=zk a D;have H:=zyb a;have af:=a.size;clear a;go_wp2_with fail;exact zr (.tuple #[.agg #[zI 0,zI 0,zI 0,zI 0,zI 0,zI 0,zS],.agg #[zI 0,zI 0,zI 0,zI 0,zI 0,zI 0,zI 0],zI 5]) (by simp[results,Tryz.results32,scl7 I,scl7 H,go_sem]) ⟨ac0,bi0,none,0,0,_,rfl,HV.o,deb.fresh_nil _ _,G.o⟩
 |true=>
  have HM:Hid (AMay x):=hr.1 rfl;clear hr;have aC:=zh C.o;have u:=zya C (.cells #[zI x.me,zI x.rv,zI x.nx,zI x.mo,zI x.bo,zI x.fr,.slice p len cap,zI 0,zI 0,zI 0,zI 0,zI 0,zI 0,zI 0] 132);have E:=zya al (.cells #[zI x.me,zI x.rv,zI x.nx,zI x.mo,zI x.bo,zI x.fr,.slice p len cap,zI 0,zI 0,zI 0,zI 0,zI 0,zI 0,zI 0] 132);have X:=zya V (.cells #[zI x.me,zI x.rv,zI x.nx,zI x.mo,zI x.bo,zI x.fr,.slice p len cap,zI 0,zI 0,zI 0,zI 0,zI 0,zI 0,zI 0] 132);have am:Hid (Came (s.alloc (.cells #[zI x.me,zI x.rv,zI x.nx,zI x.mo,zI x.bo,zI x.fr,.slice p len cap,zI 0,zI 0,zI 0,zI 0,zI 0,zI 0,zI 0] 132)) p len cap x.ds):=ak.o.below (zb.alloc zc _);have an:=zye s #[zI x.me,zI x.rv,zI x.nx,zI x.mo,zI x.bo,zI x.fr,.slice p len cap,zI 0,zI 0,zI 0,zI 0,zI 0,zI 0,zI 0] 132;have D:=zyf U (.cells #[zI x.me,zI x.rv,zI x.nx,zI x.mo,zI x.bo,zI x.fr,.slice p len cap,zI 0,zI 0,zI 0,zI 0,zI 0,zI 0,zI 0] 132);have aH:(s.alloc (.cells #[zI x.me,zI x.rv,zI x.nx,zI x.mo,zI x.bo,zI x.fr,.slice p len cap,zI 0,zI 0,zI 0,zI 0,zI 0,zI 0,zI 0] 132)).heap.size=s.heap.size+1:=by simp
  go_upto_region 4 with(first|(refine zqw rfl rfl rfl aC zqu55 ?_)|fail)
  generalize (s.alloc (.cells #[zI x.me,zI x.rv,zI x.nx,zI x.mo,zI x.bo,zI x.fr,.slice p len cap,zI 0,zI 0,zI 0,zI 0,zI 0,zI 0,zI 0] 132))=W2 at *;have aG:=zy6 u;go_wp2_with (first|(at_builtin;refine wp_copyD deb.debtT rfl _ _ rfl (s.heap.size+1) p len cap x.ds rfl rfl am.o (by omega) ?_)|refine zw ?_)
  intro v3 w3 Q ab;have A:zB W2 w3:=zb.grown ab zc (λk hk=>by cases hk);obtain⟨p3,a8,ae,a9⟩:=deb.ld_fresh Q HM.o.1;rw[a6.o] at ae a9;subst ae;obtain⟨Y,I,H,aO⟩:=zn4 A u E X an;have G:=shB D A;have az:=zh Q;have aK:=A.size;clear Q ab A a9 aG;go_wp2_with (first|refine zm ?_|refine zw ?_)
  intro W4 a;obtain⟨ao,ar,ap⟩:=zk3 a Y I H;have Z:=zk a G;have aq:=zyb a;have aA:=zh (ld_upd az.o a (by omega));have ax:=zh (ay.o HM.o W4 s.heap.size p3 a8 Z.o (by omega) aq.o aA.o);have aI:=a.size;clear a;go_wp2_with fail;refine ax.o.mono ?_;rintro e w5 ⟨y,b,q,n,c,f,rfl,ad,ac,aa,m⟩;have a1:=zh (ao.o.below m (by omega));have au:=zh (ar.o.below m (by omega));have a2:=zh (ap.o.below m (by omega));have J:=zh ac;have a0:=zh (Z.o.trans (m.mono (by omega)));have aL:=m.size;have L:=zh aa;have B:=zh (came_lt L.o.came);have a7:=zh ad;clear ad ac aa m hK;by_cases h0:f=0
  ·subst h0
   have HV:Hid (Is y b 0):=by
    rcases a7.o with⟨h,_⟩|⟨_,h⟩
    ·exact absurd rfl h
    ·exact h
   go_wp2_with fail;refine wp_region_held_drew (S:=λv=>Blk v (s.heap.size) #[zI y.me,zI y.rv,zI y.nx,zI y.mo,zI y.bo,zI y.fr,.slice q n c,zI b.id,zI b.te,zI b.de,zI b.fe,zI b.pr,zI b.ch,zI b.un] 132) (by kernel_rfl) (Blk.drew J.o 1) (λl=>?_);refine zt' 0 (.pointer (some ⟨s.heap.size,0,none⟩)) ?_;refine zu' 1 (.agg #[zI y.me,zI y.rv,zI y.nx,zI y.mo,zI y.bo,zI y.fr,.slice q n c]) rfl rfl (Or.inl ⟨by rfl,λv j=>by have g0:=j.cell 0;have g1:=j.cell 1;have g2:=j.cell 2;have g3:=j.cell 3;have g4:=j.cell 4;have g5:=j.cell 5;have g6:=j.cell 6;clear j;go_simp⟩) ?_;refine zt' 2 (.pointer (some ⟨s.heap.size,7,none⟩)) ?_;refine zu' 3 (.agg #[zI b.id,zI b.te,zI b.de,zI b.fe,zI b.pr,zI b.ch,zI b.un]) rfl rfl (Or.inl ⟨by rfl,λv j=>by have g0:=j.cell 7;have g1:=j.cell 8;have g2:=j.cell 9;have g3:=j.cell 10;have g4:=j.cell 11;have g5:=j.cell 12;have g6:=j.cell 13;clear j;go_simp⟩) ?_;refine zo 4 λK hK=>?_;rw[if_pos (by rfl)];refine wp_letOp 55 _ _ rfl (w.heap.size+1) rfl #[zI y.me,zI y.rv,zI y.nx,zI y.mo,zI y.bo,zI y.fr,.slice q n c] rfl (by kernel_rfl) (by simp[Value.oneCell']) #[zI 0,zI 0,zI 0,zI 0,zI 0,zI 0,zS] 55 (Blk.drew au.o 1) rfl rfl ?_;intro V1 a;have N:=zh (a.keep (Blk.drew a1.o 1) (by omega));have O:=zyb a;have a4:=zh (a.keep (Blk.drew a2.o 1) (by omega));have z:=zh (a.keep (Blk.drew J.o 1) (by omega));have a3:Hid (deb.Fresh V1 (s.heap.size+1) q n c y.ds):=fresh_updN (fresh_drew L.o) a (λhn y hy=>by have f1:=L.o.new hn y hy;have f2:=B.o hn y hy;omega);have M:Hid (zB w V1):=a.bel _ _ (by omega) a0.o.drew;clear a;refine hK.o _ _ z.o (λl=>?_);clear hK K;refine zo 5 λK hK=>?_;rw[if_pos (by rfl)];refine wp_letOp 33 _ _ rfl (w.heap.size+1+1) rfl #[zI b.id,zI b.te,zI b.de,zI b.fe,zI b.pr,zI b.ch,zI b.un] rfl (by kernel_rfl) (by simp[Value.oneCell']) #[zI 0,zI 0,zI 0,zI 0,zI 0,zI 0,zI 0] 33 a4.o rfl rfl ?_
   intro V2 a;obtain⟨aw,i,a5⟩:=zk3 a N O z;have d:=zyb a;have av:Hid (deb.Fresh V2 (s.heap.size+1) q n c y.ds):=fresh_updN a3.o a (λhn y hy=>by have f1:=a3.o.new hn y hy;have f2:=B.o hn y hy;omega);have P:=zk a M;clear a;refine hK.o _ _ a5.o (λl=>?_);clear hK K;refine zt' 6 (zI 0) ?_;refine wpAnyH_done (by kernel_rfl) ?_ _;clear l;go_wp2_with fail;exact zr (.tuple #[.agg #[zI y.me,zI y.rv,zI y.nx,zI y.mo,zI y.bo,zI y.fr,.slice q n c],.agg #[zI b.id,zI b.te,zI b.de,zI b.fe,zI b.pr,zI b.ch,zI b.un],zI 0]) (by simp[results,Tryz.results32,zy0 i,zy1 i,zy2 i,zy3 i,zy4 i,zy5 i,zy6 i,zy0 d,zy1 d,zy2 d,zy3 d,zy4 d,zy5 d,zy6 d,go_sem]) ⟨y,b,q,n,c,0,rfl,HV.o,av.o.low (by omega),P.o⟩
  ·have d0:(f != 0)=true:=by simpa using h0
   have HV:Hid (Is ac0 bi0 f):=by
    rcases a7.o with⟨_,h⟩|⟨h,_⟩
    ·exact h
    ·exact absurd h h0
   clear h0;go_wp2_with (first|refine zs ?_|refine zw ?_)
   intro aR a;obtain⟨N,a4,z⟩:=zk3 a a1 a2 J;have M:=zk a a0;have O:=zyb a;have aF:=a.size;clear a;go_wp2_with (first|refine zs ?_|refine zw ?_)
   intro aN a;obtain⟨aw,i,a5⟩:=zk3 a N O z;have P:=zk a M;have d:=zyb a;have ag:=a.size;clear a;go_wp2_with fail;exact zr (.tuple #[.agg #[zI 0,zI 0,zI 0,zI 0,zI 0,zI 0,zS],.agg #[zI 0,zI 0,zI 0,zI 0,zI 0,zI 0,zI 0],zI f]) (by simp[results,Tryz.results32,scl7 i,scl7 d,go_sem]) ⟨ac0,bi0,none,0,0,_,rfl,HV.o,deb.fresh_nil _ _,P.o⟩
def KcSell:Prop:=∀(W:World)(x:Ac)(p:Option Addr)(len cap:Nat)(t:Tm)(pt:Option Addr)(lt ct:Nat)(te m:Int),ACame W x p len cap→TCame W t pt lt ct→(Lit.int .i64 te).wf=true→(Lit.int .i64 m).wf=true→zC 17 #[x.v p len cap,t.v pt lt ct,zI te,zI m] W λe w'=>BPost W (SellIs x t te m) e w'
end acc
end Go.Proofs.YtoepgdhiepedeaaGreatDoor
