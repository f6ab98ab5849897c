import Derived.Test.YtdpfnedfakgolaaGreatDoorVVRnt13
import Derived.Test.YtdpfnedfakgolaaGreatDoorVVRnt17
import Derived.Test.YtdpfnedfakgolaaGreatDoorVVRnt20
set_option linter.unusedVariables false
set_option linter.unusedSimpArgs false
set_option maxHeartbeats 4000000
set_option maxRecDepth 100000
namespace Go.Proofs.YtdpfnedfakgolaaGreatDoor
namespace disk
open Go.RowKit cell
theorem clone_any (x:Addr) (len cap:Nat) (zs:List Int) (w:World) (hr:RowU w (some x) len zs) (hl:len≤100000) :
  Calls Tryz.prog 110 #[.slice (some x) len cap] w fun e w'=>GaveU w zs e w':=by
 obtain ⟨i0,hi,hz0,hz1,hz2⟩:=info_parts info_u32;obtain ⟨hz,hr⟩:=hr;have hown:(w.alloc (.cells #[] 87)).ownsRow w.heap.size 87 1 (.slice (some ⟨w.heap.size,0,none⟩) 0 0) 0 []:=World.ownsRow_lit w #[] 0 (Nat.le_refl _) (by unfold maxLen;omega) rfl;have HO:Hid ((w.alloc (.cells #[] 87)).ownsRow w.heap.size 87 1 (.slice (some ⟨w.heap.size,0,none⟩) 0 0) 0 []):=hown;have HSZ:Hid (w.heap.size≤(w.alloc (.cells #[] 87)).heap.size):=alloc_le (Nat.le_refl _) _;clear hown;have heq:∀ W:World,(binOp BinOp.eql 31 (.slice (some x) len cap) (zS)).run Tryz.prog W = .ok (.bool false) W:=fun W=>by kernel_rfl
 go_enter Tryz.func110,Tryz.ntmps110
 go_wp2_with (first
  | (at_builtin;refine wpList_append_own _ rfl _ _ 31 rfl w.heap.size 87 i0 (.int .u32 0) 1 4 Tryz.underlying31 hi hz0 hz1 hz2 rfl (by decide) _ _ _ rfl HO.o x len cap (zs.map (.int .u32)) rfl ?c0 ?c1 ?c2 ?c3 ?c4 HSZ.o ?_)
  | go_in)
 case c0=>simp [hz]
 case c1=>
  intro j u hu;rcases hr with h | ⟨b,off,h,hc⟩
  ·rw [List.getElem?_eq_none (by simp;omega)] at hu;cases hu
  ·obtain rfl:=Option.some.inj h;by_cases hj:j<zs.length
   ·simp [List.getElem?_eq_getElem hj] at hu;subst hu;have:=hc j (by omega);rw [Addr.add_lit,World.cell?_alloc_lt w _ _ (World.block_lt_of_cell? w _ this)];simpa [List.getD,List.getElem?_eq_getElem hj] using this
   ·rw [List.getElem?_eq_none (by simp;omega)] at hu;cases hu
 case c2=>intro u hu;obtain ⟨z,_,rfl⟩:=List.mem_map.1 hu;rfl
 case c3=>unfold maxLen;omega
 case c4=>omega
 intro v' w' hown hg _;have HW:Hid (Ws w' w.heap.size v' zs):=by show w'.ownsRow _ _ _ _ _ _;rw [hz];simpa using hown
 have HG:Hid (Below w.heap.size w w'):=own_bel HO.o hg ((Below.refl _ _).alloc (Nat.le_refl _) _) (Nat.le_refl _) HSZ.o;clear hown hg;go_wp2;go_ret;exact GaveU.mk HW.o HG.o
theorem step_sli {P:Program} {T S:TypeId} (hP:SliT P T S) {w:World} {ops:Array Oper} {o:Oper} {a:Act} {K:Act→World→Prop} {Q:Exit→Act→World→Prop} {E:Prop} (hgd:o.guard=none) (s x:Operand)
  (ho:o.op = .call { callee:= .builtin .append,args:=#[s,x],argTypes:=#[S,S] })
  (base G:Nat) (v:Value) (l:List Sli) (r:Sli) (hs:a.eval s=v) (hx:a.eval x = .slice (some ⟨G,0,none⟩) 1 1) (hv:Lr T w base v l) (hu:w.cell? ⟨G,0,none⟩=some r.v) (hn:l.length≤1000000) (hbase:base≤w.heap.size)
  (h:∀ v' w',Lr T w' base v' (l++[r])→w.grownBy w' v.ownBlock→(v'.ownBlock=v.ownBlock∨v'.ownBlock=some w.heap.size)→K (a.put o.dst v') w'):if Region.wanted o (yielded ops a.tmps)=true then Oper.wp P o a w K Q else E:=by
 have hw:Region.wanted o (yielded ops a.tmps)=true:=by simp [Region.wanted,hgd]
 rw [if_pos hw];obtain ⟨i0,hi,hz0,hz1,hz2⟩:=info_parts hP.info
 obtain ⟨v',w',hr,h2,h3,_,h4⟩:=run_append_own_at (P:=P) w base S o.type T i0 (sl0.v) 1 24 hP.under hi hz0 hz1 hz2 rfl (by decide) v l.length (cellsR l) hv ⟨G,0,none⟩ 1 1 (cellsR [r]) rfl (by
  intro j u hj
  match j,hj with
  | 0,hj=>simp [cellsR] at hj;subst hj;simpa [Addr.add] using hu
  | j+1,hj=>simp [cellsR] at hj) (oneR [r]) (by unfold maxLen;omega) (by omega) hbase
 unfold Oper.wp execOp;simp only [ho,resolve,invoke,builtin,Sem.run_bind,Sem.run_pure,Result.andThen_ok,List.map_toArray,List.map_cons,List.map_nil,hs,hx,hr];refine h v' w' ?_ h3 h4;unfold Lr;rw [List.length_append];unfold cellsR at *;rw [List.map_append];exact h2
theorem wp_letOne {P:Program} {o:Oper} {a:Act} {w:World} {K:Act→World→Prop} {Q:Exit→Act→World→Prop} (ty:TypeId) (x y:Operand) (ho:o.op = .store ty x y)
  (g:Nat) (hx:a.eval x = .pointer (some ⟨g,0,none⟩)) (v:Value) (hy:a.eval y=v) (hv:v.cells=#[v]) (hi:(P.info? ty).map (·.size)=some 1) (h1:v.oneCell'=true)
  (u:Value) (t:TypeId) (hB:Blk w g #[u] t) (hd:o.dst=none)
  (h:∀ W,Upd w W g #[v] t→K a W):o.wp P a w K Q:=by
 have hs:=run_storeVar_let (P:=P) (w:=w) (g:=g) (off:=0) (ty:=ty) (t:=t) (v:=v) (cells:=#[v]) (cs:=#[u]) hv (by simpa using hi) (by simpa using h1) hB (by simp);have hu:=upd_cells g t [v] 0 w #[u] hB;unfold Oper.wp execOp;simp only [ho,hx,hy,Instr.storeAt,Instr.sureAddr,Sem.run_bind,Sem.run_pure,Result.andThen_ok,hs];have:=h _ hu;have e:a.put o.dst undef=a:=by rw [hd];rfl
 rw [← e] at this;exact this
structure Box (w:World) (L:Nat) (V:Value) (sl:List Sli) (zs:List (List Int)) (W:World):Prop where
 blk:Blk W L #[V] 173
 row:Lr 31 W (L+1) V sl
 recs:Recs W V.ownBlock sl zs
 new:∀ i,i<sl.length→((sl.getD i sl0).n≤100000∧(sl.getD i sl0).n≤(sl.getD i sl0).c∧((sl.getD i sl0).a=none→(sl.getD i sl0).c=0))∧∀ x,(sl.getD i sl0).a=some x→L+1≤x.block
 bel:Below L w W
theorem Box.next {w:World} {L:Nat} {V:Value} {sl:List Sli} {zs:List (List Int)} {W W':World} (h:Box w L V sl zs W) (hb:Below W.heap.size W W'):Box w L V sl zs W':=
 ⟨h.blk.next hb,h.row.next hb,h.recs.below hb,h.new,h.bel.trans (hb.mono (Nat.le_of_lt h.blk.lt))⟩
theorem Box.far {w:World} {L:Nat} {V:Value} {sl:List Sli} {zs:List (List Int)} {W:World} (h:Box w L V sl zs W):some L≠V.ownBlock:=own_far h.row (Nat.lt_succ_self _)
theorem Box.kept {w:World} {L:Nat} {V:Value} {sl:List Sli} {zs:List (List Int)} {W W':World} (h:Box w L V sl zs W) (hg:W.grownBy W' V.ownBlock):Blk W' L #[V] 173:=by
 have h1:W.heap[L]?=_:=h.blk;show W'.heap[L]?=_;rw [hg.block L h.blk.lt h.far];exact h1
theorem lr_upd {T t:TypeId} {w W:World} {L:Nat} {cs:Array Value} {v:Value} {l:List Sli} (h:Lr T w (L+1) v l) (hU:Upd w W L cs t):Lr T W (L+1) v l:=by
 refine ⟨h.1,?_⟩;rcases h.2 with hn | ⟨g,cap,cur,hv,hg,hc,rest⟩
 ·exact .inl hn
 ·exact .inr ⟨g,cap,cur,hv,hg,hU.keep hc (by omega),rest⟩
theorem snoc_at (sl:List Sli) (r:Sli) (i:Nat) (hi:i<(sl++[r]).length):(i<sl.length∧(sl++[r]).getD i sl0=sl.getD i sl0)∨(i=sl.length∧(sl++[r]).getD i sl0=r):=by
 by_cases h1:i<sl.length
 ·exact .inl ⟨h1,by simp [List.getD,List.getElem?_append_left h1]⟩
 ·have hi':i=sl.length:=by simp at hi;omega
  exact .inr ⟨hi',by rw [hi'];simp [List.getD]⟩
theorem box_step {w U W3 W4:World} {L:Nat} {V v:Value} {sl:List Sli} {r:Sli} {zs:List (List Int)} {R:List Int} (hB:Box w L V sl zs U) {g off:Nat} (ha:r.a=some ⟨g,off,none⟩) (hg:g<U.heap.size) (hne:some g≠V.ownBlock) (hL:L+1≤g) (hrow:RowU U r.a r.n R) (hn:r.n≤100000∧r.n≤r.c∧(r.a=none→r.c=0))
  (h3:Lr 31 W3 (L+1) v (sl++[r])) (hgr:U.grownBy W3 V.ownBlock) (ho:v.ownBlock=V.ownBlock∨v.ownBlock=some U.heap.size) (hU:Upd W3 W4 L #[v] 173):Box w L v (sl++[r]) (zs++[R]) W4:=by
 have hnew:∀ i,i<(sl++[r]).length→(((sl++[r]).getD i sl0).n≤100000∧((sl++[r]).getD i sl0).n≤((sl++[r]).getD i sl0).c∧(((sl++[r]).getD i sl0).a=none→((sl++[r]).getD i sl0).c=0))∧∀ x,((sl++[r]).getD i sl0).a=some x→L+1≤x.block:=fun i hi=>by
  rcases snoc_at sl r i hi with ⟨h1,e⟩ | ⟨_,e⟩
  ·rw [e];exact hB.new i h1
  ·rw [e];refine ⟨hn,fun x hx=>?_⟩;rw [ha] at hx;cases hx;exact hL
 have hrc:Recs W3 v.ownBlock (sl++[r]) (zs++[R]):=(hB.recs.snoc (s:=r) (z:=R) ⟨⟨g,off,ha,hg,hne⟩,hrow⟩).grown hgr ho;refine ⟨hU.blk,lr_upd h3 hU,⟨hrc.1,fun i hi=>?_⟩,hnew,?_⟩
 ·obtain ⟨⟨b,o,e1,e2,e3⟩,e4⟩:=hrc.2 i hi;have hLb:=(hnew i hi).2 _ e1;refine ⟨⟨b,o,e1,by rw [hU.size];exact e2,e3⟩,e4.1,?_⟩;rcases e4.2 with h0 | ⟨b',o',e5,hc⟩
  ·exact .inl h0
  ·rw [e1] at e5;cases e5;exact .inr ⟨b,o,e1,fun j hj=>(hU.cell ⟨b,o+j,none⟩ (by show b≠L;simp only at hLb;omega) rfl).trans (hc j hj)⟩
 ·refine hU.bel _ _ (Nat.le_refl _) ?_;exact own_bel hB.row hgr hB.bel (Nat.le_succ _) (Nat.le_of_lt hB.blk.lt)
theorem Box.reads {w:World} {L:Nat} {V:Value} {sl:List Sli} {zs:List (List Int)} {W:World} (h:Box w L V sl zs W):∃ a cap,V = .slice a zs.length cap∧ReadsF W L a zs.length zs:=by
 obtain ⟨a,cap,hv⟩:=h.row.len;have hl:=h.recs.1;refine ⟨a,cap,by rw [← hl];exact hv,rfl,?_⟩;by_cases h0:zs.length=0
 ·exact .inl h0
 ·obtain ⟨g,cap2,hv2,hge,lg,_,hc⟩:=h.row.row (by rw [hl];omega);rw [hv] at hv2;injection hv2 with ea _ _
  refine .inr ⟨g,0,ea,by omega,lg,fun i hi=>?_⟩;have hi':i<sl.length:=by rw [hl];exact hi
  refine ⟨sl.getD i sl0,by rw [Nat.zero_add];exact hc i hi',(h.recs.2 i hi').2,(h.new i hi').1,fun x hx=>?_⟩;have:=(h.new i hi').2 x hx;omega
end disk
namespace book
open Go.RowKit
open acc (Ac Tm Bi APost BPost TFault TRight OpenIs OweIs SellIs GrantIs RekeyIs wf6 ACame TCame)
theorem wf_i {z:Int} (h0:-1≤z) (h1:z≤4000000000):(Lit.int .i64 z).wf=true:=by
 have h1:IntKind.i64.min≤z:=by
  have e:IntKind.i64.min=-9223372036854775808:=by decide
  omega
 have h2:z≤IntKind.i64.max:=by
  have e:IntKind.i64.max=9223372036854775807:=by decide
  omega
 show (decide (IntKind.i64.min≤z) && decide (z≤IntKind.i64.max))=true;rw [Bool.and_eq_true];exact ⟨decide_eq_true h1,decide_eq_true h2⟩
theorem may_wf {a:Ac} (h:acc.AMay a):wf6 a:=by
 obtain ⟨_,⟨a1,a2⟩,⟨b1,b2⟩,⟨c1,c2⟩,⟨d1,d2⟩,⟨e1,e2⟩,f1,f2⟩:=h;exact ⟨wf_i (by omega) (by omega),wf_i (by omega) (by omega),wf_i (by omega) (by omega),wf_i (by omega) (by omega),wf_i (by omega) (by omega),wf_i (by omega) (by omega)⟩
def AWf (bk:List Cm):Prop:=∀ c∈bk,wf6 c.a
theorem owe_wf {a b:Ac} {d:tar.Du} (h:OweIs a d b 0):wf6 b∧b.me=a.me:=by
 rcases h with ⟨_,_,e⟩ | ⟨_,_,_,e⟩ | ⟨_,_,_,_,e⟩ | ⟨p,_,_,rfl,_⟩
 ·cases e
 ·cases e
 ·cases e
 ·have h:=may_wf p;exact ⟨⟨h.1,h.2.1,h.2.2.1,h.2.2.2.1,h.2.2.2.2.1,h.2.2.2.2.2⟩,rfl⟩
theorem tells_wf {t:Tm} {c:Cm} {v:Ev} {b:Ac} {l:Bi} (h:Tells t c v b l 0) (hl:l.un≤2097151) (hl0:0≤l.un):wf6 b∧b.me=c.a.me:=by
 rcases h with ⟨_,h⟩ | ⟨_,h⟩ | ⟨_,h⟩
 ·rcases h with ⟨p,_,_⟩ | ⟨_,_,e,_⟩ | ⟨_,_,_,e,_⟩ | ⟨hr,_,_,_,u,_,rfl,rfl⟩
  ·exact absurd rfl (fun (q:(0:Int)=0)=>by
    rcases p with ⟨_,p⟩ | ⟨_,p,q'⟩ | ⟨_,_,_,p⟩
    ·cases p
    ·exact p (q'.ok.1 rfl)
    ·exact p.ne rfl)
  ·cases e
  ·cases e
  ·obtain ⟨_,⟨a1,a2⟩,⟨b1,b2⟩,⟨c1,c2⟩,⟨d1,d2⟩,⟨e1,e2⟩,f1,f2⟩:=hr.1;obtain ⟨_,_,_,_,⟨m1,m2⟩,⟨k1,k2⟩,_⟩:=acc.rolled_may hr.1 hr.2.2;have hm:=hr.2.2.1;have hu:u≤2097151:=hl;have hu0:0≤u:=hl0;refine ⟨⟨wf_i (z:=c.a.me) (by omega) (by omega),wf_i (z:=c.a.rv) (by omega) (by omega),wf_i (z:=c.a.nx+1) (by omega) (by omega),wf_i (z:=v.mo) (by omega) (by omega),wf_i (z:=(acc.rolled c.a v.mo).bo+u) (by omega) (by omega),wf_i (z:=c.a.fr) (by omega) (by omega)⟩,rfl⟩
 ·rcases h with ⟨p,_,_⟩ | ⟨_,_,e,_⟩ | ⟨_,_,_,e,_⟩ | ⟨_,_,_,_,e,_⟩ | ⟨hr,_,_,_,_,rfl,_⟩
  ·exact absurd rfl (fun (q:(0:Int)=0)=>by
    rcases p with ⟨_,p⟩ | ⟨_,p,q'⟩ | ⟨_,_,_,p⟩
    ·cases p
    ·exact p (q'.ok.1 rfl)
    ·exact p.ne rfl)
  ·cases e
  ·cases e
  ·cases e
  ·obtain ⟨_,⟨a1,a2⟩,⟨b1,b2⟩,⟨c1,c2⟩,⟨d1,d2⟩,⟨e1,e2⟩,f1,f2⟩:=hr.1;obtain ⟨_,_,_,_,⟨m1,m2⟩,⟨k1,k2⟩,_⟩:=acc.rolled_may hr.1 hr.2.2;have hm:=hr.2.2.1;exact ⟨⟨wf_i (z:=c.a.me) (by omega) (by omega),wf_i (z:=c.a.rv) (by omega) (by omega),wf_i (z:=c.a.nx+1) (by omega) (by omega),wf_i (z:=v.mo) (by omega) (by omega),wf_i (z:=(acc.rolled c.a v.mo).bo) (by omega) (by omega),wf_i (z:=v.mo) (by omega) (by omega)⟩,rfl⟩
 ·rcases h with ⟨_,_,_,e⟩ | ⟨_,_,_,_,e⟩ | ⟨_,_,_,_,_,e⟩ | ⟨hr,_,_,rfl,_,_⟩
  ·cases e
  ·cases e
  ·cases e
  ·obtain ⟨_,⟨a1,a2⟩,⟨b1,b2⟩,⟨c1,c2⟩,⟨d1,d2⟩,⟨e1,e2⟩,f1,f2⟩:=hr;exact ⟨⟨wf_i (z:=c.a.me) (by omega) (by omega),wf_i (z:=c.a.rv+1) (by omega) (by omega),wf_i (z:=c.a.nx+1) (by omega) (by omega),wf_i (z:=c.a.mo) (by omega) (by omega),wf_i (z:=c.a.bo) (by omega) (by omega),wf_i (z:=c.a.fr) (by omega) (by omega)⟩,rfl⟩
theorem may_un {v:Ev} (h:EMay v):0≤v.un∧v.un≤2097151:=by
 unfold EMay at h;omega
theorem hap_wf {t:Tm} {c c':Cm} {v:Ev} (h:HapIs t c v c' 0) (hm:EMay v):wf6 c'.a∧c'.a.me=c.a.me:=by
 rcases h with ⟨_,b,q,r⟩ | ⟨_,b,l,e,q,r⟩
 ·rw [r rfl];exact owe_wf q
 ·rcases r with ⟨x,y⟩ | ⟨_,_,y⟩ | ⟨x,y,_,rfl⟩
  ·exact absurd y.symm x
  ·cases y
  ·subst x;subst y;exact tells_wf q (may_un hm).2 (may_un hm).1
theorem getD_in {bk:List Cm} {j:Nat} (h:j<bk.length):bk.getD j cm0∈bk:=getD_mem h
theorem AWf.set {bk:List Cm} {k:Nat} {c:Cm} (h:AWf bk) (hc:wf6 c.a):AWf (bk.set k c):=fun x hx=>by
 rcases List.mem_or_eq_of_mem_set hx with h' | rfl
 ·exact h x h'
 ·exact hc
theorem AWf.snoc {bk:List Cm} {c:Cm} (h:AWf bk) (hc:wf6 c.a):AWf (bk++[c]):=fun x hx=>by
 rcases List.mem_append.1 hx with h' | h'
 ·exact h x h'
 ·rw [List.mem_singleton.1 h'];exact hc
def wrc (V:Value) (t:Tm) (pt:Option Addr) (lt ct B:Nat):Array Value:=#[V,.slice pt lt ct,zI t.ff,zI t.fb,zI t.db,zI t.al,.map (some B)]
structure Kp (base gW B:Nat) (w w':World):Prop where
 os:w'.os=w.os
 tape:w'.tape=w.tape
 output:w'.output=w.output
 size:w.heap.size≤w'.heap.size
 block:∀ k,k<base→k≠gW→k≠B→w'.heap[k]?=w.heap[k]?
theorem Kp.refl (base gW B:Nat) (w:World):Kp base gW B w w:=⟨rfl,rfl,rfl,Nat.le_refl _,fun _ _ _ _=>rfl⟩
theorem Kp.trans {base gW B:Nat} {a b c:World} (h:Kp base gW B a b) (k:Kp base gW B b c):Kp base gW B a c:=⟨k.os.trans h.os,k.tape.trans h.tape,k.output.trans h.output,Nat.le_trans h.size k.size,fun i h1 h2 h3=>(k.block i h1 h2 h3).trans (h.block i h1 h2 h3)⟩
theorem Kp.of {base gW B n:Nat} {a b:World} (h:Below n a b) (hn:base≤n):Kp base gW B a b:=⟨h.os,h.tape,h.output,h.size,fun i h1 _ _=>h.block i (by omega)⟩
theorem Kp.bel {base gW B n:Nat} {a b c:World} (k:Kp base gW B b c) (h:Below n a b) (hn:n≤base) (h1:n≤gW) (h2:n≤B):Below n a c:=⟨k.os.trans h.os,k.tape.trans h.tape,k.output.trans h.output,Nat.le_trans h.size k.size,fun i hi=>(k.block i (by omega) (by omega) (by omega)).trans (h.block i hi)⟩
theorem Kp.keep {base gW B G:Nat} {a b:World} {cs:Array Value} {t:TypeId} (k:Kp base gW B a b) (h:Blk a G cs t) (h0:G<base) (h1:G≠gW) (h2:G≠B):Blk b G cs t:=by
 unfold Blk at *;rw [k.block G h0 h1 h2];exact h
theorem Kp.upd {base gW B g:Nat} {a b:World} {cs:Array Value} {t:TypeId} (hU:Upd a b g cs t) (hg:base≤g∨g=gW):Kp base gW B a b:=by
 have h:=hU.bel 0 a (Nat.zero_le _) (Below.refl _ _);exact ⟨h.os,h.tape,h.output,h.size,fun k h1 h2 _=>hU.oth k (by omega)⟩
theorem Kp.grown {base gW B:Nat} {a b:World} {own:Option Nat} (hg:a.grownBy b own) (hs:base≤a.heap.size) (ho:∀ g,own=some g→base≤g):Kp base gW B a b:=⟨hg.os,hg.tape,hg.output,hg.size,fun k h1 _ _=>hg.block k (by omega) (fun e=>by have:=ho k e.symm;omega)⟩
structure Wr (w0:World) (base gW B:Nat) (t:Tm) (pt:Option Addr) (lt ct:Nat) (V:Value) (xs:List Cu) (bk:List Cm) (w:World):Prop where
 blk:Blk w gW (wrc V t pt lt ct B) 182
 mp:MpI w B (mes bk)
 hold:Holds w base V xs bk
 gw:gW<base
 gb:B<base
 ne:gW≠B
 n0:w0.heap.size≤gW
 n1:w0.heap.size≤B
 sz:base≤w.heap.size
 bel:Below w0.heap.size w0 w
 few:Small bk 120
 wf:AWf bk
theorem Wr.next {w0:World} {base gW B:Nat} {t:Tm} {pt:Option Addr} {lt ct:Nat} {V:Value} {xs:List Cu} {bk:List Cm} {w w':World} (h:Wr w0 base gW B t pt lt ct V xs bk w) (hb:Below w.heap.size w w'):Wr w0 base gW B t pt lt ct V xs bk w':=
 ⟨h.blk.next hb,h.mp.below hb,h.hold.next hb,h.gw,h.gb,h.ne,h.n0,h.n1,Nat.le_trans h.sz hb.size,h.bel.trans (hb.mono h.bel.size),h.few,h.wf⟩
theorem Wr.kp {w0:World} {base gW B:Nat} {t:Tm} {pt:Option Addr} {lt ct:Nat} {V:Value} {xs:List Cu} {bk:List Cm} {w w':World} (h:Wr w0 base gW B t pt lt ct V xs bk w) (hb:Below w.heap.size w w'):Kp base gW B w w':= .of hb h.sz
def WPost (w0:World) (base gW B:Nat) (t:Tm) (pt:Option Addr) (lt ct:Nat) (R:List Cm→Int→Prop) (w:World) (e:Ending) (w':World):Prop:=
 Kp base gW B w w'∧((∃ V xs bk',e = .returned (.tuple #[])∧R bk' 0∧(Small bk' 120→Wr w0 base gW B t pt lt ct V xs bk' w'))∨∃ f bk',f≠0∧e = .panicked (thrown f)∧R bk' f)
theorem WPost.back {w0:World} {base gW B:Nat} {t:Tm} {pt:Option Addr} {lt ct:Nat} {R R':List Cm→Int→Prop} {w1 w:World} {e:Ending} {w':World} (h:WPost w0 base gW B t pt lt ct R w e w') (hk:Kp base gW B w1 w) (hR:∀ b f,R b f→R' b f):WPost w0 base gW B t pt lt ct R' w1 e w':=by
 refine ⟨hk.trans h.1,?_⟩;rcases h.2 with ⟨V,xs,bk',h1,h2,h3⟩ | ⟨f,bk',h1,h2,h3⟩
 ·exact .inl ⟨V,xs,bk',h1,hR _ _ h2,h3⟩
 ·exact .inr ⟨f,bk',h1,h2,hR _ _ h3⟩
theorem rowD_same {w w':World} {a:Option Addr} {n:Nat} {zs:List tar.Du} (h:tar.RowD w a n zs) (he:0<n→∀ x,a=some x→w'.heap[x.block]?=w.heap[x.block]?):tar.RowD w' a n zs:=by
 refine ⟨h.1,?_⟩;rcases h.2 with h0 | ⟨b,off,rfl,hc⟩
 ·exact .inl h0
 ·refine .inr ⟨b,off,rfl,fun i hi=>?_⟩;have h1:=hc i hi;have hb:w'.heap[b]?=w.heap[b]?:=he (by omega) _ rfl;have e:∀ o,w'.cell? ⟨b,o,none⟩=w.cell? ⟨b,o,none⟩:=fun o=>by simp [World.cell?,hb]
  rw [e,e];exact h1
theorem came_same {w w':World} {a:Option Addr} {n cap:Nat} {zs:List tar.Du} (h:tar.Came w a n cap zs) (he:0<n→∀ x,a=some x→w'.heap[x.block]?=w.heap[x.block]?):tar.Came w' a n cap zs:=⟨rowD_same h.row he,h.nil,h.room,h.bytes,h.wf⟩
theorem lo_same {w w':World} {base:Nat} {v:Value} {l:List So} (h:Lo w base v l) (he:∀ g,v.ownBlock=some g→w'.heap[g]?=w.heap[g]?):Lo w' base v l:=by
 refine ⟨h.1,?_⟩;rcases h.2 with hn | ⟨g',cap,cur,hv,hb,hc,rest⟩
 ·exact .inl hn
 ·exact .inr ⟨g',cap,cur,hv,hb,by rw [he g' (by rw [hv];rfl)];exact hc,rest⟩
theorem Has.same {w w':World} {base:Nat} {x:Cu} {c:Cm} (h:Has w base x c) (h1:∀ g,x.sold.ownBlock=some g→w'.heap[g]?=w.heap[g]?) (h2:0<x.dn→∀ p,x.dp=some p→w'.heap[p.block]?=w.heap[p.block]?):Has w' base x c:=⟨h.num,⟨came_same h.ds.came h2,h.ds.new⟩,lo_same h.so h1⟩
theorem Holds.put2 {w w4:World} {base:Nat} {V:Value} {xs:List Cu} {bk:List Cm} {k:Nat} {x':Cu} {c':Cm} (h:Holds w base V xs bk) (hk:k<xs.length)
  (hO:∀ g,g<w.heap.size→V.ownBlock≠some g→(xs.getD k cu0).sold.ownBlock≠some g→w4.heap[g]?=w.heap[g]?) (has:Has w4 base x' c')
  (own:∀ g,x'.sold.ownBlock=some g→(xs.getD k cu0).sold.ownBlock=some g∨w.heap.size≤g) (new:0<x'.dn→∀ p,x'.dp=some p→w.heap.size≤p.block) (self:∀ g,x'.sold.ownBlock=some g→0<x'.dn→∀ p,x'.dp=some p→p.block≠g)
  (hr:Lc w4 base V (xs.set k x')):Holds w4 base V (xs.set k x') (bk.set k c'):=by
 have hkb:k<bk.length:=by rw [← h.len];exact hk
 have lt1:∀ i,i<xs.length→∀ g,(xs.getD i cu0).sold.ownBlock=some g→g<w.heap.size:=fun i hi g hgg=>(World.ownsRow.lt (h.has i hi).so g hgg).2
 have lt2:∀ i,i<xs.length→0<(xs.getD i cu0).dn→∀ p,(xs.getD i cu0).dp=some p→p.block<w.heap.size:=fun i hi hn p hp=>by
  obtain ⟨b,off,e,lb,_⟩:=(h.has i hi).ds.came.row.at hn;rw [hp] at e;rw [Option.some.inj e];exact lb
 have ltV:∀ g,V.ownBlock=some g→g<w.heap.size:=fun g hgg=>(World.ownsRow.lt h.row g hgg).2
 have offx:Off x' V.ownBlock:=⟨fun g hgg q=>by
  rcases own g hgg with e | e
  ·exact (h.off k hk).1 g e q
  ·have:=ltV g q;omega,fun hn p hp q=>by
  have h1:=new hn p hp;have h2:=ltV p.block q.symm
  omega⟩
 have apx:∀ i,i<xs.length→i≠k→Apart (xs.getD i cu0) x':=fun i hi hik=>by
  refine ⟨fun g h1 h2=>?_,fun g h1 hn p hp q=>?_,fun g h1 hn p hp q=>?_⟩
  ·rcases own g h2 with e | e
   ·exact (h.apart i k hi hk hik).1 g h1 e
   ·have:=lt1 i hi g h1;omega
  ·have h3:=new hn p hp;have h4:=lt1 i hi g h1;omega
  ·rcases own g h1 with e | e
   ·exact (h.apart i k hi hk hik).2.2 g e hn p hp q
   ·have:=lt2 i hi hn p hp;omega
 refine ⟨hr,by rw [List.length_set,List.length_set,h.len],fun i hi=>?_,fun i hi=>?_,fun i hi=>?_,fun i j hi hj hij=>?_⟩
 all_goals rw [List.length_set] at hi
 ·rw [getD_put xs x' cu0 k i hk,getD_put bk c' cm0 k i hkb];by_cases q:i=k
  ·rw [if_pos q,if_pos q];exact has
  ·rw [if_neg q,if_neg q];have ap:=h.apart i k hi hk q;refine (h.has i hi).same (fun g hg=>hO g (lt1 i hi g hg) (fun e=>(h.off i hi).1 g hg e) (fun e=>ap.1 g hg e)) (fun hn p hp=>hO p.block (lt2 i hi hn p hp) (fun e=>(h.off i hi).2 hn p hp e.symm) (fun e=>ap.2.2 p.block e hn p hp rfl))
 ·rw [getD_put xs x' cu0 k i hk];by_cases q:i=k
  ·rw [if_pos q];exact offx
  ·rw [if_neg q];exact h.off i hi
 ·rw [getD_put xs x' cu0 k i hk];by_cases q:i=k
  ·rw [if_pos q];exact self
  ·rw [if_neg q];exact h.self i hi
 ·rw [List.length_set] at hj;rw [getD_put xs x' cu0 k i hk,getD_put xs x' cu0 k j hk];by_cases q:i=k <;> by_cases q':j=k
  ·omega
  ·rw [if_pos q,if_neg q'];exact (apx j hj q').symm
  ·rw [if_neg q,if_pos q'];exact apx i hi q
  ·rw [if_neg q,if_neg q'];exact h.apart i j hi hj hij
theorem lc_put2 {w W:World} {base g n cap k:Nat} {xs:List Cu} {x':Cu} {cur:Array Value} (h:Lc w base (.slice (some ⟨g,0,none⟩) n cap) xs) (hB:Blk w g cur 64) (hk:k<xs.length) (hW:Blk W g (putAll cur (k*8) x'.cs) 64):Lc W base (.slice (some ⟨g,0,none⟩) n cap) (xs.set k x'):=by
 unfold Lc at *;rw [List.length_set];refine ⟨by rw [cellsC_len,List.length_set],?_⟩;rcases h.2 with ⟨h',_⟩ | ⟨g',cap',cur',hv,hg,hc,hn,hm,hz,ht⟩
 ·cases h'
 ·simp only [Value.slice.injEq,Option.some.injEq,Addr.mk.injEq,and_true] at hv;obtain ⟨rfl,rfl,rfl⟩:=hv
  have e:cur'=cur:=by
   have h1:w.heap[g]?=some (.cells cur 64 (0,0)):=hB;rw [h1] at hc;injection hc with hc
   injection hc with hc
   exact hc.symm
  subst e;refine .inr ⟨g,cap,_,rfl,hg,hW,hn,hm,by rw [putAll_size];exact hz,?_⟩;apply List.ext_getElem?;intro j;have h8:x'.cs.length=8:=rfl;rw [cellsC_get,List.length_set,getD_put xs x' cu0 k (j / 8) hk];by_cases hj:j<xs.length*8
  ·rw [if_pos hj,List.getElem?_take_of_lt hj,Array.getElem?_toList,putAll_get _ _ _ _ (by rw [hz,h8];omega),h8];by_cases h1:k*8≤j∧j<k*8+8
   ·rw [if_pos h1,if_pos (by omega),show j - k*8=j % 8 by omega]
   ·rw [if_neg h1,if_neg (by omega)];have h2:cur'.toList[j]?=(cellsC xs)[j]?:=by rw [← ht,List.getElem?_take_of_lt hj]
    rw [Array.getElem?_toList] at h2;rw [h2,cellsC_get,if_pos hj]
  ·rw [if_neg hj,List.getElem?_eq_none (by rw [List.length_take];omega)]
theorem putAll_more (cs:Array Value):∀ (l:List Value) (o:Nat) (v:Value),(putAll cs o l).setIfInBounds (o+l.length) v=putAll cs o (l++[v])
 | [],o,v=>rfl
 | x :: l,o,v=>by
  have:=putAll_more (cs.setIfInBounds o x) l (o+1) v;rw [List.cons_append,putAll,putAll,← this,List.length_cons,show o+(l.length+1)=o+1+l.length by omega]
theorem at_cust {w:World} {base n cap k:Nat} {a:Option Addr} {xs:List Cu} (h:Lc w base (.slice a n cap) xs) (hk:k<xs.length):∃ g cur,a=some ⟨g,0,none⟩∧base≤g∧Blk w g cur 64∧k*8+8≤cur.size∧∀ j,j<8→cur[k*8+j]?=(xs.getD k cu0).cs[j]?:=by
 have hn:xs.length=n:=by
  obtain ⟨a',c',hv,_⟩:=h.row;injection hv with _ e _
  exact e.symm
 obtain ⟨g,cur,e1,e2,e3,e4,e5⟩:=lc_lies h (by omega);exact ⟨g,cur,e1,e2,e3,by omega,fun j hj=>e5 k j hk hj⟩
end book
namespace acc
open tar (Du du0 Came RowD Ld PairT)
open Go.RowKit
theorem pgrant (g:Nat) (x:Ac) (p:Option Addr) (len cap:Nat) (t:Tm) (pt:Option Addr) (lt ct:Nat) (m:Int) (w:World) (hw:Blk w g (wcs x bi0 p len cap) 233) (hd:deb.Fresh w (g+1) p len cap x.ds) (ha:AMay x) (ht:Came w pt lt ct t.ts) (hwf:wf4 t) (hfar:Far pt lt g):Calls Tryz.prog 82 #[.pointer (some ⟨g,0,none⟩),.agg #[.slice pt lt ct,zI t.ff,zI t.fb,zI t.db,zI t.al],zI m] w fun e w'=>DPost w g (Or0 (GrantIs x t m)) e w':=by
 have hgl:=hw.lt;have H0B:Hid (Below w.heap.size w (w.alloc (.cells #[.slice pt lt ct,zI t.ff,zI t.fb,zI t.db,zI t.al] 30))):=(Below.refl w.heap.size w).alloc (by simp) _;have H0C:Hid (Chg w (w.alloc (.cells #[.slice pt lt ct,zI t.ff,zI t.fb,zI t.db,zI t.al] 30)) g):= .of H0B.o;have H0t:Hid (Blk (w.alloc (.cells #[.slice pt lt ct,zI t.ff,zI t.fb,zI t.db,zI t.al] 30)) (w.heap.size) #[.slice pt lt ct,zI t.ff,zI t.fb,zI t.db,zI t.al] 30):=Blk.new w _ _;have H0g:Hid (Blk (w.alloc (.cells #[.slice pt lt ct,zI t.ff,zI t.fb,zI t.db,zI t.al] 30)) g (wcs x bi0 p len cap) 233):=hw.alloc _;have H0D:Hid (deb.Fresh (w.alloc (.cells #[.slice pt lt ct,zI t.ff,zI t.fb,zI t.db,zI t.al] 30)) (g+1) p len cap x.ds):=hd.below H0B.o;have H0T:Hid (Came (w.alloc (.cells #[.slice pt lt ct,zI t.ff,zI t.fb,zI t.db,zI t.al] 30)) pt lt ct t.ts):=ht.below H0B.o;have HFAR:Hid (Far pt lt g):=hfar;have HBG:Hid (∀ W,Blk W g (wcs x bi0 p len cap) 233→deb.Fresh W (g+1) p len cap x.ds→Came W pt lt ct t.ts→Calls Tryz.prog 120 #[.pointer (some ⟨g,0,none⟩),.agg #[.slice pt lt ct,zI t.ff,zI t.fb,zI t.db,zI t.al],zI m] W fun e w'=>DPost W g (BeginR x t m bi0) e w'):=fun W h1 h2 h3=>pbegin g x p len cap t pt lt ct bi0 m W h1 h2 ha h3 hwf hfar;have HM:Hid (AMay x):=ha;have hnx:=ha.2.2.2.1;clear hw hd ht hwf hfar ha H0B;generalize hWW:(w.alloc (.cells #[.slice pt lt ct,zI t.ff,zI t.fb,zI t.db,zI t.al] 30))=W0 at *;have HWW:Hid ((w.alloc (.cells #[.slice pt lt ct,zI t.ff,zI t.fb,zI t.db,zI t.al] 30))=W0):=hWW;clear hWW;go_enter Tryz.func82,Tryz.ntmps82;go_upto_region 1 with fail
 rw [HWW.o];clear HWW;go_wp2_with (first | (refine zqw rfl rfl rfl H0t zqu30 ?_) | fail)
 refine (HBG.o _ H0g.o H0D.o H0T.o).mono ?_;rintro e w1 ⟨y,b2,q,n,c,f,rfl,⟨hr,hb2⟩,hi1,hf1,hc1⟩;subst hb2;have H1D:Hid (deb.Fresh w1 (g+1) q n c y.ds):=hf1;have H1g:Hid (Blk w1 g #[zI y.me,zI y.rv,zI y.nx,zI y.mo,zI y.bo,zI y.fr,.slice q n c,zI 0,zI 0,zI 0,zI 0,zI 0,zI 0,zI 0] 233):=hi1;have H1t:Hid (Blk w1 (w.heap.size) #[.slice pt lt ct,zI t.ff,zI t.fb,zI t.db,zI t.al] 30):=Chg.keep (g:=g) (hc1) H0t.o (by omega);have H1T:Hid (Came w1 pt lt ct t.ts):=came_chg H0T.o (hc1) HFAR.o;have H1C:Hid (Chg w w1 g):=H0C.o.trans (hc1);clear H0C H0g H0t H0T hf1 hc1 hi1 H0D HBG;by_cases h0:f=0
 ·skip
  subst h0
  have hrr:TRight t∧RMay x m∧y=rolled x m:=by
   rcases hr with ⟨h1,h2,_⟩ | ⟨_,_,h3,_⟩ | ⟨h1,h2,h3,_⟩
   ·exact absurd (h2.ok.1 rfl) h1
   ·exact absurd rfl h3.ne
   ·exact ⟨h1,h2,h3⟩
  have HRY:Hid (Ready x t m):=⟨HM.o,hrr.1,hrr.2.1⟩
  have HT:Hid (TRight t):=hrr.1;have HBR:Hid (y=rolled x m):=hrr.2.2;have hbs:=rolled_same x m;rw [← hrr.2.2] at hbs;have hbo:=(rolled_may HM.o hrr.2.1).2.2.2.2.2.1;rw [← hrr.2.2] at hbo;have hdm:deb.Mays y.ds:=by rw [hrr.2.2];exact (rolled_may HM.o hrr.2.1).1
  have HYN:Hid (y.nx=x.nx):=hbs.2.2.1;have hyx:1≤y.nx∧y.nx≤1048576:=by rw [hbs.2.2.1];exact hnx
  have HBS:Hid (y.me=x.me∧y.rv=x.rv∧y.nx=x.nx∧y.mo=m∧y.fr=x.fr):=hbs;clear hrr hr hbs;by_cases h5:t.al=0
  ·have d5:(t.al == 0)=true:=by simpa using h5
   have HV:Hid (Or0 (GrantIs x t m) y bi0 22):= .inl ⟨by decide,.inr (.inl ⟨HRY.o,h5,rfl,rfl,rfl⟩)⟩;clear h5;have qt4:w1.cell? ⟨w.heap.size,4,none⟩=some (zI t.al):=H1t.o.cell 4;go_wp2_with fail;go_ret;exact ⟨y,bi0,q,n,c,22,rfl,HV.o,H1g.o,H1D.o,H1C.o⟩
  ·have d5:(t.al == 0)=false:=by simpa using h5
   by_cases h6:x.fr=m
   ·have d6:(y.fr == m)=true:=by simp;rw [HBS.o.2.2.2.2];exact h6
    have HV:Hid (Or0 (GrantIs x t m) y bi0 21):= .inl ⟨by decide,.inr (.inr (.inl ⟨HRY.o,h5,h6,rfl,rfl,rfl⟩))⟩;clear h5 h6;have qt4:w1.cell? ⟨w.heap.size,4,none⟩=some (zI t.al):=H1t.o.cell 4;have qg5:w1.cell? ⟨g,5,none⟩=some (zI y.fr):=H1g.o.cell 5;go_wp2_with fail;go_ret;exact ⟨y,bi0,q,n,c,21,rfl,HV.o,H1g.o,H1D.o,H1C.o⟩
   ·have d6:(y.fr == m)=false:=by simp;rw [HBS.o.2.2.2.2];exact h6
    have qt4:w1.cell? ⟨w.heap.size,4,none⟩=some (zI t.al):=H1t.o.cell 4;have qg5:w1.cell? ⟨g,5,none⟩=some (zI y.fr):=H1g.o.cell 5;go_wp2_with (first | (refine wp_let1 rfl 3 _ _ rfl g 5 rfl .i64 m rfl (by kernel_rfl) #[zI y.me,zI y.rv,zI y.nx,zI y.mo,zI y.bo,zI y.fr,.slice q n c,zI 0,zI 0,zI 0,zI 0,zI 0,zI 0,zI 0] 233 H1g.o (by simp) ?_) | fail)
    intro W2 hU;have H2g:Hid (Blk W2 g #[zI y.me,zI y.rv,zI y.nx,zI y.mo,zI y.bo,zI m,.slice q n c,zI 0,zI 0,zI 0,zI 0,zI 0,zI 0,zI 0] 233):=hU.blk;have H2t:Hid (Blk W2 (w.heap.size) #[.slice pt lt ct,zI t.ff,zI t.fb,zI t.db,zI t.al] 30):=Chg.keep (g:=g) (.upd hU) H1t.o (by omega);have H2T:Hid (Came W2 pt lt ct t.ts):=came_chg H1T.o (.upd hU) HFAR.o;have H2D:Hid (deb.Fresh W2 (g+1) q n c y.ds):=fresh_chg H1D.o (.upd hU);have H2C:Hid (Chg w W2 g):=H1C.o.trans (.upd hU);clear H1C H1g H1t H1T H1D hU qt4 qg5 d5 d6;have qt4:W2.cell? ⟨w.heap.size,4,none⟩=some (zI t.al):=H2t.o.cell 4;go_wp2_with (first | (refine wp_let1 rfl 3 _ _ rfl g 13 rfl .i64 t.al rfl (by kernel_rfl) #[zI y.me,zI y.rv,zI y.nx,zI y.mo,zI y.bo,zI m,.slice q n c,zI 0,zI 0,zI 0,zI 0,zI 0,zI 0,zI 0] 233 H2g.o (by simp) ?_) | fail)
    intro W3 hU;have H3g:Hid (Blk W3 g #[zI y.me,zI y.rv,zI y.nx,zI y.mo,zI y.bo,zI m,.slice q n c,zI 0,zI 0,zI 0,zI 0,zI 0,zI 0,zI t.al] 233):=hU.blk;have H3t:Hid (Blk W3 (w.heap.size) #[.slice pt lt ct,zI t.ff,zI t.fb,zI t.db,zI t.al] 30):=Chg.keep (g:=g) (.upd hU) H2t.o (by omega);have H3T:Hid (Came W3 pt lt ct t.ts):=came_chg H2T.o (.upd hU) HFAR.o;have H3D:Hid (deb.Fresh W3 (g+1) q n c y.ds):=fresh_chg H2D.o (.upd hU);have H3C:Hid (Chg w W3 g):=H2C.o.trans (.upd hU);clear H2C H2g H2t H2T H2D hU qt4
    have HGV:Hid (⟨y.me,y.rv,y.nx+1,y.mo,y.bo,m,y.ds⟩=granted x m):=by
     show _=_;unfold granted;rw [← HBR.o,HBS.o.1,HBS.o.2.1,HBS.o.2.2.1,HBS.o.2.2.2.1]
    have HNU:Hid (Calls Tryz.prog 121 #[.pointer (some ⟨g,0,none⟩)] W3 fun e w'=>NumPost W3 g ⟨y.me,y.rv,y.nx,y.mo,y.bo,m,y.ds⟩ ⟨0,0,0,0,0,0,t.al⟩ q n c e w'):=pnum g ⟨y.me,y.rv,y.nx,y.mo,y.bo,m,y.ds⟩ ⟨0,0,0,0,0,0,t.al⟩ q n c W3 H3g.o hyx;go_wp2_with fail;refine HNU.o.mono ?_;rintro e wN ⟨hcN,⟨hx,rfl,hiN⟩ | ⟨hx,rfl,hiN⟩⟩
    ·have HV:Hid (Or0 (GrantIs x t m) ⟨y.me,y.rv,y.nx,y.mo,y.bo,m,y.ds⟩ ⟨0,0,0,0,0,0,t.al⟩ 20):= .inl ⟨by decide,.inr (.inr (.inr (.inl ⟨HRY.o,h5,h6,by rw [← HYN.o];exact hx,rfl,rfl,rfl⟩)))⟩;have HDN:=fresh_chg H3D.o hcN;have HCN:=H3C.o.trans hcN;clear HNU hx;go_wp2_with fail;go_ret;exact ⟨⟨y.me,y.rv,y.nx,y.mo,y.bo,m,y.ds⟩,⟨0,0,0,0,0,0,t.al⟩,q,n,c,20,rfl,HV.o,hiN,HDN,HCN⟩
    ·have HV:Hid (Or0 (GrantIs x t m) ⟨y.me,y.rv,y.nx+1,y.mo,y.bo,m,y.ds⟩ ⟨y.nx,0,0,0,0,0,t.al⟩ 0):= .inr ⟨rfl,.inr (.inr (.inr (.inr ⟨HRY.o,h5,h6,by rw [← HYN.o];exact hx,rfl,HGV.o,by rw [HYN.o]⟩)))⟩;have HDN:=fresh_chg H3D.o hcN;have HCN:=H3C.o.trans hcN;clear HNU hx;go_wp2_with fail;go_ret;exact ⟨⟨y.me,y.rv,y.nx+1,y.mo,y.bo,m,y.ds⟩,⟨y.nx,0,0,0,0,0,t.al⟩,q,n,c,0,rfl,HV.o,hiN,HDN,HCN⟩
 ·skip
  have d0:(f != 0)=true:=by simpa using h0
  have HV:Hid (Or0 (GrantIs x t m) y bi0 f):=by
   refine .inl ⟨h0,.inl ⟨?_,rfl,rfl⟩⟩;rcases hr with ⟨h1,h2,_⟩ | ⟨h1,h2,h3,_⟩ | ⟨_,_,_,h1⟩
   ·exact .inr (.inl ⟨HM.o,h1,h2⟩)
   ·exact .inr (.inr ⟨HM.o,h1,h2,h3⟩)
   ·exact absurd h1 h0
  clear hr h0;go_wp2_with fail;go_ret;exact ⟨y,bi0,q,n,c,f,rfl,HV.o,H1g.o,H1D.o,H1C.o⟩
end acc
end Go.Proofs.YtdpfnedfakgolaaGreatDoor
