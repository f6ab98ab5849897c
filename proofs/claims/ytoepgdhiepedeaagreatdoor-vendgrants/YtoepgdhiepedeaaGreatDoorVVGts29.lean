import Derived.Test.YtoepgdhiepedeaaGreatDoorVVGts18
import Derived.Test.YtoepgdhiepedeaaGreatDoorVVGts19
import Derived.Test.YtoepgdhiepedeaaGreatDoorVVGts27
set_option linter.unusedVariables false
set_option linter.unusedSimpArgs false
set_option maxHeartbeats 4000000
set_option maxRecDepth 100000
namespace Go.Proofs.YtoepgdhiepedeaaGreatDoor
namespace disk
open Go.RowKit cell
theorem sliT:SliT Tryz.prog 25 140:=⟨by kernel_rfl,Tryz.underlying140⟩
def RepPost(w:World)(c:List Int)(e:Ending)(w':World):Prop:=
 ∃V sl out x f,e=.returned (.tuple #[V,zI x,zI f])∧Lr 25 w' w.heap.size V sl∧Recs w' V.ownBlock sl out∧RepIs c out x f∧zB w w'
theorem rec_at{c:List Int}{p m x:Nat}(hm:(c.getD p 0).toNat=m)(hx:x<m):(recAt c p).getD x 0=c.getD (p+1+x) 0:=by
 unfold recAt;rw[hm];simp[List.getD,List.getElem?_drop,hx]
theorem rec_len{c:List Int}{p m:Nat}(hm:(c.getD p 0).toNat=m)(hf:p+m<c.length):(recAt c p).length=m:=by
 unfold recAt;rw[hm,List.length_take,List.length_drop];omega
theorem replayed(a:Option Addr)(n cap:Nat)(c:List Int)(w:World)(h:RowU w a n c)(hw:∀x∈c,0≤x∧x<4294967296):
  Calls Tryz.prog 81 #[.slice a n cap] w λe w'=>RepPost w c e w':=by
 have hcl:=h.1;by_cases hmay:1≤n∧n≤2048
 ·have HM:Hid (∀W,Calls Tryz.prog 47 #[zI (n:Int),zI 1,zI 2048] W λe w'=>e=.returned (.bool true)∧w'=W):=λW=>in_yes _ _ _ W (by omega) (by omega);have HLN:Hid (∀W p,Below w.heap.size w W→p≤n→Calls Tryz.prog 132 #[.slice a n cap,zI (p:Int)] W λe w'=>e=.returned (zI (lenAt c p))∧w'=W):=λW p hB hp=>length_any a n cap p c W (h.below hB) hmay.2 hp hw;have HL0:Hid (Calls Tryz.prog 132 #[.slice a n cap,zI 0] w λe w'=>e=.returned (zI (lenAt c 0))∧w'=w):=HLN.o w 0 (Below.refl _ _) (Nat.zero_le _);obtain⟨b,o,rfl,lb,hc⟩:=h.at (by omega);have HCL:Hid (∀W,Below w.heap.size w W→∀j,j<n→W.cell? ⟨b,o+j,none⟩=some (.int .u32 (c.getD j 0))):=λW hB j hj=>(hB.cell (p:=⟨b,o+j,none⟩) lb).trans (hc j hj);have HMY:Hid (May c):=⟨by omega,by omega⟩
  have HN:Hid (c.length=n):=hcl;obtain⟨hn1,hn2⟩:=hmay;clear h hw hc lb hcl;go_enter Tryz.func81,Tryz.ntmps81;go_wp2_with fail;refine(HM.o _).mono ?_;rintro e w1 ⟨rfl,hq⟩;subst w1;go_wp2_with fail;refine HL0.o.mono ?_;rintro e w1 ⟨rfl,hq⟩;subst w1;go_wp2_with fail;go_loopw [5,6,7] (λv5 v6 v7 wr=>∃(k p:Nat)(V:Value)(sl:List Sli),p≤n∧V=v5∧v6=zI (p:Int)∧v7=zI (lenAt c p)∧(itD c k).2=p∧Lr 25 wr w.heap.size V sl∧Recs wr V.ownBlock sl (itD c k).1∧sl.length≤p∧Below w.heap.size w wr) (λ_ v6 _ _=>n+1-(intOf v6).toNat)
  case atStart=>exact⟨0,0,_,[],Nat.zero_le _,rfl,rfl,rfl,rfl,Lr.zero _ _ _,Recs.nil _ _,Nat.le_refl _,Below.refl _ _⟩
  case round=>
   obtain⟨k,p,V,sl,hp,hV,rfl,rfl,hk,hlr,hrc,hsl,hbl⟩:=hrel;subst hV;have HLR:Hid (Lr 25 wr w.heap.size V sl):=hlr;have HRC:Hid (Recs wr V.ownBlock sl (itD c k).1):=hrc;have HBL:Hid (Below w.heap.size w wr):=hbl;have HK:Hid ((itD c k).2=p):=hk;clear hlr hrc hbl hk;obtain⟨wo,hwo⟩:∃wo,wo=wr:=⟨_,rfl⟩
   subst hwo;by_cases hpos:0<lenAt c p
   ·obtain⟨q0,q1,q2,q3⟩:=len_pos hpos;obtain⟨m,hm⟩:∃m:Nat,lenAt c p=(m:Int):=⟨(lenAt c p).toNat,by omega⟩
    have hgm:(c.getD p 0).toNat=m:=by rw[← q0,hm];simp
    have hpm:p+m<n:=by have:=HN.o;omega
    have hm1:1≤m:=by omega
    have hm2:m≤64:=by omega
    have HIT:Hid (itD c (k+1)=((itD c k).1++[recAt c p],p+m+1)):=by
     have h:=it_live (c:=c) (k:=k) (by rw[HK.o];exact hpos);rw[HK.o,hm,Int.toNat_natCast] at h;exact h
    have HRL:Hid ((recAt c p).length=m):=rec_len hgm (by have:=HN.o;omega);have HRA:Hid (∀x,x<m→(recAt c p).getD x 0=c.getD (p+1+x) 0):=λx hx=>rec_at hgm hx;rw[hm];have e1:decide ((0:Int)<(m:Int))=true:=by simp;omega
    have hmk:∀W:World,(Instr.makeSlice 25 (zI (m:Int)) (zI (m:Int))).run Tryz.prog W=.ok (.slice (some ⟨W.heap.size,0,none⟩) m m) (W.alloc (.cells (arr (List.replicate m 0)) 83)):=make_u32 m (by omega);have HG0:Hid (Blk (wo.alloc (.cells (arr (List.replicate m 0)) 83)) wo.heap.size (arr (List.replicate m 0)) 83):=Blk.new _ _ _;have HB0:Hid (Below wo.heap.size wo (wo.alloc (.cells (arr (List.replicate m 0)) 83))):=(Below.refl _ _).alloc (Nat.le_refl _) _;have HZL:Hid ((List.replicate m (0:Int)).length=m):=List.length_replicate;have HSZ:Hid (w.heap.size≤wo.heap.size):=HBL.o.size
    have HL2:Hid (∀W,Below w.heap.size w W→Calls Tryz.prog 132 #[.slice (some ⟨b,o,none⟩) n cap,zI ((p:Int)+(m:Int)+1)] W λe w'=>e=.returned (zI (lenAt c (p+m+1)))∧w'=W):=λW hB=>by
     have h:=HLN.o W (p+m+1) hB (by omega)
     rwa [show ((p+m+1:Nat):Int)=(p:Int)+(m:Int)+1 by omega] at h
    clear hpos q0 q1 q2 q3 hm hgm;generalize List.replicate m (0:Int)=zz at *;generalize recAt c p=R at *;go_wp2_with fail;generalize wo.alloc (.cells (arr zz) 83)=W0 at *;generalize hgg:wo.heap.size=g at *;have HGG:Hid (wo.heap.size=g):=hgg;clear hgg hmk;go_loopw [9] (λi wq=>∃(x:Nat)(zs:List Int),x≤m∧i=zI (x:Int)∧zs.length=m∧(∀i,i<x→zs.getD i 0=R.getD i 0)∧Blk wq g (arr zs) 83∧Below g wo wq) (λi _=>m-(intOf i).toNat)
    case atStart=>exact⟨0,zz,Nat.zero_le _,rfl,HZL.o,λi hi=>absurd hi (Nat.not_lt_zero _),HG0.o,HB0.o⟩
    case round=>
     obtain⟨x,zs,hx,rfl,hzl,hze,hg,hb⟩:=hrel;have HKB:Hid (Blk wr g (arr zs) 83):=hg;have HB:Hid (Below g wo wr):=hb;have HBW:Hid (Below w.heap.size w wr):=HBL.o.trans (hb.mono HSZ.o);have HZ:Hid (zs.length=m∧∀i,i<x→zs.getD i 0=R.getD i 0):=⟨hzl,hze⟩
     clear hzl hze hg hb;by_cases hxm:x<m
     ·have k2:=HCL.o wr HBW.o (p+1+x) (by omega);rw[← HRA.o x hxm] at k2;have k0:=Blk.word HKB.o x (by rw[HZ.o.1];exact hxm);have k1:=HKB.o.free x
      have HNX:Hid (Blk (wr.setCell ⟨g,x,none⟩ (.int .u32 (R.getD x 0))) g (arr (zs.set x (R.getD x 0))) 83):=by
       have h:=HKB.o.set x (.int .u32 (R.getD x 0));rw[arr_set] at h;exact h
      have HBX:Hid (Below g wo (wr.setCell ⟨g,x,none⟩ (.int .u32 (R.getD x 0)))):=bel_set HB.o g x _ (Nat.le_refl _)
      have HZX:Hid ((zs.set x (R.getD x 0)).length=m∧∀i,i<x+1→(zs.set x (R.getD x 0)).getD i 0=R.getD i 0):=by
       refine⟨by rw[List.length_set];exact HZ.o.1,λi hi=>?_⟩;rw[set_at];by_cases e:i=x
       ·rw[if_pos ⟨e,by rw[HZ.o.1];exact hxm⟩,e]
       ·rw[if_neg (by omega)];exact HZ.o.2 i (by omega)
      generalize zs.set x (R.getD x 0)=zs2 at *;generalize R.getD x 0=u at *;generalize zs.getD x 0=u0 at *;go_wp2_with fail;go_roundw
      case rel=>exact⟨x+1,zs2,by omega,by go_num,HZX.o.1,HZX.o.2,HNX.o,HBX.o⟩
      case measure=>simp[intOf];omega
     ·obtain rfl:x=m:=by omega
      have HX:Hid (RowU wr (some ⟨g,0,none⟩) x R):=by
       have e:zs=R:=list_ext (by rw[HZ.o.1,HRL.o]) (λi hi=>HZ.o.2 i (by rw[HZ.o.1] at hi;exact hi));rw[← e];exact Blk.rowU HKB.o HZ.o.1
      have HGL:Hid (g<wr.heap.size):=HKB.o.lt;have HBO:Hid (Below wo.heap.size wo wr):=by show Below _ _ _;rw[HGG.o];exact HB.o
      have HNE:Hid (some g≠V.ownBlock):=λe=>by have:=(World.ownsRow.lt HLR.o g e.symm).2;have:=HGG.o;omega
      have HUA:Hid (∀o,Lr 25 (wr.alloc o) w.heap.size V sl):=λo=>(HLR.o.next HBO.o).alloc o;have HBA:Hid (∀o,Below w.heap.size w (wr.alloc o)):=λo=>HBW.o.alloc HBW.o.size o;have HRA2:Hid (∀o,Recs (wr.alloc o) V.ownBlock (sl++[⟨some ⟨g,0,none⟩,x,x⟩]) ((itD c k).1++[R])):=λo=>((HRC.o.below HBO.o).snoc ⟨⟨g,0,rfl,HGL.o,HNE.o⟩,HX.o⟩).below ((Below.refl _ _).alloc (Nat.le_refl _) _);have hs6:sl.length≤1000000:=by omega
      go_wp2_with (first|(refine wp_sli sliT rfl _ _ rfl w.heap.size wr.heap.size V sl ⟨some ⟨g,0,none⟩,x,x⟩ rfl rfl (HUA.o _) ((Blk.new wr _ _).cell 0) hs6 (by have:=HBW.o.size;simp;omega) ?_;intro v3 w3 h3 hg3 ho3;have HB3:Hid (Below w.heap.size w w3):=own_bel (HUA.o _) hg3 (HBA.o _) (Nat.le_refl _) (by have:=HBW.o.size;simp;omega);have H3:Hid (Lr 25 w3 w.heap.size v3 (sl++[⟨some ⟨g,0,none⟩,x,x⟩])):=h3;have HR3:Hid (Recs w3 v3.ownBlock (sl++[⟨some ⟨g,0,none⟩,x,x⟩]) ((itD c k).1++[R])):=(HRA2.o _).grown hg3 ho3;clear h3 hg3 ho3)|fail)
      refine(HL2.o _ HB3.o).mono ?_;rintro e w4 ⟨rfl,hq⟩;subst w4;go_wp2_with fail;go_roundw
      case rel=>exact⟨k+1,p+x+1,v3,sl++[⟨some ⟨g,0,none⟩,x,x⟩],by omega,rfl,by go_num,rfl,by rw[HIT.o],H3.o,by rw[HIT.o];exact HR3.o,by rw[List.length_append];simp;omega,HB3.o⟩
      case measure=>simp[intOf];omega
   ·have HRD:Hid (repD c=itD c k):=rep_of (by rw[HK.o];exact hpos);have e1:decide ((0:Int)<lenAt c p)=false:=by simpa using hpos
    by_cases hneg:lenAt c p<0
    ·have HRI:Hid (RepIs c [] 0 3):=.inr (.inl ⟨HMY.o,by rw[HRD.o,HK.o];exact hneg,rfl,rfl,rfl⟩);have e2:decide (lenAt c p<0)=true:=by simpa using hneg
     clear hpos hneg;generalize lenAt c p=z at *;go_wp2_with fail;go_ret3;exact⟨zS,[],[],0,3,rfl,Lr.zero _ _ _,Recs.nil _ _,HRI.o,HBL.o⟩
    ·have HRI:Hid (RepIs c (itD c k).1 (p:Int) 0):=.inr (.inr ⟨HMY.o,by rw[HRD.o,HK.o];omega,by rw[HRD.o],by rw[HRD.o,HK.o],rfl⟩);have e2:decide (lenAt c p<0)=false:=by simpa using hneg
     clear hpos hneg;generalize lenAt c p=z at *;go_wp2_with fail;go_ret3;exact⟨V,sl,_,_,0,rfl,HLR.o,HRC.o,HRI.o,HBL.o⟩
 ·have HM:Hid (∀W,Calls Tryz.prog 47 #[zI (n:Int),zI 1,zI 2048] W λe w'=>e=.returned (.bool false)∧w'=W):=λW=>in_no _ _ _ W (by omega);have HRI:Hid (RepIs c [] 0 1):=.inl ⟨λh=>hmay ⟨by rw[← hcl];exact h.1,by rw[← hcl];exact h.2⟩,rfl,rfl,rfl⟩;clear h hw hcl hmay;go_enter Tryz.func81,Tryz.ntmps81;go_wp2_with fail;refine(HM.o _).mono ?_;rintro e w1 ⟨rfl,hq⟩;subst w1;go_wp2_with fail;go_ret3;exact⟨zS,[],[],0,1,rfl,Lr.zero _ _ _,Recs.nil _ _,HRI.o,Below.refl _ _⟩
end disk
namespace vnd
open book (Ev ev0 Cm cm0 So so0 Sees)
open acc (Ac Tm Bi)
open ora (Pr)
open cell (Wr RowU RowW)
open rcp (Rc rc0)
open Go.RowKit
def KvGrant(w0:World):Prop:=∀(W:World)(t:Tm)(pt:Option Addr)(lt ct:Nat)(a:Option Addr)(n cap:Nat)(c:List Int)(ao:Option Addr)(no ko:Nat)(o:List Pr)(me mo dr:Int),zB w0 W→acc.TCame W t pt lt ct→Dk W a n cap c→ora.Came W ao no ko o→(Lit.int .i64 me).wf=true→(Lit.int .i64 mo).wf=true→(Lit.int .i64 dr).wf=true→zC 14 #[t.v pt lt ct,.slice a n cap,.agg #[.slice ao no ko],zI me,zI mo,zI dr] W λe w'=>TokGot W (TokIs 3 t c o me 0 mo dr) e w'
end vnd
section
open Go.RowKit
structure WQ (P : Program) (ops : Array Oper) (C : World → Prop) (Q : Act → Prop) (l : List Oper) (a : Act) : Prop where
 out : wpQuiet P ops C Q l a
variable{C : World → Prop}{ops : Array Oper}{Q : Act → Prop}{P : Program}{a : Act}
theorem wq_nil(h : Q a): WQ P ops C Q [] a := ⟨h⟩
theorem wq_step{o : Oper}{rest : List Oper}
  (h : ∀K : Act → Prop, (∀a, WQ P ops C Q rest a → K a) → if Region.wanted o (yielded ops a.tmps) then o.quiet P a C K else K (a.put o.dst undef)) : WQ P ops C Q (o::rest) a :=
 ⟨wpQuiet_step λK b => h K λa c => b a c.out⟩
theorem wq_skip{o : Oper}{rest : List Oper}(hw : Region.wanted o (yielded ops a.tmps) = false)(h : WQ P ops C Q rest (a.put o.dst undef)): WQ P ops C Q (o::rest) a := by
 refine⟨?_⟩
 unfold wpQuiet
 rw[if_neg (by rw[hw]; decide)]
 exact h.out
theorem wq_below{id : Nat}{Q : Exit → Act → World → Prop}{w : World}{l : List Oper}(hm : P.follows .mixedOrders = true)(hB : Region.lexB .any l.toArray = true)
  (h : WQ P l.toArray (λw' => ∃p : Regrown, w' = Sort.grow (redrawn w p.d) p.os) (λa' => ∀w', (∃p : Regrown, w' = Sort.grow (redrawn w p.d) p.os) → Q .normal a' w') l a) : (Code.region id l.toArray true).wp P Q a w :=
 wp_region_quiet_below hm hB h.out
end
namespace disk
open Go.RowKit cell
theorem clone_any(x:Addr)(len cap:Nat)(zs:List Int)(w:World)(hr:RowU w (some x) len zs)(hl:len≤100000):
  Calls Tryz.prog 149 #[.slice (some x) len cap] w λe w'=>GaveU w zs e w':=by
 obtain⟨y,t,f,g,i⟩:=info_parts info_u32;obtain⟨n,hr⟩:=hr;have a:(w.alloc (.cells #[] 83)).ownsRow w.heap.size 83 1 (.slice (some ⟨w.heap.size,0,none⟩) 0 0) 0 []:=World.ownsRow_lit w #[] 0 zc (by unfold maxLen;omega) rfl;have k:=zh a;have d:Hid (w.heap.size≤(w.alloc (.cells #[] 83)).heap.size):=alloc_le zc _;clear a;have s:∀W:World,(binOp BinOp.eql 25 (.slice (some x) len cap) (zS)).run Tryz.prog W=.ok (.bool false) W:=λW=>by kernel_rfl
 go_enter Tryz.func149,Tryz.ntmps149
 go_wp2_with (first
  |(at_builtin;refine wpList_append_own _ rfl _ _ 25 rfl w.heap.size 83 y (.int .u32 0) 1 4 Tryz.underlying25 t f g i rfl (by decide) _ _ _ rfl k.o x len cap (zs.map (.int .u32)) rfl ?c0 ?c1 ?c2 ?c3 ?c4 d.o ?_)
  | go_in)
 case c0=>simp[n]
 case c1=>
  intro j u c;rcases hr with h|⟨b,A,h,r⟩
  ·rw[List.getElem?_eq_none (by simp;omega)] at c;cases c
  ·obtain rfl:=Option.some.inj h;by_cases m:j<zs.length
   ·simp[List.getElem?_eq_getElem m] at c;subst c;have:=r j (by omega);rw[Addr.add_lit,World.cell?_alloc_lt w _ _ (World.block_lt_of_cell? w _ this)];simpa [List.getD,List.getElem?_eq_getElem m] using this
   ·rw[List.getElem?_eq_none (by simp;omega)] at c;cases c
 case c2=>intro u c;obtain⟨z,_,rfl⟩:=List.mem_map.1 c;rfl
 case c3=>unfold maxLen;omega
 case c4=>omega
 intro B w' a l _;have q:Hid (Ws w' w.heap.size B zs):=by show w'.ownsRow _ _ _ _ _ _;rw[n];simpa using a
 have p:Hid (zB w w'):=own_bel k.o l (zb.alloc zc _) zc d.o;clear a l;go_wp2;go_ret;exact GaveU.mk q.o p.o
theorem step_sli{P:Program}{T S:TypeId}(hP:SliT P T S){w:World}{ops:Array Oper}{o:Oper}{a:Act}{K:Act→World→Prop}{Q:Exit→Act→World→Prop}{E:Prop}(hgd:o.guard=none)(s x:Operand)
  (ho:o.op=.call { callee:=.builtin .append,args:=#[s,x],argTypes:=#[S,S] })
  (base G:Nat) (v:Value) (l:List Sli) (r:Sli) (hs:a.eval s=v) (hx:a.eval x=.slice (some ⟨G,0,none⟩) 1 1) (hv:Lr T w base v l) (hu:w.cell? ⟨G,0,none⟩=some r.v) (hn:l.length≤1000000) (hbase:base≤w.heap.size)
  (h:∀v' w',Lr T w' base v' (l++[r])→w.grownBy w' v.ownBlock→(v'.ownBlock=v.ownBlock∨v'.ownBlock=some w.heap.size)→K (a.put o.dst v') w'):if Region.wanted o (yielded ops a.tmps)=true then Oper.wp P o a w K Q else E:=by
 have n:Region.wanted o (yielded ops a.tmps)=true:=by simp[Region.wanted,hgd]
 rw[if_pos n];obtain⟨p,k,c,d,e⟩:=info_parts hP.info
 obtain ⟨v',w',m,f,g,_,i⟩:=run_append_own_at (P:=P) w base S o.type T p (sl0.v) 1 24 hP.under k c d e rfl (by decide) v l.length (cellsR l) hv ⟨G,0,none⟩ 1 1 (cellsR [r]) rfl (by
  intro j u b
  match j,b with
  |0,b=>simp[cellsR] at b;subst b;simpa [Addr.add] using hu
  | j+1,b=>simp [cellsR] at b) (oneR [r]) (by unfold maxLen;omega) (by omega) hbase
 unfold Oper.wp execOp;simp only[ho,resolve,invoke,builtin,Sem.run_bind,Sem.run_pure,Result.andThen_ok,List.map_toArray,List.map_cons,List.map_nil,hs,hx,m];refine h v' w' ?_ g i;unfold Lr;rw[List.length_append];unfold cellsR at *;rw[List.map_append];exact f
variable{zs:List (List Int)}{sl:List Sli}{w:World}{L:Nat}{V:Value}
theorem wp_letOne{P:Program}{o:Oper}{a:Act}{K:Act→World→Prop}{Q:Exit→Act→World→Prop}(ty:TypeId)(x y:Operand)(ho:o.op=.store ty x y)
  (g:Nat) (hx:a.eval x=.pointer (some ⟨g,0,none⟩)) (v:Value) (hy:a.eval y=v) (hv:v.cells=#[v]) (hi:(P.info? ty).map (·.size)=some 1) (h1:v.oneCell'=true)
  (u:Value) (t:TypeId) (hB:Blk w g #[u] t) (hd:o.dst=none)
  (h:∀W,Upd w W g #[v] t→K a W):o.wp P a w K Q:=by
 have b:=run_storeVar_let (P:=P) (w:=w) (g:=g) (off:=0) (ty:=ty) (t:=t) (v:=v) (cells:=#[v]) (cs:=#[u]) hv (by simpa using hi) (by simpa using h1) hB (by simp);have c:=upd_cells g t [v] 0 w #[u] hB;unfold Oper.wp execOp;simp only[ho,hx,hy,Instr.storeAt,Instr.sureAddr,Sem.run_bind,Sem.run_pure,Result.andThen_ok,b];have:=h _ c;have e:a.put o.dst undef=a:=by rw[hd];rfl
 rw[← e] at this;exact this
structure Box (w:World) (L:Nat) (V:Value) (sl:List Sli) (zs:List (List Int)) (W:World):Prop where
 blk:Blk W L #[V] 140
 row:Lr 25 W (L+1) V sl
 recs:Recs W V.ownBlock sl zs
 new:∀i,i<sl.length→((sl.getD i sl0).n≤100000∧(sl.getD i sl0).n≤(sl.getD i sl0).c∧((sl.getD i sl0).a=none→(sl.getD i sl0).c=0))∧∀x,(sl.getD i sl0).a=some x→L+1≤x.block
 bel:Below L w W
theorem Box.next{W W':World}(h:Box w L V sl zs W)(hb:zB W W'):Box w L V sl zs W':=
 ⟨h.blk.next hb,h.row.next hb,h.recs.below hb,h.new,h.bel.trans (hb.mono (Nat.le_of_lt h.blk.lt))⟩
theorem Box.far{W:World}(h:Box w L V sl zs W):some L≠V.ownBlock:=own_far h.row (Nat.lt_succ_self _)
theorem Box.kept{W W':World}(h:Box w L V sl zs W)(hg:W.grownBy W' V.ownBlock):Blk W' L #[V] 140:=by
 have a:=h.blk;show W'.heap[L]?=_;rw[hg.block L h.blk.lt h.far];exact a
theorem lr_upd{T t:TypeId}{w W:World}{cs:Array Value}{v:Value}{l:List Sli}(h:Lr T w (L+1) v l)(hU:Upd w W L cs t):Lr T W (L+1) v l:=by
 refine⟨h.1,?_⟩;rcases h.2 with e|⟨g,a,b,f,d,c,rest⟩
 ·exact .inl e
 ·exact .inr ⟨g,a,b,f,d,hU.keep c (by omega),rest⟩
theorem snoc_at(sl:List Sli)(r:Sli)(i:Nat)(hi:i<(sl++[r]).length):(i<sl.length∧(sl++[r]).getD i sl0=sl.getD i sl0)∨(i=sl.length∧(sl++[r]).getD i sl0=r):=by
 by_cases b:i<sl.length
 ·exact .inl ⟨b,by simp[List.getD,List.getElem?_append_left b]⟩
 ·have a:i=sl.length:=by simp at hi;omega
  exact .inr ⟨a,by rw[a];simp[List.getD]⟩
theorem box_step{w U W3 W4:World}{V v:Value}{r:Sli}{R:List Int}(hB:Box w L V sl zs U){g off:Nat}(ha:r.a=some ⟨g,off,none⟩)(hg:g<U.heap.size)(hne:some g≠V.ownBlock)(hL:L+1≤g)(hrow:RowU U r.a r.n R)(hn:r.n≤100000∧r.n≤r.c∧(r.a=none→r.c=0))
  (h3:Lr 25 W3 (L+1) v (sl++[r])) (hgr:U.grownBy W3 V.ownBlock) (ho:v.ownBlock=V.ownBlock∨v.ownBlock=some U.heap.size) (hU:Upd W3 W4 L #[v] 140):Box w L v (sl++[r]) (zs++[R]) W4:=by
 have d:∀i,i<(sl++[r]).length→(((sl++[r]).getD i sl0).n≤100000∧((sl++[r]).getD i sl0).n≤((sl++[r]).getD i sl0).c∧(((sl++[r]).getD i sl0).a=none→((sl++[r]).getD i sl0).c=0))∧∀x,((sl++[r]).getD i sl0).a=some x→L+1≤x.block:=λi k=>by
  rcases snoc_at sl r i k with⟨A,e⟩|⟨_,e⟩
  ·rw[e];exact hB.new i A
  ·rw[e];refine⟨hn,λx q=>?_⟩;rw[ha] at q;cases q;exact hL
 have f:Recs W3 v.ownBlock (sl++[r]) (zs++[R]):=(hB.recs.snoc (s:=r) (z:=R) ⟨⟨g,off,ha,hg,hne⟩,hrow⟩).grown hgr ho;refine⟨hU.blk,lr_upd h3 hU,⟨f.1,λi k=>?_⟩,d,?_⟩
 ·obtain⟨⟨b,o,h,t,u⟩,m⟩:=f.2 i k;have l:=(d i k).2 _ h;refine⟨⟨b,o,h,by rw[hU.size];exact t,u⟩,m.1,?_⟩;rcases m.2 with y|⟨D,E,p,B⟩
  ·exact .inl y
  ·rw[h] at p;cases p;exact .inr ⟨b,o,h,λj C=>(hU.cell ⟨b,o+j,none⟩ (by show b≠L;simp only at l;omega) rfl).trans (B j C)⟩
 ·refine hU.bel _ _ zc ?_;exact own_bel hB.row hgr hB.bel (Nat.le_succ _) (Nat.le_of_lt hB.blk.lt)
theorem Box.reads{W:World}(h:Box w L V sl zs W):∃a cap,V=.slice a zs.length cap∧ReadsF W L a zs.length zs:=by
 obtain⟨a,cap,f⟩:=h.row.len;have d:=h.recs.1;refine⟨a,cap,by rw[← d];exact f,rfl,?_⟩;by_cases j:zs.length=0
 ·exact .inl j
 ·obtain⟨g,e,c,l,o,_,k⟩:=h.row.row (by rw[d];omega);rw[f] at c;injection c with ea _ _
  refine .inr ⟨g,0,ea,by omega,o,λi m=>?_⟩;have b:i<sl.length:=by rw[d];exact m
  refine⟨sl.getD i sl0,by rw[Nat.zero_add];exact k i b,(h.recs.2 i b).2,(h.new i b).1,λx n=>?_⟩;have:=(h.new i b).2 x n;omega
end disk
namespace acc
open tar (Du du0 Came RowD Ld PairT)
open Go.RowKit
theorem powe1(B0 g:Nat)(x:Ac)(p:Option Addr)(len cap:Nat)(q:Du)(w:World)(hB0:Blk w B0 #[zI q.a,zI q.b] 42)(hw:Blk w g (wcs x bi0 p len cap) 132)(hl:Ld 42 w (g+1) (.slice p len cap) x.ds)(ha:AMay x):Calls Tryz.prog 190 #[.pointer (some ⟨g,0,none⟩),.pointer (some ⟨B0,0,none⟩)] w λe w'=>WPost w g (Or0 (λy _ f=>OweIs x q y f)) e w':=by
 have d:=zh (powe g x p len cap q w hw hl ha);have i:=zh hB0;clear hw ha hl;go_enter Tryz.func190,Tryz.ntmps190;go_wp2_with refine zw ?_;refine d.o.mono ?_;rintro e l h;have j:=zh h;obtain⟨y,b,k,n,c,f,rfl,_⟩:=h;go_wp2_with fail;go_ret;exact j.o
theorem kowe:KcOwe:=by
 intro w x p len j q Y hq;unfold Ac.v Ac.cs;obtain⟨k,i,F,s,G,n,a9⟩:=sh3 w #[zI x.me,zI x.rv,zI x.nx,zI x.mo,zI x.bo,zI x.fr,.slice p len j] 55 #[zI q.a,zI q.b] 42 #[zI 0,zI 0,zI 0,zI 0,zI 0,zI 0,zS] 55;have r:=zh (Y.ds.below n.o);go_enter Tryz.func182,Tryz.ntmps182;go_upto_region 1 with fail
 rw[i.o];have U:Hid (∀W,zB k W→Blk W (w.heap.size+1) #[zI q.a,zI q.b] 42):=λW hW=>s.o.next hW
 have T:Hid (zC 32 #[.agg #[zI x.me,zI x.rv,zI x.nx,zI x.mo,zI x.bo,zI x.fr,.slice p len j],.func (.func 190) #[] #[.pointer (some ⟨w.heap.size+1,0,none⟩)]] k λe w'=>BPost k (λy _ f=>OweIs x q y f) e w'):=by
  refine pwork 190 #[.pointer (some ⟨w.heap.size+1,0,none⟩)] (λy _ f=>OweIs x q y f) x p len j k r.o (λh=> .inl ⟨h,rfl,rfl⟩) (λ_ _=>by kernel_rfl) ?_;intro hm W g p' A hB hg B V;exact powe1 _ g x p' len A q W (U.o W hB) B V hm
 clear Y;go_wp2_with refine zw ?_;refine T.o.mono ?_;rintro e w1 ⟨b,l,E,D,C,X,rfl,Z,hf,c⟩;obtain⟨I,J,K⟩:=zn3 c F s G;have a3:=zh (r.o.below c);have H:=shB n c;have a2:=c.size;clear c;unfold Ac.v Ac.cs Bi.v;have t:=zh hf;have z:=zh (came_lt t.o.came);have HV:=zh Z;clear hf Z;obtain⟨W4,i,P,M,d,a0⟩:=sh2 w1 #[zI b.me,zI b.rv,zI b.nx,zI b.mo,zI b.bo,zI b.fr,.slice E D C] 55 #[zI l.id,zI l.te,zI l.de,zI l.fe,zI l.pr,zI l.ch,zI l.un] 33;obtain⟨N,O,a4⟩:=zn3 d.o I J K;have u:=zh (t.o.below d.o);have L:=shB H d.o;go_upto_region 2 with fail
 rw[i.o];go_wp2_with (first|refine zs ?_|refine zw ?_)
 intro W5 m;obtain⟨a6,a7,a8,a5⟩:=zk4 m N O P M;have S:=zyb m;have R:Hid (deb.Fresh W5 k.heap.size E D C b.ds):=fresh_updN u.o m (λhn y hy=>by have f1:=u.o.new hn y hy;have f2:=z.o hn y hy;omega);have Q:=zk m L;have a1:=m.size;clear m;go_wp2_with fail;exact zr (.tuple #[.agg #[zI b.me,zI b.rv,zI b.nx,zI b.mo,zI b.bo,zI b.fr,.slice E D C],zI X]) (by simp[results,Tryz.results182,scl7 S,go_sem]) ⟨b,E,D,C,X,rfl,HV.o,R.o.low (by omega),Q.o⟩
end acc
namespace book
open Go.RowKit
def KOf:Prop:=∀(W:World)(t:acc.Tm)(pt:Option Addr)(lt ct:Nat)(pl:Option Addr)(n cap:Nat)(l:List Ev),acc.TCame W t pt lt ct→ECame W pl n cap l→zC 72 #[t.v pt lt ct,.slice pl n cap] W λe w'=>BookPost W t l e w'
end book
namespace words
open Go.RowKit
theorem overStep_any(B M:Nat)(n x d:Int)(w:World)(hc:w.cell? ⟨B,0,none⟩=some (.int .u64 n))(hf:w.frozen? ⟨B,0,none⟩=false)(hm:w.cell? ⟨M,0,none⟩=some (.int .u32 d))(hBM:M≠B)(n0:0≤n)(n1:n<d)(x0:0≤x)(x1:x<4294967296)(d0:0<d)(d1:d<4294967296):
  Calls Tryz.prog 169 #[.int .u32 x,.pointer (some ⟨B,0,none⟩),.pointer (some ⟨M,0,none⟩)] w λe w'=>e=.returned (.int .u32 ((n*4294967296+x)/d))∧Acc w w' B (.int .u64 ((n*4294967296+x)%d)):=by
 have a:Acc w w B (.int .u64 n):=Acc.refl hc hf;have b:Hid (Acc w w B (.int .u64 n)):=a;have c:=or_words n x n0 (by omega) x0 x1;have q:=word_div d0 n0 n1 x0 x1;obtain⟨f,g⟩:=q;have h:0≤(n*4294967296+x)%d:=Int.emod_nonneg _ (by omega);have i:(n*4294967296+x)%d<d:=Int.emod_lt_of_pos _ d0;clear a;go_enter Tryz.func169,Tryz.ntmps169;go_wp2_with fail;go_ret;exact⟨rfl,b.o.set _⟩
theorem run_overStep(args:Array Value)(w:World):(callFunc 169 args).run Tryz.prog w=.ok (.enter 169 args) w:=by kernel_rfl
theorem over_any(x:W3)(d:Int)(w:World)(hx:x.ok)(d0:0<d)(d1:d<4294967296):
  Calls Tryz.prog 125 #[wv x,.int .u32 d] w λe w'=>e=.returned (.tuple #[wv (overW x d),.int .u32 (overR x d),zI 0])∧zB w w':=by
 obtain⟨c,b,a⟩:=x;obtain⟨⟨D,m⟩,⟨E,n⟩,F,p⟩:=hx;simp only at D m E n F p;have I:(d==0)=false:=by simp;omega
 go_enter Tryz.func125,Tryz.ntmps125;go_wp2_with fail;have i:=trio_d w #[.int .u32 c,.int .u32 b,.int .u32 a] (.int .u32 d) 83 (.int .u32 0) (.int .u32 0) (.int .u32 0) (.int .u64 0) 174;have q:=bel4 w (.cells #[.int .u32 c,.int .u32 b,.int .u32 a] 135) (.cells #[.int .u32 d] 83) (.cells #[.int .u32 0,.int .u32 0,.int .u32 0] 135) (.cells #[.int .u64 0] 174);have C:(0:Int)*4294967296+a=a:=by omega
 have A:0≤a%d:=Int.emod_nonneg _ (by omega);have s:a%d<d:=Int.emod_lt_of_pos _ d0;have y:0≤((a%d)*4294967296+b)%d:=Int.emod_nonneg _ (by omega);have r:((a%d)*4294967296+b)%d<d:=Int.emod_lt_of_pos _ d0
 refine (downward_any 169 #[.pointer (some ⟨w.heap.size+1+1+1,0,none⟩),.pointer (some ⟨w.heap.size+1,0,none⟩)] (w.heap.size+1+1+1) (.int .u64 0) (.int .u64 (a % d)) (.int .u64 (((a % d)*4294967296+b) % d)) (.int .u64 (((((a % d)*4294967296+b) % d)*4294967296+c) % d)) c b a
  (((((a%d)*4294967296+b)%d)*4294967296+c)/d) (((a%d)*4294967296+b)/d) (a/d) _ (Acc.refl i.1 i.2.1) run_overStep
  (λw' h=>by have:=overStep_any (w.heap.size+1+1+1) (w.heap.size+1) 0 a d w' h.cell h.free (h.keep i.2.2.2 (by omega)) (by omega) (by omega) (by omega) F p d0 d1;rw[C] at this;exact this)
  (λw' h=>overStep_any _ _ _ _ _ w' h.cell h.free (h.keep i.2.2.2 (by omega)) (by omega) A s E n d0 d1)
  (fun w' h=>overStep_any _ _ _ _ _ w' h.cell h.free (h.keep i.2.2.2 (by omega)) (by omega) y r D m d0 d1)).mono ?_
 rintro e t ⟨G,k⟩;have g:Trio t (w.heap.size+1+1) (.int .u32 0) (.int .u32 0) (.int .u32 0):=i.2.2.1.acc k (by omega);have B:Hid (zB w t):=k.below q (by omega);have j:=k.cell;have J:w.heap.size+1+1+1<t.heap.size:=Nat.lt_of_lt_of_le k.old k.size;have K:0≤((((a%d)*4294967296+b)%d)*4294967296+c)%d:=Int.emod_nonneg _ (by omega);have L:((((a%d)*4294967296+b)%d)*4294967296+c)%d<d:=Int.emod_lt_of_pos _ d0
 have l:Hid (Ending.returned (.tuple #[wv (overW ⟨c,b,a⟩ d),.int .u32 (overR ⟨c,b,a⟩ d),zI 0])=Ending.returned (.tuple #[.agg #[.int .u32 (((((a%d)*4294967296+b)%d)*4294967296+c)/d),.int .u32 (((a%d)*4294967296+b)/d),.int .u32 (a/d)],.int .u32 (((((a%d)*4294967296+b)%d)*4294967296+c)%d),zI 0])):=by
  have:Ending.returned (.tuple #[wv (overW ⟨c,b,a⟩ d),.int .u32 (overR ⟨c,b,a⟩ d),zI 0])=Ending.returned (.tuple #[.agg #[.int .u32 (((((a%d)*4294967296+b)%d)*4294967296+c)/d),.int .u32 (((a%d)*4294967296+b)/d),.int .u32 (a/d)],.int .u32 (((((a%d)*4294967296+b)%d)*4294967296+c)%d),zI 0]):=rfl;exact this
 clear k i q C y r A s;have f:Hid (e=.returned (.agg #[.int .u32 (((((a%d)*4294967296+b)%d)*4294967296+c)/d),.int .u32 (((a%d)*4294967296+b)/d),.int .u32 (a/d)])):=G;clear G;generalize hz:((((a%d)*4294967296+b)%d)*4294967296+c)%d=z at j K L l f;generalize hy0:((((a%d)*4294967296+b)%d)*4294967296+c)/d=y0 at l f;generalize hy1:((a%d)*4294967296+b)/d=y1 at l f;generalize hy2:a/d=y2 at l f;clear hz hy0 hy1 hy2;obtain rfl:=f.o;have g:=g.alloc (.cells #[.int .u32 y0,.int .u32 y1,.int .u32 y2] 135);have P:=g.c0;have y:=g.c1;have A:=g.c2;have M:=g.free 0;have N:=g.free 1;have O:=g.free 2;have H:Hid (Trio (t.alloc (.cells #[.int .u32 y0,.int .u32 y1,.int .u32 y2] 135)) (w.heap.size+1+1) (.int .u32 0) (.int .u32 0) (.int .u32 0)):=g;clear g;go_wp2_with fail;go_region
 all_goals go_wp2_with fail
 have u:=((H.o.set0 (.int .u32 y0)).set1 (.int .u32 y1)).set2 (.int .u32 y2);refine bodyPost_ret (v:=.tuple #[.agg #[.int .u32 y0,.int .u32 y1,.int .u32 y2],.int .u32 z,zI 0]) (by simp[results,Tryz.results125,u.c0,u.c1,u.c2,go_sem]) rfl ⟨l.o.symm,?_⟩;exact below_put (B.o.alloc B.o.size _) _ _ _ _ _ _ _ (by omega)
theorem Bg.parts{w:World}{z m:Nat}(h:Bg w z m):∃a n c,w.cell? ⟨z,0,none⟩=some (.bool false)∧w.cell? ⟨z,1,none⟩=some (.slice a n c)∧Ru w a n c (dig m):=by
 obtain⟨a,n,c,b,d⟩:=h;obtain⟨c0,c1,_,_⟩:=ob_cells b;exact⟨a,n,c,c0,c1,d⟩
def OpPost(w:World)(z r:Nat)(e:Ending)(w':World):Prop:=e=.returned (.pointer (some ⟨z,0,none⟩))∧Bg w' z r∧Ex w w' z
variable{w w1:World}
theorem cell_bel{p:Addr}{v:Value}(hb:zB w w1)(h:w.cell? p=some v):w1.cell? p=some v:=(hb.cell (World.block_lt_of_cell? w p h)).trans h
theorem cell_ex{z y i:Nat}{v:Value}(he:Ex w w1 z)(h:w.cell? ⟨y,i,none⟩=some v)(hne:y≠z):w1.cell? ⟨y,i,none⟩=some v:=
 (World.cell?_of_block (w:=w) (a:=⟨y,i,none⟩) (he.block y (World.block_lt_of_cell? w _ h) hne)).trans h
theorem neg_ex{z x:Nat}{v u:Value}(he:Ex w w1 z)(hz:w1.heap[z]?=some (.cells #[.bool false,u] 218 (0,0)))(h:w.cell? ⟨x,0,none⟩=some v)(hv:v=.bool false):w1.cell? ⟨x,0,none⟩=some (.bool false):=by
 subst hv;by_cases e:x=z
 ·subst e;exact(ob_cells hz).1
 ·exact cell_ex he h e
def SumGives(w:World)(m:Nat)(e:Ending)(w':World):Prop:=∃a n cap,e=.returned (.tuple #[.bool false,.slice a n cap])∧Ru w' a n cap (dig m)∧zB w w'
theorem SumGives.mk{w w':World}{m n cap:Nat}{a:Option Addr}(h1:Ru w' a n cap (dig m))(h2:zB w w'):SumGives w m (.returned (.tuple #[.bool false,.slice a n cap])) w':=⟨a,n,cap,rfl,h1,h2⟩
theorem sum_plus(a b:Option Addr)(n k ca cb:Nat)(la lb:List Nat)(w:World)(ha:Ru w a n ca la)(hb:Ru w b k cb lb)(hn:n≤100)(hk:k≤100):
  Calls Tryz.prog 139 #[.bool false,.slice a n ca,.bool false,.slice b k cb] w λe w'=>SumGives w (nv la+nv lb) e w':=by
 have l:(false==false)=true:=rfl;have d:Hid (zC 177 #[.slice a n ca,.slice b k cb] w λe w'=>Gives w (nv la+nv lb) e w'):=add_any a b n k ca cb la lb w ha hb hn hk;clear ha hb;go_enter Tryz.func139,Tryz.ntmps139;go_wp2_with fail;refine d.o.mono ?_;rintro e j ⟨g,i,h,rfl,c,hb⟩;have f:Hid (SumGives w (nv la+nv lb) (.returned (.tuple #[.bool false,.slice g i h])) j):=SumGives.mk c hb;clear c hb;go_wp2_with fail;go_ret2;exact f.o
theorem Mul_any(z x y m k:Nat)(w:World)(hx:Bg w x m)(hy:Bg w y k)(hz:Ob w z)(hyz:y≠z)(hm:(dig m).length≤100)(hk:(dig k).length≤100):
  Calls Tryz.prog 93 #[.pointer (some ⟨z,0,none⟩),.pointer (some ⟨x,0,none⟩),.pointer (some ⟨y,0,none⟩)] w λe w'=>OpPost w z (m*k) e w':=by
 obtain⟨G,I,H,R,U,u⟩:=hx.parts;obtain⟨h,l,j,T,y1,A⟩:=hy.parts;have N:(false != false)=false:=rfl
 have J:Hid (∀w',zB w w'→zC 138 #[.slice G I H,.slice h l j] w' λe t=>Gives w' (m*k) e t):=λw' f=>by
  have:=mul_any G h I l H j _ _ w' (u.below f) (A.below f) (by rw[← u.len];exact hm) (by rw[← A.len];exact hk)
  rwa [nv_dig,nv_dig] at this
 have C:Hid (Ob w z):=hz;have E:Hid (zB w w.drew):=(Below.refl _ w).drew;have n:Hid (w.drew.cell? ⟨x,0,none⟩=some (.bool false)∧w.drew.cell? ⟨y,0,none⟩=some (.bool false)∧w.drew.cell? ⟨y,1,none⟩=some (.slice h l j)):=⟨R,T,y1⟩
 clear hx hy hz u A hm hk;go_enter Tryz.func93,Tryz.ntmps93;go_wp2_with fail;refine wp_region_held_drew (S:=λg=>g.cell? ⟨x,0,none⟩=some (.bool false)∧g.cell? ⟨y,0,none⟩=some (.bool false)∧g.cell? ⟨y,1,none⟩=some (.slice h l j)) (by kernel_rfl) n.o ?_;intro M;refine wpAnyH_take (i:=0) (v:=?v1) rfl (by kernel_rfl) (by kernel_rfl) (by kernel_rfl) zid (Or.inl ⟨by rfl,?y1⟩) (by assumption) ?_
 case y1=>(intro w a;(try dsimp only at a);go_simp;try (with_reducible rfl))
 try simp only[Act.put]
 try simp only[List.setIfInBounds_toArray]
 try simp only[List.set_cons_succ]
 try simp only[List.set_cons_zero]
 refine wpAnyH_take (i:=1) (v:=?v2) rfl (by kernel_rfl) (by kernel_rfl) (by kernel_rfl) zid (Or.inl ⟨by rfl,?y2⟩) (by assumption) ?_
 case y2=>(intro w a;(try dsimp only at a);go_simp;try (with_reducible rfl))
 try simp only[Act.put]
 try simp only[List.setIfInBounds_toArray]
 try simp only[List.set_cons_succ]
 try simp only[List.set_cons_zero]
 refine wpAnyH_take (i:=2) (v:=?v3) rfl (by kernel_rfl) (by kernel_rfl) (by kernel_rfl) zid (Or.inl ⟨by rfl,?y3⟩) (by assumption) ?_
 case y3=>(intro w a;(try dsimp only at a);go_simp;try (with_reducible rfl))
 try simp only[Act.put]
 try simp only[List.setIfInBounds_toArray]
 try simp only[List.set_cons_succ]
 try simp only[List.set_cons_zero]
 refine wpAnyH_take (i:=3) (v:=?v4) rfl (by kernel_rfl) (by kernel_rfl) (by kernel_rfl) zid (Or.inl ⟨by rfl,?y4⟩) (by assumption) ?_
 case y4=>(intro w a;(try dsimp only at a);go_simp;try (with_reducible rfl))
 try simp only[Act.put]
 try simp only[List.setIfInBounds_toArray]
 try simp only[List.set_cons_succ]
 try simp only[List.set_cons_zero]
 refine wpAnyH_take (i:=4) (v:=?v5) rfl (by kernel_rfl) (by kernel_rfl) (by kernel_rfl) zid (Or.inl ⟨by rfl,?y5⟩) (by assumption) ?_
 case y5=>(intro w a;(try dsimp only at a);go_simp;try (with_reducible rfl))
 try simp only[Act.put]
 try simp only[List.setIfInBounds_toArray]
 try simp only[List.set_cons_succ]
 try simp only[List.set_cons_zero]
 refine wpAnyH_take (i:=5) (v:=?v6) rfl (by kernel_rfl) (by kernel_rfl) (by kernel_rfl) zid (Or.inl ⟨by rfl,?y6⟩) (by assumption) ?_
 case y6=>(intro w a;(try dsimp only at a);go_simp;try (with_reducible rfl))
 try simp only[Act.put]
 try simp only[List.setIfInBounds_toArray]
 try simp only[List.set_cons_succ]
 try simp only[List.set_cons_zero]
 refine wpAnyH_take (i:=6) (v:=?v7) rfl (by kernel_rfl) (by kernel_rfl) (by kernel_rfl) zid (Or.inl ⟨by rfl,?y7⟩) (by assumption) ?_
 case y7=>(intro w a;(try dsimp only at a);go_simp;try (with_reducible rfl))
 try simp only[Act.put]
 try simp only[List.setIfInBounds_toArray]
 try simp only[List.set_cons_succ]
 try simp only[List.set_cons_zero]
 refine wpAnyH_take (i:=7) (v:=?v8) rfl (by kernel_rfl) (by kernel_rfl) (by kernel_rfl) zid (Or.inl ⟨by rfl,?y8⟩) (by assumption) ?_
 case y8=>(intro w a;(try dsimp only at a);go_simp;try (with_reducible rfl))
 try simp only[Act.put]
 try simp only[List.setIfInBounds_toArray]
 try simp only[List.set_cons_succ]
 try simp only[List.set_cons_zero]
 refine wpAnyH_take (i:=8) (v:=?v9) rfl (by kernel_rfl) (by kernel_rfl) (by kernel_rfl) zid (Or.inl ⟨by rfl,?y9⟩) (by assumption) ?_
 case y9=>(intro w a;(try dsimp only at a);go_simp;try (with_reducible rfl))
 try simp only[Act.put]
 try simp only[List.setIfInBounds_toArray]
 try simp only[List.set_cons_succ]
 try simp only[List.set_cons_zero]
 refine wpAnyH_take (i:=9) (v:=?v10) rfl (by kernel_rfl) (by kernel_rfl) (by kernel_rfl) zid (Or.inl ⟨by rfl,?y10⟩) (by assumption) ?_
 case y10=>(intro w a;(try dsimp only at a);go_simp;try (with_reducible rfl))
 try simp only[Act.put]
 try simp only[List.setIfInBounds_toArray]
 try simp only[List.set_cons_succ]
 try simp only[List.set_cons_zero]
 refine wpAnyH_take (i:=10) (v:=?v11) rfl (by kernel_rfl) (by kernel_rfl) (by kernel_rfl) zid (Or.inl ⟨by rfl,?y11⟩) (by assumption) ?_
 case y11=>(intro w a;(try dsimp only at a);go_simp;try (with_reducible rfl))
 try simp only[Act.put]
 try simp only[List.setIfInBounds_toArray]
 try simp only[List.set_cons_succ]
 try simp only[List.set_cons_zero]
 refine wpAnyH_take (i:=11) (v:=?v12) rfl (by kernel_rfl) (by kernel_rfl) (by kernel_rfl) zid (Or.inl ⟨by rfl,?y12⟩) (by assumption) ?_
 case y12=>(intro w a;(try dsimp only at a);go_simp;try (with_reducible rfl))
 try simp only[Act.put]
 try simp only[List.setIfInBounds_toArray]
 try simp only[List.set_cons_succ]
 try simp only[List.set_cons_zero]
 refine wpAnyH_take (i:=12) (v:=?v13) rfl (by kernel_rfl) (by kernel_rfl) (by kernel_rfl) zid (Or.inl ⟨by rfl,?y13⟩) (by assumption) ?_
 case y13=>(intro w a;(try dsimp only at a);go_simp;try (with_reducible rfl))
 try simp only[Act.put]
 try simp only[List.setIfInBounds_toArray]
 try simp only[List.set_cons_succ]
 try simp only[List.set_cons_zero]
 refine wpAnyH_take (i:=14) (v:=?v14) rfl (by kernel_rfl) (by kernel_rfl) (by kernel_rfl) zid (Or.inl ⟨by rfl,?y14⟩) (by assumption) ?_
 case y14=>(intro w a;(try dsimp only at a);go_simp;try (with_reducible rfl))
 try simp only[Act.put]
 try simp only[List.setIfInBounds_toArray]
 try simp only[List.set_cons_succ]
 try simp only[List.set_cons_zero]
 refine wpAnyH_take (i:=15) (v:=?v15) rfl (by kernel_rfl) (by kernel_rfl) (by kernel_rfl) zid (Or.inl ⟨by rfl,?y15⟩) (by assumption) ?_
 case y15=>(intro w a;(try dsimp only at a);go_simp;try (with_reducible rfl))
 try simp only[Act.put]
 try simp only[List.setIfInBounds_toArray]
 try simp only[List.set_cons_succ]
 try simp only[List.set_cons_zero]
 refine wpAnyH_take (i:=16) (v:=?v16) rfl (by kernel_rfl) (by kernel_rfl) (by kernel_rfl) zid (Or.inl ⟨by rfl,?y16⟩) (by assumption) ?_
 case y16=>(intro w a;(try dsimp only at a);go_simp;try (with_reducible rfl))
 try simp only[Act.put]
 try simp only[List.setIfInBounds_toArray]
 try simp only[List.set_cons_succ]
 try simp only[List.set_cons_zero]
 refine wpAnyH_take (i:=17) (v:=?v17) rfl (by kernel_rfl) (by kernel_rfl) (by kernel_rfl) zid (Or.inl ⟨by rfl,?y17⟩) (by assumption) ?_
 case y17=>(intro w a;(try dsimp only at a);go_simp;try (with_reducible rfl))
 try simp only[Act.put]
 try simp only[List.setIfInBounds_toArray]
 try simp only[List.set_cons_succ]
 try simp only[List.set_cons_zero]
 refine wpAnyH_ready (rs:=[13]) (by kernel_rfl) (by simp) ?_;refine AllReadyH.cons rfl (λK d=>?_) AllReadyH.nil;go_simp;refine d.o _ _ n.o (λb=>?_);clear d K;refine wpAnyH_ready (rs:=[18]) (by kernel_rfl) (by simp) ?_;refine AllReadyH.cons rfl (λK d=>?_) AllReadyH.nil;go_simp;go_wp2_with fail;refine(J.o _ E.o).mono ?_;rintro e g ⟨O,Q,P,rfl,F,f⟩;have r:=shB E f;have q:Hid (g.cell? ⟨x,0,none⟩=some (.bool false)∧g.cell? ⟨y,0,none⟩=some (.bool false)∧g.cell? ⟨y,1,none⟩=some (.slice h l j)):=⟨cell_bel f n.o.1,cell_bel f n.o.2.1,cell_bel f n.o.2.2⟩
 have L:Hid (Ru g O Q P (dig (m*k))):=F;clear f F
 try go_simp
 refine d.o _ _ q.o (λb=>?_);clear d K;refine wpAnyH_ready (rs:=[19]) (by kernel_rfl) (by simp) ?_;refine AllReadyH.cons rfl (λK d=>?_) AllReadyH.nil;go_simp;go_wp2_with fail;refine(give_any z _ _ _ _ (C.o.below r.o)).mono ?_;rintro e p ⟨rfl,s,c⟩;have D:Hid (p.cell? ⟨x,0,none⟩=some (.bool false)∧p.cell? ⟨y,0,none⟩=some (.bool false)∧p.cell? ⟨y,1,none⟩=some (.slice h l j)):=⟨neg_ex c s q.o.1 rfl,cell_ex c q.o.2.1 hyz,cell_ex c q.o.2.2 hyz⟩
 have B:Hid (Bg p z (m*k)∧Ex w p z):=⟨⟨_,_,_,s,L.o.ex (C.o.below r.o) c⟩,Ex.of r.o c⟩
 clear s c
 try go_simp
 refine d.o _ _ D.o (λb=>?_);clear d K;refine wpAnyH_ready (rs:=[20]) (by kernel_rfl) (by simp) ?_;refine AllReadyH.cons rfl (λK d=>?_) AllReadyH.nil;go_simp;refine d.o _ _ D.o (λb=>?_);clear d K;refine wpAnyH_done (by kernel_rfl) ?_ _;go_wp2_with fail;go_ret;exact⟨rfl,B.o.1,B.o.2⟩
theorem Add_any(z x y m k:Nat)(w:World)(hx:Bg w x m)(hy:Bg w y k)(hz:Ob w z)(hyz:y≠z)(hm:(dig m).length≤100)(hk:(dig k).length≤100):
  Calls Tryz.prog 94 #[.pointer (some ⟨z,0,none⟩),.pointer (some ⟨x,0,none⟩),.pointer (some ⟨y,0,none⟩)] w λe w'=>OpPost w z (m+k) e w':=by
 obtain⟨G,I,H,R,V,u⟩:=hx.parts;obtain⟨h,l,j,T,U,A⟩:=hy.parts;have N:(false != false)=false:=rfl
 have J:Hid (∀w',zB w w'→zC 139 #[.bool false,.slice G I H,.bool false,.slice h l j] w' λe t=>SumGives w' (m+k) e t):=λw' f=>by
  have:=sum_plus G h I l H j _ _ w' (u.below f) (A.below f) (by rw[← u.len];exact hm) (by rw[← A.len];exact hk)
  rwa [nv_dig,nv_dig] at this
 have C:Hid (Ob w z):=hz;have E:Hid (zB w w.drew):=(Below.refl _ w).drew;have n:Hid (w.drew.cell? ⟨x,0,none⟩=some (.bool false)∧w.drew.cell? ⟨y,0,none⟩=some (.bool false)∧w.drew.cell? ⟨y,1,none⟩=some (.slice h l j)):=⟨R,T,U⟩
 clear hx hy hz u A hm hk;go_enter Tryz.func94,Tryz.ntmps94;go_wp2_with fail;refine wp_region_held_drew (S:=λg=>g.cell? ⟨x,0,none⟩=some (.bool false)∧g.cell? ⟨y,0,none⟩=some (.bool false)∧g.cell? ⟨y,1,none⟩=some (.slice h l j)) (by kernel_rfl) n.o ?_;intro M;refine wpAnyH_take (i:=0) (v:=?v18) rfl (by kernel_rfl) (by kernel_rfl) (by kernel_rfl) zid (Or.inl ⟨by rfl,?y18⟩) (by assumption) ?_
 case y18=>(intro w a;(try dsimp only at a);go_simp;try (with_reducible rfl))
 try simp only[Act.put]
 try simp only[List.setIfInBounds_toArray]
 try simp only[List.set_cons_succ]
 try simp only[List.set_cons_zero]
 refine wpAnyH_take (i:=1) (v:=?v19) rfl (by kernel_rfl) (by kernel_rfl) (by kernel_rfl) zid (Or.inl ⟨by rfl,?y19⟩) (by assumption) ?_
 case y19=>(intro w a;(try dsimp only at a);go_simp;try (with_reducible rfl))
 try simp only[Act.put]
 try simp only[List.setIfInBounds_toArray]
 try simp only[List.set_cons_succ]
 try simp only[List.set_cons_zero]
 refine wpAnyH_take (i:=2) (v:=?v20) rfl (by kernel_rfl) (by kernel_rfl) (by kernel_rfl) zid (Or.inl ⟨by rfl,?y20⟩) (by assumption) ?_
 case y20=>(intro w a;(try dsimp only at a);go_simp;try (with_reducible rfl))
 try simp only[Act.put]
 try simp only[List.setIfInBounds_toArray]
 try simp only[List.set_cons_succ]
 try simp only[List.set_cons_zero]
 refine wpAnyH_take (i:=3) (v:=?v21) rfl (by kernel_rfl) (by kernel_rfl) (by kernel_rfl) zid (Or.inl ⟨by rfl,?y21⟩) (by assumption) ?_
 case y21=>(intro w a;(try dsimp only at a);go_simp;try (with_reducible rfl))
 try simp only[Act.put]
 try simp only[List.setIfInBounds_toArray]
 try simp only[List.set_cons_succ]
 try simp only[List.set_cons_zero]
 refine wpAnyH_take (i:=4) (v:=?v22) rfl (by kernel_rfl) (by kernel_rfl) (by kernel_rfl) zid (Or.inl ⟨by rfl,?y22⟩) (by assumption) ?_
 case y22=>(intro w a;(try dsimp only at a);go_simp;try (with_reducible rfl))
 try simp only[Act.put]
 try simp only[List.setIfInBounds_toArray]
 try simp only[List.set_cons_succ]
 try simp only[List.set_cons_zero]
 refine wpAnyH_take (i:=5) (v:=?v23) rfl (by kernel_rfl) (by kernel_rfl) (by kernel_rfl) zid (Or.inl ⟨by rfl,?y23⟩) (by assumption) ?_
 case y23=>(intro w a;(try dsimp only at a);go_simp;try (with_reducible rfl))
 try simp only[Act.put]
 try simp only[List.setIfInBounds_toArray]
 try simp only[List.set_cons_succ]
 try simp only[List.set_cons_zero]
 refine wpAnyH_take (i:=6) (v:=?v24) rfl (by kernel_rfl) (by kernel_rfl) (by kernel_rfl) zid (Or.inl ⟨by rfl,?y24⟩) (by assumption) ?_
 case y24=>(intro w a;(try dsimp only at a);go_simp;try (with_reducible rfl))
 try simp only[Act.put]
 try simp only[List.setIfInBounds_toArray]
 try simp only[List.set_cons_succ]
 try simp only[List.set_cons_zero]
 refine wpAnyH_take (i:=7) (v:=?v25) rfl (by kernel_rfl) (by kernel_rfl) (by kernel_rfl) zid (Or.inl ⟨by rfl,?y25⟩) (by assumption) ?_
 case y25=>(intro w a;(try dsimp only at a);go_simp;try (with_reducible rfl))
 try simp only[Act.put]
 try simp only[List.setIfInBounds_toArray]
 try simp only[List.set_cons_succ]
 try simp only[List.set_cons_zero]
 refine wpAnyH_take (i:=9) (v:=?v26) rfl (by kernel_rfl) (by kernel_rfl) (by kernel_rfl) zid (Or.inl ⟨by rfl,?y26⟩) (by assumption) ?_
 case y26=>(intro w a;(try dsimp only at a);go_simp;try (with_reducible rfl))
 try simp only[Act.put]
 try simp only[List.setIfInBounds_toArray]
 try simp only[List.set_cons_succ]
 try simp only[List.set_cons_zero]
 refine wpAnyH_take (i:=10) (v:=?v27) rfl (by kernel_rfl) (by kernel_rfl) (by kernel_rfl) zid (Or.inl ⟨by rfl,?y27⟩) (by assumption) ?_
 case y27=>(intro w a;(try dsimp only at a);go_simp;try (with_reducible rfl))
 try simp only[Act.put]
 try simp only[List.setIfInBounds_toArray]
 try simp only[List.set_cons_succ]
 try simp only[List.set_cons_zero]
 refine wpAnyH_take (i:=11) (v:=?v28) rfl (by kernel_rfl) (by kernel_rfl) (by kernel_rfl) zid (Or.inl ⟨by rfl,?y28⟩) (by assumption) ?_
 case y28=>(intro w a;(try dsimp only at a);go_simp;try (with_reducible rfl))
 try simp only[Act.put]
 try simp only[List.setIfInBounds_toArray]
 try simp only[List.set_cons_succ]
 try simp only[List.set_cons_zero]
 refine wpAnyH_take (i:=12) (v:=?v29) rfl (by kernel_rfl) (by kernel_rfl) (by kernel_rfl) zid (Or.inl ⟨by rfl,?y29⟩) (by assumption) ?_
 case y29=>(intro w a;(try dsimp only at a);go_simp;try (with_reducible rfl))
 try simp only[Act.put]
 try simp only[List.setIfInBounds_toArray]
 try simp only[List.set_cons_succ]
 try simp only[List.set_cons_zero]
 refine wpAnyH_take (i:=13) (v:=?v30) rfl (by kernel_rfl) (by kernel_rfl) (by kernel_rfl) zid (Or.inl ⟨by rfl,?y30⟩) (by assumption) ?_
 case y30=>(intro w a;(try dsimp only at a);go_simp;try (with_reducible rfl))
 try simp only[Act.put]
 try simp only[List.setIfInBounds_toArray]
 try simp only[List.set_cons_succ]
 try simp only[List.set_cons_zero]
 refine wpAnyH_take (i:=14) (v:=?v31) rfl (by kernel_rfl) (by kernel_rfl) (by kernel_rfl) zid (Or.inl ⟨by rfl,?y31⟩) (by assumption) ?_
 case y31=>(intro w a;(try dsimp only at a);go_simp;try (with_reducible rfl))
 try simp only[Act.put]
 try simp only[List.setIfInBounds_toArray]
 try simp only[List.set_cons_succ]
 try simp only[List.set_cons_zero]
 refine wpAnyH_take (i:=15) (v:=?v32) rfl (by kernel_rfl) (by kernel_rfl) (by kernel_rfl) zid (Or.inl ⟨by rfl,?y32⟩) (by assumption) ?_
 case y32=>(intro w a;(try dsimp only at a);go_simp;try (with_reducible rfl))
 try simp only[Act.put]
 try simp only[List.setIfInBounds_toArray]
 try simp only[List.set_cons_succ]
 try simp only[List.set_cons_zero]
 refine wpAnyH_take (i:=16) (v:=?v33) rfl (by kernel_rfl) (by kernel_rfl) (by kernel_rfl) zid (Or.inl ⟨by rfl,?y33⟩) (by assumption) ?_
 case y33=>(intro w a;(try dsimp only at a);go_simp;try (with_reducible rfl))
 try simp only[Act.put]
 try simp only[List.setIfInBounds_toArray]
 try simp only[List.set_cons_succ]
 try simp only[List.set_cons_zero]
 refine wpAnyH_ready (rs:=[8]) (by kernel_rfl) (by simp) ?_;refine AllReadyH.cons rfl (λK d=>?_) AllReadyH.nil;go_simp;refine d.o _ _ n.o (λb=>?_);clear d K;refine wpAnyH_ready (rs:=[17]) (by kernel_rfl) (by simp) ?_;refine AllReadyH.cons rfl (λK d=>?_) AllReadyH.nil;go_simp;go_wp2_with fail;refine(J.o _ E.o).mono ?_;rintro e g ⟨O,Q,P,rfl,F,f⟩;have r:=shB E f;have q:Hid (g.cell? ⟨x,0,none⟩=some (.bool false)∧g.cell? ⟨y,0,none⟩=some (.bool false)∧g.cell? ⟨y,1,none⟩=some (.slice h l j)):=⟨cell_bel f n.o.1,cell_bel f n.o.2.1,cell_bel f n.o.2.2⟩
 have L:Hid (Ru g O Q P (dig (m+k))):=F;clear f F
 try go_simp
 refine d.o _ _ q.o (λb=>?_);clear d K;refine wpAnyH_take (i:=18) (v:=?v34) rfl (by kernel_rfl) (by kernel_rfl) (by kernel_rfl) zid (Or.inl ⟨by rfl,?y34⟩) (by assumption) ?_
 case y34=>(intro w a;(try dsimp only at a);go_simp;try (with_reducible rfl))
 try simp only[Act.put]
 try simp only[List.setIfInBounds_toArray]
 try simp only[List.set_cons_succ]
 try simp only[List.set_cons_zero]
 refine wpAnyH_take (i:=19) (v:=?v35) rfl (by kernel_rfl) (by kernel_rfl) (by kernel_rfl) zid (Or.inl ⟨by rfl,?y35⟩) (by assumption) ?_
 case y35=>(intro w a;(try dsimp only at a);go_simp;try (with_reducible rfl))
 try simp only[Act.put]
 try simp only[List.setIfInBounds_toArray]
 try simp only[List.set_cons_succ]
 try simp only[List.set_cons_zero]
 refine wpAnyH_ready (rs:=[20]) (by kernel_rfl) (by simp) ?_;refine AllReadyH.cons rfl (λK d=>?_) AllReadyH.nil;go_simp;go_wp2_with fail;refine(give_any z _ _ _ _ (C.o.below r.o)).mono ?_;rintro e p ⟨rfl,s,c⟩;have D:Hid (p.cell? ⟨x,0,none⟩=some (.bool false)∧p.cell? ⟨y,0,none⟩=some (.bool false)∧p.cell? ⟨y,1,none⟩=some (.slice h l j)):=⟨neg_ex c s q.o.1 rfl,cell_ex c q.o.2.1 hyz,cell_ex c q.o.2.2 hyz⟩
 have B:Hid (Bg p z (m+k)∧Ex w p z):=⟨⟨_,_,_,s,L.o.ex (C.o.below r.o) c⟩,Ex.of r.o c⟩
 clear s c
 try go_simp
 refine d.o _ _ D.o (λb=>?_);clear d K;refine wpAnyH_ready (rs:=[21]) (by kernel_rfl) (by simp) ?_;refine AllReadyH.cons rfl (λK d=>?_) AllReadyH.nil;go_simp;refine d.o _ _ D.o (λb=>?_);clear d K;refine wpAnyH_done (by kernel_rfl) ?_ _;go_wp2_with fail;go_ret;exact⟨rfl,B.o.1,B.o.2⟩
theorem len100{m:Nat}(h:m<4294967296^8):(dig m).length≤100:=by
 have:=dig_len 8 h;omega
theorem nf_lt{f:Nat→Nat}:∀{n:Nat},(∀i,i<n→f i<4294967296)→nf f n<4294967296^n
 |0,_=>by simp[nf]
 |n+1,h=>by
  have h1:=nf_lt (f:=f) (n:=n) λi b=>h i (by omega);have a:=h n (by omega);rw[nf,Nat.pow_succ];have:4294967296^n*(f n+1)≤4294967296^n*4294967296:=Nat.mul_le_mul_left _ (by omega);rw[Nat.mul_add] at this;omega
theorem dig_nf(m:Nat):nf (λi=>(dig m).getD i 0) (dig m).length=m:=by rw[← nv_nf,nv_dig]
theorem dig_word(m i:Nat):(dig m).getD i 0<4294967296:=by
 by_cases a:i<(dig m).length
 ·exact dig_lt m _ (by simp[List.getD,List.getElem?_eq_getElem a])
 ·simp[List.getD,List.getElem?_eq_none (show (dig m).length≤i by omega)]
theorem dig_low(m:Nat):m<4294967296^(dig m).length:=by
 have:=nf_lt (f:=λi=>(dig m).getD i 0) (n:=(dig m).length) λi _=>dig_word m i
 rwa [dig_nf] at this
theorem dig_high:∀(m k:Nat),(dig m).length=k+1→4294967296^k≤m:=by
 intro m k
 induction k generalizing m with
 |zero=>
  intro h;have:m≠0:=by intro e;rw[e,dig_zero] at h;simp at h
  simp;omega
 |succ k ih=>
  intro h;have a:m≠0:=by intro e;rw[e,dig_zero] at h;simp at h
  rw[dig_pos a] at h;have:=ih (m/4294967296) (by simpa using h);rw[Nat.pow_succ];have b:=Nat.mul_le_mul_right 4294967296 this;omega
theorem len_less{m k:Nat}(h:(dig m).length<(dig k).length):m<k:=by
 have a:=dig_low m;have b:=dig_high k ((dig k).length-1) (by omega);have c:4294967296^(dig m).length≤4294967296^((dig k).length-1):=Nat.pow_le_pow_right (by decide) (by omega);omega
end words
end Go.Proofs.YtoepgdhiepedeaaGreatDoor
