import Derived.Test.YtoepgdhiepedeaaGreatDoorVVSls22
import Derived.Test.YtoepgdhiepedeaaGreatDoorVVSls28
import Derived.Test.YtoepgdhiepedeaaGreatDoorVVSls29
set_option linter.unusedVariables false
set_option linter.unusedSimpArgs false
set_option maxHeartbeats 4000000
set_option maxRecDepth 100000
namespace Go.Proofs.YtoepgdhiepedeaaGreatDoor
namespace disk
open Go.RowKit cell
theorem replayed(a:Option Addr)(n cap:Nat)(c:List Int)(w:World)(h:RowU w a n c)(hw:∀x∈c,0≤x∧x<4294967296):
  Calls Tryz.prog 81 #[.slice a n cap] w λe w'=>RepPost w c e w':=by
 have hcl:=h.1;by_cases hmay:1≤n∧n≤2048
 ·have HM:Hid (∀W,Calls Tryz.prog 47 #[zI (n:Int),zI 1,zI 2048] W λe w'=>e=.returned (.bool true)∧w'=W):=λW=>in_yes _ _ _ W (by omega) (by omega);have HLN:Hid (∀W p,Below w.heap.size w W→p≤n→Calls Tryz.prog 132 #[.slice a n cap,zI (p:Int)] W λe w'=>e=.returned (zI (lenAt c p))∧w'=W):=λW p hB hp=>length_any a n cap p c W (h.below hB) hmay.2 hp hw;have HL0:Hid (Calls Tryz.prog 132 #[.slice a n cap,zI 0] w λe w'=>e=.returned (zI (lenAt c 0))∧w'=w):=HLN.o w 0 (Below.refl _ _) (Nat.zero_le _);obtain⟨b,o,rfl,lb,hc⟩:=h.at (by omega);have HCL:Hid (∀W,Below w.heap.size w W→∀j,j<n→W.cell? ⟨b,o+j,none⟩=some (.int .u32 (c.getD j 0))):=λW hB j hj=>(hB.cell (p:=⟨b,o+j,none⟩) lb).trans (hc j hj);have HMY:Hid (May c):=⟨by omega,by omega⟩
  have HN:Hid (c.length=n):=hcl;obtain⟨hn1,hn2⟩:=hmay;clear h hw hc lb hcl;go_enter Tryz.func81,Tryz.ntmps81;go_wp2_with fail;refine(HM.o _).mono ?_;rintro e w1 ⟨rfl,hq⟩;subst w1;go_wp2_with fail;refine HL0.o.mono ?_;rintro e w1 ⟨rfl,hq⟩;subst w1;go_wp2_with fail;go_loopw [5,6,7] (λv5 v6 v7 wr=>∃(k p:Nat)(V:Value)(sl:List Sli),p≤n∧V=v5∧v6=zI (p:Int)∧v7=zI (lenAt c p)∧(itD c k).2=p∧Lr 25 wr w.heap.size V sl∧Recs wr V.ownBlock sl (itD c k).1∧sl.length≤p∧Below w.heap.size w wr) (λ_ v6 _ _=>n+1-(intOf v6).toNat)
  case atStart=>exact⟨0,0,_,[],Nat.zero_le _,rfl,rfl,rfl,rfl,Lr.zero _ _ _,Recs.nil _ _,Nat.le_refl _,Below.refl _ _⟩
  case round=>
   obtain⟨k,p,V,sl,hp,hV,rfl,rfl,hk,hlr,hrc,hsl,hbl⟩:=hrel;subst hV;have HLR:Hid (Lr 25 wr w.heap.size V sl):=hlr;have HRC:Hid (Recs wr V.ownBlock sl (itD c k).1):=hrc;have HBL:Hid (Below w.heap.size w wr):=hbl;have HK:Hid ((itD c k).2=p):=hk;clear hlr hrc hbl hk;obtain⟨wo,hwo⟩:∃wo,wo=wr:=⟨_,rfl⟩
   subst hwo;by_cases hpos:0<lenAt c p
   ·obtain⟨q0,q1,q2,q3⟩:=len_pos hpos;obtain⟨m,hm⟩:∃m:Nat,lenAt c p=(m:Int):=⟨(lenAt c p).toNat,by omega⟩
    have hgm:(c.getD p 0).toNat=m:=by rw[← q0,hm];simp
    have hpm:p+m<n:=by have:=HN.o;omega
    have hm1:1≤m:=by omega
    have hm2:m≤64:=by omega
    have HIT:Hid (itD c (k+1)=((itD c k).1++[recAt c p],p+m+1)):=by
     have h:=it_live (c:=c) (k:=k) (by rw[HK.o];exact hpos);rw[HK.o,hm,Int.toNat_natCast] at h;exact h
    have HRL:Hid ((recAt c p).length=m):=rec_len hgm (by have:=HN.o;omega);have HRA:Hid (∀x,x<m→(recAt c p).getD x 0=c.getD (p+1+x) 0):=λx hx=>rec_at hgm hx;rw[hm];have e1:decide ((0:Int)<(m:Int))=true:=by simp;omega
    have hmk:∀W:World,(Instr.makeSlice 25 (zI (m:Int)) (zI (m:Int))).run Tryz.prog W=.ok (.slice (some ⟨W.heap.size,0,none⟩) m m) (W.alloc (.cells (arr (List.replicate m 0)) 83)):=make_u32 m (by omega);have HG0:Hid (Blk (wo.alloc (.cells (arr (List.replicate m 0)) 83)) wo.heap.size (arr (List.replicate m 0)) 83):=Blk.new _ _ _;have HB0:Hid (Below wo.heap.size wo (wo.alloc (.cells (arr (List.replicate m 0)) 83))):=(Below.refl _ _).alloc (Nat.le_refl _) _;have HZL:Hid ((List.replicate m (0:Int)).length=m):=List.length_replicate;have HSZ:Hid (w.heap.size≤wo.heap.size):=HBL.o.size
    have HL2:Hid (∀W,Below w.heap.size w W→Calls Tryz.prog 132 #[.slice (some ⟨b,o,none⟩) n cap,zI ((p:Int)+(m:Int)+1)] W λe w'=>e=.returned (zI (lenAt c (p+m+1)))∧w'=W):=λW hB=>by
     have h:=HLN.o W (p+m+1) hB (by omega)
     rwa [show ((p+m+1:Nat):Int)=(p:Int)+(m:Int)+1 by omega] at h
    clear hpos q0 q1 q2 q3 hm hgm;generalize List.replicate m (0:Int)=zz at *;generalize recAt c p=R at *;go_wp2_with fail;generalize wo.alloc (.cells (arr zz) 83)=W0 at *;generalize hgg:wo.heap.size=g at *;have HGG:Hid (wo.heap.size=g):=hgg;clear hgg hmk;go_loopw [9] (λi wq=>∃(x:Nat)(zs:List Int),x≤m∧i=zI (x:Int)∧zs.length=m∧(∀i,i<x→zs.getD i 0=R.getD i 0)∧Blk wq g (arr zs) 83∧Below g wo wq) (λi _=>m-(intOf i).toNat)
    case atStart=>exact⟨0,zz,Nat.zero_le _,rfl,HZL.o,λi hi=>absurd hi (Nat.not_lt_zero _),HG0.o,HB0.o⟩
    case round=>
     obtain⟨x,zs,hx,rfl,hzl,hze,hg,hb⟩:=hrel;have HKB:Hid (Blk wr g (arr zs) 83):=hg;have HB:Hid (Below g wo wr):=hb;have HBW:Hid (Below w.heap.size w wr):=HBL.o.trans (hb.mono HSZ.o);have HZ:Hid (zs.length=m∧∀i,i<x→zs.getD i 0=R.getD i 0):=⟨hzl,hze⟩
     clear hzl hze hg hb;by_cases hxm:x<m
     ·have k2:=HCL.o wr HBW.o (p+1+x) (by omega);rw[← HRA.o x hxm] at k2;have k0:=Blk.word HKB.o x (by rw[HZ.o.1];exact hxm);have k1:=HKB.o.free x
      have HNX:Hid (Blk (wr.setCell ⟨g,x,none⟩ (.int .u32 (R.getD x 0))) g (arr (zs.set x (R.getD x 0))) 83):=by
       have h:=HKB.o.set x (.int .u32 (R.getD x 0));rw[arr_set] at h;exact h
      have HBX:Hid (Below g wo (wr.setCell ⟨g,x,none⟩ (.int .u32 (R.getD x 0)))):=bel_set HB.o g x _ (Nat.le_refl _)
      have HZX:Hid ((zs.set x (R.getD x 0)).length=m∧∀i,i<x+1→(zs.set x (R.getD x 0)).getD i 0=R.getD i 0):=by
       refine⟨by rw[List.length_set];exact HZ.o.1,λi hi=>?_⟩;rw[set_at];by_cases e:i=x
       ·rw[if_pos ⟨e,by rw[HZ.o.1];exact hxm⟩,e]
       ·rw[if_neg (by omega)];exact HZ.o.2 i (by omega)
      generalize zs.set x (R.getD x 0)=zs2 at *;generalize R.getD x 0=u at *;generalize zs.getD x 0=u0 at *;go_wp2_with fail;go_roundw
      case rel=>exact⟨x+1,zs2,by omega,by go_num,HZX.o.1,HZX.o.2,HNX.o,HBX.o⟩
      case measure=>simp[intOf];omega
     ·obtain rfl:x=m:=by omega
      have HX:Hid (RowU wr (some ⟨g,0,none⟩) x R):=by
       have e:zs=R:=list_ext (by rw[HZ.o.1,HRL.o]) (λi hi=>HZ.o.2 i (by rw[HZ.o.1] at hi;exact hi));rw[← e];exact Blk.rowU HKB.o HZ.o.1
      have HGL:Hid (g<wr.heap.size):=HKB.o.lt;have HBO:Hid (Below wo.heap.size wo wr):=by show Below _ _ _;rw[HGG.o];exact HB.o
      have HNE:Hid (some g≠V.ownBlock):=λe=>by have:=(World.ownsRow.lt HLR.o g e.symm).2;have:=HGG.o;omega
      have HUA:Hid (∀o,Lr 25 (wr.alloc o) w.heap.size V sl):=λo=>(HLR.o.next HBO.o).alloc o;have HBA:Hid (∀o,Below w.heap.size w (wr.alloc o)):=λo=>HBW.o.alloc HBW.o.size o;have HRA2:Hid (∀o,Recs (wr.alloc o) V.ownBlock (sl++[⟨some ⟨g,0,none⟩,x,x⟩]) ((itD c k).1++[R])):=λo=>((HRC.o.below HBO.o).snoc ⟨⟨g,0,rfl,HGL.o,HNE.o⟩,HX.o⟩).below ((Below.refl _ _).alloc (Nat.le_refl _) _);have hs6:sl.length≤1000000:=by omega
      go_wp2_with (first|(refine wp_sli sliT rfl _ _ rfl w.heap.size wr.heap.size V sl ⟨some ⟨g,0,none⟩,x,x⟩ rfl rfl (HUA.o _) ((Blk.new wr _ _).cell 0) hs6 (by have:=HBW.o.size;simp;omega) ?_;intro v3 w3 h3 hg3 ho3;have HB3:Hid (Below w.heap.size w w3):=own_bel (HUA.o _) hg3 (HBA.o _) (Nat.le_refl _) (by have:=HBW.o.size;simp;omega);have H3:Hid (Lr 25 w3 w.heap.size v3 (sl++[⟨some ⟨g,0,none⟩,x,x⟩])):=h3;have HR3:Hid (Recs w3 v3.ownBlock (sl++[⟨some ⟨g,0,none⟩,x,x⟩]) ((itD c k).1++[R])):=(HRA2.o _).grown hg3 ho3;clear h3 hg3 ho3)|fail)
      refine(HL2.o _ HB3.o).mono ?_;rintro e w4 ⟨rfl,hq⟩;subst w4;go_wp2_with fail;go_roundw
      case rel=>exact⟨k+1,p+x+1,v3,sl++[⟨some ⟨g,0,none⟩,x,x⟩],by omega,rfl,by go_num,rfl,by rw[HIT.o],H3.o,by rw[HIT.o];exact HR3.o,by rw[List.length_append];simp;omega,HB3.o⟩
      case measure=>simp[intOf];omega
   ·have HRD:Hid (repD c=itD c k):=rep_of (by rw[HK.o];exact hpos);have e1:decide ((0:Int)<lenAt c p)=false:=by simpa using hpos
    by_cases hneg:lenAt c p<0
    ·have HRI:Hid (RepIs c [] 0 3):=.inr (.inl ⟨HMY.o,by rw[HRD.o,HK.o];exact hneg,rfl,rfl,rfl⟩);have e2:decide (lenAt c p<0)=true:=by simpa using hneg
     clear hpos hneg;generalize lenAt c p=z at *;go_wp2_with fail;go_ret3;exact⟨zS,[],[],0,3,rfl,Lr.zero _ _ _,Recs.nil _ _,HRI.o,HBL.o⟩
    ·have HRI:Hid (RepIs c (itD c k).1 (p:Int) 0):=.inr (.inr ⟨HMY.o,by rw[HRD.o,HK.o];omega,by rw[HRD.o],by rw[HRD.o,HK.o],rfl⟩);have e2:decide (lenAt c p<0)=false:=by simpa using hneg
     clear hpos hneg;generalize lenAt c p=z at *;go_wp2_with fail;go_ret3;exact⟨V,sl,_,_,0,rfl,HLR.o,HRC.o,HRI.o,HBL.o⟩
 ·have HM:Hid (∀W,Calls Tryz.prog 47 #[zI (n:Int),zI 1,zI 2048] W λe w'=>e=.returned (.bool false)∧w'=W):=λW=>in_no _ _ _ W (by omega);have HRI:Hid (RepIs c [] 0 1):=.inl ⟨λh=>hmay ⟨by rw[← hcl];exact h.1,by rw[← hcl];exact h.2⟩,rfl,rfl,rfl⟩;clear h hw hcl hmay;go_enter Tryz.func81,Tryz.ntmps81;go_wp2_with fail;refine(HM.o _).mono ?_;rintro e w1 ⟨rfl,hq⟩;subst w1;go_wp2_with fail;go_ret3;exact⟨zS,[],[],0,1,rfl,Lr.zero _ _ _,Recs.nil _ _,HRI.o,Below.refl _ _⟩
def AppPost(w:World)(c r:List Int)(e:Ending)(w':World):Prop:=
 ∃V ls f,e=.returned (.tuple #[V,zI f])∧Lw w' w.heap.size V ls∧AppIs c r ls f∧zB w w'
theorem put_next(p k:Nat)(r:List Int):putW p r k++[⟨(p:Int)+(k:Int)+1,r.getD k 0⟩]=putW p r (k+1):=by
 rw[putW,show ((p+k+1:Nat):Int)=(p:Int)+(k:Int)+1 by omega]
theorem app_yes{c:List Int}{p:Nat}{r:List Int}(h:p+r.length+1<c.length):putW p r r.length++[⟨(p:Int)+(r.length:Int)+1,0⟩]++[⟨(p:Int),(r.length:Int)⟩]=appW c p r:=by
 unfold appW zeroW;rw[if_pos h,List.append_assoc,show ((p+r.length+1:Nat):Int)=(p:Int)+(r.length:Int)+1 by omega]
theorem app_no{c:List Int}{p:Nat}{r:List Int}(h:¬ p+r.length+1<c.length):putW p r r.length++[⟨(p:Int),(r.length:Int)⟩]=appW c p r:=by
 unfold appW zeroW;rw[if_neg h,List.nil_append]
end disk
namespace vnd
open book (Ev ev0 EMay evL evOf EncIs DecIs Cm cm0 So so0 BookIs FirstAt NoneAt Tells)
open acc (Ac Tm Bi SellIs GrantIs RekeyIs OweIs)
open ora (Pr IssueIs)
open token (Tok fmtL)
theorem sell_tok{a:Ac}{t:Tm}{te m:Int}{b:Ac}{l:Bi}(h:SellIs a t te m b l 0):(1≤l.id∧l.id≤1048575)∧1≤l.un∧l.un≤2097151:=by
 rcases h with⟨h,rfl,rfl⟩|⟨_,_,h,_⟩|⟨_,_,_,h,_⟩|⟨i,j,g,_,u,f,rfl,rfl⟩
 ·rcases h with⟨_,h⟩|⟨_,c,d⟩|⟨_,_,_,h⟩
  ·cases h
  ·exact absurd (d.ok.1 rfl) c
  ·exact absurd rfl h.ne
 ·cases h
 ·cases h
 ·have c:=i.1.2.2.2.1.1;have d:=f.1;unfold tar.Top at d;have k:u≠0:=λe=>j.2.2 (by rw[← e];exact f);refine⟨⟨c,g⟩,?_,?_⟩
  ·show 1≤u;omega
  ·show u≤2097151;omega
theorem tokB_ok{kd rv:Int}{l:Bi}{tg:Int}(hk:kd≠4)(h:(1≤l.id∧l.id≤1048575)∧1≤l.un∧l.un≤2097151)(ht:0≤tg∧tg≤65535):(tokB kd rv l tg).ok∧(tokB kd rv l tg).v=.agg #[zI 0,zI l.id,zI l.un,zI tg]:=by
 have e:tokB kd rv l tg=⟨0,l.id.toNat,l.un.toNat,tg.toNat⟩:=by unfold tokB;rw[if_neg hk]
 rw[e];refine⟨⟨by show (0:Nat)≤3;omega,?_,?_,?_,?_,λ_=>?_,(λh=>by cases h),λh=>by rcases h with h|h<;>cases h⟩,?_⟩
 ·show 1≤l.id.toNat;omega
 ·show l.id.toNat≤1048575;omega
 ·show tg.toNat≤65535;omega
 ·show l.un.toNat≤2097151;omega
 ·show 1≤l.un.toNat;omega
 ·unfold token.Tok.v;show Value.agg #[zI ((0:Nat):Int),zI (l.id.toNat:Int),zI (l.un.toNat:Int),zI (tg.toNat:Int)]=_;rw[Int.toNat_of_nonneg (by omega),Int.toNat_of_nonneg (by omega),Int.toNat_of_nonneg ht.1];rfl
theorem issue_tag{l ls:List Pr}{m r b d x:Int}(h:IssueIs l m r b d ls x 0):0≤x∧x≤65535:=by
 rcases h with⟨_,_,_,h⟩|⟨_,_,_,_,h⟩|⟨e,a,⟨i,c,rfl⟩,_,_⟩|⟨_,_,_,_,_,_,h⟩|⟨_,a,_,_,_,rfl,_⟩
 ·cases h
 ·cases h
 ·exact(e.each i c.lt).1.2.2.2
 ·cases h
 ·exact a.2.2.2
end vnd
namespace tar
open Go.RowKit
theorem stepT:PairT Tryz.prog 214 22:=⟨by kernel_rfl,Tryz.underlying22⟩
theorem steps_any(a:Option Addr)(len cap:Nat)(zs:List Du)(w:World)(h:Came w a len cap zs):
  Calls Tryz.prog 19 #[.slice a len cap] w λe w'=>GaveD 214 w zs e w':=by
 obtain⟨d,q,-,p,-⟩:=h;cases a with
 |none=>
  have m:=q rfl;have l:len=0:=by rcases d.2 with h|⟨b,r,h,_⟩;exact h;cases h
  subst m l;obtain rfl:zs=[]:=List.eq_nil_of_length_eq_zero d.1;have f:∀w:World,(Builtin.append_ #[22,22] 22 #[zS,zS]).run Tryz.prog w=.ok (zS) w:=λw=>by kernel_rfl
  go_enter Tryz.func19,Tryz.ntmps19;go_wp2;go_ret;exact GaveD.mk (Ld.zero _ _ _) zb
 |some x=>
  go_enter Tryz.func19,Tryz.ntmps19
  go_wp2_with (first
   |(at_builtin;refine wp_pairs stepT rfl _ _ rfl w.heap.size x len cap zs rfl rfl d p zc ?_)
   | go_in)
  intro s w' c g;have j:Hid (Ld 214 w' w.heap.size s zs):=c;have i:Hid (zB w w'):=zb.grown g zc (λk n=>by cases n);clear c g;go_wp2;go_ret;exact GaveD.mk j.o i.o
end tar
namespace book
open Go.RowKit
def MustPost(w:World)(v:Ev)(e:Ending)(w':World):Prop:=((EMay v∧e=.returned (.tuple #[]))∨(¬ EMay v∧e=.panicked (thrown 5)))∧zB w w'
theorem eqEv_any(a b:Ev)(w:World):∃B,(Op.equalIn 10000 44 (.agg a.cs) (.agg b.cs)).run Tryz.prog w=.ok B w∧(B=true↔a=b):=by
 obtain⟨j,k,l,m,n,o,p,q,r,s,c,d,e⟩:=a;obtain⟨t,u,x,y,z,A,C,D,E,F,f,g,i⟩:=b;refine⟨_,eqEv 9997 j k l m n o p q r s c d e t u x y z A C D E F f g i w,?_⟩;rw[decide_eq_true_iff];constructor
 ·rintro⟨rfl,rfl,rfl,rfl,rfl,rfl,rfl,rfl,rfl,rfl,rfl,rfl,rfl⟩;rfl
 ·intro h;cases h;exact⟨rfl,rfl,rfl,rfl,rfl,rfl,rfl,rfl,rfl,rfl,rfl,rfl,rfl⟩
theorem bmust(v:Ev)(w:World):Calls Tryz.prog 119 #[.agg #[zI v.kd,zI v.me,zI v.mo,zI v.id,zI v.te,zI v.de,zI v.fe,zI v.pr,zI v.ch,zI v.un,zI v.tg,zI v.ow,zI v.bp]] w λe w'=>MustPost w v e w':=by
 have d:=zh (may_iff v);obtain⟨r,J,D,G,-⟩:=sh1 w #[zI v.kd,zI v.me,zI v.mo,zI v.id,zI v.te,zI v.de,zI v.fe,zI v.pr,zI v.ch,zI v.un,zI v.tg,zI v.ow,zI v.bp] 44;have f:Hid (∀W,zC 164 #[zI 5] W λe w'=>e=.panicked (thrown 5)∧w'=W):=λW=>insist_no 5 (by decide) W;have H:Hid (∀W,zC 162 #[.agg #[zI v.kd,zI v.me,zI v.mo,zI v.id,zI v.te,zI v.de,zI v.fe,zI v.pr,zI v.ch,zI v.un,zI v.tg,zI v.ow,zI v.bp]] W λe w'=>YN W (KindR v) e w'):=λW=>bkind v.kd v.me v.mo v.id v.te v.de v.fe v.pr v.ch v.un v.tg v.ow v.bp W;have I:Hid (∀W,zC 163 #[.agg #[zI v.kd,zI v.me,zI v.mo,zI v.id,zI v.te,zI v.de,zI v.fe,zI v.pr,zI v.ch,zI v.un,zI v.tg,zI v.ow,zI v.bp]] W λe w'=>e=.returned (leftE v).v∧zB W w'):=λW=>bleft v W;go_enter Tryz.func119,Tryz.ntmps119;go_upto_region 1 with fail
 rw[J.o];obtain⟨c0,c1,c2,h,i,j,k,l,m,n,a,b,c⟩:=scl13 D;have F:Hid (zC 161 #[zI 0,zI 49,.slice (some ⟨r.heap.size,0,none⟩) 1 1] (r.alloc (.cells #[zI v.me] 3)) λe w'=>e=.returned (.bool (decide (0≤v.me∧v.me≤49)))∧w'=(r.alloc (.cells #[zI v.me] 3))):=bki.within_one 0 49 v.me r _ rfl;have u:=zyf G (.cells #[zI v.me] 3);have g:=zya D (.cells #[zI v.me] 3);by_cases s:0≤v.me∧v.me≤49
 case neg=>
  rw[decide_eq_false s] at F;have C:Hid (¬ EMay v):=λq=>s (d.o.1 q).1;clear s;go_wp2_with fail;refine F.o.mono ?_;rintro e W ⟨rfl,L⟩;subst L;clear c0 c1 c2 h i j k l m n a b c;generalize (r.alloc (.cells #[zI v.me] 3))=Q at *;obtain⟨c0,c1,c2,h,i,j,k,l,m,n,a,b,c⟩:=scl13 g;go_wp2_with fail;refine(f.o _).mono ?_;rintro e M ⟨rfl,rfl⟩;exact⟨rfl,.inr ⟨C.o,rfl⟩,u.o⟩
 rw[decide_eq_true s] at F;have N:=zh s;clear s;go_wp2_with fail;refine F.o.mono ?_;rintro e W ⟨rfl,L⟩;subst L;clear c0 c1 c2 h i j k l m n a b c;generalize (r.alloc (.cells #[zI v.me] 3))=Q at *;obtain⟨c0,c1,c2,h,i,j,k,l,m,n,a,b,c⟩:=scl13 g;go_wp2_with fail;refine(H.o _).mono ?_;rintro e R ⟨B,rfl,p,t⟩;have x:=shB u t;have K:=shN g t;clear t;clear c0 c1 c2 h i j k l m n a b c;obtain⟨c0,c1,c2,h,i,j,k,l,m,n,a,b,c⟩:=scl13 K;cases B
 case false=>
  have C:Hid (¬ EMay v):=λq=>absurd (p.2 (d.o.1 q).2.1) (by decide);clear p;go_wp2_with fail;refine(f.o _).mono ?_;rintro e M ⟨rfl,rfl⟩;exact⟨rfl,.inr ⟨C.o,rfl⟩,x.o⟩
 have O:Hid (KindR v):=p.1 rfl;clear p;go_wp2_with fail;refine(I.o _).mono ?_;rintro e W3 ⟨rfl,t⟩;have y:=shB x t;clear t;clear c0 c1 c2 h i j k l m n a b c;obtain⟨B,p,E⟩:=eqEv_any (leftE v) ev0 W3;have A:=zh p;have z:=zh E;clear p E;unfold Ev.v;cases B
 case false=>
  have C:Hid (¬ EMay v):=λq=>absurd (z.o.2 (d.o.1 q).2.2) (by decide);go_wp2_with (first|(refine wp_neE (by rfl) 44 _ _ _ rfl (leftE v).cs ev0.cs rfl rfl (by kernel_rfl) false A.o _ rfl ?_)|fail)
  go_wp2_with fail;refine(f.o _).mono ?_;rintro e M ⟨rfl,rfl⟩;exact⟨rfl,.inr ⟨C.o,rfl⟩,y.o⟩
 case true=>
  have P:Hid (EMay v):=d.o.2 ⟨N.o,O.o,z.o.1 rfl⟩;go_wp2_with (first|(refine wp_neE (by rfl) 44 _ _ _ rfl (leftE v).cs ev0.cs rfl rfl (by kernel_rfl) true A.o _ rfl ?_)|fail)
  go_end0;exact⟨.inl ⟨P.o,rfl⟩,y.o⟩
open cell
def cellsK(l:List Int)(k:Nat):Array Value:=((l.take k++List.replicate (13-k) 0).map (λx=>Value.int .i64 x)).toArray
theorem cellsK_size(l:List Int)(h:l.length=13)(k:Nat)(hk:k≤13):(cellsK l k).size=13:=by simp[cellsK,h];omega
theorem cellsK_next(l:List Int)(h:l.length=13)(k:Nat)(hk:k<13):(cellsK l k).setIfInBounds k (zI (l.getD k 0))=cellsK l (k+1):=by
 match l,h with
 |[a0,a1,a2,a3,a4,a5,a6,a7,a8,a9,a10,a11,a12],_=>
  match k,hk with
  |0,_=>rfl
  |1,_=>rfl
  |2,_=>rfl
  |3,_=>rfl
  |4,_=>rfl
  |5,_=>rfl
  |6,_=>rfl
  |7,_=>rfl
  |8,_=>rfl
  |9,_=>rfl
  |10,_=>rfl
  |11,_=>rfl
  |12,_=>rfl
theorem cellsK_all(l:List Int)(h:l.length=13):cellsK l 13=(evOf l).cs:=by
 match l,h with
 |[a0,a1,a2,a3,a4,a5,a6,a7,a8,a9,a10,a11,a12],_=>rfl
theorem indexP_0(g:Nat)(W:World):(Instr.index 265 (.agg #[.pointer (some ⟨g,0,none⟩),.pointer (some ⟨g,1,none⟩),.pointer (some ⟨g,2,none⟩),.pointer (some ⟨g,3,none⟩),.pointer (some ⟨g,4,none⟩),.pointer (some ⟨g,5,none⟩),.pointer (some ⟨g,6,none⟩),.pointer (some ⟨g,7,none⟩),.pointer (some ⟨g,8,none⟩),.pointer (some ⟨g,9,none⟩),.pointer (some ⟨g,10,none⟩),.pointer (some ⟨g,11,none⟩),.pointer (some ⟨g,12,none⟩)]) (zI 0)).run Tryz.prog W=.ok (.pointer (some ⟨g,0,none⟩)) W:=by kernel_rfl
theorem indexP_1(g:Nat)(W:World):(Instr.index 265 (.agg #[.pointer (some ⟨g,0,none⟩),.pointer (some ⟨g,1,none⟩),.pointer (some ⟨g,2,none⟩),.pointer (some ⟨g,3,none⟩),.pointer (some ⟨g,4,none⟩),.pointer (some ⟨g,5,none⟩),.pointer (some ⟨g,6,none⟩),.pointer (some ⟨g,7,none⟩),.pointer (some ⟨g,8,none⟩),.pointer (some ⟨g,9,none⟩),.pointer (some ⟨g,10,none⟩),.pointer (some ⟨g,11,none⟩),.pointer (some ⟨g,12,none⟩)]) (zI 1)).run Tryz.prog W=.ok (.pointer (some ⟨g,1,none⟩)) W:=by kernel_rfl
theorem indexP_2(g:Nat)(W:World):(Instr.index 265 (.agg #[.pointer (some ⟨g,0,none⟩),.pointer (some ⟨g,1,none⟩),.pointer (some ⟨g,2,none⟩),.pointer (some ⟨g,3,none⟩),.pointer (some ⟨g,4,none⟩),.pointer (some ⟨g,5,none⟩),.pointer (some ⟨g,6,none⟩),.pointer (some ⟨g,7,none⟩),.pointer (some ⟨g,8,none⟩),.pointer (some ⟨g,9,none⟩),.pointer (some ⟨g,10,none⟩),.pointer (some ⟨g,11,none⟩),.pointer (some ⟨g,12,none⟩)]) (zI 2)).run Tryz.prog W=.ok (.pointer (some ⟨g,2,none⟩)) W:=by kernel_rfl
theorem indexP_3(g:Nat)(W:World):(Instr.index 265 (.agg #[.pointer (some ⟨g,0,none⟩),.pointer (some ⟨g,1,none⟩),.pointer (some ⟨g,2,none⟩),.pointer (some ⟨g,3,none⟩),.pointer (some ⟨g,4,none⟩),.pointer (some ⟨g,5,none⟩),.pointer (some ⟨g,6,none⟩),.pointer (some ⟨g,7,none⟩),.pointer (some ⟨g,8,none⟩),.pointer (some ⟨g,9,none⟩),.pointer (some ⟨g,10,none⟩),.pointer (some ⟨g,11,none⟩),.pointer (some ⟨g,12,none⟩)]) (zI 3)).run Tryz.prog W=.ok (.pointer (some ⟨g,3,none⟩)) W:=by kernel_rfl
theorem indexP_4(g:Nat)(W:World):(Instr.index 265 (.agg #[.pointer (some ⟨g,0,none⟩),.pointer (some ⟨g,1,none⟩),.pointer (some ⟨g,2,none⟩),.pointer (some ⟨g,3,none⟩),.pointer (some ⟨g,4,none⟩),.pointer (some ⟨g,5,none⟩),.pointer (some ⟨g,6,none⟩),.pointer (some ⟨g,7,none⟩),.pointer (some ⟨g,8,none⟩),.pointer (some ⟨g,9,none⟩),.pointer (some ⟨g,10,none⟩),.pointer (some ⟨g,11,none⟩),.pointer (some ⟨g,12,none⟩)]) (zI 4)).run Tryz.prog W=.ok (.pointer (some ⟨g,4,none⟩)) W:=by kernel_rfl
theorem indexP_5(g:Nat)(W:World):(Instr.index 265 (.agg #[.pointer (some ⟨g,0,none⟩),.pointer (some ⟨g,1,none⟩),.pointer (some ⟨g,2,none⟩),.pointer (some ⟨g,3,none⟩),.pointer (some ⟨g,4,none⟩),.pointer (some ⟨g,5,none⟩),.pointer (some ⟨g,6,none⟩),.pointer (some ⟨g,7,none⟩),.pointer (some ⟨g,8,none⟩),.pointer (some ⟨g,9,none⟩),.pointer (some ⟨g,10,none⟩),.pointer (some ⟨g,11,none⟩),.pointer (some ⟨g,12,none⟩)]) (zI 5)).run Tryz.prog W=.ok (.pointer (some ⟨g,5,none⟩)) W:=by kernel_rfl
theorem indexP_6(g:Nat)(W:World):(Instr.index 265 (.agg #[.pointer (some ⟨g,0,none⟩),.pointer (some ⟨g,1,none⟩),.pointer (some ⟨g,2,none⟩),.pointer (some ⟨g,3,none⟩),.pointer (some ⟨g,4,none⟩),.pointer (some ⟨g,5,none⟩),.pointer (some ⟨g,6,none⟩),.pointer (some ⟨g,7,none⟩),.pointer (some ⟨g,8,none⟩),.pointer (some ⟨g,9,none⟩),.pointer (some ⟨g,10,none⟩),.pointer (some ⟨g,11,none⟩),.pointer (some ⟨g,12,none⟩)]) (zI 6)).run Tryz.prog W=.ok (.pointer (some ⟨g,6,none⟩)) W:=by kernel_rfl
theorem indexP_7(g:Nat)(W:World):(Instr.index 265 (.agg #[.pointer (some ⟨g,0,none⟩),.pointer (some ⟨g,1,none⟩),.pointer (some ⟨g,2,none⟩),.pointer (some ⟨g,3,none⟩),.pointer (some ⟨g,4,none⟩),.pointer (some ⟨g,5,none⟩),.pointer (some ⟨g,6,none⟩),.pointer (some ⟨g,7,none⟩),.pointer (some ⟨g,8,none⟩),.pointer (some ⟨g,9,none⟩),.pointer (some ⟨g,10,none⟩),.pointer (some ⟨g,11,none⟩),.pointer (some ⟨g,12,none⟩)]) (zI 7)).run Tryz.prog W=.ok (.pointer (some ⟨g,7,none⟩)) W:=by kernel_rfl
theorem indexP_8(g:Nat)(W:World):(Instr.index 265 (.agg #[.pointer (some ⟨g,0,none⟩),.pointer (some ⟨g,1,none⟩),.pointer (some ⟨g,2,none⟩),.pointer (some ⟨g,3,none⟩),.pointer (some ⟨g,4,none⟩),.pointer (some ⟨g,5,none⟩),.pointer (some ⟨g,6,none⟩),.pointer (some ⟨g,7,none⟩),.pointer (some ⟨g,8,none⟩),.pointer (some ⟨g,9,none⟩),.pointer (some ⟨g,10,none⟩),.pointer (some ⟨g,11,none⟩),.pointer (some ⟨g,12,none⟩)]) (zI 8)).run Tryz.prog W=.ok (.pointer (some ⟨g,8,none⟩)) W:=by kernel_rfl
theorem indexP_9(g:Nat)(W:World):(Instr.index 265 (.agg #[.pointer (some ⟨g,0,none⟩),.pointer (some ⟨g,1,none⟩),.pointer (some ⟨g,2,none⟩),.pointer (some ⟨g,3,none⟩),.pointer (some ⟨g,4,none⟩),.pointer (some ⟨g,5,none⟩),.pointer (some ⟨g,6,none⟩),.pointer (some ⟨g,7,none⟩),.pointer (some ⟨g,8,none⟩),.pointer (some ⟨g,9,none⟩),.pointer (some ⟨g,10,none⟩),.pointer (some ⟨g,11,none⟩),.pointer (some ⟨g,12,none⟩)]) (zI 9)).run Tryz.prog W=.ok (.pointer (some ⟨g,9,none⟩)) W:=by kernel_rfl
theorem indexP_10(g:Nat)(W:World):(Instr.index 265 (.agg #[.pointer (some ⟨g,0,none⟩),.pointer (some ⟨g,1,none⟩),.pointer (some ⟨g,2,none⟩),.pointer (some ⟨g,3,none⟩),.pointer (some ⟨g,4,none⟩),.pointer (some ⟨g,5,none⟩),.pointer (some ⟨g,6,none⟩),.pointer (some ⟨g,7,none⟩),.pointer (some ⟨g,8,none⟩),.pointer (some ⟨g,9,none⟩),.pointer (some ⟨g,10,none⟩),.pointer (some ⟨g,11,none⟩),.pointer (some ⟨g,12,none⟩)]) (zI 10)).run Tryz.prog W=.ok (.pointer (some ⟨g,10,none⟩)) W:=by kernel_rfl
theorem indexP_11(g:Nat)(W:World):(Instr.index 265 (.agg #[.pointer (some ⟨g,0,none⟩),.pointer (some ⟨g,1,none⟩),.pointer (some ⟨g,2,none⟩),.pointer (some ⟨g,3,none⟩),.pointer (some ⟨g,4,none⟩),.pointer (some ⟨g,5,none⟩),.pointer (some ⟨g,6,none⟩),.pointer (some ⟨g,7,none⟩),.pointer (some ⟨g,8,none⟩),.pointer (some ⟨g,9,none⟩),.pointer (some ⟨g,10,none⟩),.pointer (some ⟨g,11,none⟩),.pointer (some ⟨g,12,none⟩)]) (zI 11)).run Tryz.prog W=.ok (.pointer (some ⟨g,11,none⟩)) W:=by kernel_rfl
theorem indexP_12(g:Nat)(W:World):(Instr.index 265 (.agg #[.pointer (some ⟨g,0,none⟩),.pointer (some ⟨g,1,none⟩),.pointer (some ⟨g,2,none⟩),.pointer (some ⟨g,3,none⟩),.pointer (some ⟨g,4,none⟩),.pointer (some ⟨g,5,none⟩),.pointer (some ⟨g,6,none⟩),.pointer (some ⟨g,7,none⟩),.pointer (some ⟨g,8,none⟩),.pointer (some ⟨g,9,none⟩),.pointer (some ⟨g,10,none⟩),.pointer (some ⟨g,11,none⟩),.pointer (some ⟨g,12,none⟩)]) (zI 12)).run Tryz.prog W=.ok (.pointer (some ⟨g,12,none⟩)) W:=by kernel_rfl
theorem indexP(g:Nat)(k:Nat)(hk:k<13)(W:World):(Instr.index 265 (.agg #[.pointer (some ⟨g,0,none⟩),.pointer (some ⟨g,1,none⟩),.pointer (some ⟨g,2,none⟩),.pointer (some ⟨g,3,none⟩),.pointer (some ⟨g,4,none⟩),.pointer (some ⟨g,5,none⟩),.pointer (some ⟨g,6,none⟩),.pointer (some ⟨g,7,none⟩),.pointer (some ⟨g,8,none⟩),.pointer (some ⟨g,9,none⟩),.pointer (some ⟨g,10,none⟩),.pointer (some ⟨g,11,none⟩),.pointer (some ⟨g,12,none⟩)]) (zI (k:Int))).run Tryz.prog W=.ok (.pointer (some ⟨g,k,none⟩)) W:=by
 match k,hk with
 |0,_=>exact indexP_0 g W
 |1,_=>exact indexP_1 g W
 |2,_=>exact indexP_2 g W
 |3,_=>exact indexP_3 g W
 |4,_=>exact indexP_4 g W
 |5,_=>exact indexP_5 g W
 |6,_=>exact indexP_6 g W
 |7,_=>exact indexP_7 g W
 |8,_=>exact indexP_8 g W
 |9,_=>exact indexP_9 g W
 |10,_=>exact indexP_10 g W
 |11,_=>exact indexP_11 g W
 |12,_=>exact indexP_12 g W
theorem bevent(a:Option Addr)(cap:Nat)(l:List Int)(w:World)(hr:RowU w a 13 l)(hm:∀x∈l,0≤x∧x<4294967296):Calls Tryz.prog 151 #[.slice a 13 cap] w λe w'=>e=.returned (evOf l).v∧zB w w':=by
 have h:=hr.1;obtain⟨b,y,rfl,lb,Z⟩:=hr.at (by decide)
 have T:Hid (∀ k,k<13→0≤l.getD k 0∧l.getD k 0<4294967296):=fun k n=>hm _ (by
  have hl:k<l.length:=by omega
  rw[show l.getD k 0=l[k] by simp[List.getD,List.getElem?_eq_getElem hl]]
  exact List.getElem_mem _)
 have S:Hid (∀W,zB w W→∀k,k<13→W.cell? ⟨b,y+k,none⟩=some (.int .u32 (l.getD k 0))):=λW hB k n=>(hB.cell (p:=⟨b,y+k,none⟩) lb).trans (Z k n);have r:Hid (∀k:Nat,k<13→∀W,(Instr.index 265 (.agg #[.pointer (some ⟨w.heap.size+1,0,none⟩),.pointer (some ⟨w.heap.size+1,1,none⟩),.pointer (some ⟨w.heap.size+1,2,none⟩),.pointer (some ⟨w.heap.size+1,3,none⟩),.pointer (some ⟨w.heap.size+1,4,none⟩),.pointer (some ⟨w.heap.size+1,5,none⟩),.pointer (some ⟨w.heap.size+1,6,none⟩),.pointer (some ⟨w.heap.size+1,7,none⟩),.pointer (some ⟨w.heap.size+1,8,none⟩),.pointer (some ⟨w.heap.size+1,9,none⟩),.pointer (some ⟨w.heap.size+1,10,none⟩),.pointer (some ⟨w.heap.size+1,11,none⟩),.pointer (some ⟨w.heap.size+1,12,none⟩)]) (zI (k:Int))).run Tryz.prog W=.ok (.pointer (some ⟨w.heap.size+1,k,none⟩)) W):=λk n W=>indexP _ k n W;have A:=zh h;clear hm Z hr lb h;obtain⟨W0,F,s,t,d,q,-⟩:=sh3 w #[zI 0,zI 0,zI 0,zI 0,zI 0,zI 0,zI 0,zI 0,zI 0,zI 0,zI 0,zI 0,zI 0] 44 #[zI 0,zI 0,zI 0,zI 0,zI 0,zI 0,zI 0,zI 0,zI 0,zI 0,zI 0,zI 0,zI 0] 44 #[.pointer (some ⟨w.heap.size+1,0,none⟩),.pointer (some ⟨w.heap.size+1,1,none⟩),.pointer (some ⟨w.heap.size+1,2,none⟩),.pointer (some ⟨w.heap.size+1,3,none⟩),.pointer (some ⟨w.heap.size+1,4,none⟩),.pointer (some ⟨w.heap.size+1,5,none⟩),.pointer (some ⟨w.heap.size+1,6,none⟩),.pointer (some ⟨w.heap.size+1,7,none⟩),.pointer (some ⟨w.heap.size+1,8,none⟩),.pointer (some ⟨w.heap.size+1,9,none⟩),.pointer (some ⟨w.heap.size+1,10,none⟩),.pointer (some ⟨w.heap.size+1,11,none⟩),.pointer (some ⟨w.heap.size+1,12,none⟩)] 265;go_enter Tryz.func151,Tryz.ntmps151;go_upto_region 3 with fail
 rw[F.o];have p0:=zy0 d;have p1:=zy1 d;have p2:=zy2 d;have p3:=zy3 d;have p4:=zy4 d;have p5:=zy5 d;have p6:=zy6 d;have p7:=zy7 d;have p8:=zy8 d;have p9:=zy9 d;have M:=zy10 d;have N:=zy11 d;have O:=zy12 d;go_wp2_with fail;clear p0 p1 p2 p3 p4 p5 p6 p7 p8 p9 M N O;go_loopw [31] (λm wr=>∃(k:Nat),k≤13∧m=zI (k:Int)∧Blk wr w.heap.size #[zI 0,zI 0,zI 0,zI 0,zI 0,zI 0,zI 0,zI 0,zI 0,zI 0,zI 0,zI 0,zI 0] 44∧Blk wr (w.heap.size+1) (cellsK l k) 44∧zB w wr) (λm _=>13-(intOf m).toNat)
 case atStart=>exact⟨0,Nat.zero_le _,rfl,s.o,t.o,q.o⟩
 case round=>
  obtain⟨k,n,rfl,V,X,u⟩:=hrel;have HR:=zh V;have U:=zh X;have j:=zh u;clear V X u s t q;by_cases f:k<13
  ·have a0:=r.o k f;have hz:=T.o k f;have J:=S.o wr j.o k f;have B:Hid ((cellsK l k).setIfInBounds k (zI (l.getD k 0))=cellsK l (k+1)):=cellsK_next l A.o k f;have L:k<(cellsK l k).size:=by rw[cellsK_size l A.o k n];exact f
   clear r T S;generalize l.getD k 0=z at *;have a1:IntKind.i64.wrap z=z:=by rw[IntKind.wrap_i64];omega
   have K:decide ((k:Int)<13)=true:=decide_eq_true (by omega);have Y:(0:Int)≤(k:Int)∧(k:Int)<((13:Nat):Int):=by omega
   clear hz;go_wp2_with (first|(refine wp_let1 rfl 3 _ _ rfl (w.heap.size+1) k rfl .i64 z rfl (by kernel_rfl) (cellsK l k) 44 U.o L ?_)|fail)
   intro W3 g;have H3:Hid (Blk W3 (w.heap.size+1) (cellsK l (k+1)) 44):=by show Blk _ _ _ _;rw[← B.o];exact g.blk
   have C:=zk1 g HR;have i:=zk g j;clear g J;go_wp2_with fail;go_roundw
   case rel=>exact⟨k+1,by omega,by go_num,C.o,H3.o,i.o⟩
   case measure=>simp[intOf];omega
  ·obtain rfl:k=13:=by omega
   have K:decide (((13:Nat):Int)<13)=false:=decide_eq_false (by omega)
   have c:Hid (Blk wr (w.heap.size+1) (evOf l).cs 44):=by
    show Blk _ _ _ _;rw[← cellsK_all l A.o];exact U.o
   obtain⟨v,hv⟩:∃v,v=evOf l:=⟨_,rfl⟩
   have E:=zh hv;rw[← hv] at c;clear hv;unfold Ev.cs at c;have c0:=zy0 c;have c1:=zy1 c;have c2:=zy2 c;have c3:=zy3 c;have c4:=zy4 c;have c5:=zy5 c;have c6:=zy6 c;have c7:=zy7 c;have c8:=zy8 c;have c9:=zy9 c;have G:=zy10 c;have H:=zy11 c;have I:=zy12 c;go_wp2_with refine zs ?_;intro W3 g;have D:=zyb g;have i:=zk g j;clear g c0 c1 c2 c3 c4 c5 c6 c7 c8 c9 G H I;obtain⟨r0,r1,r2,r3,r4,r5,r6,r7,r8,r9,P,Q,R⟩:=scl13 D;go_wp2_with fail;exact zr (.agg #[zI v.kd,zI v.me,zI v.mo,zI v.id,zI v.te,zI v.de,zI v.fe,zI v.pr,zI v.ch,zI v.un,zI v.tg,zI v.ow,zI v.bp]) (by simp[results,Tryz.results151,r0,r1,r2,r3,r4,r5,r6,r7,r8,r9,P,Q,R,go_sem]) ⟨by rw[← E.o];rfl,i.o⟩
theorem kdec:KDec:=by
 intro w a n h l U a9 ac T i;have ad:∀(fn:Fn)(first h:Array Value)(w:World),(Instr.makeFunc fn first h).run Tryz.prog w=.ok (.func fn first h) w:=λ_ _ _ _=>rfl;have x:=zh U.1;have a3:Hid (Blk ((w.alloc (.cells #[zI 0,zI 0,zI 0,zI 0,zI 0,zI 0,zI 0,zI 0,zI 0,zI 0,zI 0,zI 0,zI 0] 44)).alloc (.cells #[zI 0] 36)) w.heap.size #[zI 0,zI 0,zI 0,zI 0,zI 0,zI 0,zI 0,zI 0,zI 0,zI 0,zI 0,zI 0,zI 0] 44):=(Blk.new _ _ _).alloc _;have u:Hid (Blk ((w.alloc (.cells #[zI 0,zI 0,zI 0,zI 0,zI 0,zI 0,zI 0,zI 0,zI 0,zI 0,zI 0,zI 0,zI 0] 44)).alloc (.cells #[zI 0] 36)) (w.heap.size+1) #[zI 0] 36):=Blk.new1 _ _ _ _;have q:Hid (zB w ((w.alloc (.cells #[zI 0,zI 0,zI 0,zI 0,zI 0,zI 0,zI 0,zI 0,zI 0,zI 0,zI 0,zI 0,zI 0] 44)).alloc (.cells #[zI 0] 36))):=(zb.alloc zc _).alloc (by simp) _;by_cases hn:n=13
 case neg=>
  have nn:((n:Int) != 13)=true:=by simp;omega
  have a2:Hid (l.length≠13):=by show _≠_;rw[x.o];exact hn
  clear hn U i;go_enter_defers Tryz.func105,Tryz.ntmps105;go_upto_region 2 with fail
  generalize ((w.alloc (.cells #[zI 0,zI 0,zI 0,zI 0,zI 0,zI 0,zI 0,zI 0,zI 0,zI 0,zI 0,zI 0,zI 0] 44)).alloc (.cells #[zI 0] 36))=W1 at *;go_wp2_with refine zs ?_;intro r c;have y:=zyb c;have E:=zk1 c u;have s:Hid (zB w r):=c.bel _ _ zc q.o;clear c;go_wp2_with refine zl ?_;intro W3 c;have a4:=zk1 c y;have p:=zx0 c;have V:=zk c s;clear c;go_wp2_with fail;obtain⟨I,J,K,L,M,N,O,P,Q,R,j,k,m⟩:=scl13 a4;show Leaves _ _ _ _ [] .returning W3;refine⟨.tuple #[.agg #[zI 0,zI 0,zI 0,zI 0,zI 0,zI 0,zI 0,zI 0,zI 0,zI 0,zI 0,zI 0,zI 0],zI 1],by simp[results,Tryz.results105,I,J,K,L,M,N,O,P,Q,R,j,k,m,p,go_sem],?_⟩;exact⟨ev0,1,rfl,.inl ⟨a2.o,rfl,rfl⟩,V.o⟩
 subst hn;have G:Hid (∀W,zB w W→zC 151 #[.slice a 13 h] W λe w'=>e=.returned (evOf l).v∧zB W w'):=λW hB=>bevent a h l W (U.below hB) i;clear U i;obtain⟨v,hv⟩:∃v,v=evOf l:=⟨_,rfl⟩
 have z:=zh hv;rw[← hv] at G;clear hv;have a1:Hid (∀W,zC 119 #[.agg #[zI v.kd,zI v.me,zI v.mo,zI v.id,zI v.te,zI v.de,zI v.fe,zI v.pr,zI v.ch,zI v.un,zI v.tg,zI v.ow,zI v.bp]] W λe w'=>MustPost W v e w'):=λW=>bmust v W;have nn:(((13:Nat):Int) != 13)=false:=by decide
 go_enter_defers Tryz.func105,Tryz.ntmps105;go_upto_region 4 with fail
 generalize ((w.alloc (.cells #[zI 0,zI 0,zI 0,zI 0,zI 0,zI 0,zI 0,zI 0,zI 0,zI 0,zI 0,zI 0,zI 0] 44)).alloc (.cells #[zI 0] 36))=W1 at *;have HE:=G.o W1 q.o;have Z:=zh HE;go_wp2_with fail;refine Z.o.mono ?_;rintro e r ⟨rfl,d⟩;have y:Hid (Blk (r.alloc (.cells #[zI v.kd,zI v.me,zI v.mo,zI v.id,zI v.te,zI v.de,zI v.fe,zI v.pr,zI v.ch,zI v.un,zI v.tg,zI v.ow,zI v.bp] 44)) w.heap.size #[zI 0,zI 0,zI 0,zI 0,zI 0,zI 0,zI 0,zI 0,zI 0,zI 0,zI 0,zI 0,zI 0] 44):=(a3.o.next d).alloc _;have E:Hid (Blk (r.alloc (.cells #[zI v.kd,zI v.me,zI v.mo,zI v.id,zI v.te,zI v.de,zI v.fe,zI v.pr,zI v.ch,zI v.un,zI v.tg,zI v.ow,zI v.bp] 44)) (w.heap.size+1) #[zI 0] 36):=(u.o.next d).alloc _;have H:=zye r #[zI v.kd,zI v.me,zI v.mo,zI v.id,zI v.te,zI v.de,zI v.fe,zI v.pr,zI v.ch,zI v.un,zI v.tg,zI v.ow,zI v.bp] 44;have s:Hid (zB w (r.alloc (.cells #[zI v.kd,zI v.me,zI v.mo,zI v.id,zI v.te,zI v.de,zI v.fe,zI v.pr,zI v.ch,zI v.un,zI v.tg,zI v.ow,zI v.bp] 44))):=(bel_step q.o d).alloc (bel_step q.o d).size _;have ab:=zh (u.o.next d).lt;clear d;unfold Ev.v;go_upto_region 5 with fail
 generalize (r.alloc (.cells #[zI v.kd,zI v.me,zI v.mo,zI v.id,zI v.te,zI v.de,zI v.fe,zI v.pr,zI v.ch,zI v.un,zI v.tg,zI v.ow,zI v.bp] 44))=W3 at *;generalize r.heap.size=g at *;obtain⟨c0,c1,c2,c3,c4,c5,c6,c7,c8,c9,A,B,C⟩:=scl13 H;go_wp2_with fail;refine(a1.o _).mono ?_;rintro e W4 ⟨i,d⟩;obtain⟨a5,F,a8⟩:=zn3 d y E H;have D:=shB s d;clear d c0 c1 c2 c3 c4 c5 c6 c7 c8 c9 A B C;rcases i with⟨i,rfl⟩|⟨i,rfl⟩
 ·have HY:=zh i;clear i;obtain⟨c0,c1,c2,c3,c4,c5,c6,c7,c8,c9,A,B,C⟩:=scl13 a8;go_wp2_with refine zs ?_;intro W5 c;have a6:=zyb c;have aa:=zk1 c F;have X:Hid (zB w W5):=c.bel _ _ zc D.o;clear c c0 c1 c2 c3 c4 c5 c6 c7 c8 c9 A B C;go_wp2_with refine zl ?_;intro W6 c;have a7:=zk1 c a6;have Y:=zk c X;have a0:=zyb c;clear c;go_wp2_with fail;refine leaves_cons (f:=150) (args:=#[.pointer (some ⟨w.heap.size+1,0,none⟩)]) (by simp) (by simp[go_sem]) ?_;refine(decode_idle (w.heap.size+1) 0 _ a0.o).mono ?_;rintro e u' S ⟨rfl,hs,W,d,c⟩;have b:=c.keep (a7.o.next d) (by omega);have p:=zx0 c;have t:zB w S:=c.bel _ _ (by omega) (bel_step Y.o d);have I:=b.cell 0;have J:=b.cell 1;have K:=b.cell 2;have L:=b.cell 3;have M:=b.cell 4;have N:=b.cell 5;have O:=b.cell 6;have P:=b.cell 7;have Q:=b.cell 8;have R:=b.cell 9;have j:=b.cell 10;have k:=b.cell 11;have m:=b.cell 12;show Leaves _ _ _ _ [] (settle u') S;rw[hs];refine⟨.tuple #[.agg #[zI v.kd,zI v.me,zI v.mo,zI v.id,zI v.te,zI v.de,zI v.fe,zI v.pr,zI v.ch,zI v.un,zI v.tg,zI v.ow,zI v.bp],zI 0],by simp[results,Tryz.results105,I,J,K,L,M,N,O,P,Q,R,j,k,m,p,go_sem],?_⟩;exact⟨v,0,rfl,.inr (.inr ⟨x.o,by rw[← z.o];exact HY.o,z.o,rfl⟩),t⟩
 ·have HN:=zh i;clear i;refine leaves_cons (f:=150) (args:=#[.pointer (some ⟨w.heap.size+1,0,none⟩)]) (by simp) (by simp[go_sem]) ?_;refine(decode_caught (w.heap.size+1) 0 5 _ F.o).mono ?_;rintro e u' S ⟨rfl,hs,W,d,c⟩;have b:=c.keep (a5.o.next d) (by omega);have p:=zx0 c;have t:zB w S:=c.bel _ _ (by omega) (bel_step D.o d);have I:=b.cell 0;have J:=b.cell 1;have K:=b.cell 2;have L:=b.cell 3;have M:=b.cell 4;have N:=b.cell 5;have O:=b.cell 6;have P:=b.cell 7;have Q:=b.cell 8;have R:=b.cell 9;have j:=b.cell 10;have k:=b.cell 11;have m:=b.cell 12;show Leaves _ _ _ _ [] (settle u') S;rw[hs];refine⟨.tuple #[.agg #[zI 0,zI 0,zI 0,zI 0,zI 0,zI 0,zI 0,zI 0,zI 0,zI 0,zI 0,zI 0,zI 0],zI 5],by simp[results,Tryz.results105,I,J,K,L,M,N,O,P,Q,R,j,k,m,p,go_sem],?_⟩;exact⟨ev0,5,rfl,.inr (.inl ⟨x.o,by rw[← z.o];exact HN.o,rfl,rfl⟩),t⟩
end book
namespace disk
open Go.RowKit cell
theorem make_wr(m:Nat)(h:m≤100000)(w:World):(Instr.makeSlice 31 (zI 0) (zI ((m:Int)+2))).run Tryz.prog w=.ok (.slice (some ⟨w.heap.size,0,none⟩) 0 (m+2)) (w.alloc (.cells (madeCells (Value.agg #[zI 0,.int .u32 0]).cells ((m+2)*2)) 85)):=by
 obtain⟨e,d,a,b,c⟩:=info_parts info_wr;have:=run_make (P:=Tryz.prog) w 31 85 e (.agg #[zI 0,.int .u32 0]) Tryz.underlying31 d a .i64 .i64 0 ((m:Int)+2) (by omega) (by omega) (by rw[c];omega) (by omega);rw[b,show ((m:Int)+2).toNat=m+2 by omega] at this;exact this
theorem put_next2(p k:Nat)(r:List Int):putW p r k++[⟨(p:Int)+1+(k:Int),r.getD k 0⟩]=putW p r (k+1):=by
 rw[putW,show ((p+k+1:Nat):Int)=(p:Int)+1+(k:Int) by omega]
theorem app_yes2{c:List Int}{p k:Nat}{r:List Int}(hk:r.length=k)(h:p+k+1<c.length):putW p r k++[⟨(p:Int)+1+(k:Int),0⟩]++[⟨(p:Int),(k:Int)⟩]=appW c p r:=by
 subst hk;rw[← app_yes h,show (p:Int)+1+(r.length:Int)=(p:Int)+(r.length:Int)+1 by omega]
theorem app_no2{c:List Int}{p k:Nat}{r:List Int}(hk:r.length=k)(h:¬ p+k+1<c.length):putW p r k++[⟨(p:Int),(k:Int)⟩]=appW c p r:=by
 subst hk;exact app_no h
theorem laying_any(a:Option Addr)(m cap2:Nat)(r c:List Int)(p n:Nat)(w:World)(h:RowU w a m r)(h1:1≤m)(h2:m≤64)(hp:p≤2048)(hn:n≤2048)(hc:c.length=n):
  Calls Tryz.prog 123 #[.slice a m cap2,zI (p:Int),zI (n:Int)] w λe w'=>∃V,e=.returned V∧Lw w' w.heap.size V (appW c p r)∧zB w w':=by
 obtain⟨b,o,rfl,X,E⟩:=h.at (by omega);have O:Hid (∀W,zB w W→∀j,j<m→W.cell? ⟨b,o+j,none⟩=some (.int .u32 (r.getD j 0))):=λW Y j hj=>(Y.cell (p:=⟨b,o+j,none⟩) X).trans (E j hj);have I:Hid (c.length=n∧r.length=m):=⟨hc,h.1⟩
 have T:=make_wr m (by omega) w;have P:Hid (Lw (w.alloc (.cells (madeCells (Value.agg #[zI 0,.int .u32 0]).cells ((m+2)*2)) 85)) w.heap.size (.slice (some ⟨w.heap.size,0,none⟩) 0 (m+2)) []):=World.ownsRow_made w _ (m+2) zc (by unfold maxLen;omega) (size_madeCells _ _);have L:Hid (zB w (w.alloc (.cells (madeCells (Value.agg #[zI 0,.int .u32 0]).cells ((m+2)*2)) 85))):=zb.alloc zc _;clear h hc E X;generalize (w.alloc (.cells (madeCells (Value.agg #[zI 0,.int .u32 0]).cells ((m+2)*2)) 85))=W0 at *;go_enter Tryz.func123,Tryz.ntmps123;go_wp2_with fail;clear T;go_loopw [7,8,19] (λv7 v8 A wr=>∃(k:Nat)(V:Value),k≤m∧V=v7∧v8=zI ((p:Int)+1+(k:Int))∧A=zI (k:Int)∧Lw wr w.heap.size V (putW p r k)∧zB w wr) (λ_ _ A _=>m-(intOf A).toNat)
 case atStart=>exact⟨0,_,Nat.zero_le _,rfl,by go_num,rfl,P.o,L.o⟩
 case round=>
  obtain⟨k,V,hk,Z,rfl,rfl,F,q⟩:=hrel;subst Z;have N:Hid (zB w wr):=q;have z:(putW p r k).length≤1000000:=by rw[put_len];omega
  have l:Hid (∀o,Lw (wr.alloc o) w.heap.size V (putW p r k)):=λo=>F.alloc o;have y:Hid (∀o,zB w (wr.alloc o)):=λo=>q.alloc q.size o;have i:Hid (∀o,w.heap.size≤(wr.alloc o).heap.size):=λo=>(q.alloc q.size o).size;clear F q;by_cases S:k<m
  ·have k2:=O.o wr N.o k S;have Q:Hid (putW p r k++[⟨(p:Int)+1+(k:Int),r.getD k 0⟩]=putW p r (k+1)):=put_next2 p k r;generalize r.getD k 0=u at *;go_wp2_with (first|(refine wp_write rfl _ _ rfl w.heap.size wr.heap.size V (putW p r k) ⟨(p:Int)+1+(k:Int),u⟩ rfl rfl (l.o _) ⟨(Blk.new wr _ _).cell 0,(Blk.new wr _ _).cell 1⟩ z (i.o _) ?_;intro B t s f;have d:=own_bel (l.o _) f (y.o _) zc (i.o _);have J:Hid (Lw t w.heap.size B (putW p r k++[(⟨(p:Int)+1+(k:Int),u⟩:Wr)])):=s;have g:Hid (zB w t):=d;clear s f d)|fail)
   go_roundw
   case rel=>exact⟨k+1,B,by omega,rfl,by go_num,by go_num,by rw[← Q.o];exact J.o,g.o⟩
   case measure=>simp[intOf];omega
  ·obtain rfl:k=m:=by omega
   by_cases hz:(p:Int)+1+(k:Int)<(n:Int)
   ·have R:Hid (putW p r k++[⟨(p:Int)+1+(k:Int),0⟩]++[⟨(p:Int),(k:Int)⟩]=appW c p r):=app_yes2 I.o.2 (by rw[I.o.1];omega);have U:(putW p r k++[(⟨(p:Int)+1+(k:Int),0⟩:Wr)]).length≤1000000:=by rw[List.length_append,put_len];simp;omega
    go_upto_region 11 with(first|(refine wp_write rfl _ _ rfl w.heap.size wr.heap.size V (putW p r k) ⟨(p:Int)+1+(k:Int),0⟩ rfl rfl (l.o _) ⟨(Blk.new wr _ _).cell 0,(Blk.new wr _ _).cell 1⟩ z (i.o _) ?_;intro B t s f;have d:=own_bel (l.o _) f (y.o _) zc (i.o _);have J:Hid (Lw t w.heap.size B (putW p r k++[(⟨(p:Int)+1+(k:Int),0⟩:Wr)])):=s;have g:Hid (zB w t):=d;clear s f d)|fail)
    have D:Hid (∀o,Lw (t.alloc o) w.heap.size B (putW p r k++[(⟨(p:Int)+1+(k:Int),0⟩:Wr)])):=λo=>J.o.alloc o;have M:Hid (∀o,zB w (t.alloc o)):=λo=>g.o.alloc g.o.size o;have C:Hid (∀o,w.heap.size≤(t.alloc o).heap.size):=λo=>(g.o.alloc g.o.size o).size;go_wp2_with (first|(refine wp_write rfl _ _ rfl w.heap.size t.heap.size B (putW p r k++[(⟨(p:Int)+1+(k:Int),0⟩:Wr)]) ⟨(p:Int),(k:Int)⟩ rfl rfl (D.o _) ⟨(Blk.new t _ _).cell 0,(Blk.new t _ _).cell 1⟩ U (C.o _) ?_;intro G H s f;have d:=own_bel (D.o _) f (M.o _) zc (C.o _);have K:Hid (Lw H w.heap.size G (putW p r k++[(⟨(p:Int)+1+(k:Int),0⟩:Wr)]++[(⟨(p:Int),(k:Int)⟩:Wr)])):=s;have x:Hid (zB w H):=d;clear s f d)|fail)
    go_ret;exact⟨G,rfl,by rw[← R.o];exact K.o,x.o⟩
   ·have R:Hid (putW p r k++[⟨(p:Int),(k:Int)⟩]=appW c p r):=app_no2 I.o.2 (by rw[I.o.1];omega);go_wp2_with (first|(refine wp_write rfl _ _ rfl w.heap.size wr.heap.size V (putW p r k) ⟨(p:Int),(k:Int)⟩ rfl rfl (l.o _) ⟨(Blk.new wr _ _).cell 0,(Blk.new wr _ _).cell 1⟩ z (i.o _) ?_;intro G H s f;have d:=own_bel (l.o _) f (y.o _) zc (i.o _);have K:Hid (Lw H w.heap.size G (putW p r k++[(⟨(p:Int),(k:Int)⟩:Wr)])):=s;have x:Hid (zB w H):=d;clear s f d)|fail)
    go_ret;exact⟨G,rfl,by rw[← R.o];exact K.o,x.o⟩
end disk
end Go.Proofs.YtoepgdhiepedeaaGreatDoor
