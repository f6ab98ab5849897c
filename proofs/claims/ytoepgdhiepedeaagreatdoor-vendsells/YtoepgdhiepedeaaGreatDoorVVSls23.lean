import Derived.Test.YtoepgdhiepedeaaGreatDoorVVSls15
import Derived.Test.YtoepgdhiepedeaaGreatDoorVVSls19
set_option linter.unusedVariables false
set_option linter.unusedSimpArgs false
set_option maxHeartbeats 4000000
set_option maxRecDepth 100000
namespace Go.Proofs.YtoepgdhiepedeaaGreatDoor
namespace tar
open Go.RowKit
theorem rmost(a:Option Addr)(len cap:Nat)(ls:List Du)(x m:Int)(w:World)(hr:RowD w a len ls)(hl:len≤maxLen):Calls Tryz.prog 50 #[.slice a len cap,zI x,zI m] w λe w'=>ThreePost w (MostIs ls x m) e w':=by
 have a0:=zh (rmay a len cap ls x 0 w hr hl);have E:Hid (∀W,zC 47 #[zI m,zI 0,zI 1000000000000] W λe w'=>e=.returned (.bool (decide (0≤m∧m≤1000000000000)))∧w'=W):=λW=>cal.cin m 0 1000000000000 W;go_enter Tryz.func50,Tryz.ntmps50;go_wp2_with fail;refine a0.o.mono ?_;rintro e w1 ⟨f,rfl,hf,hb⟩;have P:=zh hb;by_cases h0:f=0
 ·subst h0;have Q:=hf.ok.1 rfl;have X:=Q.2.1.1;have a6:=Q.2.1.2;have HR:=zh Q.1;have D:Hid (∀(u:Nat) W,zB w1 W→x+(u:Int)≤10000000→zC 91 #[.slice a len cap,zI x,zI (x+(u:Int))] W λe w'=>ValPost W (cost ls x (x+(u:Int))) e w'):=λu W hW hu=>rcost a len cap ls x (x+(u:Int)) W ((hr.below hb).below hW) Q.1 X (by omega) hu;clear hf hb hr hl;by_cases s:0≤m∧m≤1000000000000
  ·rw[decide_eq_true s] at E;have R:Hid (MayMost x m):=⟨⟨X,a6⟩,s⟩
   obtain⟨a5,V⟩:=s;obtain⟨T,hT⟩:∃T:Nat,Top x=(T:Int):=⟨(Top x).toNat,by unfold Top;omega⟩
   have HT:=zh hT;have U:(T:Int)=2097151∨(T:Int)=10000000-x:=by unfold Top at hT;omega
   have a7:x+(T:Int)≤10000000:=by unfold Top at hT;omega
   have a8:(T:Int)≤2097151:=by unfold Top at hT;omega
   have HZ:Hid (cost ls x (x+((0:Nat):Int))≤m):=by show _≤_;rw[show x+((0:Nat):Int)=x by omega,cost_self HR.o];exact a5
   clear Q;go_wp2_with fail;refine(E.o _).mono ?_;rintro e Y ⟨rfl,O⟩;subst O;by_cases hd:10000000-x<2097151
   ·have a2:decide (10000000-x<2097151)=true:=decide_eq_true hd;have G:Hid (10000000-x=(T:Int)):=by show _=_;unfold Top at hT;omega
    clear hT U;go_wp2_with fail;go_loopw [10,11] (λu v wr=>∃l h:Nat,l≤h∧h≤T∧u=zI (l:Int)∧v=zI (h:Int)∧cost ls x (x+(l:Int))≤m∧(h=T∨m<cost ls x (x+((h:Int)+1)))∧zB Y wr) (λu v _=>(intOf v).toNat-(intOf u).toNat)
    case atStart=>exact⟨0,T,Nat.zero_le _,zc,rfl,by rw[← G.o],HZ.o,.inl rfl,zb⟩
    case round=>
     obtain⟨l,h,a3,hh,rfl,rfl,A,B,z⟩:=hrel;have t:=zh A;have y:=zh B;have g:=zh z;clear A B z;by_cases a4:l<h
     ·have L:decide ((l:Int)<(h:Int))=true:=by simp;omega
      have hq:Int.tdiv ((l:Int)+(h:Int)+1) 2=(((l+h+1)/2:Nat):Int):=by rw[Int.tdiv_eq_ediv_of_nonneg (by omega)];omega
      have V:l<(l+h+1)/2:=by omega
      have N:(l+h+1)/2≤h:=by omega
      generalize (l+h+1)/2=d at *;have k:=zh (D.o d wr g.o (by omega));by_cases j:cost ls x (x+(d:Int))≤m
      ·have n:=zh j;have K:decide (cost ls x (x+(d:Int))≤m)=true:=decide_eq_true j;clear j;generalize C:cost ls x (x+(d:Int))=c at *;have F:=zh C;clear C;go_wp2_with fail;refine k.o.mono ?_;rintro e Z ⟨rfl,b⟩;have i:=shB g b;clear b;go_wp2_with fail;go_roundw
       case rel=>exact⟨d,h,N,hh,rfl,rfl,by rw[F.o];exact n.o,y.o,i.o⟩
       case measure=>simp only[intOf];omega
      ·have n:Hid (m<cost ls x (x+(((d-1:Nat):Int)+1))):=by show _<_;rw[show (((d-1:Nat):Int)+1)=(d:Int) by omega];omega
       have K:decide (cost ls x (x+(d:Int))≤m)=false:=decide_eq_false j;have M:(d:Int)-1=((d-1:Nat):Int):=by omega
       clear j;have I:l≤d-1:=by omega
       have J:d-1≤T:=by omega
       have a1:d-1<h:=by omega
       generalize d-1=d1 at *;generalize cost ls x (x+(d:Int))=c at *;go_wp2_with fail;refine k.o.mono ?_;rintro e Z ⟨rfl,b⟩;have i:=shB g b;clear b;go_wp2_with fail;go_roundw
       case rel=>exact⟨l,d1,I,J,rfl,by first|rfl|(rw[M])|go_num,t.o,.inr n.o,i.o⟩
       case measure=>simp only[intOf];omega
     ·obtain rfl:l=h:=by omega
      have L:decide ((l:Int)<(l:Int))=false:=by simp
      have k:=zh (D.o l wr g.o (by omega));have H:Hid (MostIs ls x m (l:Int) (cost ls x (x+(l:Int))) 0):=.inr (.inr ⟨HR.o,R.o,rfl,⟨⟨by omega,by rw[HT.o];omega⟩,t.o,by rcases y.o with S|S;exact .inl (by rw[HT.o];omega);exact .inr S⟩,rfl⟩);generalize cost ls x (x+(l:Int))=c at *;go_wp2_with fail;refine k.o.mono ?_;rintro e Z ⟨rfl,b⟩;have i:=zh (P.o.trans ((g.o.trans (b.mono g.o.size)).mono P.o.size));clear b;go_wp2_with fail;go_ret3;exact⟨_,_,_,rfl,H.o,i.o⟩
   ·have a2:decide (10000000-x<2097151)=false:=decide_eq_false hd;have G:Hid (2097151=(T:Int)):=by show _=_;unfold Top at hT;omega
    clear hT U;go_wp2_with fail;go_loopw [10,11] (λu v wr=>∃l h:Nat,l≤h∧h≤T∧u=zI (l:Int)∧v=zI (h:Int)∧cost ls x (x+(l:Int))≤m∧(h=T∨m<cost ls x (x+((h:Int)+1)))∧zB Y wr) (λu v _=>(intOf v).toNat-(intOf u).toNat)
    case atStart=>exact⟨0,T,Nat.zero_le _,zc,rfl,by rw[← G.o],HZ.o,.inl rfl,zb⟩
    case round=>
     obtain⟨l,h,a3,hh,rfl,rfl,A,B,z⟩:=hrel;have t:=zh A;have y:=zh B;have g:=zh z;clear A B z;by_cases a4:l<h
     ·have L:decide ((l:Int)<(h:Int))=true:=by simp;omega
      have hq:Int.tdiv ((l:Int)+(h:Int)+1) 2=(((l+h+1)/2:Nat):Int):=by rw[Int.tdiv_eq_ediv_of_nonneg (by omega)];omega
      have V:l<(l+h+1)/2:=by omega
      have N:(l+h+1)/2≤h:=by omega
      generalize (l+h+1)/2=d at *;have k:=zh (D.o d wr g.o (by omega));by_cases j:cost ls x (x+(d:Int))≤m
      ·have n:=zh j;have K:decide (cost ls x (x+(d:Int))≤m)=true:=decide_eq_true j;clear j;generalize C:cost ls x (x+(d:Int))=c at *;have F:=zh C;clear C;go_wp2_with fail;refine k.o.mono ?_;rintro e Z ⟨rfl,b⟩;have i:=shB g b;clear b;go_wp2_with fail;go_roundw
       case rel=>exact⟨d,h,N,hh,rfl,rfl,by rw[F.o];exact n.o,y.o,i.o⟩
       case measure=>simp only[intOf];omega
      ·have n:Hid (m<cost ls x (x+(((d-1:Nat):Int)+1))):=by show _<_;rw[show (((d-1:Nat):Int)+1)=(d:Int) by omega];omega
       have K:decide (cost ls x (x+(d:Int))≤m)=false:=decide_eq_false j;have M:(d:Int)-1=((d-1:Nat):Int):=by omega
       clear j;have I:l≤d-1:=by omega
       have J:d-1≤T:=by omega
       have a1:d-1<h:=by omega
       generalize d-1=d1 at *;generalize cost ls x (x+(d:Int))=c at *;go_wp2_with fail;refine k.o.mono ?_;rintro e Z ⟨rfl,b⟩;have i:=shB g b;clear b;go_wp2_with fail;go_roundw
       case rel=>exact⟨l,d1,I,J,rfl,by first|rfl|(rw[M])|go_num,t.o,.inr n.o,i.o⟩
       case measure=>simp only[intOf];omega
     ·obtain rfl:l=h:=by omega
      have L:decide ((l:Int)<(l:Int))=false:=by simp
      have k:=zh (D.o l wr g.o (by omega));have H:Hid (MostIs ls x m (l:Int) (cost ls x (x+(l:Int))) 0):=.inr (.inr ⟨HR.o,R.o,rfl,⟨⟨by omega,by rw[HT.o];omega⟩,t.o,by rcases y.o with S|S;exact .inl (by rw[HT.o];omega);exact .inr S⟩,rfl⟩);generalize cost ls x (x+(l:Int))=c at *;go_wp2_with fail;refine k.o.mono ?_;rintro e Z ⟨rfl,b⟩;have i:=zh (P.o.trans ((g.o.trans (b.mono g.o.size)).mono P.o.size));clear b;go_wp2_with fail;go_ret3;exact⟨_,_,_,rfl,H.o,i.o⟩
  ·rw[decide_eq_false s] at E;have H:Hid (MostIs ls x m 0 0 2):=.inr (.inl ⟨HR.o,λh=>s h.2,rfl,rfl,rfl⟩);clear s Q;go_wp2_with fail;refine(E.o _).mono ?_;rintro e Y ⟨rfl,O⟩;subst O;go_wp2_with fail;go_ret3;exact⟨_,_,_,rfl,H.o,P.o⟩
 ·have a9:(f != 0)=true:=by simpa using h0
  have H:Hid (MostIs ls x m 0 0 f):=by
   rcases hf with⟨p,q⟩|⟨p,q,r⟩|⟨p,q,r⟩
   ·exact .inl ⟨p,q,rfl,rfl⟩
   ·exact .inr (.inl ⟨p,λh=>q ⟨h.1,⟨by decide,by decide⟩,by have:=h.1.2;omega⟩,r,rfl,rfl⟩)
   ·exact absurd r h0
  clear hf h0 hb hr hl;go_wp2_with fail;go_ret3;exact⟨_,_,_,rfl,H.o,P.o⟩
end tar
namespace acc
open tar (Du du0 Came RowD Ld PairT)
open Go.RowKit
theorem rsold(x:Ac)(p:Option Addr)(len cap:Nat)(t:Tm)(pt:Option Addr)(lt ct:Nat)(te m:Int)(w:World)(h:RowD w p len x.ds)(hl:len≤maxLen)(ht:RowD w pt lt t.ts)(htl:lt≤maxLen):Calls Tryz.prog 22 #[.agg #[zI x.me,zI x.rv,zI x.nx,zI x.mo,zI x.bo,zI x.fr,.slice p len cap],.agg #[.slice pt lt ct,zI t.ff,zI t.fb,zI t.db,zI t.al],zI te,zI m] w λe w'=>BPost w (SellIs x t te m) e w':=by
 have aH:Hid (∀W,zC 47 #[zI te,zI 1,zI 100000000] W λe w'=>e=.returned (.bool (decide (1≤te∧te≤100000000)))∧w'=W):=λW=>cal.cin te 1 100000000 W;by_cases hm:AMay x
 ·have HM:=zh hm;have d5:=hm.2.2.2.1;have d4:=hm.2.2.2.2.1;obtain⟨W0,T,aY,b1,b0,aZ,M,cC⟩:=sh4 w #[zI x.me,zI x.rv,zI x.nx,zI x.mo,zI x.bo,zI x.fr,.slice p len cap] 55 #[.slice pt lt ct,zI t.ff,zI t.fb,zI t.db,zI t.al] 24 #[zI 0,zI 0,zI 0,zI 0,zI 0,zI 0,zS] 55 #[zI 0,zI 0,zI 0,zI 0,zI 0,zI 0,zI 0] 33;have ae:=zh (h.below M.o);have aX:=zh (ht.below M.o);go_enter Tryz.func22,Tryz.ntmps22;go_upto_region 1 with fail
  rw[T.o];have bg:Hid (zC 44 #[.agg #[zI x.me,zI x.rv,zI x.nx,zI x.mo,zI x.bo,zI x.fr,.slice p len cap]] W0 λe w'=>e=.returned (.bool true)∧zB W0 w'):=ramay x p len cap _ ae.o hl hm;go_wp2_with refine zw ?_;refine bg.o.mono ?_;rintro e w1 ⟨rfl,i⟩;obtain⟨b4,b6,bH,b5⟩:=zn4 i aY b1 b0 aZ;have bG:=zh (ae.o.below i);have b3:=zh (aX.o.below i);have b2:=shB M i;have c3:=i.size;clear i;clear hm;have cw:=zh (rterms t pt lt ct w1 b3.o htl);go_wp2_with refine zw ?_;refine cw.o.mono ?_;rintro e w2 ⟨ft,rfl,ar,a9⟩;obtain⟨ax,ay,b8,b7⟩:=zn4 a9 b4 b6 bH b5;have bI:=zh (bG.o.below a9);have c9:=zh (b3.o.below a9);have aw:=shB b2 a9;have cU:=a9.size;clear a9;by_cases h0:ft=0
  ·subst h0;have HT:Hid (TRight t):=ar.ok.1 rfl;clear ar;have cu:=zh (rrolled x p len cap m w2 bI.o hl);go_wp2_with refine zw ?_;refine cu.o.mono ?_;rintro e w3 ⟨b,pr,lr,cr,fr,rfl,aK,bV,aa⟩;obtain⟨ag,ai,a1,ah⟩:=zn4 aa ax ay b8 b7;have bJ:=zh (bI.o.below aa);have bK:=zh (c9.o.below aa);have a0:=shB aw aa;have cV:=aa.size;clear aa;unfold Ac.v Ac.cs;have b9:=zh bV;have Z:=zh (came_lt b9.o.came);clear bV;by_cases h4:fr=0
   ·subst h4
    have ad:RMay x m∧b=rolled x m:=by
     rcases aK with⟨q,_⟩|⟨_,_,q,_⟩|⟨_,q,r,_⟩
     ·exact absurd HM.o q
     ·exact absurd rfl q.ne
     ·exact⟨q,r⟩
    have a8:Hid (Ready x t m):=⟨HM.o,HT.o,ad.1⟩
    have R:=zh ad.2;have bk:=rolled_same x m;rw[← ad.2] at bk;have aJ:=(rolled_may HM.o ad.1).2.2.2.2.2.1;rw[← ad.2] at aJ;have aG:=zh bk;clear ad aK bk;obtain⟨U,T,aj,k,bZ⟩:=sh1 w3 #[zI b.me,zI b.rv,zI b.nx,zI b.mo,zI b.bo,zI b.fr,.slice pr lr cr] 55;obtain⟨aA,ak,bM,aB⟩:=zn4 k.o ag ai a1 ah;have cd:=zh (bJ.o.below k.o);have bL:=zh (bK.o.below k.o);have G:=zh (b9.o.below k.o);have az:=shB a0 k.o;go_upto_region 7 with fail
    rw[T.o];have bU:deb.Mays b.ds:=by rw[R.o];exact(rolled_may HM.o a8.o.2.2).1
    by_cases h5:1≤te∧te≤100000000
    ·rw[decide_eq_true h5] at aH
     go_wp2_with (first
      | fail)
     refine(aH.o _).mono ?_;rintro e wz ⟨rfl,au⟩;obtain rfl:U=wz:=au.symm;have H:=HT.o.2;have bS:Hid (deb.TMay te t.db):=⟨⟨by omega,h5.2⟩,H.2.2.1⟩
     have cp:=zh (deb.rrec pr lr cr b.ds te t.db U G.o.came.row G.o.came.most);have cm:Hid (∀W,zC 49 #[zI te,zI t.fb] W λe w'=>e=.returned (.tuple #[zI (te*t.fb/10000),zI 0])∧w'=W):=λW=>deb.rparted te t.fb W ⟨⟨by omega,by omega⟩,H.2.1⟩;have d9:=deb.share_bd (t:=te) (bp:=t.fb) ⟨⟨by omega,h5.2⟩,H.2.1⟩;have da:=deb.share_bd bS.o;have cH:=zy6 aj;have cK:=zy3 ak;go_wp2_with fail;clear cH cK;refine cp.o.mono ?_;rintro e w5 ⟨L,J,I,z,j,fz,rfl,bX,bW,ab⟩;obtain⟨a4,n,am,aC,N⟩:=zn5 ab aA ak bM aB aj;have bN:=zh (bL.o.below ab);have a3:=zh (G.o.below ab);have a2:=shB az ab;have cW:=ab.size;clear ab;obtain⟨rfl,hz,aM⟩:=bX.got bU bS.o;clear bX;have aD:=zh bW;have f:=zh (came_lt aD.o.came);clear bW;have cy:=(deb.sumD_pos (deb.mem_fits bU.2)).1;have cP:0≤j:=by rw[aM];omega
     have cQ:j≤100000000:=by rw[aM];omega
     have bQ:Hid (j=paid x t te m):=by show _=_;rw[aM];unfold paid share;rw[← R.o]
     have cx:Hid (z=deb.recK (rolled x m).ds (share t te) (rolled x m).ds.length):=by show _=_;rw[hz];unfold share;rw[← R.o]
     have bO:Hid (t.ff+te*t.fb/10000=fee t te):=rfl;clear aM hz cy;have cJ:=zy2 n;go_wp2_with fail;refine(cm.o _).mono ?_;rintro e wz ⟨rfl,au⟩;obtain rfl:w5=wz:=au.symm;clear cJ;generalize te*t.fb/10000=l at *;have d3:=H.1;have aI:Hid (te-j-(t.ff+l)=rest x t te m):=by show _=_;unfold rest;rw[bQ.o,bO.o]
     have cq:=HT.o.1;clear H;by_cases h6:te-j-(t.ff+l)<0
     ·have d6:decide (te-j-(t.ff+l)<0)=true:=decide_eq_true h6;have HV:Hid (SellIs x t te m ac0 bi0 19):=.inr (.inl ⟨a8.o,λhh=>by have:=hh.2.1;rw[← aI.o] at this;omega,rfl,rfl,rfl⟩);have c4:=zy1 n;go_wp2_with (first|refine zs ?_|refine zw ?_)
      intro cL a;obtain⟨O,ao,aE,aF⟩:=zk4 a a4 n aC N;have bf:=zyb a;have A:Hid (deb.Fresh cL U.heap.size L J I z):=fresh_updN aD.o a (λc y d=>by have f1:=aD.o.new c y d;have f2:=f.o c y d;omega);have an:=zk a a2;have cF:=a.size;clear a;go_wp2_with (first|refine zs ?_|refine zw ?_)
      intro c5 a;obtain⟨a5,a7,Q,a6⟩:=zk4 a O ao bf aF;have ap:=zyb a;have B:Hid (deb.Fresh c5 U.heap.size L J I z):=fresh_updN A.o a (λc y d=>by have f1:=A.o.new c y d;have f2:=f.o c y d;omega);have P:=zk a an;have c8:=a.size;clear a;go_wp2_with fail;exact zr (.tuple #[.agg #[zI 0,zI 0,zI 0,zI 0,zI 0,zI 0,zS],.agg #[zI 0,zI 0,zI 0,zI 0,zI 0,zI 0,zI 0],zI 19]) (by simp[results,Tryz.results22,scl7 Q,scl7 ap,go_sem]) ⟨ac0,bi0,none,0,0,_,rfl,HV.o,deb.fresh_nil _ _,P.o⟩
     ·have d6:decide (te-j-(t.ff+l)<0)=false:=decide_eq_false h6;have ck:Hid (zC 50 #[.slice pt lt ct,zI b.bo,zI (te-j-(t.ff+l))] w5 λe w'=>tar.ThreePost w5 (tar.MostIs t.ts b.bo (te-j-(t.ff+l))) e w'):=tar.rmost pt lt ct t.ts b.bo _ w5 bN.o htl;have cj:Hid (tar.MayMost b.bo (te-j-(t.ff+l))):=⟨aJ,by omega,by omega⟩
      have bi:=zh cq;have cI:=zy0 n;have c4:=zy1 n;have bn:=zy4 N;go_wp2_with fail;clear cI c4 bn;refine ck.o.mono ?_;rintro e w7 ⟨u,C,fm,rfl,bY,ac⟩;obtain⟨O,ao,bf,aE,aF⟩:=zn5 ac a4 n am aC N;have d2:=zh (bN.o.below ac);have A:=zh (aD.o.below ac);have an:=shB a2 ac;have cX:=ac.size;clear ac;obtain⟨rfl,s,aL⟩:=bY.got bi.o cj.o;clear bY;have dc:=s.1.1;have dd:u≤2097151:=by have:=s.1.2;unfold tar.Top at this;omega
      have cG:b.bo+u≤10000000:=by have:=s.1.2;unfold tar.Top at this;omega
      have bT:=tar.cost_bd bi.o b.bo (b.bo+u) aJ.1 (by omega) cG;rw[← aL] at bT;have cO:C≤te-j-(t.ff+l):=by rw[aL];exact s.2.1
      have cN:0≤C:=by omega
      have bh:Hid (tar.MostOf t.ts (rolled x m).bo (rest x t te m) u):=by show tar.MostOf _ _ _ _;rw[← R.o,← aI.o];exact s
      have cn:Hid (C=tar.cost t.ts (rolled x m).bo ((rolled x m).bo+u)):=by show _=_;rw[← R.o];exact aL
      have bP:Hid (∀v,tar.MostOf t.ts (rolled x m).bo (rest x t te m) v→v=u):=λv hv=>by
       have cA:0≤(rolled x m).bo:=by rw[← R.o];exact aJ.1
       exact hv.one bi.o cA bh.o
      clear s aL bT;by_cases h7:u=0
      ·have d7:(u==0)=true:=by simpa using h7
       have HV:Hid (SellIs x t te m ac0 bi0 19):=.inr (.inl ⟨a8.o,λhh=>hh.2.2 (by rw[← h7];exact bh.o),rfl,rfl,rfl⟩);clear h7;go_wp2_with (first|refine zs ?_|refine zw ?_)
       intro bq a;obtain⟨a5,a7,ap,a6⟩:=zk4 a O ao aE aF;have Q:=zyb a;have B:Hid (deb.Fresh bq U.heap.size L J I z):=fresh_updN A.o a (λc y d=>by have f1:=A.o.new c y d;have f2:=f.o c y d;omega);have P:=zk a an;have bm:=a.size;clear a;go_wp2_with (first|refine zs ?_|refine zw ?_)
       intro av a;obtain⟨Y,af,F,aQ⟩:=zk4 a a5 a7 Q a6;have E:=zyb a;have X:Hid (deb.Fresh av U.heap.size L J I z):=fresh_updN B.o a (λc y d=>by have f1:=B.o.new c y d;have f2:=f.o c y d;omega);have D:=zk a P;have aO:=a.size;clear a;go_wp2_with fail;exact zr (.tuple #[.agg #[zI 0,zI 0,zI 0,zI 0,zI 0,zI 0,zS],.agg #[zI 0,zI 0,zI 0,zI 0,zI 0,zI 0,zI 0],zI 19]) (by simp[results,Tryz.results22,scl7 F,scl7 E,go_sem]) ⟨ac0,bi0,none,0,0,_,rfl,HV.o,deb.fresh_nil _ _,D.o⟩
      ·have d7:(u==0)=false:=by simpa using h7
       have bR:Hid (TenOk x t te m):=⟨h5,by rw[← aI.o];omega,λhh=>h7 (bP.o 0 hh).symm⟩
       by_cases h8:x.nx≤1048575
       ·have d8:decide (1048575<x.nx)=false:=decide_eq_false (by omega);clear h7;have aP:=zy2 O;go_wp2_with (first|refine zm ?_|refine zw ?_)
        intro W8 a;obtain⟨a5,a7,Q,ap⟩:=zk4 a O ao bf aE;have a6:=zyb a;have B:Hid (deb.Fresh W8 U.heap.size L J I z):=fresh_updN A.o a (λc y d=>by have f1:=A.o.new c y d;have f2:=f.o c y d;omega);have P:=zk a an;have cR:=a.size;clear a;clear aP;have bn:=zy4 a6;go_wp2_with (first|refine zl ?_|refine zw ?_)
        intro W9 a;obtain⟨Y,af,F,E⟩:=zk4 a a5 a7 Q ap;have aQ:=zyb a;have X:Hid (deb.Fresh W9 U.heap.size L J I z):=fresh_updN B.o a (λc y d=>by have f1:=B.o.new c y d;have f2:=f.o c y d;omega);have D:=zk a P;have cS:=a.size;clear a;clear bn;have aP:=zy2 Y;go_wp2_with (first|refine zl ?_|refine zw ?_)
        intro WA a;obtain⟨aS,bu,bt,bs⟩:=zk4 a Y af F E;have aT:=zyb a;have aR:Hid (deb.Fresh WA U.heap.size L J I z):=fresh_updN X.o a (λc y d=>by have f1:=X.o.new c y d;have f2:=f.o c y d;omega);have br:=zk a D;have cT:=a.size;clear a;clear aP;have de:IntKind.i64.wrap (te-j-(t.ff+l)-C)=te-j-(t.ff+l)-C:=by rw[IntKind.wrap_i64];omega
        go_upto_region 25 with fail
        refine wp_region_held_drew (S:=λv=>Blk v (w3.heap.size) #[zI b.me,zI b.rv,zI (x.nx+1),zI b.mo,zI (b.bo+u),zI b.fr,.slice L J I] 55∧Blk v (w.heap.size) #[zI x.me,zI x.rv,zI x.nx,zI x.mo,zI x.bo,zI x.fr,.slice p len cap] 55) (by kernel_rfl) ⟨Blk.drew aT.o 1,Blk.drew aS.o 1⟩ (λV=>?_);refine zu' 0 (.agg #[zI b.me,zI b.rv,zI (x.nx+1),zI b.mo,zI (b.bo+u),zI b.fr,.slice L J I]) rfl rfl (Or.inl ⟨by rfl,λv hv=>by have g0:=hv.1.cell 0;have g1:=hv.1.cell 1;have g2:=hv.1.cell 2;have g3:=hv.1.cell 3;have g4:=hv.1.cell 4;have g5:=hv.1.cell 5;have g6:=hv.1.cell 6;clear hv;go_simp⟩) ?_;refine zt' 1 (.pointer (some ⟨w.heap.size,2,none⟩)) ?_;refine zu' 2 (zI x.nx) rfl rfl (Or.inl ⟨by rfl,λv hv=>by have g:=hv.2.cell 2;clear hv;go_simp⟩) ?_;refine zt' 3 (zI te) ?_;refine zt' 4 (zI j) ?_;refine zt' 5 (zI (t.ff+l)) ?_;refine zt' 6 (zI C) ?_;refine zt' 7 (zI (te-j-(t.ff+l))) ?_;refine zt' 8 (zI C) ?_;refine zt' 9 (zI ((te-j-(t.ff+l))-C)) ?_;refine zt' 10 (zI u) ?_;refine zt' 11 (.agg #[zI x.nx,zI te,zI j,zI (t.ff+l),zI C,zI ((te-j-(t.ff+l))-C),zI u]) ?_;refine zo 12 λK hK=>?_;rw[if_pos (by rfl)];refine wp_letOp 55 _ _ rfl (w.heap.size+1+1) rfl #[zI b.me,zI b.rv,zI (x.nx+1),zI b.mo,zI (b.bo+u),zI b.fr,.slice L J I] rfl (by kernel_rfl) (by simp[Value.oneCell']) #[zI 0,zI 0,zI 0,zI 0,zI 0,zI 0,zS] 55 (Blk.drew bt.o 1) rfl rfl ?_;intro V1 a;have aV:=zh (a.keep (Blk.drew aS.o 1) (by omega));have bz:=zh (a.keep (Blk.drew bu.o 1) (by omega));have bx:=zyb a;have bw:=zh (a.keep (Blk.drew bs.o 1) (by omega));have aW:=zh (a.keep (Blk.drew aT.o 1) (by omega));have aU:Hid (deb.Fresh V1 U.heap.size L J I z):=fresh_updN (fresh_drew aR.o) a (λc y d=>by have f1:=aR.o.new c y d;have f2:=f.o c y d;omega);have bv:Hid (zB w V1):=a.bel _ _ (by omega) br.o.drew
        clear a;refine hK.o _ _ ⟨aW.o,aV.o⟩ (λV=>?_);clear hK K;refine zo 13 λK hK=>?_;rw[if_pos (by rfl)];refine wp_letOp 33 _ _ rfl (w.heap.size+1+1+1) rfl #[zI x.nx,zI te,zI j,zI (t.ff+l),zI C,zI ((te-j-(t.ff+l))-C),zI u] rfl (by kernel_rfl) (by simp[Value.oneCell']) #[zI 0,zI 0,zI 0,zI 0,zI 0,zI 0,zI 0] 33 bw.o rfl rfl ?_;intro V2 a;obtain⟨bC,cM,bF,bE⟩:=zk4 a aV bz bx aW;have bD:=zyb a;have bB:Hid (deb.Fresh V2 U.heap.size L J I z):=fresh_updN aU.o a (λc y d=>by have f1:=aU.o.new c y d;have f2:=f.o c y d;omega);have bA:=zk a bv;clear a;refine hK.o _ _ ⟨bE.o,bC.o⟩ (λV=>?_);clear hK K;refine zt' 14 (zI 0) ?_;refine wpAnyH_done (by kernel_rfl) ?_ _;clear V
        have cv:Hid (⟨b.me,b.rv,x.nx+1,b.mo,b.bo+u,b.fr,z⟩=sold x t te m u):=by
         show _=_;unfold sold;rw[cx.o,← R.o,aG.o.1,aG.o.2.1,aG.o.2.2.2.1,aG.o.2.2.2.2]
        have ci:Hid (⟨x.nx,te,j,(t.ff+l),C,(te-j-(t.ff+l))-C,u⟩=bill x t te m u):=by
         show _=_;unfold bill;rw[← cn.o,← aI.o,← bQ.o,← bO.o]
        go_wp2_with fail;exact zr (.tuple #[.agg #[zI b.me,zI b.rv,zI (x.nx+1),zI b.mo,zI (b.bo+u),zI b.fr,.slice L J I],.agg #[zI x.nx,zI te,zI j,zI (t.ff+l),zI C,zI ((te-j-(t.ff+l))-C),zI u],zI 0]) (by simp[results,Tryz.results22,scl7 bF,scl7 bD,go_sem]) ⟨⟨b.me,b.rv,x.nx+1,b.mo,b.bo+u,b.fr,z⟩,⟨x.nx,te,j,(t.ff+l),C,(te-j-(t.ff+l))-C,u⟩,L,J,I,_,rfl,.inr (.inr (.inr ⟨a8.o,bR.o,h8,rfl,u,bh.o,cv.o,ci.o⟩)),bB.o.low (by omega),bA.o⟩
       ·have d8:decide (1048575<x.nx)=true:=decide_eq_true (by omega);have HV:Hid (SellIs x t te m ac0 bi0 20):=.inr (.inr (.inl ⟨a8.o,bR.o,h8,rfl,rfl,rfl⟩));clear h7 h8;have aP:=zy2 O;go_wp2_with (first|refine zs ?_|refine zw ?_)
        intro bq a;obtain⟨a5,a7,ap,a6⟩:=zk4 a O ao aE aF;have Q:=zyb a;have B:Hid (deb.Fresh bq U.heap.size L J I z):=fresh_updN A.o a (λc y d=>by have f1:=A.o.new c y d;have f2:=f.o c y d;omega);have P:=zk a an;have bm:=a.size;clear a;go_wp2_with (first|refine zs ?_|refine zw ?_)
        intro av a;obtain⟨Y,af,F,aQ⟩:=zk4 a a5 a7 Q a6;have E:=zyb a;have X:Hid (deb.Fresh av U.heap.size L J I z):=fresh_updN B.o a (λc y d=>by have f1:=B.o.new c y d;have f2:=f.o c y d;omega);have D:=zk a P;have aO:=a.size;clear a;go_wp2_with fail;exact zr (.tuple #[.agg #[zI 0,zI 0,zI 0,zI 0,zI 0,zI 0,zS],.agg #[zI 0,zI 0,zI 0,zI 0,zI 0,zI 0,zI 0],zI 20]) (by simp[results,Tryz.results22,scl7 F,scl7 E,go_sem]) ⟨ac0,bi0,none,0,0,_,rfl,HV.o,deb.fresh_nil _ _,D.o⟩
    ·rw[decide_eq_false h5] at aH;have HV:Hid (SellIs x t te m ac0 bi0 19):=.inr (.inl ⟨a8.o,λhh=>h5 hh.1,rfl,rfl,rfl⟩);clear h5
     go_wp2_with (first
      | fail)
     refine(aH.o _).mono ?_;rintro e wz ⟨rfl,au⟩;obtain rfl:U=wz:=au.symm;go_wp2_with (first|refine zs ?_|refine zw ?_)
     intro bj a;obtain⟨a4,n,aC,N⟩:=zk4 a aA ak aB aj;have am:=zyb a;have a3:Hid (deb.Fresh bj w2.heap.size pr lr cr b.ds):=fresh_updN G.o a (λc y d=>by have f1:=G.o.new c y d;have f2:=Z.o c y d;omega);have a2:=zk a az;have bl:=a.size;clear a;go_wp2_with (first|refine zs ?_|refine zw ?_)
     intro aq a;obtain⟨cf,ch,be,cg⟩:=zk4 a a4 n am N;have bb:=zyb a;have ce:Hid (deb.Fresh aq w2.heap.size pr lr cr b.ds):=fresh_updN a3.o a (λc y d=>by have f1:=a3.o.new c y d;have f2:=Z.o c y d;omega);have ba:=zk a a2;have aN:=a.size;clear a;go_wp2_with fail;exact zr (.tuple #[.agg #[zI 0,zI 0,zI 0,zI 0,zI 0,zI 0,zS],.agg #[zI 0,zI 0,zI 0,zI 0,zI 0,zI 0,zI 0],zI 19]) (by simp[results,Tryz.results22,scl7 be,scl7 bb,go_sem]) ⟨ac0,bi0,none,0,0,_,rfl,HV.o,deb.fresh_nil _ _,ba.o⟩
   ·have cB:(fr != 0)=true:=by simpa using h4
    have HV:Hid (Refused x t m fr):=by
     rcases aK with⟨q,_⟩|⟨_,q,r,_⟩|⟨_,_,_,r⟩
     ·exact absurd HM.o q
     ·exact .inr (.inr ⟨HM.o,HT.o,q,r⟩)
     ·exact absurd r h4
    clear aK h4;obtain⟨U,T,aj,k,bZ⟩:=sh1 w3 #[zI b.me,zI b.rv,zI b.nx,zI b.mo,zI b.bo,zI b.fr,.slice pr lr cr] 55;obtain⟨aA,ak,bM,aB⟩:=zn4 k.o ag ai a1 ah;have cd:=zh (bJ.o.below k.o);have bL:=zh (bK.o.below k.o);have G:=zh (b9.o.below k.o);have az:=shB a0 k.o;go_upto_region 7 with fail
    rw[T.o];go_wp2_with (first|refine zs ?_|refine zw ?_)
    intro bj a;obtain⟨a4,n,aC,N⟩:=zk4 a aA ak aB aj;have am:=zyb a;have a3:Hid (deb.Fresh bj w2.heap.size pr lr cr b.ds):=fresh_updN G.o a (λc y d=>by have f1:=G.o.new c y d;have f2:=Z.o c y d;omega);have a2:=zk a az;have bl:=a.size;clear a;go_wp2_with (first|refine zs ?_|refine zw ?_)
    intro aq a;obtain⟨cf,ch,be,cg⟩:=zk4 a a4 n am N;have bb:=zyb a;have ce:Hid (deb.Fresh aq w2.heap.size pr lr cr b.ds):=fresh_updN a3.o a (λc y d=>by have f1:=a3.o.new c y d;have f2:=Z.o c y d;omega);have ba:=zk a a2;have aN:=a.size;clear a;go_wp2_with fail;exact zr (.tuple #[.agg #[zI 0,zI 0,zI 0,zI 0,zI 0,zI 0,zS],.agg #[zI 0,zI 0,zI 0,zI 0,zI 0,zI 0,zI 0],zI fr]) (by simp[results,Tryz.results22,scl7 be,scl7 bb,go_sem]) ⟨ac0,bi0,none,0,0,_,rfl,.inl ⟨HV.o,rfl,rfl⟩,deb.fresh_nil _ _,ba.o⟩
  ·have cB:(ft != 0)=true:=by simpa using h0
   have HV:Hid (Refused x t m ft):=.inr (.inl ⟨HM.o,λh=>h0 (ar.ok.2 h),ar⟩);clear ar h0;go_wp2_with (first|refine zs ?_|refine zw ?_)
   intro dg a;obtain⟨ag,ai,ah⟩:=zk3 a ax ay b7;have a0:=zk a aw;have a1:=zyb a;have cE:=a.size;clear a;go_wp2_with (first|refine zs ?_|refine zw ?_)
   intro cZ a;obtain⟨d0,d1,cc⟩:=zk3 a ag ai a1;have ca:=zk a a0;have cb:=zyb a;have c7:=a.size;clear a;go_wp2_with fail;exact zr (.tuple #[.agg #[zI 0,zI 0,zI 0,zI 0,zI 0,zI 0,zS],.agg #[zI 0,zI 0,zI 0,zI 0,zI 0,zI 0,zI 0],zI ft]) (by simp[results,Tryz.results22,scl7 cc,scl7 cb,go_sem]) ⟨ac0,bi0,none,0,0,_,rfl,.inl ⟨HV.o,rfl,rfl⟩,deb.fresh_nil _ _,ca.o⟩
 ·have HM:=zh hm;obtain⟨W0,T,aY,b1,b0,aZ,M,cC⟩:=sh4 w #[zI x.me,zI x.rv,zI x.nx,zI x.mo,zI x.bo,zI x.fr,.slice p len cap] 55 #[.slice pt lt ct,zI t.ff,zI t.fb,zI t.db,zI t.al] 24 #[zI 0,zI 0,zI 0,zI 0,zI 0,zI 0,zS] 55 #[zI 0,zI 0,zI 0,zI 0,zI 0,zI 0,zI 0] 33;have ae:=zh (h.below M.o);have aX:=zh (ht.below M.o);go_enter Tryz.func22,Tryz.ntmps22;go_upto_region 1 with fail
  rw[T.o];have bg:Hid (zC 44 #[.agg #[zI x.me,zI x.rv,zI x.nx,zI x.mo,zI x.bo,zI x.fr,.slice p len cap]] W0 λe w'=>e=.returned (.bool false)∧zB W0 w'):=ranot x p len cap _ ae.o hl hm;go_wp2_with refine zw ?_;refine bg.o.mono ?_;rintro e w1 ⟨rfl,i⟩;obtain⟨b4,b6,bH,b5⟩:=zn4 i aY b1 b0 aZ;have bG:=zh (ae.o.below i);have b3:=zh (aX.o.below i);have b2:=shB M i;have c3:=i.size;clear i;go_wp2_with (first|refine zs ?_|refine zw ?_)
  intro df a;obtain⟨ax,ay,b7⟩:=zk3 a b4 b6 b5;have aw:=zk a b2;have b8:=zyb a;have cD:=a.size;clear a;go_wp2_with (first|refine zs ?_|refine zw ?_)
  intro cY a;obtain⟨ag,ai,a1⟩:=zk3 a ax ay b8;have a0:=zk a aw;have ah:=zyb a;have c6:=a.size;clear a;go_wp2_with fail;exact zr (.tuple #[.agg #[zI 0,zI 0,zI 0,zI 0,zI 0,zI 0,zS],.agg #[zI 0,zI 0,zI 0,zI 0,zI 0,zI 0,zI 0],zI 5]) (by simp[results,Tryz.results22,scl7 a1,scl7 ah,go_sem]) ⟨ac0,bi0,none,0,0,_,rfl,.inl ⟨.inl ⟨HM.o,rfl⟩,rfl,rfl⟩,deb.fresh_nil _ _,a0.o⟩
end acc
end Go.Proofs.YtoepgdhiepedeaaGreatDoor
