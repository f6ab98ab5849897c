import Derived.Test.YtoepgdhiepedeaaGreatDoorVVGts11
import Derived.Test.YtoepgdhiepedeaaGreatDoorVVGts14
import Derived.Test.YtoepgdhiepedeaaGreatDoorVVGts16
set_option linter.unusedVariables false
set_option linter.unusedSimpArgs false
set_option maxHeartbeats 4000000
set_option maxRecDepth 100000
namespace Go.Proofs.YtoepgdhiepedeaaGreatDoor
namespace deb
open tar (Du du0 Came RowD Ld ErrPost TwoPost PairT GaveD)
open Go.RowKit
theorem rrec(a:Option Addr)(len cap:Nat)(ls:List Du)(t bp:Int)(w:World)(hr:RowD w a len ls)(hl:len≤maxLen):Calls Tryz.prog 48 #[.slice a len cap,zI t,zI bp] w λe w'=>RecPost w ls t bp e w':=by
 have a4:Hid (zC 86 #[.slice a len cap] w λe w'=>∃f,e=.returned (zI f)∧FaultIs ls f∧w'=w):=rfault a len cap ls w hr hl;have a5:Hid (∀W,zC 89 #[zI t,zI bp] W λe w'=>∃s f,e=.returned (.tuple #[zI s,zI f])∧ShareIs t bp s f∧w'=W):=λW=>rshare t bp W;have G:=hr.1;go_enter Tryz.func48,Tryz.ntmps48;go_wp2_with fail;refine a4.o.mono ?_;rintro e w1 ⟨f,rfl,hf,ab⟩;subst ab;have HF:Hid (FaultIs ls f):=hf;by_cases h0:f=0
 ·subst h0;have hm:=hf.ok.1 rfl;have O:Hid (Mays ls):=hm;have l:Hid (ls.length=len):=G;have a8:len≤8:=by have:=hm.1;omega
  have T:Hid (RowD w1 a len ls):=hr;clear hf hm hr hl G;go_wp2_with fail;refine(a5.o _).mono ?_;rintro e i ⟨s,g,rfl,hs,ac⟩;subst ac;rcases hs with⟨Q,D,hg⟩|⟨Q,D,hg⟩
  ·have HT:Hid (TMay t bp):=Q;have a9:=share_bd Q;rw[← D] at a9;have K:Hid (s=t*bp/10000):=D;subst hg;clear Q D;go_wp2_with fail;go_loopw [11,12,13] (λu v x wr=>∃(k:Nat)(V:Value),k≤len∧x=zI (k:Int)∧v=zI (sumK ls k)∧V=u∧Ld 42 wr i.heap.size V (recK ls s k)∧zB i wr) (λ_ _ x _=>len-(intOf x).toNat)
   case atStart=>exact⟨0,_,Nat.zero_le _,rfl,rfl,rfl,tar.Ld.zero _ _ _,zb⟩
   case round=>
    obtain⟨k,V,hk,rfl,rfl,hV,hu,X⟩:=hrel;subst hV;have j:Hid (zB i wr):=X;have HU:Hid (Ld 42 wr i.heap.size V (recK ls s k)):=hu;have ag:=sumK_bd O.o k (by rw[l.o];exact hk);by_cases N:k<len
    ·have a7:decide ((k:Int)<(len:Int))=true:=by simp;omega
     obtain⟨b,F,rfl,Y,hc⟩:=T.o.at (by omega);have c0:wr.cell? ⟨b,F+k*2,none⟩=some (zI (ls.getD k du0).a):=(X.cell (p:=⟨b,F+k*2,none⟩) Y).trans (hc k N).1;have c1:wr.cell? ⟨b,F+k*2+1,none⟩=some (zI (ls.getD k du0).b):=(X.cell (p:=⟨b,F+k*2+1,none⟩) Y).trans (hc k N).2;have ho:=O.o.2 k (by rw[l.o];exact N);have ae:=ho.1.1;have af:=ho.1.2;have P:Hid (sumK ls k+(ls.getD k du0).a=sumK ls (k+1)):=(sumK_next ls k).symm;have HY:Hid (0<left (ls.getD k du0).a (sumK ls k+(ls.getD k du0).a) s→recK ls s (k+1)=recK ls s k++[⟨left (ls.getD k du0).a (sumK ls k+(ls.getD k du0).a) s,(ls.getD k du0).b⟩]):=recK_yes ls s k;have HZ:Hid (¬ 0<left (ls.getD k du0).a (sumK ls k+(ls.getD k du0).a) s→recK ls s (k+1)=recK ls s k):=recK_no ls s k;have a2:(recK ls s k).length≤1000000:=by have:=recK_len ls s k;omega
     clear hc X hu ho;generalize recK ls s k=Z at *;generalize sumK ls k=q at *;generalize (ls.getD k du0).a=x at *;generalize (ls.getD k du0).b=y at *;by_cases E:x<q+x-s
     ·have a6:decide (x<q+x-s)=true:=decide_eq_true E;have C:left x (q+x) s=x:=by unfold left;omega
      rw[C] at HY HZ;clear E C;by_cases c:0<x
      ·have L:decide (0<x)=true:=decide_eq_true c;have n:Hid (recK ls s (k+1)=Z++[⟨x,y⟩]):=HY.o c;clear c;have m:Hid (zB i (wr.alloc (.cells #[zI x,zI y] 42))):=j.o.alloc j.o.size _;have z:Hid (Ld 42 (wr.alloc (.cells #[zI x,zI y] 42)) i.heap.size V Z):=HU.o.alloc _;have J:Hid ((wr.alloc (.cells #[zI x,zI y] 42)).cell? ⟨wr.heap.size,0,none⟩=some (zI x)∧(wr.alloc (.cells #[zI x,zI y] 42)).cell? ⟨wr.heap.size,1,none⟩=some (zI y)):=⟨(Blk.new wr _ _).cell 0,(Blk.new wr _ _).cell 1⟩
       go_wp2_with (first
        |(at_builtin;refine tar.wp_pair debtT rfl _ _ rfl i.heap.size (wr.heap.size) V Z ⟨x,y⟩ rfl rfl z.o J.o a2 m.o.size ?_)
        | fail)
       intro v3 w3 U B;have I:Hid (zB i w3):=tar.own_bel z.o B m.o zc m.o.size;have H3:Hid (Ld 42 w3 i.heap.size v3 (Z++[⟨x,y⟩])):=U;clear U B c0 c1;go_wp2_with fail;go_roundw
       case rel=>exact⟨k+1,v3,by omega,by go_num,by rw[← P.o],by first|rfl|trivial,by rw[n.o];exact H3.o,I.o⟩
       case measure=>simp[intOf];omega
      ·have L:decide (0<x)=false:=decide_eq_false c;have n:Hid (recK ls s (k+1)=Z):=HZ.o c;clear c;go_wp2_with fail;go_roundw
       case rel=>exact⟨k+1,V,by omega,by go_num,by rw[← P.o],by first|rfl|trivial,by rw[n.o];exact HU.o,j.o⟩
       case measure=>simp[intOf];omega
     ·have a6:decide (x<q+x-s)=false:=decide_eq_false E;have C:left x (q+x) s=q+x-s:=by unfold left;omega
      rw[C] at HY HZ;clear E C;by_cases c:0<q+x-s
      ·have L:decide (0<q+x-s)=true:=decide_eq_true c;have M:decide (s<q+x)=true:=decide_eq_true (by omega);have n:Hid (recK ls s (k+1)=Z++[⟨q+x-s,y⟩]):=HY.o c;clear c;have m:Hid (zB i (wr.alloc (.cells #[zI (q+x-s),zI y] 42))):=j.o.alloc j.o.size _;have z:Hid (Ld 42 (wr.alloc (.cells #[zI (q+x-s),zI y] 42)) i.heap.size V Z):=HU.o.alloc _;have J:Hid ((wr.alloc (.cells #[zI (q+x-s),zI y] 42)).cell? ⟨wr.heap.size,0,none⟩=some (zI (q+x-s))∧(wr.alloc (.cells #[zI (q+x-s),zI y] 42)).cell? ⟨wr.heap.size,1,none⟩=some (zI y)):=⟨(Blk.new wr _ _).cell 0,(Blk.new wr _ _).cell 1⟩
       go_wp2_with (first
        |(at_builtin;refine tar.wp_pair debtT rfl _ _ rfl i.heap.size (wr.heap.size) V Z ⟨(q+x-s),y⟩ rfl rfl z.o J.o a2 m.o.size ?_)
        | fail)
       intro v3 w3 U B;have I:Hid (zB i w3):=tar.own_bel z.o B m.o zc m.o.size;have H3:Hid (Ld 42 w3 i.heap.size v3 (Z++[⟨(q+x-s),y⟩])):=U;clear U B c0 c1;go_wp2_with fail;go_roundw
       case rel=>exact⟨k+1,v3,by omega,by go_num,by rw[← P.o],by first|rfl|trivial,by rw[n.o];exact H3.o,I.o⟩
       case measure=>simp[intOf];omega
      ·have L:decide (0<q+x-s)=false:=decide_eq_false c;have M:decide (s<q+x)=false:=decide_eq_false (by omega);have n:Hid (recK ls s (k+1)=Z):=HZ.o c;clear c;go_wp2_with fail;go_roundw
       case rel=>exact⟨k+1,V,by omega,by go_num,by rw[← P.o],by first|rfl|trivial,by rw[n.o];exact HU.o,j.o⟩
       case measure=>simp[intOf];omega
    ·obtain rfl:k=len:=by omega
     have a7:decide ((k:Int)<(k:Int))=false:=by simp
     have HV:Hid (sumK ls k=sumD ls):=by have:=sumK_all ls;rw[l.o] at this;exact this
     have S:Hid (recK ls s k=recK ls (t*bp/10000) ls.length):=by show _=_;rw[l.o,K.o]
     have a1:Mays (recK ls s k):=⟨Nat.le_trans (recK_len ls s k) a8,fits_mem λd hd=>(recK_ok O.o s k (by rw[l.o];exact zc) d hd).1⟩
     obtain⟨a3,A,aa,a0⟩:=ld_fresh hu a1;subst aa;have R:Hid (Fresh wr i.heap.size a3 (recK ls s k).length A (recK ls s k)):=a0;clear X hu a1 a0;generalize (recK ls s k).length=H at *;generalize recK ls s k=Z at *;generalize sumK ls k=q at *;by_cases r:s<q
     ·have M:decide (s<q)=true:=decide_eq_true r;have HP:Hid (s=min (t*bp/10000) (sumD ls)):=by show _=_;rw[← K.o,← HV.o];omega
      clear r;go_wp2_with fail;go_ret3;exact⟨a3,H,A,Z,s,0,rfl,.inr (.inr ⟨O.o,HT.o,rfl,S.o,HP.o⟩),R.o,j.o⟩
     ·have M:decide (s<q)=false:=decide_eq_false r;have HP:Hid (q=min (t*bp/10000) (sumD ls)):=by show _=_;rw[← K.o,← HV.o];omega
      clear r;go_wp2_with fail;go_ret3;exact⟨a3,H,A,Z,q,0,rfl,.inr (.inr ⟨O.o,HT.o,rfl,S.o,HP.o⟩),R.o,j.o⟩
  ·subst D hg;have HT:Hid (¬ TMay t bp):=Q;clear Q;go_wp2_with fail;go_ret3;exact⟨none,0,0,[],0,2,rfl,.inr (.inl ⟨O.o,HT.o,rfl,rfl,rfl⟩),fresh_nil _ _,zb⟩
 ·have ad:(f != 0)=true:=by simpa using h0
  have P:Hid (¬ Mays ls):=λh=>h0 (hf.ok.2 h);clear hf h0 hr hl;go_wp2_with fail;go_ret3;exact⟨none,0,0,[],0,f,rfl,.inl ⟨P.o,HF.o,rfl,rfl⟩,fresh_nil _ _,zb⟩
end deb
namespace tar
open Go.RowKit
theorem rmost(a:Option Addr)(len cap:Nat)(ls:List Du)(x m:Int)(w:World)(hr:RowD w a len ls)(hl:len≤maxLen):Calls Tryz.prog 50 #[.slice a len cap,zI x,zI m] w λe w'=>ThreePost w (MostIs ls x m) e w':=by
 have a0:=zh (rmay a len cap ls x 0 w hr hl);have E:Hid (∀W,zC 47 #[zI m,zI 0,zI 1000000000000] W λe w'=>e=.returned (.bool (decide (0≤m∧m≤1000000000000)))∧w'=W):=λW=>cal.cin m 0 1000000000000 W;go_enter Tryz.func50,Tryz.ntmps50;go_wp2_with fail;refine a0.o.mono ?_;rintro e w1 ⟨f,rfl,hf,hb⟩;have P:=zh hb;by_cases h0:f=0
 ·subst h0;have Q:=hf.ok.1 rfl;have X:=Q.2.1.1;have a6:=Q.2.1.2;have HR:=zh Q.1;have D:Hid (∀(u:Nat) W,zB w1 W→x+(u:Int)≤10000000→zC 91 #[.slice a len cap,zI x,zI (x+(u:Int))] W λe w'=>ValPost W (cost ls x (x+(u:Int))) e w'):=λu W hW hu=>rcost a len cap ls x (x+(u:Int)) W ((hr.below hb).below hW) Q.1 X (by omega) hu;clear hf hb hr hl;by_cases s:0≤m∧m≤1000000000000
  ·rw[decide_eq_true s] at E;have R:Hid (MayMost x m):=⟨⟨X,a6⟩,s⟩
   obtain⟨a5,V⟩:=s;obtain⟨T,hT⟩:∃T:Nat,Top x=(T:Int):=⟨(Top x).toNat,by unfold Top;omega⟩
   have HT:=zh hT;have U:(T:Int)=2097151∨(T:Int)=10000000-x:=by unfold Top at hT;omega
   have a7:x+(T:Int)≤10000000:=by unfold Top at hT;omega
   have a8:(T:Int)≤2097151:=by unfold Top at hT;omega
   have HZ:Hid (cost ls x (x+((0:Nat):Int))≤m):=by show _≤_;rw[show x+((0:Nat):Int)=x by omega,cost_self HR.o];exact a5
   clear Q;go_wp2_with fail;refine(E.o _).mono ?_;rintro e Y ⟨rfl,O⟩;subst O;by_cases hd:10000000-x<2097151
   ·have a2:decide (10000000-x<2097151)=true:=decide_eq_true hd;have G:Hid (10000000-x=(T:Int)):=by show _=_;unfold Top at hT;omega
    clear hT U;go_wp2_with fail;go_loopw [10,11] (λu v wr=>∃l h:Nat,l≤h∧h≤T∧u=zI (l:Int)∧v=zI (h:Int)∧cost ls x (x+(l:Int))≤m∧(h=T∨m<cost ls x (x+((h:Int)+1)))∧zB Y wr) (λu v _=>(intOf v).toNat-(intOf u).toNat)
    case atStart=>exact⟨0,T,Nat.zero_le _,zc,rfl,by rw[← G.o],HZ.o,.inl rfl,zb⟩
    case round=>
     obtain⟨l,h,a3,hh,rfl,rfl,A,B,z⟩:=hrel;have t:=zh A;have y:=zh B;have g:=zh z;clear A B z;by_cases a4:l<h
     ·have L:decide ((l:Int)<(h:Int))=true:=by simp;omega
      have hq:Int.tdiv ((l:Int)+(h:Int)+1) 2=(((l+h+1)/2:Nat):Int):=by rw[Int.tdiv_eq_ediv_of_nonneg (by omega)];omega
      have V:l<(l+h+1)/2:=by omega
      have N:(l+h+1)/2≤h:=by omega
      generalize (l+h+1)/2=d at *;have k:=zh (D.o d wr g.o (by omega));by_cases j:cost ls x (x+(d:Int))≤m
      ·have n:=zh j;have K:decide (cost ls x (x+(d:Int))≤m)=true:=decide_eq_true j;clear j;generalize C:cost ls x (x+(d:Int))=c at *;have F:=zh C;clear C;go_wp2_with fail;refine k.o.mono ?_;rintro e Z ⟨rfl,b⟩;have i:=shB g b;clear b;go_wp2_with fail;go_roundw
       case rel=>exact⟨d,h,N,hh,rfl,rfl,by rw[F.o];exact n.o,y.o,i.o⟩
       case measure=>simp only[intOf];omega
      ·have n:Hid (m<cost ls x (x+(((d-1:Nat):Int)+1))):=by show _<_;rw[show (((d-1:Nat):Int)+1)=(d:Int) by omega];omega
       have K:decide (cost ls x (x+(d:Int))≤m)=false:=decide_eq_false j;have M:(d:Int)-1=((d-1:Nat):Int):=by omega
       clear j;have I:l≤d-1:=by omega
       have J:d-1≤T:=by omega
       have a1:d-1<h:=by omega
       generalize d-1=d1 at *;generalize cost ls x (x+(d:Int))=c at *;go_wp2_with fail;refine k.o.mono ?_;rintro e Z ⟨rfl,b⟩;have i:=shB g b;clear b;go_wp2_with fail;go_roundw
       case rel=>exact⟨l,d1,I,J,rfl,by first|rfl|(rw[M])|go_num,t.o,.inr n.o,i.o⟩
       case measure=>simp only[intOf];omega
     ·obtain rfl:l=h:=by omega
      have L:decide ((l:Int)<(l:Int))=false:=by simp
      have k:=zh (D.o l wr g.o (by omega));have H:Hid (MostIs ls x m (l:Int) (cost ls x (x+(l:Int))) 0):=.inr (.inr ⟨HR.o,R.o,rfl,⟨⟨by omega,by rw[HT.o];omega⟩,t.o,by rcases y.o with S|S;exact .inl (by rw[HT.o];omega);exact .inr S⟩,rfl⟩);generalize cost ls x (x+(l:Int))=c at *;go_wp2_with fail;refine k.o.mono ?_;rintro e Z ⟨rfl,b⟩;have i:=zh (P.o.trans ((g.o.trans (b.mono g.o.size)).mono P.o.size));clear b;go_wp2_with fail;go_ret3;exact⟨_,_,_,rfl,H.o,i.o⟩
   ·have a2:decide (10000000-x<2097151)=false:=decide_eq_false hd;have G:Hid (2097151=(T:Int)):=by show _=_;unfold Top at hT;omega
    clear hT U;go_wp2_with fail;go_loopw [10,11] (λu v wr=>∃l h:Nat,l≤h∧h≤T∧u=zI (l:Int)∧v=zI (h:Int)∧cost ls x (x+(l:Int))≤m∧(h=T∨m<cost ls x (x+((h:Int)+1)))∧zB Y wr) (λu v _=>(intOf v).toNat-(intOf u).toNat)
    case atStart=>exact⟨0,T,Nat.zero_le _,zc,rfl,by rw[← G.o],HZ.o,.inl rfl,zb⟩
    case round=>
     obtain⟨l,h,a3,hh,rfl,rfl,A,B,z⟩:=hrel;have t:=zh A;have y:=zh B;have g:=zh z;clear A B z;by_cases a4:l<h
     ·have L:decide ((l:Int)<(h:Int))=true:=by simp;omega
      have hq:Int.tdiv ((l:Int)+(h:Int)+1) 2=(((l+h+1)/2:Nat):Int):=by rw[Int.tdiv_eq_ediv_of_nonneg (by omega)];omega
      have V:l<(l+h+1)/2:=by omega
      have N:(l+h+1)/2≤h:=by omega
      generalize (l+h+1)/2=d at *;have k:=zh (D.o d wr g.o (by omega));by_cases j:cost ls x (x+(d:Int))≤m
      ·have n:=zh j;have K:decide (cost ls x (x+(d:Int))≤m)=true:=decide_eq_true j;clear j;generalize C:cost ls x (x+(d:Int))=c at *;have F:=zh C;clear C;go_wp2_with fail;refine k.o.mono ?_;rintro e Z ⟨rfl,b⟩;have i:=shB g b;clear b;go_wp2_with fail;go_roundw
       case rel=>exact⟨d,h,N,hh,rfl,rfl,by rw[F.o];exact n.o,y.o,i.o⟩
       case measure=>simp only[intOf];omega
      ·have n:Hid (m<cost ls x (x+(((d-1:Nat):Int)+1))):=by show _<_;rw[show (((d-1:Nat):Int)+1)=(d:Int) by omega];omega
       have K:decide (cost ls x (x+(d:Int))≤m)=false:=decide_eq_false j;have M:(d:Int)-1=((d-1:Nat):Int):=by omega
       clear j;have I:l≤d-1:=by omega
       have J:d-1≤T:=by omega
       have a1:d-1<h:=by omega
       generalize d-1=d1 at *;generalize cost ls x (x+(d:Int))=c at *;go_wp2_with fail;refine k.o.mono ?_;rintro e Z ⟨rfl,b⟩;have i:=shB g b;clear b;go_wp2_with fail;go_roundw
       case rel=>exact⟨l,d1,I,J,rfl,by first|rfl|(rw[M])|go_num,t.o,.inr n.o,i.o⟩
       case measure=>simp only[intOf];omega
     ·obtain rfl:l=h:=by omega
      have L:decide ((l:Int)<(l:Int))=false:=by simp
      have k:=zh (D.o l wr g.o (by omega));have H:Hid (MostIs ls x m (l:Int) (cost ls x (x+(l:Int))) 0):=.inr (.inr ⟨HR.o,R.o,rfl,⟨⟨by omega,by rw[HT.o];omega⟩,t.o,by rcases y.o with S|S;exact .inl (by rw[HT.o];omega);exact .inr S⟩,rfl⟩);generalize cost ls x (x+(l:Int))=c at *;go_wp2_with fail;refine k.o.mono ?_;rintro e Z ⟨rfl,b⟩;have i:=zh (P.o.trans ((g.o.trans (b.mono g.o.size)).mono P.o.size));clear b;go_wp2_with fail;go_ret3;exact⟨_,_,_,rfl,H.o,i.o⟩
  ·rw[decide_eq_false s] at E;have H:Hid (MostIs ls x m 0 0 2):=.inr (.inl ⟨HR.o,λh=>s h.2,rfl,rfl,rfl⟩);clear s Q;go_wp2_with fail;refine(E.o _).mono ?_;rintro e Y ⟨rfl,O⟩;subst O;go_wp2_with fail;go_ret3;exact⟨_,_,_,rfl,H.o,P.o⟩
 ·have a9:(f != 0)=true:=by simpa using h0
  have H:Hid (MostIs ls x m 0 0 f):=by
   rcases hf with⟨p,q⟩|⟨p,q,r⟩|⟨p,q,r⟩
   ·exact .inl ⟨p,q,rfl,rfl⟩
   ·exact .inr (.inl ⟨p,λh=>q ⟨h.1,⟨by decide,by decide⟩,by have:=h.1.2;omega⟩,r,rfl,rfl⟩)
   ·exact absurd r h0
  clear hf h0 hb hr hl;go_wp2_with fail;go_ret3;exact⟨_,_,_,rfl,H.o,P.o⟩
end tar
namespace acc
open tar (Du du0 Came RowD Ld PairT)
open Go.RowKit
def MayPost(w:World)(x:Ac)(e:Ending)(w':World):Prop:=∃r,e=.returned (.bool r)∧(r=true↔AMay x)∧zB w w'
theorem pmay(x:Ac)(p:Option Addr)(len cap:Nat)(w:World)(h:Came w p len cap x.ds):Calls Tryz.prog 64 #[.agg #[zI x.me,zI x.rv,zI x.nx,zI x.mo,zI x.bo,zI x.fr,.slice p len cap]] w λe w'=>MayPost w x e w':=by
 have g:Hid (∀W,zC 66 #[zI 0,zI 49,zI x.me] W λe w'=>e=.returned (.bool (decide (0≤x.me∧x.me≤49)))∧w'=W):=λW=>awithin 0 49 x.me W;have i:Hid (∀W,zC 66 #[zI 0,zI 15,zI x.rv] W λe w'=>e=.returned (.bool (decide (0≤x.rv∧x.rv≤15)))∧w'=W):=λW=>awithin 0 15 x.rv W;have j:Hid (∀W,zC 66 #[zI 1,zI 1048576,zI x.nx] W λe w'=>e=.returned (.bool (decide (1≤x.nx∧x.nx≤1048576)))∧w'=W):=λW=>awithin 1 1048576 x.nx W;have k:Hid (∀W,zC 66 #[zI 0,zI 2399,zI x.mo] W λe w'=>e=.returned (.bool (decide (0≤x.mo∧x.mo≤2399)))∧w'=W):=λW=>awithin 0 2399 x.mo W;have l:Hid (∀W,zC 66 #[zI 0,zI 10000000,zI x.bo] W λe w'=>e=.returned (.bool (decide (0≤x.bo∧x.bo≤10000000)))∧w'=W):=λW=>awithin 0 10000000 x.bo W;have m:Hid (∀W,zC 66 #[zI (-1),zI x.mo,zI x.fr] W λe w'=>e=.returned (.bool (decide (-1≤x.fr∧x.fr≤x.mo)))∧w'=W):=λW=>awithin (-1) x.mo x.fr W;obtain⟨F,E,r,q,-⟩:=sh1 w #[zI x.me,zI x.rv,zI x.nx,zI x.mo,zI x.bo,zI x.fr,.slice p len cap] 55;have D:Hid (zC 96 #[.slice p len cap] F λe w'=>tar.TwoPost F (deb.OwedIs x.ds) e w'):=deb.ktotal _ p len cap x.ds (h.below q.o);have H:F.cell? ⟨w.heap.size,6,none⟩=some (.slice p len cap):=r.o.cell 6;clear h;go_enter Tryz.func64,Tryz.ntmps64;go_upto_region 1 with fail
 rw[E.o];go_wp2_with fail;refine D.o.mono ?_;rintro e P ⟨O,f,rfl,hf,n⟩;have c:=shB q n;have C:=shN r n;have G:Hid (f=0↔deb.Mays x.ds):=hf.1.ok;clear hf n H;obtain⟨c0,c1,c2,K,L,M,H⟩:=scl7 C;by_cases B:f=0
 ·have I:Hid (deb.Mays x.ds):=G.o.1 B;subst B;by_cases s:0≤x.me∧x.me≤49
  ·rw[decide_eq_true s] at g;go_wp2_with fail;refine(g.o _).mono ?_;rintro e b ⟨rfl,a⟩;subst b;by_cases t:0≤x.rv∧x.rv≤15
   ·rw[decide_eq_true t] at i;go_wp2_with fail;refine(i.o _).mono ?_;rintro e b ⟨rfl,a⟩;subst b;by_cases u:1≤x.nx∧x.nx≤1048576
    ·rw[decide_eq_true u] at j;go_wp2_with fail;refine(j.o _).mono ?_;rintro e b ⟨rfl,a⟩;subst b;by_cases y:0≤x.mo∧x.mo≤2399
     ·rw[decide_eq_true y] at k;go_wp2_with fail;refine(k.o _).mono ?_;rintro e b ⟨rfl,a⟩;subst b;by_cases z:0≤x.bo∧x.bo≤10000000
      ·rw[decide_eq_true z] at l;go_wp2_with fail;refine(l.o _).mono ?_;rintro e b ⟨rfl,a⟩;subst b;by_cases A:-1≤x.fr∧x.fr≤x.mo
       ·rw[decide_eq_true A] at m;go_wp2_with fail;refine(m.o _).mono ?_;rintro e b ⟨rfl,a⟩;subst b;have J:Hid (AMay x):=⟨I.o,s,t,u,y,z,A⟩
        go_wp2_with fail;go_ret;exact⟨true,rfl,⟨λ_=>J.o,λ_=>rfl⟩,c.o⟩
       ·rw[decide_eq_false A] at m;have d:Hid (¬ AMay x):=λh=>A h.2.2.2.2.2.2;clear A;go_wp2_with fail;refine(m.o _).mono ?_;rintro e b ⟨rfl,a⟩;subst b;go_wp2_with fail
        all_goals first
         |(rename_i q1 q2;exact absurd q1 (by simp[undef]))
         |(go_ret;exact⟨false,rfl,⟨λh=>absurd h (by decide),λh=>absurd h d.o⟩,c.o⟩)
      ·rw[decide_eq_false z] at l;have d:Hid (¬ AMay x):=λh=>z h.2.2.2.2.2.1;clear z;go_wp2_with fail;refine(l.o _).mono ?_;rintro e b ⟨rfl,a⟩;subst b;go_wp2_with fail
       all_goals first
        |(rename_i q1 q2;exact absurd q1 (by simp[undef]))
        |(go_ret;exact⟨false,rfl,⟨λh=>absurd h (by decide),λh=>absurd h d.o⟩,c.o⟩)
     ·rw[decide_eq_false y] at k;have d:Hid (¬ AMay x):=λh=>y h.2.2.2.2.1;clear y;go_wp2_with fail;refine(k.o _).mono ?_;rintro e b ⟨rfl,a⟩;subst b;go_wp2_with fail
      all_goals first
       |(rename_i q1 q2;exact absurd q1 (by simp[undef]))
       |(go_ret;exact⟨false,rfl,⟨λh=>absurd h (by decide),λh=>absurd h d.o⟩,c.o⟩)
    ·rw[decide_eq_false u] at j;have d:Hid (¬ AMay x):=λh=>u h.2.2.2.1;clear u;go_wp2_with fail;refine(j.o _).mono ?_;rintro e b ⟨rfl,a⟩;subst b;go_wp2_with fail
     all_goals first
      |(rename_i q1 q2;exact absurd q1 (by simp[undef]))
      |(go_ret;exact⟨false,rfl,⟨λh=>absurd h (by decide),λh=>absurd h d.o⟩,c.o⟩)
   ·rw[decide_eq_false t] at i;have d:Hid (¬ AMay x):=λh=>t h.2.2.1;clear t;go_wp2_with fail;refine(i.o _).mono ?_;rintro e b ⟨rfl,a⟩;subst b;go_wp2_with fail
    all_goals first
     |(rename_i q1 q2;exact absurd q1 (by simp[undef]))
     |(go_ret;exact⟨false,rfl,⟨λh=>absurd h (by decide),λh=>absurd h d.o⟩,c.o⟩)
  ·rw[decide_eq_false s] at g;have d:Hid (¬ AMay x):=λh=>s h.2.1;clear s;go_wp2_with fail;refine(g.o _).mono ?_;rintro e b ⟨rfl,a⟩;subst b;go_wp2_with fail
   all_goals first
    |(rename_i q1 q2;exact absurd q1 (by simp[undef]))
    |(go_ret;exact⟨false,rfl,⟨λh=>absurd h (by decide),λh=>absurd h d.o⟩,c.o⟩)
 ·have N:(f==0)=false:=by simpa using B
  have d:Hid (¬ AMay x):=λh=>B (G.o.2 h.1);clear B;go_wp2_with fail
  all_goals first
   |(rename_i q1 q2;exact absurd q1 (by simp[undef]))
   |(go_ret;exact⟨false,rfl,⟨λh=>absurd h (by decide),λh=>absurd h d.o⟩,c.o⟩)
theorem wp_copyD{P:Program}{T S:TypeId}(hP:PairT P T S){w:World}{ops:Array Oper}{rest:List Oper}{o:Oper}{a:Act}{Q:Exit→Act→World→Prop}(hgd:o.guard=none)(s x:Operand)
  (ho:o.op=.call { callee:=.builtin .append,args:=#[s,x],argTypes:=#[S,S] })
  (base:Nat) (p:Option Addr) (len cap:Nat) (zs:List Du) (hs:a.eval s=zS) (hx:a.eval x=.slice p len cap) (hc:Came w p len cap zs) (hbase:base≤w.heap.size)
  (h:∀v' w',Ld T w' base v' zs→w.grownBy w' none→wpList P ops Q rest (a.put o.dst v') w'):wpList P ops Q (o::rest) a w:=by
 cases p with
 |some A=>exact tar.wp_pairs hP hgd s x ho base A len cap zs hs hx hc.row hc.bytes hbase h
 |none=>
  have c:=hc.nil rfl;have d:len=0:=by have:=hc.room;omega
  have e:zs=[]:=List.eq_nil_of_length_eq_zero (by have:=hc.row.1;omega);subst c d e;have f:=hP.under;have b:=hP.info;cases hq:P.info? T with
  |none=>rw[hq] at b;cases b
  |some i=>
   refine wpList_append_own_none hgd s x S ho base T i 2 f hq (zS) 0 [] hs (World.ownsRow_nil _ _ _ _) hx ?_;exact h _ _ (tar.Ld.zero _ _ _) ⟨rfl,rfl,rfl,zc,λ_ _ _=>rfl⟩
theorem pwork(F:Nat)(caps:Array Value)(Is:Ac→Bi→Int→Prop)(x:Ac)(p:Option Addr)(len cap:Nat)(w:World)(hc:Came w p len cap x.ds)(h5:¬ AMay x→Is ac0 bi0 5)(hK:∀args w,(callFunc F args).run Tryz.prog w=.ok (.enter F args) w)
  (hf:AMay x→∀(W:World)(g:Nat)(p':Option Addr)(cap':Nat),zB w W→w.heap.size≤g→Blk W g (wcs x bi0 p' len cap') 132→Ld 42 W (g+1) (.slice p' len cap') x.ds→zC F (#[.pointer (some ⟨g,0,none⟩)]++caps) W λe w'=>WPost W g (Or0 Is) e w'):
  Calls Tryz.prog 32 #[.agg #[zI x.me,zI x.rv,zI x.nx,zI x.mo,zI x.bo,zI x.fr,.slice p len cap],.func (.func F) #[] caps] w λe w'=>BPost w Is e w':=by
 have ay:=zh hf;have a6:=zh hc.row.1;have H5:=zh h5;clear hf h5;obtain⟨W0,aD,ah,aj,ai,R,aP⟩:=sh3 w #[zI x.me,zI x.rv,zI x.nx,zI x.mo,zI x.bo,zI x.fr,.slice p len cap] 55 #[zI 0,zI 0,zI 0,zI 0,zI 0,zI 0,zS] 55 #[zI 0,zI 0,zI 0,zI 0,zI 0,zI 0,zI 0] 33;have T:=zh (hc.below R.o);go_enter Tryz.func32,Tryz.ntmps32;go_upto_region 1 with fail
 rw[aD.o];clear hc;have aB:=zh (pmay x p len cap W0 T.o);go_wp2_with refine zw ?_;refine aB.o.mono ?_;rintro e s ⟨r,rfl,hr,t⟩;obtain⟨C,al,V⟩:=zn3 t ah aj ai;have ak:=zh (T.o.below t);have U:=shB R t;have aJ:=t.size;clear t;cases r with
 |false=>
  have HV:Hid (Is ac0 bi0 5):=H5.o λh=>Bool.noConfusion (hr.2 h);clear hr hK;go_wp2_with (first|refine zs ?_|refine zw ?_)
  intro aQ a;obtain⟨u,X⟩:=zk2 a C V;have D:=zk a U;have E:=zyb a;have aE:=a.size;clear a;go_wp2_with (first|refine zs ?_|refine zw ?_)
  intro aM a;obtain⟨Y,I⟩:=zk2 a u E;have G:=zk a D;have H:=zyb a;have af:=a.size;clear a;go_wp2_with fail;exact zr (.tuple #[.agg #[zI 0,zI 0,zI 0,zI 0,zI 0,zI 0,zS],.agg #[zI 0,zI 0,zI 0,zI 0,zI 0,zI 0,zI 0],zI 5]) (by simp[results,Tryz.results32,scl7 I,scl7 H,go_sem]) ⟨ac0,bi0,none,0,0,_,rfl,HV.o,deb.fresh_nil _ _,G.o⟩
 |true=>
  have HM:Hid (AMay x):=hr.1 rfl;clear hr;have aC:=zh C.o;have u:=zya C (.cells #[zI x.me,zI x.rv,zI x.nx,zI x.mo,zI x.bo,zI x.fr,.slice p len cap,zI 0,zI 0,zI 0,zI 0,zI 0,zI 0,zI 0] 132);have E:=zya al (.cells #[zI x.me,zI x.rv,zI x.nx,zI x.mo,zI x.bo,zI x.fr,.slice p len cap,zI 0,zI 0,zI 0,zI 0,zI 0,zI 0,zI 0] 132);have X:=zya V (.cells #[zI x.me,zI x.rv,zI x.nx,zI x.mo,zI x.bo,zI x.fr,.slice p len cap,zI 0,zI 0,zI 0,zI 0,zI 0,zI 0,zI 0] 132);have am:Hid (Came (s.alloc (.cells #[zI x.me,zI x.rv,zI x.nx,zI x.mo,zI x.bo,zI x.fr,.slice p len cap,zI 0,zI 0,zI 0,zI 0,zI 0,zI 0,zI 0] 132)) p len cap x.ds):=ak.o.below (zb.alloc zc _);have an:=zye s #[zI x.me,zI x.rv,zI x.nx,zI x.mo,zI x.bo,zI x.fr,.slice p len cap,zI 0,zI 0,zI 0,zI 0,zI 0,zI 0,zI 0] 132;have D:=zyf U (.cells #[zI x.me,zI x.rv,zI x.nx,zI x.mo,zI x.bo,zI x.fr,.slice p len cap,zI 0,zI 0,zI 0,zI 0,zI 0,zI 0,zI 0] 132);have aH:(s.alloc (.cells #[zI x.me,zI x.rv,zI x.nx,zI x.mo,zI x.bo,zI x.fr,.slice p len cap,zI 0,zI 0,zI 0,zI 0,zI 0,zI 0,zI 0] 132)).heap.size=s.heap.size+1:=by simp
  go_upto_region 4 with(first|(refine zqw rfl rfl rfl aC zqu55 ?_)|fail)
  generalize (s.alloc (.cells #[zI x.me,zI x.rv,zI x.nx,zI x.mo,zI x.bo,zI x.fr,.slice p len cap,zI 0,zI 0,zI 0,zI 0,zI 0,zI 0,zI 0] 132))=W2 at *;have aG:=zy6 u;go_wp2_with (first|(at_builtin;refine wp_copyD deb.debtT rfl _ _ rfl (s.heap.size+1) p len cap x.ds rfl rfl am.o (by omega) ?_)|refine zw ?_)
  intro v3 w3 Q ab;have A:zB W2 w3:=zb.grown ab zc (λk hk=>by cases hk);obtain⟨p3,a8,ae,a9⟩:=deb.ld_fresh Q HM.o.1;rw[a6.o] at ae a9;subst ae;obtain⟨Y,I,H,aO⟩:=zn4 A u E X an;have G:=shB D A;have az:=zh Q;have aK:=A.size;clear Q ab A a9 aG;go_wp2_with (first|refine zm ?_|refine zw ?_)
  intro W4 a;obtain⟨ao,ar,ap⟩:=zk3 a Y I H;have Z:=zk a G;have aq:=zyb a;have aA:=zh (ld_upd az.o a (by omega));have ax:=zh (ay.o HM.o W4 s.heap.size p3 a8 Z.o (by omega) aq.o aA.o);have aI:=a.size;clear a;go_wp2_with fail;refine ax.o.mono ?_;rintro e w5 ⟨y,b,q,n,c,f,rfl,ad,ac,aa,m⟩;have a1:=zh (ao.o.below m (by omega));have au:=zh (ar.o.below m (by omega));have a2:=zh (ap.o.below m (by omega));have J:=zh ac;have a0:=zh (Z.o.trans (m.mono (by omega)));have aL:=m.size;have L:=zh aa;have B:=zh (came_lt L.o.came);have a7:=zh ad;clear ad ac aa m hK;by_cases h0:f=0
  ·subst h0
   have HV:Hid (Is y b 0):=by
    rcases a7.o with⟨h,_⟩|⟨_,h⟩
    ·exact absurd rfl h
    ·exact h
   go_wp2_with fail;refine wp_region_held_drew (S:=λv=>Blk v (s.heap.size) #[zI y.me,zI y.rv,zI y.nx,zI y.mo,zI y.bo,zI y.fr,.slice q n c,zI b.id,zI b.te,zI b.de,zI b.fe,zI b.pr,zI b.ch,zI b.un] 132) (by kernel_rfl) (Blk.drew J.o 1) (λl=>?_);refine zt' 0 (.pointer (some ⟨s.heap.size,0,none⟩)) ?_;refine zu' 1 (.agg #[zI y.me,zI y.rv,zI y.nx,zI y.mo,zI y.bo,zI y.fr,.slice q n c]) rfl rfl (Or.inl ⟨by rfl,λv j=>by have g0:=j.cell 0;have g1:=j.cell 1;have g2:=j.cell 2;have g3:=j.cell 3;have g4:=j.cell 4;have g5:=j.cell 5;have g6:=j.cell 6;clear j;go_simp⟩) ?_;refine zt' 2 (.pointer (some ⟨s.heap.size,7,none⟩)) ?_;refine zu' 3 (.agg #[zI b.id,zI b.te,zI b.de,zI b.fe,zI b.pr,zI b.ch,zI b.un]) rfl rfl (Or.inl ⟨by rfl,λv j=>by have g0:=j.cell 7;have g1:=j.cell 8;have g2:=j.cell 9;have g3:=j.cell 10;have g4:=j.cell 11;have g5:=j.cell 12;have g6:=j.cell 13;clear j;go_simp⟩) ?_;refine zo 4 λK hK=>?_;rw[if_pos (by rfl)];refine wp_letOp 55 _ _ rfl (w.heap.size+1) rfl #[zI y.me,zI y.rv,zI y.nx,zI y.mo,zI y.bo,zI y.fr,.slice q n c] rfl (by kernel_rfl) (by simp[Value.oneCell']) #[zI 0,zI 0,zI 0,zI 0,zI 0,zI 0,zS] 55 (Blk.drew au.o 1) rfl rfl ?_;intro V1 a;have N:=zh (a.keep (Blk.drew a1.o 1) (by omega));have O:=zyb a;have a4:=zh (a.keep (Blk.drew a2.o 1) (by omega));have z:=zh (a.keep (Blk.drew J.o 1) (by omega));have a3:Hid (deb.Fresh V1 (s.heap.size+1) q n c y.ds):=fresh_updN (fresh_drew L.o) a (λhn y hy=>by have f1:=L.o.new hn y hy;have f2:=B.o hn y hy;omega);have M:Hid (zB w V1):=a.bel _ _ (by omega) a0.o.drew;clear a;refine hK.o _ _ z.o (λl=>?_);clear hK K;refine zo 5 λK hK=>?_;rw[if_pos (by rfl)];refine wp_letOp 33 _ _ rfl (w.heap.size+1+1) rfl #[zI b.id,zI b.te,zI b.de,zI b.fe,zI b.pr,zI b.ch,zI b.un] rfl (by kernel_rfl) (by simp[Value.oneCell']) #[zI 0,zI 0,zI 0,zI 0,zI 0,zI 0,zI 0] 33 a4.o rfl rfl ?_
   intro V2 a;obtain⟨aw,i,a5⟩:=zk3 a N O z;have d:=zyb a;have av:Hid (deb.Fresh V2 (s.heap.size+1) q n c y.ds):=fresh_updN a3.o a (λhn y hy=>by have f1:=a3.o.new hn y hy;have f2:=B.o hn y hy;omega);have P:=zk a M;clear a;refine hK.o _ _ a5.o (λl=>?_);clear hK K;refine zt' 6 (zI 0) ?_;refine wpAnyH_done (by kernel_rfl) ?_ _;clear l;go_wp2_with fail;exact zr (.tuple #[.agg #[zI y.me,zI y.rv,zI y.nx,zI y.mo,zI y.bo,zI y.fr,.slice q n c],.agg #[zI b.id,zI b.te,zI b.de,zI b.fe,zI b.pr,zI b.ch,zI b.un],zI 0]) (by simp[results,Tryz.results32,zy0 i,zy1 i,zy2 i,zy3 i,zy4 i,zy5 i,zy6 i,zy0 d,zy1 d,zy2 d,zy3 d,zy4 d,zy5 d,zy6 d,go_sem]) ⟨y,b,q,n,c,0,rfl,HV.o,av.o.low (by omega),P.o⟩
  ·have d0:(f != 0)=true:=by simpa using h0
   have HV:Hid (Is ac0 bi0 f):=by
    rcases a7.o with⟨_,h⟩|⟨h,_⟩
    ·exact h
    ·exact absurd h h0
   clear h0;go_wp2_with (first|refine zs ?_|refine zw ?_)
   intro aR a;obtain⟨N,a4,z⟩:=zk3 a a1 a2 J;have M:=zk a a0;have O:=zyb a;have aF:=a.size;clear a;go_wp2_with (first|refine zs ?_|refine zw ?_)
   intro aN a;obtain⟨aw,i,a5⟩:=zk3 a N O z;have P:=zk a M;have d:=zyb a;have ag:=a.size;clear a;go_wp2_with fail;exact zr (.tuple #[.agg #[zI 0,zI 0,zI 0,zI 0,zI 0,zI 0,zS],.agg #[zI 0,zI 0,zI 0,zI 0,zI 0,zI 0,zI 0],zI f]) (by simp[results,Tryz.results32,scl7 i,scl7 d,go_sem]) ⟨ac0,bi0,none,0,0,_,rfl,HV.o,deb.fresh_nil _ _,P.o⟩
end acc
end Go.Proofs.YtoepgdhiepedeaaGreatDoor
