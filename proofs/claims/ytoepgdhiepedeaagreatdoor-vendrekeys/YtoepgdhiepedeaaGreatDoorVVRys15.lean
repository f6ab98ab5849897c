import Derived.Test.YtoepgdhiepedeaaGreatDoorVVRys6
import Derived.Test.YtoepgdhiepedeaaGreatDoorVVRys8
import Derived.Test.YtoepgdhiepedeaaGreatDoorVVRys9
import Derived.Test.YtoepgdhiepedeaaGreatDoorVVRys10
set_option linter.unusedVariables false
set_option linter.unusedSimpArgs false
set_option maxHeartbeats 4000000
set_option maxRecDepth 100000
namespace Go.Proofs.YtoepgdhiepedeaaGreatDoor
namespace book
open Go.RowKit
open acc (Ac Tm Bi APost BPost OweIs SellIs GrantIs RekeyIs)
def Small(bk:List Cm)(k:Nat):Prop:=bk.length≤k∧∀c∈bk,c.so.length≤k∧0≤c.a.rv∧c.a.rv≤15
theorem Small.zero:Small [] 0:=⟨zc,λc a=>by cases a⟩
theorem owe_rv{a b:Ac}{d:tar.Du}(h:OweIs a d b 0)(hr:0≤a.rv∧a.rv≤15):0≤b.rv∧b.rv≤15:=by
 rcases h with⟨_,_,e⟩|⟨_,_,_,e⟩|⟨_,_,_,_,e⟩|⟨_,_,_,rfl,_⟩
 ·cases e
 ·cases e
 ·cases e
 ·exact hr
variable{t:Tm}{v:Ev}
theorem tells_rv{c:Cm}{b:Ac}{l:Bi}(h:Tells t c v b l 0)(hr:0≤c.a.rv∧c.a.rv≤15):0≤b.rv∧b.rv≤15:=by
 rcases h with⟨_,h⟩|⟨_,h⟩|⟨_,h⟩
 ·rcases h with⟨p,rfl,_⟩|⟨_,_,e,_⟩|⟨_,_,_,e,_⟩|⟨_,_,_,_,u,_,rfl,_⟩
  ·exact⟨Int.le_refl _,by show (0:Int)≤15;decide⟩
  ·cases e
  ·cases e
  ·exact hr
 ·rcases h with⟨p,rfl,_⟩|⟨_,_,e,_⟩|⟨_,_,_,e,_⟩|⟨_,_,_,_,e,_⟩|⟨_,_,_,_,_,rfl,_⟩
  ·exact⟨Int.le_refl _,by show (0:Int)≤15;decide⟩
  ·cases e
  ·cases e
  ·cases e
  ·exact hr
 ·rcases h with⟨_,_,_,e⟩|⟨_,_,_,_,e⟩|⟨_,_,_,_,_,e⟩|⟨_,q,_,rfl,_,_⟩
  ·cases e
  ·cases e
  ·cases e
  ·exact⟨by show 0≤c.a.rv+1;omega,by show c.a.rv+1≤15;omega⟩
theorem hap_small{c c':Cm}{k:Nat}(h:HapIs t c v c' 0)(hs:c.so.length≤k∧0≤c.a.rv∧c.a.rv≤15):c'.so.length≤k+1∧0≤c'.a.rv∧c'.a.rv≤15:=by
 rcases h with⟨_,b,q,r⟩|⟨_,b,l,e,q,r⟩
 ·rw[r rfl];exact⟨by show c.so.length≤k+1;omega,owe_rv q hs.2⟩
 ·rcases r with⟨x,y⟩|⟨_,_,y⟩|⟨x,_,_,rfl⟩
  ·exact absurd y.symm x
  ·cases y
  ·subst x;refine⟨?_,tells_rv q hs.2⟩;show (c.so++[_]).length≤k+1;rw[List.length_append];exact Nat.succ_le_succ hs.1
theorem step_small{bk bk':List Cm}{k:Nat}(h:StepIs t bk v bk' 0)(hs:Small bk k):Small bk' (k+1):=by
 rcases h with⟨_,e⟩|⟨_,_,_,e⟩|⟨_,_,_,_,rfl⟩|⟨_,_,_,e⟩|⟨_,_,j,g,hj,d,b⟩
 ·cases e
 ·cases e
 ·refine⟨by rw[List.length_append];exact Nat.succ_le_succ hs.1,λc a=>?_⟩;rcases List.mem_append.1 a with h|h
  ·have:=hs.2 c h;omega
  ·rw[List.mem_singleton.1 h];exact⟨Nat.zero_le _,Int.le_refl _,by show (0:Int)≤15;decide⟩
 ·cases e
 ·rw[b rfl]
  have f:bk.getD j cm0∈bk:=by
   have:bk.getD j cm0=bk[j]'hj.1:=by simp[List.getD,List.getElem?_eq_getElem hj.1]
   rw[this];exact List.getElem_mem _
  refine⟨by rw[List.length_set];have:=hs.1;omega,λc a=>?_⟩;rcases List.mem_or_eq_of_mem_set a with h|rfl
  ·have:=hs.2 c h;omega
  ·exact hap_small d (hs.2 _ f)
end book
namespace rcp
structure Rc where
 me:Int
 id:Int
 te:Int
 de:Int
 fe:Int
 pr:Int
 ch:Int
 un:Int
 tk:List UInt8
def rc0:Rc:=⟨0,0,0,0,0,0,0,0,[]⟩
end rcp
namespace vnd
open disk (RepIs AppIs May repD lenAt)
open book (Ev ev0 EMay evL evOf EncIs DecIs Cm cm0 So so0 BookIs FirstAt NoneAt Tells billOf soldOf)
open acc (Ac Tm Bi SellIs GrantIs RekeyIs OweIs)
open ora (Pr IssueIs)
open cell (Wr)
open rcp (Rc rc0)
open token (Tok fmtL)
def DecOk(z:List Int):Prop:=z.length=13∧EMay (evOf z)
variable{c:List Int}{ls ls':List Wr}{f f':Int}{z:List Int}{r r':Rc}{v:Ev}
theorem DecOk.zero{e:Int}(h:DecOk z)(hd:DecIs z v e):e=0∧v=evOf z:=by
 rcases hd with⟨p,_⟩|⟨_,q,_⟩|⟨_,_,r,s⟩
 ·exact absurd h.1 p
 ·exact absurd h.2 q
 ·exact⟨s,r⟩
theorem dec_ok(hd:DecIs z v 0):DecOk z∧v=evOf z:=by
 rcases hd with⟨_,_,r⟩|⟨_,_,_,r⟩|⟨p,q,r,_⟩
 ·cases r
 ·cases r
 ·exact⟨⟨p,q⟩,r⟩
theorem dec_no{e:Int}(hd:DecIs z v e)(h:e≠0):v=ev0:=by
 rcases hd with⟨_,r,_⟩|⟨_,_,r,_⟩|⟨_,_,_,r⟩
 ·exact r
 ·exact r
 ·exact absurd r h
def KeptIs(c:List Int)(l:List Ev)(e:Int):Prop:=
 ∃ o x f,RepIs c o x f∧((f≠0∧l=[]∧e=f)∨(f=0∧(∀ j,j<o.length→DecOk (o.getD j []))∧l=o.map evOf∧e=0) ∨
  (f=0∧e≠0∧l=[]∧∃ k,k<o.length∧(∀ j,j<k→DecOk (o.getD j []))∧DecIs (o.getD k []) ev0 e))
theorem KeptIs.one{l l':List Ev}{e e':Int}(h:KeptIs c l e)(h':KeptIs c l' e'):l=l'∧e=e':=by
 obtain⟨o,x,f,r,h⟩:=h;obtain⟨y,z,u,d,h'⟩:=h';obtain⟨rfl,rfl,rfl⟩:=r.one d;rcases h with⟨p,rfl,rfl⟩|⟨p,q,rfl,rfl⟩|⟨p,q,rfl,k,s,t,m⟩<;>rcases h' with⟨n,rfl,rfl⟩|⟨n,b,rfl,rfl⟩|⟨n,b,rfl,g,i,j,a⟩<;>first|exact⟨rfl,rfl⟩|contradiction|skip
 ·exact absurd ((q g i).zero a).1 b
 ·exact absurd ((b k s).zero m).1 q
 ·rcases Nat.lt_trichotomy k g with c|c|c
  ·exact absurd ((j k c).zero m).1 q
  ·subst c;exact⟨rfl,(m.one a).2⟩
  ·exact absurd ((t g c).zero a).1 b
def LoadIs(t:Tm)(c:List Int)(bk:List Cm)(f:Int):Prop:=∃l e,KeptIs c l e∧((e≠0∧bk=[]∧f=e)∨(e=0∧∃a,BookIs t l bk a f))
theorem LoadIs.one{t:Tm}{b b':List Cm}(h:LoadIs t c b f)(h':LoadIs t c b' f'):b=b'∧f=f':=by
 obtain⟨l,e,i,h⟩:=h;obtain⟨n,m,d,h'⟩:=h';obtain⟨rfl,rfl⟩:=i.one d;rcases h with⟨p,rfl,rfl⟩|⟨p,a,q⟩<;>rcases h' with⟨j,rfl,rfl⟩|⟨j,k,g⟩<;>first|exact⟨rfl,rfl⟩|contradiction|exact⟨(q.one g).1,(q.one g).2.2⟩
def KeepIs(c:List Int)(v:Ev)(ls:List Wr)(f:Int):Prop:=
 ∃l e,KeptIs c l e∧((¬ l.length<120∧ls=[]∧f=16)∨(l.length<120∧∃ws g,EncIs v ws g∧((g≠0∧ls=[]∧f=g)∨(g=0∧AppIs c ws ls f))))
theorem KeepIs.one{l l':List Wr}(h:KeepIs c v l f)(h':KeepIs c v l' f'):l=l'∧f=f':=by
 obtain⟨k,e,b,h⟩:=h;obtain⟨u,s,a,h'⟩:=h';obtain⟨rfl,rfl⟩:=b.one a;rcases h with⟨p,rfl,rfl⟩|⟨p,z,g,q,r⟩<;>rcases h' with⟨d,rfl,rfl⟩|⟨d,m,t,i,j⟩<;>first|exact⟨rfl,rfl⟩|contradiction|skip
 obtain⟨rfl,rfl⟩:=q.one i;rcases r with⟨x,rfl,rfl⟩|⟨x,y⟩<;>rcases j with⟨n,rfl,rfl⟩|⟨n,o⟩<;>first|exact⟨rfl,rfl⟩|contradiction|exact y.one o
def tokE(kd me mo:Int)(l:Bi)(tg:Int):Ev:=⟨kd,me,mo,l.id,l.te,l.de,l.fe,l.pr,l.ch,l.un,tg,0,0⟩
def askE(kd me te mo:Int):Ev:=⟨kd,me,mo,0,te,0,0,0,0,0,0,0,0⟩
def tokB(kd rv:Int)(l:Bi)(tg:Int):Tok:=if kd=4 then ⟨2,l.id.toNat,(rv+1).toNat,tg.toNat⟩ else ⟨0,l.id.toNat,l.un.toNat,tg.toNat⟩
def recB(kd rv me:Int)(l:Bi)(tg:Int):Rc:=⟨me,l.id,l.te,l.de,l.fe,l.pr,l.ch,l.un,fmtL (97*(tokB kd rv l tg).num)⟩
def Gone(ls:List Wr)(o':List Pr)(r:Rc)(f x:Int):Prop:=ls=[]∧o'=[]∧r=rc0∧f=x
theorem Gone.one{o o':List Pr}{f f' x:Int}(h:Gone ls o r f x)(h':Gone ls' o' r' f' x):ls=ls'∧o=o'∧r=r'∧f=f':=by
 obtain⟨rfl,rfl,rfl,rfl⟩:=h;obtain⟨rfl,rfl,rfl,rfl⟩:=h';exact⟨rfl,rfl,rfl,rfl⟩
def TagIs(kd rv me mo dr:Int)(c:List Int)(o:List Pr)(l:Bi)(ls:List Wr)(o':List Pr)(r:Rc)(f:Int):Prop:=
 ∃o2 tg g,IssueIs o me rv ((tokB kd rv l 0).body:Int) dr o2 tg g∧((g≠0∧Gone ls o' r f g)∨(g=0∧∃l2 g3,KeepIs c (tokE kd me mo l tg) l2 g3∧((g3≠0∧Gone ls o' r f g3)∨(g3=0∧ls=l2∧o'=o2∧r=recB kd rv me l tg∧f=0))))
theorem TagIs.one{kd rv me mo dr:Int}{o:List Pr}{l:Bi}{a a':List Pr}(h:TagIs kd rv me mo dr c o l ls a r f)(h':TagIs kd rv me mo dr c o l ls' a' r' f'):ls=ls'∧a=a'∧r=r'∧f=f':=by
 obtain⟨D,E,g,i,h⟩:=h;obtain⟨k,t,A,b,h'⟩:=h';obtain⟨rfl,rfl,rfl⟩:=i.one b;rcases h with⟨p,q⟩|⟨p,C,B,q,s⟩<;>rcases h' with⟨m,d⟩|⟨m,j,e,d,n⟩<;>first|exact q.one d|contradiction|skip
 obtain⟨rfl,rfl⟩:=q.one d;rcases s with⟨x,y⟩|⟨x,rfl,rfl,rfl,rfl⟩<;>rcases n with⟨u,z⟩|⟨u,rfl,rfl,rfl,rfl⟩<;>first|exact y.one z|contradiction|exact⟨rfl,rfl,rfl,rfl⟩
def TokIs(kd:Int)(t:Tm)(c:List Int)(o:List Pr)(me te mo dr:Int)(ls:List Wr)(o':List Pr)(r:Rc)(f:Int):Prop:=
 ∃bk g,LoadIs t c bk g∧((g≠0∧Gone ls o' r f g)∨(g=0∧NoneAt bk me∧Gone ls o' r f 18)∨(g=0∧∃k b l h,FirstAt bk me k∧Tells t (bk.getD k cm0) (askE kd me te mo) b l h∧((h≠0∧Gone ls o' r f h)∨(h=0∧TagIs kd (bk.getD k cm0).a.rv me mo dr c o l ls o' r f))))
theorem TokIs.one{kd:Int}{t:Tm}{o:List Pr}{me te mo dr:Int}{a a':List Pr}(h:TokIs kd t c o me te mo dr ls a r f)(h':TokIs kd t c o me te mo dr ls' a' r' f'):ls=ls'∧a=a'∧r=r'∧f=f':=by
 obtain⟨E,g,A,h⟩:=h;obtain⟨n,F,e,h'⟩:=h';obtain⟨rfl,rfl⟩:=A.one e;rcases h with⟨p,q⟩|⟨p,q,s⟩|⟨p,k,b,l,x,q,s,u⟩<;>rcases h' with⟨j,d⟩|⟨j,d,i⟩|⟨j,G,D,H,I,d,i,B⟩<;>first|exact q.one d|exact s.one i|contradiction|exact absurd q d.some|exact absurd d q.some|skip
 obtain rfl:=q.one d;obtain⟨rfl,rfl,rfl⟩:=s.one i;rcases u with⟨y,z⟩|⟨y,z⟩<;>rcases B with⟨C,m⟩|⟨C,m⟩<;>first|exact z.one m|contradiction
end vnd
namespace cell
open Go.RowKit
theorem in_yes(n lo hi:Int)(w:World)(h1:lo≤n)(h2:n≤hi):
  Calls Tryz.prog 47 #[zI n,zI lo,zI hi] w λe w'=>e=.returned (.bool true)∧w'=w:=by
 go_enter Tryz.func47,Tryz.ntmps47;go_wp2;go_ret;exact⟨rfl,rfl⟩
theorem in_no(n lo hi:Int)(w:World)(h:n<lo∨hi<n):
  Calls Tryz.prog 47 #[zI n,zI lo,zI hi] w λe w'=>e=.returned (.bool false)∧w'=w:=by
 by_cases a:n<lo
 ·clear h;go_enter Tryz.func47,Tryz.ntmps47;go_wp2;go_ret;exact⟨rfl,rfl⟩
 ·have b:lo≤n:=by omega
  have c:decide (n≤hi)=false:=by simp;omega
  clear h a;go_enter Tryz.func47,Tryz.ntmps47;go_wp2;go_ret;exact⟨rfl,rfl⟩
end cell
namespace vnd
open ora (Pr)
open cell (Wr RowW)
open Go.RowKit
variable{p:Option Addr}{n:Nat}
theorem rowP_upd{w W:World}{g:Nat}{cs:Array Value}{T:TypeId}{l:List Pr}(h:ora.RowP w p n l)(hU:Upd w W g cs T)(hg:0<n→∀y,p=some y→y.block≠g):ora.RowP W p n l:=by
 refine⟨h.1,?_⟩;rcases h.2 with c|⟨b,d,rfl,k⟩
 ·exact .inl c
 ·refine .inr ⟨b,d,rfl,λi m=>?_⟩;have a:b≠g:=hg (by omega) _ rfl;obtain⟨c,e,f,j⟩:=k i m;exact⟨by rw[hU.cell _ a rfl];exact c,by rw[hU.cell _ a rfl];exact e,by rw[hU.cell _ a rfl];exact f,by rw[hU.cell _ a rfl];exact j⟩
theorem rowW_upd{w W:World}{g:Nat}{cs:Array Value}{T:TypeId}{l:List Wr}(h:RowW w p n l)(hU:Upd w W g cs T)(hg:0<n→∀y,p=some y→y.block≠g):RowW W p n l:=by
 refine⟨h.1,?_⟩;rcases h.2 with d|⟨b,c,rfl,e⟩
 ·exact .inl d
 ·refine .inr ⟨b,c,rfl,λi f=>?_⟩;have a:b≠g:=hg (by omega) _ rfl;rw[hU.cell _ a rfl,hU.cell _ a rfl];exact e i f
theorem rowW_lt{w:World}{l:List Wr}(h:RowW w p n l):0<n→∀y,p=some y→y.block<w.heap.size:=λc y d=>by
 rcases h.2 with f|⟨b,e,rfl,a⟩
 ·omega
 ·cases d;exact World.block_lt_of_cell? w _ (a 0 c).1
theorem rowP_lt{w:World}{l:List Pr}(h:ora.RowP w p n l):0<n→∀y,p=some y→y.block<w.heap.size:=λd y a=>by
 obtain⟨b,f,c,e,_⟩:=h.at d;rw[c] at a;cases a;exact e
end vnd
namespace deb
open tar (Du du0 Came RowD Ld ErrPost TwoPost PairT GaveD)
open Go.RowKit
theorem rrec(a:Option Addr)(len cap:Nat)(ls:List Du)(t bp:Int)(w:World)(hr:RowD w a len ls)(hl:len≤maxLen):Calls Tryz.prog 48 #[.slice a len cap,zI t,zI bp] w λe w'=>RecPost w ls t bp e w':=by
 have a4:Hid (zC 86 #[.slice a len cap] w λe w'=>∃f,e=.returned (zI f)∧FaultIs ls f∧w'=w):=rfault a len cap ls w hr hl;have a5:Hid (∀W,zC 89 #[zI t,zI bp] W λe w'=>∃s f,e=.returned (.tuple #[zI s,zI f])∧ShareIs t bp s f∧w'=W):=λW=>rshare t bp W;have G:=hr.1;go_enter Tryz.func48,Tryz.ntmps48;go_wp2_with fail;refine a4.o.mono ?_;rintro e w1 ⟨f,rfl,hf,ab⟩;subst ab;have HF:Hid (FaultIs ls f):=hf;by_cases h0:f=0
 ·subst h0;have hm:=hf.ok.1 rfl;have O:Hid (Mays ls):=hm;have l:Hid (ls.length=len):=G;have a8:len≤8:=by have:=hm.1;omega
  have T:Hid (RowD w1 a len ls):=hr;clear hf hm hr hl G;go_wp2_with fail;refine(a5.o _).mono ?_;rintro e i ⟨s,g,rfl,hs,ac⟩;subst ac;rcases hs with⟨Q,D,hg⟩|⟨Q,D,hg⟩
  ·have HT:Hid (TMay t bp):=Q;have a9:=share_bd Q;rw[← D] at a9;have K:Hid (s=t*bp/10000):=D;subst hg;clear Q D;go_wp2_with fail;go_loopw [11,12,13] (λu v x wr=>∃(k:Nat)(V:Value),k≤len∧x=zI (k:Int)∧v=zI (sumK ls k)∧V=u∧Ld 42 wr i.heap.size V (recK ls s k)∧zB i wr) (λ_ _ x _=>len-(intOf x).toNat)
   case atStart=>exact⟨0,_,Nat.zero_le _,rfl,rfl,rfl,tar.Ld.zero _ _ _,zb⟩
   case round=>
    obtain⟨k,V,hk,rfl,rfl,hV,hu,X⟩:=hrel;subst hV;have j:Hid (zB i wr):=X;have HU:Hid (Ld 42 wr i.heap.size V (recK ls s k)):=hu;have ag:=sumK_bd O.o k (by rw[l.o];exact hk);by_cases N:k<len
    ·have a7:decide ((k:Int)<(len:Int))=true:=by simp;omega
     obtain⟨b,F,rfl,Y,hc⟩:=T.o.at (by omega);have c0:wr.cell? ⟨b,F+k*2,none⟩=some (zI (ls.getD k du0).a):=(X.cell (p:=⟨b,F+k*2,none⟩) Y).trans (hc k N).1;have c1:wr.cell? ⟨b,F+k*2+1,none⟩=some (zI (ls.getD k du0).b):=(X.cell (p:=⟨b,F+k*2+1,none⟩) Y).trans (hc k N).2;have ho:=O.o.2 k (by rw[l.o];exact N);have ae:=ho.1.1;have af:=ho.1.2;have P:Hid (sumK ls k+(ls.getD k du0).a=sumK ls (k+1)):=(sumK_next ls k).symm;have HY:Hid (0<left (ls.getD k du0).a (sumK ls k+(ls.getD k du0).a) s→recK ls s (k+1)=recK ls s k++[⟨left (ls.getD k du0).a (sumK ls k+(ls.getD k du0).a) s,(ls.getD k du0).b⟩]):=recK_yes ls s k;have HZ:Hid (¬ 0<left (ls.getD k du0).a (sumK ls k+(ls.getD k du0).a) s→recK ls s (k+1)=recK ls s k):=recK_no ls s k;have a2:(recK ls s k).length≤1000000:=by have:=recK_len ls s k;omega
     clear hc X hu ho;generalize recK ls s k=Z at *;generalize sumK ls k=q at *;generalize (ls.getD k du0).a=x at *;generalize (ls.getD k du0).b=y at *;by_cases E:x<q+x-s
     ·have a6:decide (x<q+x-s)=true:=decide_eq_true E;have C:left x (q+x) s=x:=by unfold left;omega
      rw[C] at HY HZ;clear E C;by_cases c:0<x
      ·have L:decide (0<x)=true:=decide_eq_true c;have n:Hid (recK ls s (k+1)=Z++[⟨x,y⟩]):=HY.o c;clear c;have m:Hid (zB i (wr.alloc (.cells #[zI x,zI y] 42))):=j.o.alloc j.o.size _;have z:Hid (Ld 42 (wr.alloc (.cells #[zI x,zI y] 42)) i.heap.size V Z):=HU.o.alloc _;have J:Hid ((wr.alloc (.cells #[zI x,zI y] 42)).cell? ⟨wr.heap.size,0,none⟩=some (zI x)∧(wr.alloc (.cells #[zI x,zI y] 42)).cell? ⟨wr.heap.size,1,none⟩=some (zI y)):=⟨(Blk.new wr _ _).cell 0,(Blk.new wr _ _).cell 1⟩
       go_wp2_with (first
        |(at_builtin;refine tar.wp_pair debtT rfl _ _ rfl i.heap.size (wr.heap.size) V Z ⟨x,y⟩ rfl rfl z.o J.o a2 m.o.size ?_)
        | fail)
       intro v3 w3 U B;have I:Hid (zB i w3):=tar.own_bel z.o B m.o zc m.o.size;have H3:Hid (Ld 42 w3 i.heap.size v3 (Z++[⟨x,y⟩])):=U;clear U B c0 c1;go_wp2_with fail;go_roundw
       case rel=>exact⟨k+1,v3,by omega,by go_num,by rw[← P.o],by first|rfl|trivial,by rw[n.o];exact H3.o,I.o⟩
       case measure=>simp[intOf];omega
      ·have L:decide (0<x)=false:=decide_eq_false c;have n:Hid (recK ls s (k+1)=Z):=HZ.o c;clear c;go_wp2_with fail;go_roundw
       case rel=>exact⟨k+1,V,by omega,by go_num,by rw[← P.o],by first|rfl|trivial,by rw[n.o];exact HU.o,j.o⟩
       case measure=>simp[intOf];omega
     ·have a6:decide (x<q+x-s)=false:=decide_eq_false E;have C:left x (q+x) s=q+x-s:=by unfold left;omega
      rw[C] at HY HZ;clear E C;by_cases c:0<q+x-s
      ·have L:decide (0<q+x-s)=true:=decide_eq_true c;have M:decide (s<q+x)=true:=decide_eq_true (by omega);have n:Hid (recK ls s (k+1)=Z++[⟨q+x-s,y⟩]):=HY.o c;clear c;have m:Hid (zB i (wr.alloc (.cells #[zI (q+x-s),zI y] 42))):=j.o.alloc j.o.size _;have z:Hid (Ld 42 (wr.alloc (.cells #[zI (q+x-s),zI y] 42)) i.heap.size V Z):=HU.o.alloc _;have J:Hid ((wr.alloc (.cells #[zI (q+x-s),zI y] 42)).cell? ⟨wr.heap.size,0,none⟩=some (zI (q+x-s))∧(wr.alloc (.cells #[zI (q+x-s),zI y] 42)).cell? ⟨wr.heap.size,1,none⟩=some (zI y)):=⟨(Blk.new wr _ _).cell 0,(Blk.new wr _ _).cell 1⟩
       go_wp2_with (first
        |(at_builtin;refine tar.wp_pair debtT rfl _ _ rfl i.heap.size (wr.heap.size) V Z ⟨(q+x-s),y⟩ rfl rfl z.o J.o a2 m.o.size ?_)
        | fail)
       intro v3 w3 U B;have I:Hid (zB i w3):=tar.own_bel z.o B m.o zc m.o.size;have H3:Hid (Ld 42 w3 i.heap.size v3 (Z++[⟨(q+x-s),y⟩])):=U;clear U B c0 c1;go_wp2_with fail;go_roundw
       case rel=>exact⟨k+1,v3,by omega,by go_num,by rw[← P.o],by first|rfl|trivial,by rw[n.o];exact H3.o,I.o⟩
       case measure=>simp[intOf];omega
      ·have L:decide (0<q+x-s)=false:=decide_eq_false c;have M:decide (s<q+x)=false:=decide_eq_false (by omega);have n:Hid (recK ls s (k+1)=Z):=HZ.o c;clear c;go_wp2_with fail;go_roundw
       case rel=>exact⟨k+1,V,by omega,by go_num,by rw[← P.o],by first|rfl|trivial,by rw[n.o];exact HU.o,j.o⟩
       case measure=>simp[intOf];omega
    ·obtain rfl:k=len:=by omega
     have a7:decide ((k:Int)<(k:Int))=false:=by simp
     have HV:Hid (sumK ls k=sumD ls):=by have:=sumK_all ls;rw[l.o] at this;exact this
     have S:Hid (recK ls s k=recK ls (t*bp/10000) ls.length):=by show _=_;rw[l.o,K.o]
     have a1:Mays (recK ls s k):=⟨Nat.le_trans (recK_len ls s k) a8,fits_mem λd hd=>(recK_ok O.o s k (by rw[l.o];exact zc) d hd).1⟩
     obtain⟨a3,A,aa,a0⟩:=ld_fresh hu a1;subst aa;have R:Hid (Fresh wr i.heap.size a3 (recK ls s k).length A (recK ls s k)):=a0;clear X hu a1 a0;generalize (recK ls s k).length=H at *;generalize recK ls s k=Z at *;generalize sumK ls k=q at *;by_cases r:s<q
     ·have M:decide (s<q)=true:=decide_eq_true r;have HP:Hid (s=min (t*bp/10000) (sumD ls)):=by show _=_;rw[← K.o,← HV.o];omega
      clear r;go_wp2_with fail;go_ret3;exact⟨a3,H,A,Z,s,0,rfl,.inr (.inr ⟨O.o,HT.o,rfl,S.o,HP.o⟩),R.o,j.o⟩
     ·have M:decide (s<q)=false:=decide_eq_false r;have HP:Hid (q=min (t*bp/10000) (sumD ls)):=by show _=_;rw[← K.o,← HV.o];omega
      clear r;go_wp2_with fail;go_ret3;exact⟨a3,H,A,Z,q,0,rfl,.inr (.inr ⟨O.o,HT.o,rfl,S.o,HP.o⟩),R.o,j.o⟩
  ·subst D hg;have HT:Hid (¬ TMay t bp):=Q;clear Q;go_wp2_with fail;go_ret3;exact⟨none,0,0,[],0,2,rfl,.inr (.inl ⟨O.o,HT.o,rfl,rfl,rfl⟩),fresh_nil _ _,zb⟩
 ·have ad:(f != 0)=true:=by simpa using h0
  have P:Hid (¬ Mays ls):=λh=>h0 (hf.ok.2 h);clear hf h0 hr hl;go_wp2_with fail;go_ret3;exact⟨none,0,0,[],0,f,rfl,.inl ⟨P.o,HF.o,rfl,rfl⟩,fresh_nil _ _,zb⟩
end deb
namespace tar
open Go.RowKit
open Classical in
theorem kcheck:KtCheck:=by
 intro w a n cap ls hcame;have hr:=hcame.row;have hn:=hcame.most;clear hcame;have hlen:=hr.1;have HIU:Hid (∀x W,zC 102 #[zI 1,zI 10000000,zI x] W λe w'=>e=.returned (.bool (decide (1≤x∧x≤10000000)))∧w'=W):=λx W=>pwithin 1 10000000 x W;have HIP:Hid (∀x W,zC 102 #[zI 1,zI 100000,zI x] W λe w'=>e=.returned (.bool (decide (1≤x∧x≤100000)))∧w'=W):=λx W=>pwithin 1 100000 x W;by_cases hs:1≤n∧n≤8
 ·have HS:Hid (Sized ls):=by show 1≤ls.length∧ls.length≤8;rw[hlen];exact hs
  obtain⟨hs1,hs2⟩:=hs;have hd0:((n:Int)==0)=false:=by simp;omega
  have hd8:decide ((8:Int)<(n:Int))=false:=by simp;omega
  obtain⟨b,off,rfl,hbl,hc⟩:=hr.at hs1;have HC:Hid (∀i,i<n→w.cell? ⟨b,off+i*2,none⟩=some (zI (ls.getD i du0).a)∧w.cell? ⟨b,off+i*2+1,none⟩=some (zI (ls.getD i du0).b)):=hc;have HLEN:Hid (ls.length=n):=hlen;have HRS:Hid (∀W,zB w W→zC 146 #[.slice (some ⟨b,off,none⟩) n cap] W λe w'=>e=.returned (.bool (decide (Rises ls)))∧zB W w'):=λW hW=>prises b off n cap ls W hs1 hs2 hlen (Nat.lt_of_lt_of_le hbl hW.size) (λi hi=>⟨(hW.cell (p:=⟨b,off+i*2,none⟩) hbl).trans (hc i hi).1,(hW.cell (p:=⟨b,off+i*2+1,none⟩) hbl).trans (hc i hi).2⟩);have hnm:n≤9223372036854775807:=by omega
  clear hc hr hn hlen;go_enter Tryz.func101,Tryz.ntmps101;go_wp2_with fail;go_loopw [15] (λx wr=>∃k:Nat,k≤n∧x=zI (k:Int)∧(∀i,i<k→(1≤(ls.getD i du0).a∧(ls.getD i du0).a≤10000000)∧1≤(ls.getD i du0).b∧(ls.getD i du0).b≤100000)∧zB w wr) (λx _=>n-(intOf x).toNat)
  case atStart=>exact⟨0,Nat.zero_le _,rfl,λi hi=>absurd hi (Nat.not_lt_zero _),zb⟩
  case round=>
   obtain⟨k,hk,rfl,hf,hb⟩:=hrel;have HF:Hid (∀i,i<k→(1≤(ls.getD i du0).a∧(ls.getD i du0).a≤10000000)∧1≤(ls.getD i du0).b∧(ls.getD i du0).b≤100000):=hf;have HB:Hid (zB w wr):=hb;clear hf;by_cases hlt:k<n
   ·have hdl:decide ((k:Int)<(n:Int))=true:=by simp;omega
    have c0:wr.cell? ⟨b,off+k*2,none⟩=some (zI (ls.getD k du0).a):=(hb.cell (p:=⟨b,off+k*2,none⟩) hbl).trans (HC.o k hlt).1;have c1:wr.cell? ⟨b,off+k*2+1,none⟩=some (zI (ls.getD k du0).b):=(hb.cell (p:=⟨b,off+k*2+1,none⟩) hbl).trans (HC.o k hlt).2;have HBA:Hid (∀o,zB w (wr.alloc o)):=λo=>hb.alloc hb.size o;clear hb;have HU:=HIU.o (ls.getD k du0).a;have HP:=HIP.o (ls.getD k du0).b;by_cases hu:1≤(ls.getD k du0).a∧(ls.getD k du0).a≤10000000
    ·rw[decide_eq_true hu] at HU;by_cases hp:1≤(ls.getD k du0).b∧(ls.getD k du0).b≤100000
     ·rw[decide_eq_true hp] at HP
      have HF2:Hid (∀i,i<k+1→(1≤(ls.getD i du0).a∧(ls.getD i du0).a≤10000000)∧1≤(ls.getD i du0).b∧(ls.getD i du0).b≤100000):=λi hi=>by
       by_cases e:i=k
       ·subst e;exact⟨hu,hp⟩
       ·exact HF.o i (by omega)
      have HU2:Hid (∀W,zC 102 #[zI 1,zI 10000000,zI (ls.getD k du0).a] W λe w'=>e=.returned (.bool true)∧w'=W):=HU;have HP2:Hid (∀W,zC 102 #[zI 1,zI 100000,zI (ls.getD k du0).b] W λe w'=>e=.returned (.bool true)∧w'=W):=HP;clear hu hp;generalize (ls.getD k du0).a=x at *;generalize (ls.getD k du0).b=y at *;go_wp2_with fail;refine(HU2.o _).mono ?_;rintro e w2 ⟨rfl,hw2⟩;subst w2;go_wp2_with fail;refine(HP2.o _).mono ?_;rintro e w2 ⟨rfl,hw2⟩;subst w2;go_wp2_with fail;go_roundw
      case rel=>exact⟨k+1,by omega,by go_num,HF2.o,HBA.o _⟩
      case measure=>simp[intOf];omega
     ·rw[decide_eq_false hp] at HP;have HN:Hid (¬ Fits ls):=λh=>hp (h k (by rw[HLEN.o];exact hlt)).2;have HU2:Hid (∀W,zC 102 #[zI 1,zI 10000000,zI (ls.getD k du0).a] W λe w'=>e=.returned (.bool true)∧w'=W):=HU;have HP2:Hid (∀W,zC 102 #[zI 1,zI 100000,zI (ls.getD k du0).b] W λe w'=>e=.returned (.bool false)∧w'=W):=HP;clear hu hp;generalize (ls.getD k du0).a=x at *;generalize (ls.getD k du0).b=y at *;go_wp2_with fail;refine(HU2.o _).mono ?_;rintro e w2 ⟨rfl,hw2⟩;subst w2;go_wp2_with fail;refine(HP2.o _).mono ?_;rintro e w2 ⟨rfl,hw2⟩;subst w2;go_wp2_with fail;go_ret;exact⟨_,rfl,.inr (.inl ⟨HS.o,HN.o,rfl⟩),HBA.o _⟩
    ·rw[decide_eq_false hu] at HU;have HN:Hid (¬ Fits ls):=λh=>hu (h k (by rw[HLEN.o];exact hlt)).1;have HU2:Hid (∀W,zC 102 #[zI 1,zI 10000000,zI (ls.getD k du0).a] W λe w'=>e=.returned (.bool false)∧w'=W):=HU;clear hu;generalize (ls.getD k du0).a=x at *;generalize (ls.getD k du0).b=y at *;go_wp2_with fail;refine(HU2.o _).mono ?_;rintro e w2 ⟨rfl,hw2⟩;subst w2;go_wp2_with fail;go_ret;exact⟨_,rfl,.inr (.inl ⟨HS.o,HN.o,rfl⟩),HBA.o _⟩
   ·obtain rfl:k=n:=by omega
    have hdl:decide ((k:Int)<(k:Int))=false:=by simp
    have HFT:Hid (Fits ls):=λi hi=>HF.o i (by rw[HLEN.o] at hi;exact hi);have HR:=HRS.o wr hb;clear hb;have HE:Hid (Ends ls↔(ls.getD (k-1) du0).a=10000000):=by show Ends ls↔_;unfold Ends;rw[HLEN.o]
    have HC1:Hid (∀W,zB wr W→W.cell? ⟨b,off+(k-1)*2,none⟩=some (zI (ls.getD (k-1) du0).a)):=λW hW=>((HB.o.trans (hW.mono HB.o.size)).cell (p:=⟨b,off+(k-1)*2,none⟩) hbl).trans (HC.o (k-1) (by omega)).1;have hsub:((k:Int)-1)=((k-1:Nat):Int):=by omega
    have hjm:k-1<k:=by omega
    by_cases hri:Rises ls
    ·rw[decide_eq_true hri] at HR;have HR2:Hid (zC 146 #[.slice (some ⟨b,off,none⟩) k cap] wr λe w'=>e=.returned (.bool true)∧zB wr w'):=HR;have HRI:Hid (Rises ls):=hri;clear hri;go_wp2_with fail;refine HR2.o.mono ?_;rintro e w2 ⟨rfl,hw2⟩;have c1:=HC1.o w2 hw2;have HB2:=shB HB hw2;clear hw2;by_cases he:(ls.getD (k-1) du0).a=10000000
     ·have HRT:Hid (Right ls):=⟨HS.o,HFT.o,HRI.o,HE.o.2 he⟩
      have hne:((ls.getD (k-1) du0).a != 10000000)=false:=by rw[he];rfl
      clear he;generalize (ls.getD (k-1) du0).a=y at *;generalize k-1=j1 at *;go_wp2_with fail;go_ret;exact⟨_,rfl,.inr (.inr (.inr ⟨HRT.o,rfl⟩)),HB2.o⟩
     ·have HN:Hid (¬ (Rises ls∧Ends ls)):=λh=>he (HE.o.1 h.2);have hne:((ls.getD (k-1) du0).a != 10000000)=true:=by simpa using he
      clear he;generalize (ls.getD (k-1) du0).a=y at *;generalize k-1=j1 at *;go_wp2_with fail;go_ret;exact⟨_,rfl,.inr (.inr (.inl ⟨HS.o,HFT.o,HN.o,rfl⟩)),HB2.o⟩
    ·rw[decide_eq_false hri] at HR;have HR2:Hid (zC 146 #[.slice (some ⟨b,off,none⟩) k cap] wr λe w'=>e=.returned (.bool false)∧zB wr w'):=HR;have HN:Hid (¬ (Rises ls∧Ends ls)):=λh=>hri h.1;clear hri;go_wp2_with fail;refine HR2.o.mono ?_;rintro e w2 ⟨rfl,hw2⟩;have HB2:=shB HB hw2;clear hw2;generalize k-1=j1 at *;go_wp2_with fail;go_ret;exact⟨_,rfl,.inr (.inr (.inl ⟨HS.o,HFT.o,HN.o,rfl⟩)),HB2.o⟩
 ·have HS:Hid (¬ Sized ls):=by show ¬ (1≤ls.length∧ls.length≤8);rw[hlen];exact hs
  have hnm:n≤9223372036854775807:=by unfold maxLen at hn;omega
  clear hr hlen hn;by_cases h0:n=0
  ·subst h0;clear hs hnm;go_enter Tryz.func101,Tryz.ntmps101;go_wp2_with fail;go_ret;exact⟨_,rfl,.inl ⟨HS.o,rfl⟩,zb⟩
  ·have hd0:((n:Int)==0)=false:=by simp;omega
   have hd8:decide ((8:Int)<(n:Int))=true:=by simp;omega
   clear hs h0;go_enter Tryz.func101,Tryz.ntmps101;go_wp2_with fail;go_ret;exact⟨_,rfl,.inl ⟨HS.o,rfl⟩,zb⟩
open Go.Shelf
attribute [local go_sem] Oper.semAt_some
theorem blk_own{β:Type}(B:Nat)(t:TypeId)(f:β→Array Value):Own (λs W=>Blk W B (f s) t):=λs X Y row b g a=>by
 have h:=b.lt;refine(g.block B h λd=>?_).trans b;obtain⟨o,c,e⟩:=a B d.symm;rw[show X.heap[B]?=_ from b] at c;cases c;cases e
def boxes(w:World)(v:Value)(x u:Int):World:=((w.alloc (.cells #[v] 22)).alloc (.cells #[zI x] 3)).alloc (.cells #[zI u] 3)
theorem boxes_size(w:World)(v:Value)(x u:Int):(boxes w v x u).heap.size=w.heap.size+3:=by unfold boxes;simp
theorem boxes_t(w:World)(v:Value)(x u:Int):Boxed (boxes w v x u) w.heap.size 22 v:=((Boxed.new w _ v).alloc _).alloc _
theorem boxes_x(w:World)(v:Value)(x u:Int):Boxed (boxes w v x u) (w.heap.size+1) 3 (zI x):=by
 have h:=(Boxed.new (w.alloc (.cells #[v] 22)) 3 (zI x)).alloc (.cells #[zI u] 3);rw[World.size_alloc] at h;exact h
theorem boxes_u(w:World)(v:Value)(x u:Int):Boxed (boxes w v x u) (w.heap.size+1+1) 3 (zI u):=by
 have h:=Boxed.new ((w.alloc (.cells #[v] 22)).alloc (.cells #[zI x] 3)) 3 (zI u);rw[World.size_alloc,World.size_alloc] at h;exact h
theorem boxes_bel{n:Nat}{w0 w:World}(h:Below n w0 w)(hn:n≤w.heap.size)(v:Value)(x u:Int):Below n w0 (boxes w v x u):=((h.alloc hn _).alloc (by simp;omega) _).alloc (by simp;omega) _
theorem boxes_boxed{w:World}{B:Nat}{t:TypeId}{o:Value}(h:Boxed w B t o)(v:Value)(x u:Int):Boxed (boxes w v x u) B t o:=((h.alloc _).alloc _).alloc _
theorem lines_in(F:Fence)(n:Nat)(hF:F.fn 103)(hro:F.round=none)(a:Option Addr)(len cap:Nat)(x u:Int)(w:World):
  CallsIn F n Tryz.prog 103 #[.slice a len cap,zI x,zI u] w λe w'=>e=.returned (.func (.func 147) #[] #[.pointer (some ⟨w.heap.size+1,0,none⟩),.pointer (some ⟨w.heap.size,0,none⟩),.pointer (some ⟨w.heap.size+1+1,0,none⟩)])∧w'=boxes w (.slice a len cap) x u:=by
 refine callsIn_of_wp Tryz.func103 rfl hF ?_ hro;simp only[Tryz.ntmps103,List.size_toArray,List.length_cons,List.length_nil,Nat.reduceAdd,Nat.reduceSub,Array.replicate_succ,Array.replicate_zero,List.push_toArray,List.append_toArray,List.nil_append,List.cons_append]
 gi_wp2
 go_ret;exact⟨rfl,rfl⟩
structure Lnd (w:World) (n₀ B b off len cap:Nat) (ls:List Du) (x u:Int):Prop where
 right:Right ls
 many:ls.length=len
 x0:0≤x
 x1:x≤10000000
 u0:0≤u
 u1:x+u≤10000000
 bt:Boxed w B 22 (.slice (some ⟨b,off,none⟩) len cap)
 bx:Boxed w (B+1) 3 (zI x)
 bu:Boxed w (B+1+1) 3 (zI u)
 hb:b<n₀
 hn:n₀≤w.heap.size
 row:∀i,i<len→w.cell? ⟨b,off+i*2,none⟩=some (zI (ls.getD i du0).a)∧w.cell? ⟨b,off+i*2+1,none⟩=some (zI (ls.getD i du0).b)
theorem lines_stops(F:Fence)(n:Nat)(hF:F.fn 147)(hro:F.round=none)(hn:1≤n)(n₀ B b off len cap:Nat)(ls:List Du)(x u:Int)(w:World)(h:Lnd w n₀ B b off len cap ls x u):
  SeqStopsK F n Tryz.prog 147 #[.pointer (some ⟨B+1,0,none⟩),.pointer (some ⟨B,0,none⟩),.pointer (some ⟨B+1+1,0,none⟩)] encL (Kq n₀ B (B+3)) (λys=>lns ys=billK ls x (x+u) len) (λpre=>lns pre <+: billK ls x (x+u) len) len w:=λl J d W a f _ g e=>
 lines1_in F n hF hro hn l (B+1) B (B+1+1) n₀ B (B+3) b off len cap W.heap.size ls x u J d h.right h.many ⟨h.x0,h.x1⟩ ⟨h.u0,h.u1⟩ f g W
  (boxed_same h.bx (a.block _ h.bx.lt)) (boxed_same h.bt (a.block _ h.bt.lt)) (boxed_same h.bu (a.block _ h.bu.lt)) ⟨by omega,by omega⟩ ⟨by omega,by omega⟩ h.hb (Nat.le_trans h.hn a.size)
  (λi c=>⟨(a.cell (p:=⟨b,off+i*2,none⟩) (Nat.lt_of_lt_of_le h.hb h.hn)).trans (h.row i c).1,(a.cell (p:=⟨b,off+i*2+1,none⟩) (Nat.lt_of_lt_of_le h.hb h.hn)).trans (h.row i c).2⟩) e
theorem Kq.refl(n lo hi:Nat)(W:World):Kq n lo hi W W:=⟨zb,λ_ _ _=>rfl⟩
variable{n lo hi:Nat}
theorem Kq.alloc{W W':World}(h:Kq n lo hi W W')(o:Obj)(hn:n≤W'.heap.size)(hs:hi≤W'.heap.size):Kq n lo hi W (W'.alloc o):=⟨h.1.alloc hn o,λj a b=>(Below.heap_alloc W' o j (by omega)).trans (h.2 j a b)⟩
theorem Kq.set{W W':World}(h:Kq n lo hi W W')(B i:Nat)(v:Value)(hB:n≤B)(hl:B<lo∨hi≤B):Kq n lo hi W (W'.setCell ⟨B,i,none⟩ v):=⟨h.1.setCell (p:=⟨B,i,none⟩) hB v,λj a b=>(Below.heap_setCell W' ⟨B,i,none⟩ v j (by show j≠B;omega)).trans (h.2 j a b)⟩
theorem kq_b{w:World}(hn:n≤w.heap.size)(hh:hi≤w.heap.size)(W:World)(l:Nat)(o o':Obj)(hl:w.heap.size≤l)(h:W.heap[l]?=some o)(hc:o.isCells=false)(hw:o.isWalk=false):Kq n lo hi W (W.putObj l o'):=⟨belowK_b hn W l o o' hl h hc hw,λj a b=>(grownBy_putObj' W l o').block j (by have:=(Array.getElem?_eq_some_iff.1 h).1;omega) (λe=>by cases e;omega)⟩
theorem lnd_of{w w1:World}(n₀ B b off len cap:Nat){ls:List Du}{x u:Int}(hr:Right ls)(hl:ls.length=len)(hx:0≤x∧x≤10000000)(hu:0≤u∧x+u≤10000000)(hB:w1.heap.size=B)(hb:b<n₀)(hn:n₀≤w1.heap.size)
  (hbel:Below n₀ w w1) (hc:∀i,i<len→w.cell? ⟨b,off+i*2,none⟩=some (zI (ls.getD i du0).a)∧w.cell? ⟨b,off+i*2+1,none⟩=some (zI (ls.getD i du0).b)):Lnd (boxes w1 (.slice (some ⟨b,off,none⟩) len cap) x u) n₀ B b off len cap ls x u:=by
 subst hB;have c:=boxes_bel hbel hn (.slice (some ⟨b,off,none⟩) len cap) x u;exact⟨hr,hl,hx.1,hx.2,hu.1,hu.2,boxes_t _ _ _ _,boxes_x _ _ _ _,boxes_u _ _ _ _,hb,by rw[boxes_size];omega,λi d=>⟨(c.cell (p:=⟨b,off+i*2,none⟩) hb).trans (hc i d).1,(c.cell (p:=⟨b,off+i*2+1,none⟩) hb).trans (hc i d).2⟩⟩
end tar
namespace acc
open tar (Du)
open Go.RowKit
def KcOpen:Prop:=∀(W:World)(m:Int),(Lit.int .i64 m).wf=true→zC 181 #[zI m] W λe w'=>APost W (OpenIs m) e w'
end acc
namespace rct
open Go.RowKit
theorem met_tail{P:Program}{x:String × DataW Unit}{rest:List (String × DataW Unit)}{W:World}(h:laidMet P (x::rest) W):laidMet P rest W:=by
 obtain⟨o,l,i,e⟩:=h;obtain⟨m,r,cs,c,p,q,f,k,d,n,j,rfl⟩:=l;exact⟨q,j,(List.nodup_append.1 i).2.1,λb a g=>e b a (List.mem_append_right _ g)⟩
end rct
end Go.Proofs.YtoepgdhiepedeaaGreatDoor
