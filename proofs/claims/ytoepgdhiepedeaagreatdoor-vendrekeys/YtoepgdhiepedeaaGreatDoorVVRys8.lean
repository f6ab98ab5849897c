import Derived.Test.YtoepgdhiepedeaaGreatDoorVVRys5
import Derived.Test.YtoepgdhiepedeaaGreatDoorVVRys7
set_option linter.unusedVariables false
set_option linter.unusedSimpArgs false
set_option maxHeartbeats 4000000
set_option maxRecDepth 100000
namespace Go.Proofs.YtoepgdhiepedeaaGreatDoor
namespace book
open acc (Ac Tm Bi TFault TRight OweIs SellIs GrantIs RekeyIs)
structure Cm where
 a:Ac
 so:List So
def cm0:Cm:=⟨acc.ac0,[]⟩
def billOf(v:Ev):Bi:=⟨v.id,v.te,v.de,v.fe,v.pr,v.ch,v.un⟩
def soldOf(c:Cm)(v:Ev):So:=if v.kd=4 then ⟨v.id,2,c.a.rv+1,v.tg,c.a.rv⟩ else ⟨v.id,0,v.un,v.tg,c.a.rv⟩
def Tells(t:Tm)(c:Cm)(v:Ev)(b:Ac)(l:Bi)(e:Int):Prop:=(v.kd=2∧SellIs c.a t v.te v.mo b l e)∨(v.kd=3∧GrantIs c.a t v.mo b l e)∨(v.kd=4∧RekeyIs c.a b l e)
variable{t:Tm}{bk:List Cm}{l:List Ev}{v:Ev}
theorem Tells.one{c:Cm}{b b':Ac}{l l':Bi}{e e':Int}(h:Tells t c v b l e)(h':Tells t c v b' l' e'):b=b'∧l=l'∧e=e':=by
 rcases h with⟨p,q⟩|⟨p,q⟩|⟨p,q⟩<;>rcases h' with⟨d,a⟩|⟨d,a⟩|⟨d,a⟩<;>first|exact q.one a|omega
def HapIs(t:Tm)(c:Cm)(v:Ev)(c':Cm)(f:Int):Prop:=
 (v.kd=5∧∃b,OweIs c.a ⟨v.ow,v.bp⟩ b f∧(f=0→c'=⟨b,c.so⟩)) ∨
 (v.kd≠5∧∃b l e,Tells t c v b l e∧((e≠0∧f=e)∨(e=0∧l≠billOf v∧f=8)∨(e=0∧l=billOf v∧f=0∧c'=⟨b,c.so++[soldOf c v]⟩)))
theorem HapIs.one{c c' d':Cm}{f g:Int}(h:HapIs t c v c' f)(h':HapIs t c v d' g):f=g∧(f=0→c'=d'):=by
 rcases h with⟨p,b,q,r⟩|⟨p,b,l,e,q,r⟩<;>rcases h' with⟨a,k,d,i⟩|⟨a,k,s,o,d,i⟩
 ·obtain⟨rfl,rfl⟩:=q.one d;exact⟨rfl,λh=>(r h).trans (i h).symm⟩
 ·exact absurd p a
 ·exact absurd a p
 ·obtain⟨rfl,rfl,rfl⟩:=q.one d;rcases r with⟨x,rfl⟩|⟨x,y,rfl⟩|⟨x,y,rfl,z⟩<;>rcases i with⟨j,rfl⟩|⟨j,m,rfl⟩|⟨j,m,rfl,n⟩<;>first|exact⟨rfl,λh=>absurd h x⟩|exact⟨rfl,λh=>absurd h (by decide)⟩|exact⟨rfl,λ_=>z.trans n.symm⟩|contradiction
def FirstAt(bk:List Cm)(me:Int)(k:Nat):Prop:=k<bk.length∧(bk.getD k cm0).a.me=me∧∀j,j<k→(bk.getD j cm0).a.me≠me
def NoneAt(bk:List Cm)(me:Int):Prop:=∀j,j<bk.length→(bk.getD j cm0).a.me≠me
theorem FirstAt.one{me:Int}{k k':Nat}(h:FirstAt bk me k)(h':FirstAt bk me k'):k=k':=by
 rcases Nat.lt_trichotomy k k' with c|c|c
 ·exact absurd h.2.1 (h'.2.2 k c)
 ·exact c
 ·exact absurd h'.2.1 (h.2.2 k' c)
theorem FirstAt.some{me:Int}{k:Nat}(h:FirstAt bk me k):¬ NoneAt bk me:=λa=>a k h.1 h.2.1
def StepIs(t:Tm)(bk:List Cm)(v:Ev)(bk':List Cm)(f:Int):Prop:=
 (¬ EMay v∧f=5)∨(EMay v∧v.kd=1∧¬ NoneAt bk v.me∧f=21)∨(EMay v∧v.kd=1∧NoneAt bk v.me∧f=0∧bk'=bk++[⟨⟨v.me,0,1,0,0,-1,[]⟩,[]⟩]) ∨
 (EMay v∧v.kd≠1∧NoneAt bk v.me∧f=18)∨(EMay v∧v.kd≠1∧∃k c',FirstAt bk v.me k∧HapIs t (bk.getD k cm0) v c' f∧(f=0→bk'=bk.set k c'))
theorem StepIs.one{bk b b':List Cm}{f f':Int}(h:StepIs t bk v b f)(h':StepIs t bk v b' f'):f=f'∧(f=0→b=b'):=by
 rcases h with⟨p,rfl⟩|⟨p,q,r,rfl⟩|⟨p,q,r,rfl,s⟩|⟨p,q,r,rfl⟩|⟨p,q,k,c,m,n,o⟩<;>rcases h' with⟨d,rfl⟩|⟨d,j,l,rfl⟩|⟨d,j,l,rfl,u⟩|⟨d,j,l,rfl⟩|⟨d,j,y,x,a,g,i⟩<;>first|contradiction|exact⟨rfl,λh=>absurd h (by decide)⟩|exact⟨rfl,λ_=>s.trans u.symm⟩|exact absurd r a.some|exact absurd l m.some|skip
 obtain rfl:=m.one a;obtain⟨rfl,e⟩:=n.one g;exact⟨rfl,λh=>by rw[o h,i h,e h]⟩
def BookIs(t:Tm)(l:List Ev)(bk:List Cm)(at_ f:Int):Prop:=
 (TFault t f∧f≠0∧bk=[]∧at_=0)∨(TRight t∧120<l.length∧bk=[]∧at_=0∧f=1) ∨
 (TRight t∧l.length≤120∧∃ (k:Nat) (st:Nat→List Cm),st 0=[]∧(∀ i,i<k→StepIs t (st i) (l.getD i ev0) (st (i+1)) 0) ∧
  ((k=l.length∧bk=st k∧at_=0∧f=0)∨(k<l.length∧(∃ x,StepIs t (st k) (l.getD k ev0) x f)∧f≠0∧bk=[]∧at_=(k:Int))))
theorem states_one{k k':Nat}{st st':Nat→List Cm}(h0:st 0=[])(h0':st' 0=[])(h:∀i,i<k→StepIs t (st i) (l.getD i ev0) (st (i+1)) 0)(h':∀i,i<k'→StepIs t (st' i) (l.getD i ev0) (st' (i+1)) 0):∀i,i≤k→i≤k'→st i=st' i
 |0,_,_=>h0.trans h0'.symm
 |i+1,hk,hk'=>by
  have ih:=states_one h0 h0' h h' i (by omega) (by omega);have q:=h i (by omega);have a:=h' i (by omega);rw[ih] at q;exact(q.one a).2 rfl
theorem BookIs.one{b b':List Cm}{a a' f f':Int}(h:BookIs t l b a f)(h':BookIs t l b' a' f'):b=b'∧a=a'∧f=f':=by
 rcases h with⟨p,q,rfl,rfl⟩|⟨p,q,rfl,rfl,rfl⟩|⟨p,q,k,C,z,s,A⟩<;>rcases h' with⟨g,o,rfl,rfl⟩|⟨g,o,rfl,rfl,rfl⟩|⟨g,o,j,B,r,i,u⟩
 ·exact⟨rfl,rfl,p.one g⟩
 ·exact absurd (p.ok.2 g) q
 ·exact absurd (p.ok.2 g) q
 ·exact absurd (g.ok.2 p) o
 ·exact⟨rfl,rfl,rfl⟩
 ·omega
 ·exact absurd (g.ok.2 p) o
 ·omega
 ·have same:=states_one z r s i;rcases A with⟨e,rfl,rfl,rfl⟩|⟨e,⟨x,n⟩,hf,rfl,rfl⟩<;>rcases u with⟨y,rfl,rfl,rfl⟩|⟨y,⟨D,d⟩,m,rfl,rfl⟩
  ·have:k=j:=by omega
   subst this;exact⟨same k zc zc,rfl,rfl⟩
  ·have q:=s j (by omega);rw[same j (by omega) zc] at q;exact absurd ((q.one d).1.symm) m
  ·have q:=i k (by omega);rw[← same k zc (by omega)] at q;exact absurd ((q.one n).1.symm) hf
  ·rcases Nat.lt_trichotomy k j with c|c|c
   ·have q:=i k c;rw[← same k zc (by omega)] at q;exact absurd ((q.one n).1.symm) hf
   ·subst c;rw[same k zc zc] at n;exact⟨rfl,rfl,(n.one d).1⟩
   ·have q:=s j c;rw[same j (by omega) zc] at q;exact absurd ((q.one d).1.symm) m
theorem run_more{k:Nat}{st:Nat→List Cm}(h:∀i,i<k→StepIs t (st i) (l.getD i ev0) (st (i+1)) 0)(hs:StepIs t (st k) (l.getD k ev0) bk 0):∃st':Nat→List Cm,st' 0=st 0∧st' (k+1)=bk∧(∀i,i<k+1→StepIs t (st' i) (l.getD i ev0) (st' (i+1)) 0):=by
 refine⟨λi=>if i≤k then st i else bk,if_pos (Nat.zero_le _),if_neg (by omega),λi a=>?_⟩;show StepIs t (if i≤k then st i else bk) _ (if i+1≤k then st (i+1) else bk) 0;by_cases e:i=k
 ·subst e;rw[if_pos zc,if_neg (by omega)];exact hs
 ·rw[if_pos (by omega),if_pos (by omega)];exact h i (by omega)
end book
namespace ora
open Go.RowKit
theorem in_yes(n lo hi:Int)(w:World)(h1:lo≤n)(h2:n≤hi):
  Calls Tryz.prog 47 #[zI n,zI lo,zI hi] w λe w'=>e=.returned (.bool true)∧w'=w:=by
 go_enter Tryz.func47,Tryz.ntmps47;go_wp2;go_ret;exact⟨rfl,rfl⟩
theorem in_no(n lo hi:Int)(w:World)(h:n<lo∨hi<n):
  Calls Tryz.prog 47 #[zI n,zI lo,zI hi] w λe w'=>e=.returned (.bool false)∧w'=w:=by
 by_cases a:n<lo
 ·clear h;go_enter Tryz.func47,Tryz.ntmps47;go_wp2;go_ret;exact⟨rfl,rfl⟩
 ·have b:lo≤n:=by omega
  have c:decide (n≤hi)=false:=by simp;omega
  clear h a;go_enter Tryz.func47,Tryz.ntmps47;go_wp2;go_ret;exact⟨rfl,rfl⟩
theorem pairMay_any(m r b t:Int)(w:World):
  Calls Tryz.prog 54 #[.agg #[zI m,zI r,zI b,zI t]] w λe w'=>Told w (Pr.mk m r b t).may e w':=by
 have l:=Blk.new w #[zI m,zI r,zI b,zI t] 87;have c0:=l.cell 0;have c1:=l.cell 1;have c2:=l.cell 2;have y:=l.cell 3;have k:Hid (zB w (w.alloc (.cells #[zI m,zI r,zI b,zI t] 87))):=zb.alloc zc _;clear l;by_cases c:0≤m∧m≤49
 ·have g:Hid (∀W,zC 47 #[zI m,zI 0,zI 49] W λe w'=>e=.returned (.bool true)∧w'=W):=λW=>in_yes _ _ _ W c.1 c.2;by_cases d:0≤r∧r≤15
  ·have j:Hid (∀W,zC 47 #[zI r,zI 0,zI 15] W λe w'=>e=.returned (.bool true)∧w'=W):=λW=>in_yes _ _ _ W d.1 d.2;by_cases f:0≤b∧b≤8796093022207
   ·have n:Hid (∀W,zC 47 #[zI b,zI 0,zI 8796093022207] W λe w'=>e=.returned (.bool true)∧w'=W):=λW=>in_yes _ _ _ W f.1 f.2;by_cases i:0≤t∧t≤65535
    ·have q:Hid (∀W,zC 47 #[zI t,zI 0,zI 65535] W λe w'=>e=.returned (.bool true)∧w'=W):=λW=>in_yes _ _ _ W i.1 i.2;have a:Hid ((Pr.mk m r b t).may):=⟨c,d,f,i⟩
     clear c d f i;go_enter Tryz.func54,Tryz.ntmps54;go_wp2_with fail;refine(g.o _).mono ?_;rintro e p ⟨rfl,rfl⟩;go_wp2_with fail;refine(j.o _).mono ?_;rintro e s ⟨rfl,rfl⟩;go_wp2_with fail;refine(n.o _).mono ?_;rintro e u ⟨rfl,rfl⟩;go_wp2_with fail;refine(q.o _).mono ?_;rintro e x ⟨rfl,rfl⟩;go_wp2_with fail;go_ret;exact Told.yes a.o k.o
    ·have q:Hid (∀W,zC 47 #[zI t,zI 0,zI 65535] W λe w'=>e=.returned (.bool false)∧w'=W):=λW=>in_no _ _ _ W (by omega);have a:Hid (¬ (Pr.mk m r b t).may):=λh=>i h.2.2.2;clear c d f i;go_enter Tryz.func54,Tryz.ntmps54;go_wp2_with fail;refine(g.o _).mono ?_;rintro e p ⟨rfl,rfl⟩;go_wp2_with fail;refine(j.o _).mono ?_;rintro e s ⟨rfl,rfl⟩;go_wp2_with fail;refine(n.o _).mono ?_;rintro e u ⟨rfl,rfl⟩;go_wp2_with fail;refine(q.o _).mono ?_;rintro e x ⟨rfl,rfl⟩;go_wp2_with fail;go_ret;exact Told.no a.o k.o
   ·have n:Hid (∀W,zC 47 #[zI b,zI 0,zI 8796093022207] W λe w'=>e=.returned (.bool false)∧w'=W):=λW=>in_no _ _ _ W (by omega);have a:Hid (¬ (Pr.mk m r b t).may):=λh=>f h.2.2.1;clear c d f;go_enter Tryz.func54,Tryz.ntmps54;go_wp2_with fail;refine(g.o _).mono ?_;rintro e p ⟨rfl,rfl⟩;go_wp2_with fail;refine(j.o _).mono ?_;rintro e s ⟨rfl,rfl⟩;go_wp2_with fail;refine(n.o _).mono ?_;rintro e u ⟨rfl,rfl⟩;go_wp2_with fail;go_ret;exact Told.no a.o k.o
  ·have j:Hid (∀W,zC 47 #[zI r,zI 0,zI 15] W λe w'=>e=.returned (.bool false)∧w'=W):=λW=>in_no _ _ _ W (by omega);have a:Hid (¬ (Pr.mk m r b t).may):=λh=>d h.2.1;clear c d;go_enter Tryz.func54,Tryz.ntmps54;go_wp2_with fail;refine(g.o _).mono ?_;rintro e p ⟨rfl,rfl⟩;go_wp2_with fail;refine(j.o _).mono ?_;rintro e s ⟨rfl,rfl⟩;go_wp2_with fail;go_ret;exact Told.no a.o k.o
 ·have g:Hid (∀W,zC 47 #[zI m,zI 0,zI 49] W λe w'=>e=.returned (.bool false)∧w'=W):=λW=>in_no _ _ _ W (by omega);have a:Hid (¬ (Pr.mk m r b t).may):=λh=>c h.1;clear c;go_enter Tryz.func54,Tryz.ntmps54;go_wp2_with fail;refine(g.o _).mono ?_;rintro e p ⟨rfl,rfl⟩;go_wp2_with fail;go_ret;exact Told.no a.o k.o
theorem tagged_any(a:Option Addr)(n cap:Nat)(l:List Pr)(m r b:Int)(w:World)(hr:RowP w a n l)(hn:n≤9223372036854775807):
  Calls Tryz.prog 56 #[.agg #[.slice a n cap],zI m,zI r,zI b] w λe w'=>TagPost w l m r b e w':=by
 have E:Hid (Bo w (w.alloc (.cells #[.slice a n cap] 28)) a n cap l):=Bo.new hr;have I:Hid (l.length=n):=hr.1;clear hr;go_enter Tryz.func56,Tryz.ntmps56;go_wp2_with fail;generalize w.alloc (.cells #[.slice a n cap] 28)=S at *;go_loopw [9] (λj wr=>∃k:Nat,k≤n∧j=zI (k:Int)∧Hid (∀i,i<k→¬ (l.getD i pr0).key m r b)∧Bo w wr a n cap l) (λj _=>n-(intOf j).toNat)
 case atStart=>exact⟨0,Nat.zero_le _,rfl,λi K=>absurd K (Nat.not_lt_zero _),E.o⟩
 case round=>
  obtain⟨k,X,rfl,D,x⟩:=hrel;have B:Hid (Bo w wr a n cap l):=x;clear x;have c0:=B.o.box.cell 0;by_cases y:k<n
  ·obtain⟨O,H,rfl,_,J⟩:=B.o.row.at (by omega);obtain⟨T,U,V,W⟩:=J k y;have c:Hid ((l.getD k pr0).key m r b↔(l.getD k pr0).m=m∧(l.getD k pr0).r=r∧(l.getD k pr0).b=b):=Iff.rfl
   have q:Hid (¬ (l.getD k pr0).key m r b→∀i,i<k+1→¬ (l.getD i pr0).key m r b):=λG i K=>by
    by_cases e:i=k
    ·subst e;exact G
    ·exact D.o i (by omega)
   have F:Hid ((l.getD k pr0).key m r b→At l m r b k):=λG=>⟨by rw[I.o];exact y,G,D.o⟩;clear J;generalize (l.getD k pr0).key m r b=N at *;generalize (l.getD k pr0).m=A at *;generalize (l.getD k pr0).r=d at *;generalize (l.getD k pr0).b=z at *;generalize (l.getD k pr0).t=M at *;have C:=Blk.new wr #[zI A,zI d,zI z,zI M] 87;have Y:=C.cell 0;have Z:=C.cell 1;have n2:=C.cell 2;have g:Hid (Bo w (wr.alloc (.cells #[zI A,zI d,zI z,zI M] 87)) (some ⟨O,H,none⟩) n cap l):=B.o.alloc _;clear C;by_cases p:A=m
   ·have P:(A==m)=true:=by simp[p]
    by_cases s:d=r
    ·have Q:(d==r)=true:=by simp[s]
     by_cases u:z=b
     ·have R:(z==b)=true:=by simp[u]
      have f:Hid (At l m r b k):=F.o (c.o.2 ⟨p,s,u⟩);clear p s u;go_wp2_with fail;go_ret;exact⟨g.o.bel,.inl ⟨k,f.o,rfl⟩⟩
     ·have R:(z==b)=false:=by simp[u]
      have f:Hid (∀i,i<k+1→¬ (l.getD i pr0).key m r b):=q.o λh=>u (c.o.1 h).2.2;clear p s u;go_wp2_with fail;go_roundw
      case rel=>exact⟨k+1,by omega,by go_num,f,g.o⟩
      case measure=>simp[intOf];omega
    ·have Q:(d==r)=false:=by simp[s]
     have f:Hid (∀i,i<k+1→¬ (l.getD i pr0).key m r b):=q.o λh=>s (c.o.1 h).2.1;clear p s;go_wp2_with fail;go_roundw
     case rel=>exact⟨k+1,by omega,by go_num,f,g.o⟩
     case measure=>simp[intOf];omega
   ·have P:(A==m)=false:=by simp[p]
    have f:Hid (∀i,i<k+1→¬ (l.getD i pr0).key m r b):=q.o λh=>p (c.o.1 h).1;clear p;go_wp2_with fail;go_roundw
    case rel=>exact⟨k+1,by omega,by go_num,f,g.o⟩
    case measure=>simp[intOf];omega
  ·obtain rfl:n=k:=by omega
   have f:Hid (No l m r b):=λj L=>D.o j (by rw[I.o] at L;exact L);go_wp2_with fail;go_ret;exact⟨B.o.bel,.inr ⟨f.o,rfl⟩⟩
theorem omay_any(a:Option Addr)(n cap:Nat)(l:List Pr)(w:World)(hr:RowP w a n l):
  Calls Tryz.prog 53 #[.agg #[.slice a n cap]] w λe w'=>Told w (May l) e w':=by
 have s:Hid (Bo w (w.alloc (.cells #[.slice a n cap] 28)) a n cap l):=Bo.new hr;have K:Hid (l.length=n):=hr.1;clear hr;have c0:=s.o.box.cell 0;by_cases Z:n≤500
 ·have T:¬ (500:Int)<(n:Int):=by omega
  have Y:decide ((500:Int)<(n:Int))=false:=by simp;omega
  have P:Hid (∀W m r b t,zC 54 #[.agg #[zI m,zI r,zI b,zI t]] W λe w'=>Told W (Pr.mk m r b t).may e w'):=λW m r b t=>pairMay_any m r b t W;have R:Hid (∀W a m r b,RowP W a n l→zC 56 #[.agg #[.slice a n cap],zI m,zI r,zI b] W λe w'=>TagPost W l m r b e w'):=λW a m r b h=>tagged_any a n cap l m r b W h (by omega);go_enter Tryz.func53,Tryz.ntmps53;go_wp2_with fail;clear c0;generalize w.alloc (.cells #[.slice a n cap] 28)=W0 at *;go_loopw [3] (λj wr=>∃k:Nat,k≤n∧j=zI (k:Int)∧Hid (∀i,i<k→(l.getD i pr0).may∧At l (l.getD i pr0).m (l.getD i pr0).r (l.getD i pr0).b i)∧Bo w wr a n cap l) (λj _=>n-(intOf j).toNat)
  case atStart=>exact⟨0,Nat.zero_le _,rfl,λi f=>absurd f (Nat.not_lt_zero _),s.o⟩
  case round=>
   obtain⟨k,hk,rfl,V,D⟩:=hrel;have J:Hid (Bo w wr a n cap l):=D;clear D;have c0:=J.o.box.cell 0;by_cases E:k<n
   ·obtain⟨S,A,rfl,_,X⟩:=J.o.row.at (by omega);obtain⟨f0,f1,f2,f3⟩:=X k E
    have O:Hid ((Pr.mk (l.getD k pr0).m (l.getD k pr0).r (l.getD k pr0).b (l.getD k pr0).t).may→At l (l.getD k pr0).m (l.getD k pr0).r (l.getD k pr0).b k→∀i,i<k+1→(l.getD i pr0).may∧At l (l.getD i pr0).m (l.getD i pr0).r (l.getD i pr0).b i):=λh1 h2 i f=>by
     by_cases e:i=k
     ·subst e;exact⟨h1,h2⟩
     ·exact V.o i (by omega)
    have x:Hid (May l→(Pr.mk (l.getD k pr0).m (l.getD k pr0).r (l.getD k pr0).b (l.getD k pr0).t).may∧At l (l.getD k pr0).m (l.getD k pr0).r (l.getD k pr0).b k):=λp=>p.each k (by rw[K.o];exact E);clear X;generalize (l.getD k pr0).m=H at *;generalize (l.getD k pr0).r=d at *;generalize (l.getD k pr0).b=G at *;generalize (l.getD k pr0).t=I at *;have B:=Blk.new wr #[zI H,zI d,zI G,zI I] 87;have n0:=B.cell 0;have n1:=B.cell 1;have n2:=B.cell 2;have n3:=B.cell 3;have N:Hid (Blk (wr.alloc (.cells #[zI H,zI d,zI G,zI I] 87)) wr.heap.size #[zI H,zI d,zI G,zI I] 87):=B;have M:Hid (Bo w (wr.alloc (.cells #[zI H,zI d,zI G,zI I] 87)) (some ⟨S,A,none⟩) n cap l):=J.o.alloc _;clear B;go_wp2_with fail;refine(P.o _ _ _ _ _).mono ?_;rintro e w2 ⟨rr,rfl,q,y⟩;have g:Hid (Bo w w2 (some ⟨S,A,none⟩) n cap l):=M.o.next y;have L:=N.o.next y;have m0:=L.cell 0;have m1:=L.cell 1;have m2:=L.cell 2;have d0:=g.o.box.cell 0;clear L y n0 n1 n2 n3 c0;generalize wr.heap.size=gn at *;cases rr with
    |false=>
     have c:Hid (¬ May l):=λp=>by have:=q.2 (x.o p).1;cases this
     clear q;go_wp2_with fail;go_ret;exact Told.no c.o g.o.bel
    |true=>
     have Q:Hid ((Pr.mk H d G I).may):=q.1 rfl;clear q;go_wp2_with fail;refine(R.o _ _ _ _ _ g.o.row).mono ?_;rintro e w3 ⟨C,U⟩;have u:Hid (Bo w w3 (some ⟨S,A,none⟩) n cap l):=g.o.next C;clear C;rcases U with⟨i,f,rfl⟩|⟨F,rfl⟩
     ·by_cases z:i=k
      ·subst z;have hq:((i:Int) != (i:Int))=false:=by simp
       have c:Hid (∀j,j<i+1→(l.getD j pr0).may∧At l (l.getD j pr0).m (l.getD j pr0).r (l.getD j pr0).b j):=O.o Q.o f;clear f;go_wp2_with fail;go_roundw
       case rel=>exact⟨i+1,by omega,by go_num,c,u.o⟩
       case measure=>simp[intOf];omega
      ·have hq:((i:Int) != (k:Int))=true:=by simp;omega
       have c:Hid (¬ May l):=λp=>z (f.one (x.o p).2);clear f z;go_wp2_with fail;go_ret;exact Told.no c.o u.o.bel
     ·have hq:((-1:Int) != (k:Int))=true:=by simp only[bne_iff_ne,ne_eq];omega
      have c:Hid (¬ May l):=λp=>(x.o p).2.not F;clear F;go_wp2_with fail;go_ret;exact Told.no c.o u.o.bel
   ·obtain rfl:n=k:=by omega
    have c:Hid (May l):=⟨by rw[K.o];exact Z,λi f=>V.o i (by rw[K.o] at f;exact f)⟩
    go_wp2_with fail;go_ret;exact Told.yes c.o J.o.bel
 ·have c:Hid (¬ May l):=λp=>by have:=p.few;rw[K.o] at this;omega
  have T:decide ((500:Int)<(n:Int))=true:=by simp;omega
  clear Z;go_enter Tryz.func53,Tryz.ntmps53;go_wp2_with fail;go_ret;exact Told.no c.o s.o.bel
end ora
namespace book
open Go.RowKit
def refV(f:Int):Value:=.iface 230 (.agg #[zI f])
def thrown(f:Int):List PanicEntry:=[{ v:=refV f,recovered:=false }]
theorem insist_ok(w:World):Calls Tryz.prog 164 #[zI 0] w λe w'=>e=.returned (.tuple #[])∧w'=w:=by
 go_enter Tryz.func164,Tryz.ntmps164;go_wp2;go_end0;exact⟨rfl,rfl⟩
theorem insist_no(f:Int)(hf:f≠0)(w:World):Calls Tryz.prog 164 #[zI f] w λe w'=>e=.panicked (thrown f)∧w'=w:=by
 have nf:(f != 0)=true:=by simpa using hf
 clear hf;go_enter Tryz.func164,Tryz.ntmps164;go_wp2;exact⟨rfl,rfl,rfl⟩
theorem reason_nil(w:World):Calls Tryz.prog 107 #[.nilIface] w λe w'=>e=.returned (zI 0)∧w'=w:=by
 have a:∀w:World,(binOp BinOp.eql 20 .nilIface .nilIface).run Tryz.prog w=.ok (.bool true) w:=λ_=>by kernel_rfl
 go_enter Tryz.func107,Tryz.ntmps107;go_wp2;go_ret;exact⟨rfl,rfl⟩
theorem reason_is(f:Int)(w:World):Calls Tryz.prog 107 #[refV f] w λe w'=>e=.returned (zI f)∧zB w w':=by
 have d:∀w:World,(binOp BinOp.eql 20 (refV f) .nilIface).run Tryz.prog w=.ok (.bool false) w:=λ_=>by kernel_rfl
 have b:∀w:World,(Instr.typeAssert (refV f) 20 205 false).run Tryz.prog w=.ok (refV f) w:=λ_=>by kernel_rfl
 have c:∀w:World,(Instr.typeAssert (refV f) 205 230 true).run Tryz.prog w=.ok (.tuple #[.agg #[zI f],.bool true]) w:=λ_=>by kernel_rfl
 have a:Hid (zB w (w.alloc (.cells #[zI f] 230))):=zb.alloc zc _;unfold refV at *;go_enter Tryz.func107,Tryz.ntmps107;go_wp2;go_ret;exact⟨rfl,a.o⟩
theorem encode_caught(g:Nat)(f0 f:Int)(w:World)(hb:Blk w g #[zI f0] 36):
  CallsD Tryz.prog 118 #[.pointer (some ⟨g,0,none⟩)] (.panicking (thrown f)) w λe u' w'=>e=.returned (.tuple #[])∧settle u'=.returning∧∃W,zB w W∧Upd W w' g #[zI f] 36:=by
 refine callsD_of_wpS Tryz.func118 rfl λk cs d=>?_;apply wpS_region;simp only[thrown] at d;simp[wpOpsS,go_sem,recoverD,d,Tryz.ntmps118,Exit.thenS];refine(reason_is f w).mono ?_;rintro e b ⟨rfl,a⟩;have c:=hb.next a;have i:=c.cell 0;have j:=c.free 0;have h:Upd b (b.setCell ⟨g,0,none⟩ (zI f)) g #[zI f] 36:=upd_cells g _ [zI f] 0 b _ c;simp[go_sem,i,j,bodyPostS,results,Tryz.results118,settle];exact⟨b,a,h⟩
theorem encode_idle(g:Nat)(f0:Int)(w:World)(hb:Blk w g #[zI f0] 36):
  CallsD Tryz.prog 118 #[.pointer (some ⟨g,0,none⟩)] .returning w λe u' w'=>e=.returned (.tuple #[])∧settle u'=.returning∧∃W,zB w W∧Upd W w' g #[zI 0] 36:=by
 refine callsD_of_wpS Tryz.func118 rfl λc cs b=>?_;apply wpS_region;simp[wpOpsS,go_sem,recoverD,b,Tryz.ntmps118,Exit.thenS];refine(reason_nil w).mono ?_;rintro e a ⟨rfl,rfl⟩;have f:=hb.cell 0;have h:=hb.free 0;have d:Upd a (a.setCell ⟨g,0,none⟩ (zI 0)) g #[zI 0] 36:=upd_cells g _ [zI 0] 0 a _ hb;simp[go_sem,f,h,bodyPostS,results,Tryz.results118,b,settle];exact⟨.returning,(by cases c;simp_all),rfl,a,zb,d⟩
theorem decode_caught(g:Nat)(f0 f:Int)(w:World)(hb:Blk w g #[zI f0] 36):
  CallsD Tryz.prog 150 #[.pointer (some ⟨g,0,none⟩)] (.panicking (thrown f)) w λe u' w'=>e=.returned (.tuple #[])∧settle u'=.returning∧∃W,zB w W∧Upd W w' g #[zI f] 36:=by
 refine callsD_of_wpS Tryz.func150 rfl λk cs d=>?_;apply wpS_region;simp only[thrown] at d;simp[wpOpsS,go_sem,recoverD,d,Tryz.ntmps150,Exit.thenS];refine(reason_is f w).mono ?_;rintro e b ⟨rfl,a⟩;have c:=hb.next a;have i:=c.cell 0;have j:=c.free 0;have h:Upd b (b.setCell ⟨g,0,none⟩ (zI f)) g #[zI f] 36:=upd_cells g _ [zI f] 0 b _ c;simp[go_sem,i,j,bodyPostS,results,Tryz.results150,settle];exact⟨b,a,h⟩
theorem decode_idle(g:Nat)(f0:Int)(w:World)(hb:Blk w g #[zI f0] 36):
  CallsD Tryz.prog 150 #[.pointer (some ⟨g,0,none⟩)] .returning w λe u' w'=>e=.returned (.tuple #[])∧settle u'=.returning∧∃W,zB w W∧Upd W w' g #[zI 0] 36:=by
 refine callsD_of_wpS Tryz.func150 rfl λc cs b=>?_;apply wpS_region;simp[wpOpsS,go_sem,recoverD,b,Tryz.ntmps150,Exit.thenS];refine(reason_nil w).mono ?_;rintro e a ⟨rfl,rfl⟩;have f:=hb.cell 0;have h:=hb.free 0;have d:Upd a (a.setCell ⟨g,0,none⟩ (zI 0)) g #[zI 0] 36:=upd_cells g _ [zI 0] 0 a _ hb;simp[go_sem,f,h,bodyPostS,results,Tryz.results150,b,settle];exact⟨.returning,(by cases c;simp_all),rfl,a,zb,d⟩
open Go.ChangeMaps (setBlock heap_setBlock_same heap_setBlock_other)
def entI(m:Int)(i:Nat):MapEntry:={ key:=zI m,val:=zI (i:Int),born:=i }
def entsI:List Int→Nat→List MapEntry
 |[],_=>[]
 |p::l,i=>entI p i::entsI l (i+1)
theorem entsI_app(l:List Int)(p:Int)(i:Nat):entsI (l++[p]) i=entsI l i++[entI p (i+l.length)]:=by
 induction l generalizing i with
 |nil=>rfl
 |cons x l ih=>simp only[List.cons_append,entsI,ih,List.length_cons];rw[show i+1+l.length=i+(l.length+1) by omega]
def MpI(w:World)(B:Nat)(l:List Int):Prop:=w.heap[B]?=some (.map (entsI l 0).toArray l.length)
variable{l:List Int}{bk:List Cm}{B:Nat}{w:World}
theorem MpI.lt(h:MpI w B l):B<w.heap.size:=by
 unfold MpI at h;by_cases a:B<w.heap.size
 ·exact a
 ·rw[Array.getElem?_eq_none (by omega)] at h;cases h
theorem MpI.below{w w':World}(h:MpI w B l)(hb:zB w w'):MpI w' B l:=by
 have a:=h.lt;unfold MpI at *;rw[hb.block B a];exact h
theorem MpI.upd{w W:World}{B g:Nat}{cs:Array Value}{t:TypeId}(h:MpI w B l)(hU:Upd w W g cs t)(hne:B≠g):MpI W B l:=by
 unfold MpI at *;rw[hU.oth B hne];exact h
theorem MpI.new(w:World):MpI (w.alloc (.map #[] 0)) w.heap.size []:=by
 show (w.heap.push _)[w.heap.size]?=_;rw[Array.getElem?_push_size];rfl
def firstI:List Int→Int→Option Nat
 |[],_=>none
 |m::l,x=>if x=m then some 0 else (firstI l x).map (·+1)
theorem findingI(x:Int):∀(l:List Int)(i j:Nat),Instr.findNow (.int .i64) (zI x) (entsI l i) j=some ((firstI l x).map λk=>(j+k,Value.int .i64 ((i+k:Nat):Int)))
 |[],i,j=>rfl
 |m::l,i,j=>by
  have ih:=findingI x l (i+1) (j+1);unfold firstI;by_cases h:x=m
  ·subst h;simp[entsI,entI,Instr.findNow,Instr.sameNow]
  ·have a:(x==m)=false:=by simpa using h
   rw[if_neg h];simp only[entsI,entI,Instr.findNow,Instr.sameNow,if_true,a];rw[ih];cases firstI l x with
   |none=>rfl
   |some k=>simp[show j+1+k=j+(k+1) by omega,show i+1+k=i+(k+1) by omega];omega
theorem zintI(w:World):(zeroValue 3).run Tryz.prog w=.ok (zI 0) w:=by kernel_rfl
theorem chkI(em:Bool)(x:Int)(w:World):(Instr.checkKey em 10000 3 (zI x)).run Tryz.prog w=.ok () w:=by kernel_rfl
theorem keyI(x:Int)(l:List Int)(w:World):(Instr.findKey 3 (zI x) (entsI l 0)).run Tryz.prog w=.ok ((firstI l x).map λk=>(k,Value.int .i64 (k:Int))) w:=by
 have h:=findingI x l 0 0;simp only[Nat.zero_add] at h;simp[Instr.findKey,run_underlying Tryz.underlying3,Sem.run_bind,h]
theorem lookI_run(h:MpI w B l)(x:Int):
  (Instr.lookup 168 (.map (some B)) (zI x) true).run Tryz.prog w=.ok (.tuple #[zI (((firstI l x).getD 0:Nat):Int),.bool (firstI l x).isSome]) w:=by
 have hf:=keyI x l w;cases hl:firstI l x with
 |none=>rw[hl] at hf;simp[Instr.lookup,run_underlying Tryz.underlying168,MapKept.run_getObj_map h,chkI,hf,zintI,Result.andThen,Sem.run_bind]
 |some k=>rw[hl] at hf;simp[Instr.lookup,run_underlying Tryz.underlying168,MapKept.run_getObj_map h,chkI,hf,Result.andThen,Sem.run_bind]
theorem updI_run(h:MpI w B l)(x:Int)(hn:firstI l x=none):
  ∃W,(Instr.mapUpdate 168 (.map (some B)) (zI x) (zI (l.length:Int))).run Tryz.prog w=.ok () W∧MpI W B (l++[x])∧(∀G,G≠B→W.heap[G]?=w.heap[G]?)∧(∀B0 w0,B0≤B→Below B0 w0 w→Below B0 w0 W)∧W.heap.size=w.heap.size∧w.grownBy W (some B):=by
 have hf:=keyI x l w;rw[hn] at hf;refine⟨setBlock w B (.map ((entsI l 0).toArray.push ⟨zI x,zI (l.length:Int),l.length⟩) (l.length+1)),?_,?_,λG d=>heap_setBlock_other h _ d,λB0 w0 f a=>?_,by simp[setBlock],⟨rfl,rfl,rfl,by simp[setBlock],λk c b=>heap_setBlock_other h _ (λe=>b (by rw[e]))⟩⟩
 ·simp[Instr.mapUpdate,run_underlying Tryz.underlying168,MapKept.run_getObj_map h,chkI,hf,MapKept.run_setObj_map _ h,Result.andThen,setBlock,Sem.run_bind]
 ·unfold MpI;rw[heap_setBlock_same h,entsI_app,List.length_append];simp[entI]
 ·refine⟨a.os,a.tape,a.output,by simp[setBlock];exact a.size,λk c=>?_⟩;rw[heap_setBlock_other h _ (by omega)];exact a.block k c
theorem mkMapI(w:World):(Instr.makeMap 168 none).run Tryz.prog w=.ok (.map (some w.heap.size)) (w.alloc (.map #[] 0)):=by kernel_rfl
def mes(bk:List Cm):List Int:=bk.map λc=>c.a.me
theorem mes_len(bk:List Cm):(mes bk).length=bk.length:=by simp[mes]
theorem first_some{x:Int}{k:Nat}(h:firstI (mes bk) x=some k):FirstAt bk x k:=by
 induction bk generalizing k with
 |nil=>cases h
 |cons c bk ih=>
  unfold mes firstI at h;simp only[List.map_cons] at h;by_cases b:x=c.a.me
  ·rw[if_pos b] at h;cases h;exact⟨by simp,b.symm,λj d=>absurd d (Nat.not_lt_zero _)⟩
  ·rw[if_neg b] at h;cases hf:firstI (mes bk) x with
   |none=>rw[show firstI (List.map (λc=>c.a.me) bk) x=none from hf] at h;cases h
   |some m=>
    rw[show firstI (List.map (λc=>c.a.me) bk) x=some m from hf] at h;cases h;have:=ih hf
    exact ⟨by have:=this.1;simp;omega,this.2.1,fun j d=>by
     cases j with
     |zero=>exact λe=>b e.symm
     | succ j=>exact this.2.2 j (by have:j+1<m+1:=d;omega)⟩
theorem first_none{x:Int}(h:firstI (mes bk) x=none):NoneAt bk x:=by
 induction bk with
 |nil=>intro j b;cases b
 |cons c bk ih=>
  unfold mes firstI at h;simp only[List.map_cons] at h;by_cases d:x=c.a.me
  ·rw[if_pos d] at h;cases h
  ·rw[if_neg d] at h
   have hf:firstI (mes bk) x=none:=by
    cases hf:firstI (mes bk) x with
    |none=>rfl
    |some m=>rw[show firstI (List.map (λc=>c.a.me) bk) x=some m from hf] at h;cases h
   intro j b;cases j with
   |zero=>exact λe=>d e.symm
   |succ j=>exact ih hf j (by simpa using b)
theorem mes_set{k:Nat}{c:Cm}(h:c.a.me=(bk.getD k cm0).a.me):mes (bk.set k c)=mes bk:=by
 unfold mes;apply List.ext_getElem?;intro j;simp only[List.getElem?_map,List.getElem?_set];by_cases d:k=j
 ·subst d;rw[if_pos rfl];by_cases b:k<bk.length
  ·rw[if_pos b,List.getElem?_eq_getElem b];simp only[Option.map_some,h,List.getD,List.getElem?_eq_getElem b,Option.getD]
  ·rw[if_neg b,List.getElem?_eq_none (by omega)]
 ·rw[if_neg d]
end book
end Go.Proofs.YtoepgdhiepedeaaGreatDoor
