import Derived.Test.YtoepgdhiepedeaaGreatDoorVVRys3
set_option linter.unusedVariables false
set_option linter.unusedSimpArgs false
set_option maxHeartbeats 4000000
set_option maxRecDepth 100000
namespace Go.Proofs.YtoepgdhiepedeaaGreatDoor
namespace disk
open cell (Wr wr0 set_at list_ext)
def lenAt(c:List Int)(a:Nat):Int:=if a=c.length∨c.getD a 0=0 then 0 else if 64<c.getD a 0 then -1 else if (c.length:Int)≤a+c.getD a 0 then -1 else c.getD a 0
def recAt(c:List Int)(a:Nat):List Int:=(c.drop (a+1)).take (c.getD a 0).toNat
variable{c:List Int}{k:Nat}
theorem len_pos{a:Nat}(h:0<lenAt c a):lenAt c a=c.getD a 0∧0<c.getD a 0∧c.getD a 0≤64∧a+c.getD a 0<c.length:=by
 unfold lenAt at h ⊢;by_cases b:a=c.length∨c.getD a 0=0
 ·rw[if_pos b] at h;omega
 ·by_cases d:64<c.getD a 0
  ·rw[if_neg b,if_pos d] at h;omega
  ·by_cases e:(c.length:Int)≤a+c.getD a 0
   ·rw[if_neg b,if_neg d,if_pos e] at h;omega
   ·rw[if_neg b,if_neg d,if_neg e] at h ⊢;exact⟨rfl,h,by omega,by omega⟩
theorem len_of{a:Nat}(h0:0<c.getD a 0)(h1:c.getD a 0≤64)(h2:a+c.getD a 0<c.length):lenAt c a=c.getD a 0:=by
 unfold lenAt;rw[if_neg (by omega),if_neg (by omega),if_neg (by omega)]
def stepD(c:List Int)(s:List (List Int) × Nat):List (List Int) × Nat:=if 0<lenAt c s.2 then (s.1++[recAt c s.2],s.2+(lenAt c s.2).toNat+1) else s
def itD(c:List Int):Nat→List (List Int) × Nat
 |0=>([],0)
 |k+1=>stepD c (itD c k)
theorem it_live(h:0<lenAt c (itD c k).2):itD c (k+1)=((itD c k).1++[recAt c (itD c k).2],(itD c k).2+(lenAt c (itD c k).2).toNat+1):=by
 show stepD c (itD c k)=_;unfold stepD;rw[if_pos h]
theorem it_dead(h:¬ 0<lenAt c (itD c k).2):∀m,itD c (k+m)=itD c k
 |0=>rfl
 |m+1=>by
  show stepD c (itD c (k+m))=_;rw[it_dead h m];unfold stepD;rw[if_neg h]
theorem it_bound(c:List Int)(k:Nat):(itD c k).2≤c.length∧((∀i,i<k→0<lenAt c (itD c i).2)→k≤(itD c k).2):=by
 induction k with
 |zero=>exact⟨Nat.zero_le _,λ_=>zc⟩
 |succ k ih=>
  by_cases h:0<lenAt c (itD c k).2
  ·rw[it_live h];obtain⟨e,d,f,g⟩:=len_pos h;refine⟨by show (itD c k).2+_+1≤_;omega,λa=>?_⟩;have:=ih.2 λi b=>a i (by omega);show k+1≤(itD c k).2+_+1;omega
  ·rw[it_dead h 1];exact⟨ih.1,λa=>absurd (a k (by omega)) h⟩
def repD(c:List Int):List (List Int) × Nat:=itD c (c.length+1)
theorem rep_dead(c:List Int):¬ 0<lenAt c (repD c).2:=λh=>by
 have all:∀i,i<c.length+1→0<lenAt c (itD c i).2:=λi b=>by
  refine Classical.byContradiction λa=>?_;have e:=it_dead a (c.length+1-i);rw[show i+(c.length+1-i)=c.length+1 by omega] at e;unfold repD at h;rw[e] at h;exact a h
 have:=(it_bound c (c.length+1)).2 all;have:=(it_bound c (c.length+1)).1;omega
theorem rep_of(h:¬ 0<lenAt c (itD c k).2):repD c=itD c k:=by
 by_cases a:k≤c.length+1
 ·have e:=it_dead h (c.length+1-k);rw[show k+(c.length+1-k)=c.length+1 by omega] at e;exact e
 ·have e:=it_dead (rep_dead c) (k-(c.length+1));rw[show c.length+1+(k-(c.length+1))=k by omega] at e;exact e.symm
def May(c:List Int):Prop:=1≤c.length∧c.length≤2048
def RepIs(c:List Int)(out:List (List Int))(e:Int)(f:Int):Prop:=
 (¬ May c∧out=[]∧e=0∧f=1)∨(May c∧lenAt c (repD c).2<0∧out=[]∧e=0∧f=3)∨(May c∧lenAt c (repD c).2=0∧out=(repD c).1∧e=((repD c).2:Int)∧f=0)
theorem RepIs.one{o o':List (List Int)}{e e' f f':Int}(h:RepIs c o e f)(h':RepIs c o' e' f'):o=o'∧e=e'∧f=f':=by
 rcases h with⟨a,rfl,rfl,rfl⟩|⟨a,b,rfl,rfl,rfl⟩|⟨a,b,rfl,rfl,rfl⟩<;>rcases h' with⟨d,rfl,rfl,rfl⟩|⟨d,g,rfl,rfl,rfl⟩|⟨d,g,rfl,rfl,rfl⟩<;>first|exact⟨rfl,rfl,rfl⟩|contradiction|omega
def putW(at_:Nat)(rec:List Int):Nat→List Wr
 |0=>[]
 |k+1=>putW at_ rec k++[⟨((at_+k+1:Nat):Int),rec.getD k 0⟩]
def zeroW(c:List Int)(p:Nat):List Wr:=if p<c.length then [⟨(p:Int),0⟩] else []
def appW(c:List Int)(a:Nat)(rec:List Int):List Wr:=putW a rec rec.length++(zeroW c (a+rec.length+1)++[⟨(a:Int),(rec.length:Int)⟩])
def RMay(r:List Int):Prop:=1≤r.length∧r.length≤64
def AppIs(c rec:List Int)(ls:List Wr)(f:Int):Prop:=
 (¬ RMay rec∧ls=[]∧f=1)∨(RMay rec∧¬ May c∧ls=[]∧f=1)∨(RMay rec∧May c∧lenAt c (repD c).2<0∧ls=[]∧f=3) ∨
 (RMay rec∧May c∧lenAt c (repD c).2=0∧c.length≤(repD c).2+rec.length∧ls=[]∧f=16)∨(RMay rec∧May c∧lenAt c (repD c).2=0∧(repD c).2+rec.length<c.length∧ls=appW c (repD c).2 rec∧f=0)
theorem AppIs.one{c rec:List Int}{l l':List Wr}{f f':Int}(h:AppIs c rec l f)(h':AppIs c rec l' f'):l=l'∧f=f':=by
 rcases h with⟨a,rfl,rfl⟩|⟨a,b,rfl,rfl⟩|⟨a,b,d,rfl,rfl⟩|⟨a,b,d,g,rfl,rfl⟩|⟨a,b,d,g,rfl,rfl⟩<;>rcases h' with⟨e,rfl,rfl⟩|⟨e,i,rfl,rfl⟩|⟨e,i,j,rfl,rfl⟩|⟨e,i,j,k,rfl,rfl⟩|⟨e,i,j,k,rfl,rfl⟩<;>first|exact⟨rfl,rfl⟩|contradiction|omega
theorem rep_bound(c:List Int):(repD c).2≤c.length:=(it_bound c _).1
theorem put_len(a:Nat)(rec:List Int)(k:Nat):(putW a rec k).length=k:=by
 induction k with
 |zero=>rfl
 |succ k ih=>rw[putW,List.length_append,ih];rfl
theorem app_len(c:List Int)(a:Nat)(r:List Int):(appW c a r).length=r.length+(if a+r.length+1<c.length then 2 else 1):=by
 unfold appW zeroW;rw[List.length_append,put_len];split<;>rfl
end disk
namespace acc
open tar (Du du0 Right MostOf cost)
open deb (sumD recK ageAll)
structure Ac where
 me:Int
 rv:Int
 nx:Int
 mo:Int
 bo:Int
 fr:Int
 ds:List Du
def ac0:Ac:=⟨0,0,0,0,0,0,[]⟩
structure Tm where
 ts:List Du
 ff:Int
 fb:Int
 db:Int
 al:Int
structure Bi where
 id:Int
 te:Int
 de:Int
 fe:Int
 pr:Int
 ch:Int
 un:Int
def bi0:Bi:=⟨0,0,0,0,0,0,0⟩
def AMay(a:Ac):Prop:=deb.Mays a.ds∧(0≤a.me∧a.me≤49)∧(0≤a.rv∧a.rv≤15)∧(1≤a.nx∧a.nx≤1048576)∧(0≤a.mo∧a.mo≤2399)∧(0≤a.bo∧a.bo≤10000000)∧-1≤a.fr∧a.fr≤a.mo
def TOk(t:Tm):Prop:=(0≤t.ff∧t.ff≤100000)∧(0≤t.fb∧t.fb≤10000)∧(0≤t.db∧t.db≤10000)∧0≤t.al∧t.al≤2097151
def TRight(t:Tm):Prop:=Right t.ts∧TOk t
def TFault(t:Tm)(e:Int):Prop:=(¬ Right t.ts∧tar.FaultIs t.ts e)∨(Right t.ts∧¬ TOk t∧e=2)∨(TRight t∧e=0)
variable{a:Ac}{b b':Ac}{t:Tm}{l l':Bi}
theorem TFault.one{e f:Int}(h:TFault t e)(h':TFault t f):e=f:=by
 rcases h with⟨a,b⟩|⟨a,b,rfl⟩|⟨⟨a,b⟩,rfl⟩<;>rcases h' with⟨d,c⟩|⟨d,c,rfl⟩|⟨⟨d,c⟩,rfl⟩<;>first|rfl|exact b.one c|contradiction
theorem TFault.ok{e:Int}(h:TFault t e):e=0↔TRight t:=by
 rcases h with⟨a,b⟩|⟨a,b,rfl⟩|⟨h,rfl⟩
 ·exact⟨λh=>absurd (b.ok.1 h) a,λh=>absurd h.1 a⟩
 ·exact⟨λh=>absurd h (by decide),λh=>absurd h.2 b⟩
 ·exact⟨λ_=>h,λ_=>rfl⟩
def OpenIs(m:Int)(b:Ac)(e:Int):Prop:=((0≤m∧m≤49)∧b=⟨m,0,1,0,0,-1,[]⟩∧e=0)∨(¬ (0≤m∧m≤49)∧b=ac0∧e=2)
theorem OpenIs.one{m e e':Int}(h:OpenIs m b e)(h':OpenIs m b' e'):b=b'∧e=e':=by
 rcases h with⟨a,rfl,rfl⟩|⟨a,rfl,rfl⟩<;>rcases h' with⟨c,rfl,rfl⟩|⟨c,rfl,rfl⟩<;>first|exact⟨rfl,rfl⟩|contradiction
def rolled(a:Ac)(m:Int):Ac:=if m=a.mo then a else ⟨a.me,a.rv,a.nx,m,0,a.fr,ageAll a.ds (m-a.mo).toNat⟩
def RMay(a:Ac)(m:Int):Prop:=(0≤m∧m≤2399)∧a.mo≤m
def RErr(a:Ac)(m e:Int):Prop:=(¬ (0≤m∧m≤2399)∧e=2)∨((0≤m∧m≤2399)∧m<a.mo∧e=23)
theorem RErr.one{m e f:Int}(h:RErr a m e)(h':RErr a m f):e=f:=by
 rcases h with⟨p,rfl⟩|⟨p,q,rfl⟩<;>rcases h' with⟨b,rfl⟩|⟨b,c,rfl⟩<;>first|rfl|contradiction
theorem RErr.ne{m e:Int}(h:RErr a m e):e≠0:=by rcases h with⟨_,rfl⟩|⟨_,_,rfl⟩<;>decide
def RollIs(a:Ac)(m:Int)(b:Ac)(e:Int):Prop:=(¬ AMay a∧b=ac0∧e=5)∨(AMay a∧¬ RMay a m∧RErr a m e∧b=ac0)∨(AMay a∧RMay a m∧b=rolled a m∧e=0)
theorem rolled_may{m:Int}(h:AMay a)(hr:RMay a m):AMay (rolled a m):=by
 obtain⟨b,c,d,f,i,j,g⟩:=h;obtain⟨⟨k,l⟩,n⟩:=hr;unfold rolled;by_cases e:m=a.mo
 ·rw[if_pos e];exact⟨b,c,d,f,i,j,g⟩
 ·rw[if_neg e];exact⟨deb.ageAll_mays b _,c,d,f,⟨k,l⟩,⟨(by decide:(0:Int)≤0),(by decide:(0:Int)≤10000000)⟩,g.1,by show a.fr≤m;omega⟩
theorem rolled_same(a:Ac)(m:Int):(rolled a m).me=a.me∧(rolled a m).rv=a.rv∧(rolled a m).nx=a.nx∧(rolled a m).mo=m∧(rolled a m).fr=a.fr:=by
 unfold rolled;by_cases e:m=a.mo
 ·rw[if_pos e];exact⟨rfl,rfl,rfl,e.symm,rfl⟩
 ·rw[if_neg e];exact⟨rfl,rfl,rfl,rfl,rfl⟩
def share(t:Tm)(te:Int):Int:=te*t.db/10000
def paid(a:Ac)(t:Tm)(te m:Int):Int:=min (share t te) (sumD (rolled a m).ds)
def fee(t:Tm)(te:Int):Int:=t.ff+te*t.fb/10000
def rest(a:Ac)(t:Tm)(te m:Int):Int:=te-paid a t te m-fee t te
def Ready(a:Ac)(t:Tm)(m:Int):Prop:=AMay a∧TRight t∧RMay a m
def Refused(a:Ac)(t:Tm)(m e:Int):Prop:=(¬ AMay a∧e=5)∨(AMay a∧¬ TRight t∧TFault t e)∨(AMay a∧TRight t∧¬ RMay a m∧RErr a m e)
theorem Refused.one{m e f:Int}(h:Refused a t m e)(h':Refused a t m f):e=f:=by
 rcases h with⟨p,rfl⟩|⟨p,q,r⟩|⟨p,q,r,s⟩<;>rcases h' with⟨b,rfl⟩|⟨b,d,c⟩|⟨b,d,c,g⟩<;>first|rfl|exact r.one c|exact s.one g|contradiction
theorem Refused.not{m e:Int}(h:Refused a t m e):¬ Ready a t m:=λb=>by
 rcases h with⟨p,_⟩|⟨_,q,_⟩|⟨_,_,r,_⟩
 ·exact p b.1
 ·exact q b.2.1
 ·exact r b.2.2
def TenOk(a:Ac)(t:Tm)(te m:Int):Prop:=(1≤te∧te≤100000000)∧0≤rest a t te m∧¬ MostOf t.ts (rolled a m).bo (rest a t te m) 0
def sold(a:Ac)(t:Tm)(te m u:Int):Ac:=⟨a.me,a.rv,a.nx+1,m,(rolled a m).bo+u,a.fr,recK (rolled a m).ds (share t te) (rolled a m).ds.length⟩
def bill(a:Ac)(t:Tm)(te m u:Int):Bi:=⟨a.nx,te,paid a t te m,fee t te,cost t.ts (rolled a m).bo ((rolled a m).bo+u),rest a t te m-cost t.ts (rolled a m).bo ((rolled a m).bo+u),u⟩
def SellIs(a:Ac)(t:Tm)(te m:Int)(b:Ac)(l:Bi)(e:Int):Prop:=
 (Refused a t m e∧b=ac0∧l=bi0)∨(Ready a t m∧¬ TenOk a t te m∧e=19∧b=ac0∧l=bi0)∨(Ready a t m∧TenOk a t te m∧¬ a.nx≤1048575∧e=20∧b=ac0∧l=bi0)∨(Ready a t m∧TenOk a t te m∧a.nx≤1048575∧e=0∧∃u,MostOf t.ts (rolled a m).bo (rest a t te m) u∧b=sold a t te m u∧l=bill a t te m u)
theorem SellIs.one{te m e e':Int}(h:SellIs a t te m b l e)(h':SellIs a t te m b' l' e'):b=b'∧l=l'∧e=e':=by
 rcases h with⟨p,rfl,rfl⟩|⟨p,q,rfl,rfl,rfl⟩|⟨p,q,r,rfl,rfl,rfl⟩|⟨p,q,r,rfl,u,g,rfl,rfl⟩<;>rcases h' with⟨c,rfl,rfl⟩|⟨c,f,rfl,rfl,rfl⟩|⟨c,f,i,rfl,rfl,rfl⟩|⟨c,f,i,rfl,j,d,rfl,rfl⟩<;>first|exact⟨rfl,rfl,rfl⟩|exact⟨rfl,rfl,p.one c⟩|exact absurd c p.not|exact absurd p c.not|contradiction|skip
 obtain rfl:=g.one p.2.1.1 (rolled_may p.1 p.2.2).2.2.2.2.2.1.1 d;exact⟨rfl,rfl,rfl⟩
def granted(a:Ac)(m:Int):Ac:=⟨a.me,a.rv,a.nx+1,m,(rolled a m).bo,m,(rolled a m).ds⟩
def GrantIs(a:Ac)(t:Tm)(m:Int)(b:Ac)(l:Bi)(e:Int):Prop:=
 (Refused a t m e∧b=ac0∧l=bi0)∨(Ready a t m∧t.al=0∧e=22∧b=ac0∧l=bi0)∨(Ready a t m∧¬ t.al=0∧a.fr=m∧e=21∧b=ac0∧l=bi0)∨(Ready a t m∧¬ t.al=0∧¬ a.fr=m∧¬ a.nx≤1048575∧e=20∧b=ac0∧l=bi0)∨(Ready a t m∧¬ t.al=0∧¬ a.fr=m∧a.nx≤1048575∧e=0∧b=granted a m∧l=⟨a.nx,0,0,0,0,0,t.al⟩)
theorem GrantIs.one{m e e':Int}(h:GrantIs a t m b l e)(h':GrantIs a t m b' l' e'):b=b'∧l=l'∧e=e':=by
 rcases h with⟨p,rfl,rfl⟩|⟨p,q,rfl,rfl,rfl⟩|⟨p,q,r,rfl,rfl,rfl⟩|⟨p,q,r,s,rfl,rfl,rfl⟩|⟨p,q,r,s,rfl,rfl,rfl⟩<;>rcases h' with⟨c,rfl,rfl⟩|⟨c,d,rfl,rfl,rfl⟩|⟨c,d,f,rfl,rfl,rfl⟩|⟨c,d,f,g,rfl,rfl,rfl⟩|⟨c,d,f,g,rfl,rfl,rfl⟩<;>first|exact⟨rfl,rfl,rfl⟩|exact⟨rfl,rfl,p.one c⟩|exact absurd c p.not|exact absurd p c.not|contradiction
def OweIs(a:Ac)(d:Du)(b:Ac)(e:Int):Prop:=
 (¬ AMay a∧b=ac0∧e=5)∨(AMay a∧¬ ((1≤d.a∧d.a≤1000000000)∧0≤d.b∧d.b≤10000)∧b=ac0∧e=2)∨(AMay a∧((1≤d.a∧d.a≤1000000000)∧0≤d.b∧d.b≤10000)∧¬ a.ds.length<8∧b=ac0∧e=16)∨(AMay a∧((1≤d.a∧d.a≤1000000000)∧0≤d.b∧d.b≤10000)∧a.ds.length<8∧b=⟨a.me,a.rv,a.nx,a.mo,a.bo,a.fr,a.ds++[d]⟩∧e=0)
theorem OweIs.one{d:Du}{e e':Int}(h:OweIs a d b e)(h':OweIs a d b' e'):b=b'∧e=e':=by
 rcases h with⟨p,rfl,rfl⟩|⟨p,q,rfl,rfl⟩|⟨p,q,r,rfl,rfl⟩|⟨p,q,r,rfl,rfl⟩<;>rcases h' with⟨c,rfl,rfl⟩|⟨c,f,rfl,rfl⟩|⟨c,f,g,rfl,rfl⟩|⟨c,f,g,rfl,rfl⟩<;>first|exact⟨rfl,rfl⟩|contradiction
def RekeyIs(a:Ac)(b:Ac)(l:Bi)(e:Int):Prop:=
 (¬ AMay a∧b=ac0∧l=bi0∧e=5)∨(AMay a∧¬ a.rv<15∧b=ac0∧l=bi0∧e=24)∨(AMay a∧a.rv<15∧¬ a.nx≤1048575∧b=ac0∧l=bi0∧e=20)∨(AMay a∧a.rv<15∧a.nx≤1048575∧b=⟨a.me,a.rv+1,a.nx+1,a.mo,a.bo,a.fr,a.ds⟩∧l=⟨a.nx,0,0,0,0,0,0⟩∧e=0)
theorem RekeyIs.one{e e':Int}(h:RekeyIs a b l e)(h':RekeyIs a b' l' e'):b=b'∧l=l'∧e=e':=by
 rcases h with⟨p,rfl,rfl,rfl⟩|⟨p,q,rfl,rfl,rfl⟩|⟨p,q,r,rfl,rfl,rfl⟩|⟨p,q,r,rfl,rfl,rfl⟩<;>rcases h' with⟨c,rfl,rfl,rfl⟩|⟨c,d,rfl,rfl,rfl⟩|⟨c,d,f,rfl,rfl,rfl⟩|⟨c,d,f,rfl,rfl,rfl⟩<;>first|exact⟨rfl,rfl,rfl⟩|contradiction
end acc
namespace tar
open Go.RowKit
def RowL(w:World)(a:Option Addr)(len:Nat)(ls:List Tr):Prop:=
 ls.length=len∧(len=0∨∃b off,a=some ⟨b,off,none⟩∧∀i,i<len→w.cell? ⟨b,off+i*3,none⟩=some (zI (ls.getD i tr0).a)∧w.cell? ⟨b,off+i*3+1,none⟩=some (zI (ls.getD i tr0).b)∧w.cell? ⟨b,off+i*3+2,none⟩=some (zI (ls.getD i tr0).c))
theorem RowL.at{w:World}{a:Option Addr}{n:Nat}{zs:List Tr}(h:RowL w a n zs)(h0:0<n):∃b off,a=some ⟨b,off,none⟩∧b<w.heap.size∧∀i,i<n→w.cell? ⟨b,off+i*3,none⟩=some (zI (zs.getD i tr0).a)∧w.cell? ⟨b,off+i*3+1,none⟩=some (zI (zs.getD i tr0).b)∧w.cell? ⟨b,off+i*3+2,none⟩=some (zI (zs.getD i tr0).c):=by
 rcases h.2 with e|⟨b,off,rfl,d⟩
 ·omega
 ·exact⟨b,off,rfl,World.block_lt_of_cell? w _ (d 0 h0).1,d⟩
def ErrPost(w:World)(R:Int→Prop)(e:Ending)(w':World):Prop:=∃f,e=.returned (zI f)∧R f∧zB w w'
def ValPost(w:World)(z:Int)(e:Ending)(w':World):Prop:=e=.returned (zI z)∧zB w w'
def TwoPost(w:World)(R:Int→Int→Prop)(e:Ending)(w':World):Prop:=∃p f,e=.returned (.tuple #[zI p,zI f])∧R p f∧zB w w'
def ThreePost(w:World)(R:Int→Int→Int→Prop)(e:Ending)(w':World):Prop:=∃u p f,e=.returned (.tuple #[zI u,zI p,zI f])∧R u p f∧zB w w'
structure Came (w:World) (a:Option Addr) (len cap:Nat) (ls:List Du):Prop where
 row:RowD w a len ls
 nil:a=none→cap=0
 room:len≤cap
 bytes:len*16≤140737488351232
 wf:∀x∈ls,(Lit.int .i64 x.a).wf=true∧(Lit.int .i64 x.b).wf=true
theorem Came.below{w w':World}{a:Option Addr}{len cap:Nat}{ls:List Du}(h:Came w a len cap ls)(hb:zB w w'):Came w' a len cap ls:=⟨h.row.below hb,h.nil,h.room,h.bytes,h.wf⟩
theorem Came.most{w:World}{a:Option Addr}{len cap:Nat}{ls:List Du}(h:Came w a len cap ls):len≤maxLen:=by have:=h.bytes;unfold maxLen;omega
theorem Ld.came{T:TypeId}{w:World}{base:Nat}{v:Value}{l:List Du}(h:Ld T w base v l)(hl:l.length*16≤140737488351232)(hw:∀x∈l,(Lit.int .i64 x.a).wf=true∧(Lit.int .i64 x.b).wf=true):∃a cap,v=.slice a l.length cap∧Came w a l.length cap l:=by
 obtain⟨a,cap,f,e,d,c,_⟩:=h.row;exact⟨a,cap,f,e,d,c,hl,hw⟩
def GaveD(T:TypeId)(w:World)(zs:List Du)(e:Ending)(w':World):Prop:=∃v,e=.returned v∧Ld T w' w.heap.size v zs∧zB w w'
theorem GaveD.mk{T:TypeId}{w w':World}{zs:List Du}{v:Value}(h1:Ld T w' w.heap.size v zs)(h2:zB w w'):GaveD T w zs (.returned v) w':=⟨v,rfl,h1,h2⟩
theorem wf_mid{z:Int}(h0:0≤z)(h1:z≤4000000000000):(Lit.int .i64 z).wf=true:=by
 have h1:IntKind.i64.min≤z:=by
  have e:IntKind.i64.min=-9223372036854775808:=by decide
  omega
 have a:z≤IntKind.i64.max:=by
  have e:IntKind.i64.max=9223372036854775807:=by decide
  omega
 show (decide (IntKind.i64.min≤z)&&decide (z≤IntKind.i64.max))=true;rw[Bool.and_eq_true];exact⟨decide_eq_true h1,decide_eq_true a⟩
theorem MostIs.got{l:List Du}{x m u p e:Int}(h:MostIs l x m u p e)(hR:Right l)(hM:MayMost x m):e=0∧MostOf l x m u∧p=cost l x (x+u):=by
 rcases h with⟨a,_⟩|⟨_,b,_⟩|⟨_,_,c,d⟩
 ·exact absurd hR a
 ·exact absurd hM b
 ·exact⟨c,d⟩
end tar
namespace deb
open tar (Du du0 Came RowD Ld ErrPost TwoPost PairT GaveD)
open Go.RowKit
structure Fresh (w:World) (base:Nat) (a:Option Addr) (len cap:Nat) (ls:List Du):Prop where
 came:Came w a len cap ls
 new:0<len→∀x,a=some x→base≤x.block
def RecPost(w:World)(l:List Du)(t bp:Int)(e:Ending)(w':World):Prop:=∃a len cap z p f,e=.returned (.tuple #[.slice a len cap,zI p,zI f])∧RecIs l t bp z p f∧Fresh w' w.heap.size a len cap z∧zB w w'
def AgePost(w:World)(l:List Du)(m:Int)(e:Ending)(w':World):Prop:=∃a len cap z f,e=.returned (.tuple #[.slice a len cap,zI f])∧AgeIs l m z f∧Fresh w' w.heap.size a len cap z∧zB w w'
variable{a:Option Addr}{l:List Du}{base:Nat}{w:World}{T:TypeId}
theorem Mays.wf(h:Mays l):∀x∈l,(Lit.int .i64 x.a).wf=true∧(Lit.int .i64 x.b).wf=true:=λx e=>by
 obtain⟨⟨c,f⟩,d,g⟩:=mem_fits h.2 x e;exact⟨tar.wf_mid c (by omega),tar.wf_mid d (by omega)⟩
theorem ld_mays{v:Value}(h:Ld T w base v l)(hm:Mays l):∃a cap,v=.slice a l.length cap∧Came w a l.length cap l:=h.came (by have:=hm.1;omega) hm.wf
theorem ld_new{n cap:Nat}(h:Ld T w base (.slice a n cap) l):0<n→∀x,a=some x→base≤x.block:=λc x b=>by
 subst b;exact(World.ownsRow.lt h x.block rfl).1
theorem ld_fresh{v:Value}(h:Ld T w base v l)(hm:Mays l):∃a cap,v=.slice a l.length cap∧Fresh w base a l.length cap l:=by
 obtain⟨a,cap,rfl,b⟩:=ld_mays h hm;exact⟨a,cap,rfl,b,ld_new h⟩
theorem Fresh.low{base base':Nat}{len cap:Nat}{ls:List Du}(h:Fresh w base a len cap ls)(hb:base'≤base):Fresh w base' a len cap ls:=⟨h.came,λb x c=>Nat.le_trans hb (h.new b x c)⟩
theorem Fresh.below{w w':World}{len cap:Nat}{ls:List Du}(h:Fresh w base a len cap ls)(hb:zB w w'):Fresh w' base a len cap ls:=⟨h.came.below hb,h.new⟩
theorem came_nil(w:World):Came w none 0 0 []:=⟨tar.RowD.nil _ _,λ_=>rfl,zc,by omega,λx a=>by cases a⟩
theorem fresh_nil(w:World)(base:Nat):Fresh w base none 0 0 []:=⟨came_nil w,λh=>absurd h (Nat.lt_irrefl _)⟩
end deb
namespace words
def sh(v:Nat)(k:Int):Nat:=if k<0 then v/2^(-k).toNat else v*2^k.toNat%2^64
def onesN(n:Nat):Nat:=2^n-1
theorem sh_bit(v:Nat)(k:Int)(j:Nat)(hj:j<64):(sh v k).testBit j=(decide (k≤j)&&v.testBit ((j:Int)-k).toNat):=by
 unfold sh;by_cases h:k<0
 ·rw[if_pos h,Nat.testBit_div_two_pow];have a:k≤(j:Int):=by omega
  rw[decide_eq_true a,Bool.true_and]
  congr 1;omega
 ·rw[if_neg h,Nat.testBit_mod_two_pow,Nat.testBit_mul_two_pow];rw[decide_eq_true hj,Bool.true_and];by_cases a:k≤(j:Int)
  ·rw[decide_eq_true a,decide_eq_true (show k.toNat≤j by omega)]
   congr 2;omega
  ·rw[decide_eq_false a,decide_eq_false (show ¬ k.toNat≤j by omega)];simp
theorem ones_bit(n j:Nat):(onesN n).testBit j=decide (j<n):=Nat.testBit_two_pow_sub_one ..
theorem bit_hi{x j k:Nat}(h:x<2^k)(hj:k≤j):x.testBit j=false:=Nat.testBit_lt_two_pow (Nat.lt_of_lt_of_le h (Nat.pow_le_pow_right (by decide) hj))
def bit3(a b c:Nat)(m:Nat):Bool:=if m<32 then a.testBit m else if m<64 then b.testBit (m-32) else c.testBit (m-64)
def bitsN(a b c lo n:Nat):Nat:=(sh a (0-lo) ||| sh b (32-lo) ||| sh c (64-lo)) &&& onesN n
theorem bits_bit{a b c lo n:Nat}(ha:a<2^32)(hb:b<2^32)(_hc:c<2^32)(hn:n≤64)(j:Nat):(bitsN a b c lo n).testBit j=(decide (j<n)&&bit3 a b c (j+lo)):=by
 unfold bitsN;rw[Nat.testBit_and,ones_bit];by_cases f:j<n
 ·rw[decide_eq_true f,Bool.and_true,Bool.true_and,Nat.testBit_or,Nat.testBit_or,sh_bit _ _ _ (by omega),sh_bit _ _ _ (by omega),sh_bit _ _ _ (by omega)];unfold bit3;rw[decide_eq_true (show (0:Int)-(lo:Int)≤(j:Int) by omega),Bool.true_and];have g:((j:Int)-(0-(lo:Int))).toNat=j+lo:=by omega
  have h:((j:Int)-(32-(lo:Int))).toNat=j+lo-32:=by omega
  have i:((j:Int)-(64-(lo:Int))).toNat=j+lo-64:=by omega
  rw[g,h,i];by_cases d:j+lo<32
  ·rw[if_pos d,decide_eq_false (show ¬ (32:Int)-(lo:Int)≤(j:Int) by omega),decide_eq_false (show ¬ (64:Int)-(lo:Int)≤(j:Int) by omega)];simp
  ·rw[if_neg d,decide_eq_true (show (32:Int)-(lo:Int)≤(j:Int) by omega),bit_hi ha (by omega)];by_cases e:j+lo<64
   ·rw[if_pos e,decide_eq_false (show ¬ (64:Int)-(lo:Int)≤(j:Int) by omega)];simp
   ·rw[if_neg e,decide_eq_true (show (64:Int)-(lo:Int)≤(j:Int) by omega),bit_hi hb (by omega)];simp
 ·rw[decide_eq_false f];simp
def putN(x v n:Nat)(k:Int):Nat:=(x &&& (2^32-1-sh (onesN n) k%2^32)) ||| (sh v k%2^32)
theorem put_bit(x v n:Nat)(k:Int)(j:Nat)(hj:j<32):(putN x v n k).testBit j=(x.testBit j && !(decide (k≤j)&&decide ((j:Int)-k<n))||(decide (k≤j)&&v.testBit ((j:Int)-k).toNat)):=by
 unfold putN;have e:2^32-1-sh (onesN n) k%2^32=2^32-(sh (onesN n) k%2^32+1):=by omega
 rw[Nat.testBit_or,Nat.testBit_and,e,Nat.testBit_two_pow_sub_succ (Nat.mod_lt _ (by decide)),Nat.testBit_mod_two_pow,Nat.testBit_mod_two_pow,decide_eq_true hj,Bool.true_and,Bool.true_and,Bool.true_and,sh_bit _ _ _ (by omega),sh_bit _ _ _ (by omega),ones_bit];by_cases b:k≤(j:Int)
 ·have a:decide (((j:Int)-k).toNat<n)=decide ((j:Int)-k<n):=by
   rw[decide_eq_decide];omega
  rw[a]
 ·rw[decide_eq_false b];simp
theorem put_lt(x v n:Nat)(k:Int)(hx:x<2^32):putN x v n k<2^32:=by
 unfold putN;have a:sh v k%2^32<2^32:=Nat.mod_lt _ (by decide);exact Nat.or_lt_two_pow (Nat.lt_of_le_of_lt Nat.and_le_left hx) a
theorem put_bits{a b c v lo n:Nat}(hv:v<2^n)(m:Nat)(hm:m<96):
  bit3 (putN a v n lo) (putN b v n ((lo:Int)-32)) (putN c v n ((lo:Int)-64)) m=if lo≤m∧m<lo+n then v.testBit (m-lo) else bit3 a b c m:=by
 have key:∀(x:Nat)(j:Nat)(k:Int),j<32→k+(m:Int)=lo+j→(putN x v n k).testBit j=if lo≤m∧m<lo+n then v.testBit (m-lo) else x.testBit j:=by
  intro x j k g h;rw[put_bit _ _ _ _ _ g];by_cases d:k≤(j:Int)
  ·have f:((j:Int)-k).toNat=m-lo:=by omega
   rw[decide_eq_true d,f];by_cases e:(j:Int)-k<n
   ·rw[decide_eq_true e,if_pos (by omega)];simp
   ·rw[decide_eq_false e,if_neg (by omega),bit_hi hv (by omega)];simp
  ·rw[decide_eq_false d,if_neg (by omega)];simp
 unfold bit3;by_cases d:m<32
 ·rw[if_pos d,if_pos d];exact key a m lo d (by omega)
 ·rw[if_neg d,if_neg d];by_cases e:m<64
  ·rw[if_pos e,if_pos e];exact key b (m-32) _ (by omega) (by omega)
  ·rw[if_neg e,if_neg e];exact key c (m-64) _ (by omega) (by omega)
theorem bits_put{a b c v lo n:Nat}(ha:a<2^32)(hb:b<2^32)(hc:c<2^32)(hv:v<2^n)(hn:n≤64)(hl:lo+n≤96):
  bitsN (putN a v n lo) (putN b v n ((lo:Int)-32)) (putN c v n ((lo:Int)-64)) lo n=v:=by
 apply Nat.eq_of_testBit_eq;intro j;rw[bits_bit (put_lt _ _ _ _ ha) (put_lt _ _ _ _ hb) (put_lt _ _ _ _ hc) hn];by_cases d:j<n
 ·rw[decide_eq_true d,Bool.true_and,put_bits hv _ (by omega),if_pos (by omega)]
  congr 1;omega
 ·rw[decide_eq_false d,Bool.false_and,bit_hi hv (by omega)]
end words
namespace book
open Go.RowKit
structure Cu where
 me:Int
 rv:Int
 nx:Int
 mo:Int
 bo:Int
 fr:Int
 dp:Option Addr
 dn:Nat
 dc:Nat
 sp:Option Addr
 sn:Nat
 sc:Nat
def cu0:Cu:=⟨0,0,0,0,0,0,none,0,0,none,0,0⟩
def Cu.cs(x:Cu):List Value:=[zI x.me,zI x.rv,zI x.nx,zI x.mo,zI x.bo,zI x.fr,.slice x.dp x.dn x.dc,.slice x.sp x.sn x.sc]
def cellsC:List Cu→List Value
 |[]=>[]
 |x::l=>x.cs++cellsC l
theorem cellsC_len(l:List Cu):(cellsC l).length=l.length*8:=by
 induction l with
 |nil=>rfl
 |cons e l ih=>rw[cellsC,List.length_append,ih,List.length_cons];show 8+_=_;omega
theorem cellsC_app(l m:List Cu):cellsC (l++m)=cellsC l++cellsC m:=by
 induction l with
 |nil=>rfl
 |cons e l ih=>rw[List.cons_append,cellsC,cellsC,ih,List.append_assoc]
theorem oneC(l:List Cu):∀u∈cellsC l,u.oneCell'=true:=by
 induction l with
 |nil=>intro u a;cases a
 |cons e l ih=>
  intro u a;rw[cellsC] at a;rcases List.mem_append.1 a with a|a
  ·simp only[Cu.cs,List.mem_cons,List.not_mem_nil,or_false] at a;rcases a with rfl|rfl|rfl|rfl|rfl|rfl|rfl|rfl<;>rfl
  ·exact ih u a
theorem cellsC_at(l:List Cu)(k j:Nat)(hk:k<l.length)(hj:j<8):(cellsC l)[k*8+j]?=(l.getD k cu0).cs[j]?:=by
 induction l generalizing k with
 |nil=>simp at hk
 |cons x l ih=>
  have a:x.cs.length=8:=rfl;cases k with
  |zero=>rw[Nat.zero_mul,Nat.zero_add,cellsC,List.getElem?_append_left (by omega)];rfl
  |succ k=>
   rw[show (k+1)*8+j=x.cs.length+(k*8+j) by omega,cellsC,List.getElem?_append_right (by omega),Nat.add_sub_cancel_left];exact ih k (by simpa using hk)
def RowC(w:World)(a:Option Addr)(n:Nat)(l:List Cu):Prop:=l.length=n∧(n=0∨∃b off,a=some ⟨b,off,none⟩∧b<w.heap.size∧∀i j,i<n→j<8→w.cell? ⟨b,off+i*8+j,none⟩=(l.getD i cu0).cs[j]?)
variable{l:List Cu}
theorem RowC.below{w w':World}{a:Option Addr}{n:Nat}(h:RowC w a n l)(hb:zB w w'):RowC w' a n l:=by
 refine⟨h.1,?_⟩;rcases h.2 with e|⟨b,c,rfl,d,f⟩
 ·exact .inl e
 ·exact .inr ⟨b,c,rfl,Nat.lt_of_lt_of_le d hb.size,λi j g k=>(hb.cell (p:=⟨b,c+i*8+j,none⟩) d).trans (f i j g k)⟩
def Lc(w:World)(base:Nat)(v:Value)(l:List Cu):Prop:=w.ownsRow base 71 8 v l.length (cellsC l)
theorem Lc.zero(w:World)(base:Nat):Lc w base (zS) []:=World.ownsRow_nil _ _ _ _
theorem Lc.next{w w':World}{base:Nat}{v:Value}(h:Lc w base v l)(hb:zB w w'):Lc w' base v l:=by
 refine⟨h.1,?_⟩;rcases h.2 with e|⟨g,a,b,f,d,c,rest⟩
 ·exact .inl e
 ·exact .inr ⟨g,a,b,f,d,Blk.next c hb,rest⟩
theorem Lc.row{w:World}{base:Nat}{v:Value}(h:Lc w base v l):∃a cap,v=.slice a l.length cap∧RowC w a l.length l∧(a=none→cap=0)∧l.length≤cap:=by
 rcases h.2 with⟨b,c⟩|⟨g,cap,d,b,_,k,f,_⟩
 ·exact⟨none,0,by rw[c];exact b,⟨rfl,.inl c⟩,λ_=>rfl,by omega⟩
 ·subst b;refine⟨_,cap,rfl,⟨rfl,.inr ⟨g,0,rfl,Blk.lt k,λi j m n=>?_⟩⟩,(λh=>by cases h),f⟩;have e:=World.ownsRow.cellAt h (i*8+j) (by omega);rw[Nat.zero_add,e];exact cellsC_at l i j m n
theorem custI:(Tryz.prog.info? 71).map (λi=>(i.zero,i.size,i.bytes))=some (some (.agg cu0.cs.toArray),8,96):=by kernel_rfl
theorem step_cust{w:World}{o:Oper}{a:Act}{K:Act→World→Prop}{Q:Exit→Act→World→Prop}(s x:Operand)
  (ho:o.op=.call { callee:=.builtin .append,args:=#[s,x],argTypes:=#[63,63] })
  (base G:Nat) (v:Value) (l:List Cu) (r:Cu) (hs:a.eval s=v) (hx:a.eval x=.slice (some ⟨G,0,none⟩) 1 1) (hv:Lc w base v l) (hu:Blk w G r.cs.toArray 71) (hn:l.length≤2000000) (hbase:base≤w.heap.size)
  (h:∀v' w',Lc w' base v' (l++[r])→w.grownBy w' v.ownBlock→(v'.ownBlock=v.ownBlock∨v'.ownBlock=some w.heap.size)→K (a.put o.dst v') w'):Oper.wp Tryz.prog o a w K Q:=by
 obtain⟨n,k,b,c,d⟩:=info_parts custI
 obtain ⟨v',w',m,f,g,_,i⟩:=run_append_own_at (P:=Tryz.prog) w base 63 o.type 71 n (.agg cu0.cs.toArray) 8 96 Tryz.underlying63 k b c d rfl (by decide) v l.length (cellsC l) hv ⟨G,0,none⟩ 1 1 (cellsC [r]) (by rw [cellsC_len];rfl) (by
  intro j u e;rw[Addr.add_lit,Nat.zero_add,hu.cell j];rw[cellsC,cellsC,List.append_nil] at e
  simpa using e) (oneC [r]) (by unfold maxLen;omega) (by omega) hbase
 unfold Oper.wp execOp;simp only[ho,resolve,invoke,builtin,Sem.run_bind,Sem.run_pure,Result.andThen_ok,List.map_toArray,List.map_cons,List.map_nil,hs,hx,m];refine h v' w' ?_ g i;unfold Lc;rw[List.length_append,cellsC_app];exact f
def FindIs(l:List Cu)(me at_ f:Int):Prop:=(∃k,k<l.length∧(l.getD k cu0).me=me∧(∀j,j<k→(l.getD j cu0).me≠me)∧at_=(k:Int)∧f=0)∨((∀j,j<l.length→(l.getD j cu0).me≠me)∧at_=0∧f=18)
def FoundIs(l:List Cu)(me at_:Int):Prop:=(∃k,k<l.length∧(l.getD k cu0).me=me∧(∀j,j<k→(l.getD j cu0).me≠me)∧at_=(k:Int))∨((∀j,j<l.length→(l.getD j cu0).me≠me)∧at_=-1)
end book
namespace disk
open cell
theorem it_short(c:List Int)(k:Nat):∀z∈(itD c k).1,z.length≤64:=by
 induction k with
 |zero=>intro z a;cases a
 |succ k ih=>
  intro z a;by_cases h:0<lenAt c (itD c k).2
  ·rw[it_live h] at a;rcases List.mem_append.1 a with a|a
   ·exact ih z a
   ·obtain rfl:=List.mem_singleton.1 a;obtain⟨_,_,b,_⟩:=len_pos h;unfold recAt;rw[List.length_take];omega
  ·rw[it_dead h 1] at a;exact ih z a
theorem it_count(c:List Int)(k:Nat):(itD c k).1.length≤(itD c k).2:=by
 induction k with
 |zero=>exact zc
 |succ k ih=>
  by_cases h:0<lenAt c (itD c k).2
  ·rw[it_live h];show ((itD c k).1++[_]).length≤(itD c k).2+_+1;rw[List.length_append];simp only[List.length_cons,List.length_nil];omega
  ·rw[it_dead h 1];exact ih
theorem rep_few{c:List Int}{o:List (List Int)}{x f:Int}(h:RepIs c o x f):o.length≤2048∧∀z∈o,z.length≤64:=by
 rcases h with⟨_,rfl,_⟩|⟨_,_,rfl,_⟩|⟨b,_,rfl,_⟩
 ·exact⟨Nat.zero_le _,λz a=>by cases a⟩
 ·exact⟨Nat.zero_le _,λz a=>by cases a⟩
 ·exact⟨Nat.le_trans (it_count c _) (Nat.le_trans (it_bound c _).1 b.2),it_short c _⟩
theorem app_few{c r:List Int}{l:List Wr}{f:Int}(h:AppIs c r l f):l.length≤66:=by
 rcases h with⟨_,rfl,_⟩|⟨_,_,rfl,_⟩|⟨_,_,_,rfl,_⟩|⟨_,_,_,_,rfl,_⟩|⟨a,_,_,_,rfl,_⟩
 ·exact Nat.zero_le _
 ·exact Nat.zero_le _
 ·exact Nat.zero_le _
 ·exact Nat.zero_le _
 ·rw[app_len];have:=a.2;split<;>omega
end disk
namespace words
open Go.RowKit
structure Acc (w0 w:World) (B:Nat) (v:Value):Prop where
 os:w.os=w0.os
 tape:w.tape=w0.tape
 output:w.output=w0.output
 size:w0.heap.size≤w.heap.size
 block:∀k,k<w0.heap.size→k≠B→w.heap[k]?=w0.heap[k]?
 old:B<w0.heap.size
 cell:w.cell? ⟨B,0,none⟩=some v
 free:w.frozen? ⟨B,0,none⟩=false
variable{y0 y1 y2:Value}{w:World}{B:Nat}{G:Nat}{v:Value}
theorem Acc.trans{w0 w1 w2:World}{v v':Value}(h:Acc w0 w1 B v)(h':Acc w1 w2 B v'):Acc w0 w2 B v':=
 ⟨h'.os.trans h.os,h'.tape.trans h.tape,h'.output.trans h.output,Nat.le_trans h.size h'.size,λk b a=>(h'.block k (Nat.lt_of_lt_of_le b h.size) a).trans (h.block k b a),h.old,h'.cell,h'.free⟩
theorem Acc.refl(hc:w.cell? ⟨B,0,none⟩=some v)(hf:w.frozen? ⟨B,0,none⟩=false):Acc w w B v:=by
 refine⟨rfl,rfl,rfl,zc,λ_ _ _=>rfl,?_,hc,hf⟩;by_cases a:B<w.heap.size
 ·exact a
 ·simp[World.cell?,Array.getElem?_eq_none (show w.heap.size≤B by omega)] at hc
theorem Acc.set{w0 w:World}(h:Acc w0 w B v)(u:Value):Acc w0 (w.setCell ⟨B,0,none⟩ u) B u:=by
 refine⟨h.os,h.tape,h.output,by simp[World.setCell];exact h.size,λk b a=>?_,h.old,?_,?_⟩
 ·simp only[World.setCell,Array.getElem?_modify];rw[if_neg (λe=>a e.symm)];exact h.block k b a
 ·apply World.cell?_setCell_same;exact h.cell
 ·rw[World.frozen?_setCell];exact h.free
theorem Acc.drewN{w0 w:World}(h:Acc w0 w B v)(n:Nat):Acc w0 (w.drewN n) B v:=⟨h.os,h.tape,h.output,h.size,h.block,h.old,h.cell,h.free⟩
def Trio(w:World)(G:Nat)(y0 y1 y2:Value):Prop:=w.heap[G]?=some (.cells #[y0,y1,y2] 135 (0,0))
theorem Trio.c0(h:Trio w G y0 y1 y2):w.cell? ⟨G,0,none⟩=some y0:=by unfold Trio at h;simp[World.cell?,h]
theorem Trio.c1(h:Trio w G y0 y1 y2):w.cell? ⟨G,1,none⟩=some y1:=by unfold Trio at h;simp[World.cell?,h]
theorem Trio.c2(h:Trio w G y0 y1 y2):w.cell? ⟨G,2,none⟩=some y2:=by unfold Trio at h;simp[World.cell?,h]
theorem Trio.free(h:Trio w G y0 y1 y2)(i:Nat):w.frozen? ⟨G,i,none⟩=false:=by unfold Trio at h;simp[World.frozen?,h]
theorem Trio.acc{w w':World}{G B:Nat}{y0 y1 y2 v:Value}(h:Trio w G y0 y1 y2)(ha:Acc w w' B v)(hG:G≠B):Trio w' G y0 y1 y2:=by
 have a:G<w.heap.size:=by
  by_cases b:G<w.heap.size
  ·exact b
  ·unfold Trio at h;rw[Array.getElem?_eq_none (by omega)] at h;cases h
 unfold Trio at *;rw[ha.block G a hG];exact h
theorem Trio.set0(h:Trio w G y0 y1 y2)(u:Value):Trio (w.setCell ⟨G,0,none⟩ u) G u y1 y2:=by
 unfold Trio at *;simp[World.setCell,Array.getElem?_modify,h]
theorem Trio.set1(h:Trio w G y0 y1 y2)(u:Value):Trio (w.setCell ⟨G,1,none⟩ u) G y0 u y2:=by
 unfold Trio at *;simp[World.setCell,Array.getElem?_modify,h]
theorem Trio.set2(h:Trio w G y0 y1 y2)(u:Value):Trio (w.setCell ⟨G,2,none⟩ u) G y0 y1 u:=by
 unfold Trio at *;simp[World.setCell,Array.getElem?_modify,h]
theorem Trio.other{G G':Nat}(h:Trio w G y0 y1 y2)(i:Nat)(u:Value)(hne:G'≠G):Trio (w.setCell ⟨G',i,none⟩ u) G y0 y1 y2:=by
 unfold Trio at *;simp only[World.setCell,Array.getElem?_modify];rw[if_neg hne];exact h
theorem Acc.setNew{w0 w:World}(h:Acc w0 w B v)(G i:Nat)(u:Value)(hG:w0.heap.size≤G):Acc w0 (w.setCell ⟨G,i,none⟩ u) B v:=by
 have a:G≠B:=by have:=h.old;omega
 refine⟨h.os,h.tape,h.output,by simp[World.setCell];exact h.size,λk c b=>?_,h.old,?_,?_⟩
 ·simp only[World.setCell,Array.getElem?_modify];rw[if_neg (by omega)];exact h.block k c b
 ·rw[World.cell?_setCell_other]
  ·exact h.cell
  ·intro e;exact a (congrArg Addr.block e)
 ·rw[World.frozen?_setCell];exact h.free
theorem Acc.alloc{w0 w:World}(h:Acc w0 w B v)(o:Obj):Acc w0 (w.alloc o) B v:=by
 have b:∀k,k<w.heap.size→(w.alloc o).heap[k]?=w.heap[k]?:=λk d=>by
  show (w.heap.push o)[k]?=_;rw[Array.getElem?_push,if_neg (by omega)]
 have c:=Nat.lt_of_lt_of_le h.old h.size;refine⟨h.os,h.tape,h.output,?_,λk d c=>?_,h.old,?_,?_⟩
 ·show _≤(w.heap.push o).size;have:=h.size;simp;omega
 ·rw[b k (Nat.lt_of_lt_of_le d h.size)];exact h.block k d c
 ·rw[← h.cell];exact World.cell?_of_block (w:=w) (a:=⟨B,0,none⟩) (b B c)
 ·have:((w.alloc o).frozen? ⟨B,0,none⟩)=w.frozen? ⟨B,0,none⟩:=by simp only[World.frozen?,b B c]
  rw[this];exact h.free
theorem trio_a(w:World)(x y z:Value)(o:Obj):Trio ((w.alloc (.cells #[x,y,z] 135)).alloc o) w.heap.size x y z:=by
 show ((w.heap.push _).push o)[w.heap.size]?=_;rw[Array.getElem?_push,if_neg (by simp),Array.getElem?_push_size]
theorem trio_b(w:World)(o:Obj)(x y z:Value):Trio ((w.alloc o).alloc (.cells #[x,y,z] 135)) (w.heap.size+1) x y z:=by
 show ((w.heap.push o).push _)[w.heap.size+1]?=_;have:w.heap.size+1=(w.heap.push o).size:=by simp
 rw[this,Array.getElem?_push_size]
theorem upward_any(K:Nat)(caps:Array Value)(B:Nat)(v0 v1 v2 v3:Value)(x0 x1 x2 y0 y1 y2:Int)(w:World)(h:Acc w w B v0)(hK:∀args w,(callFunc K args).run Tryz.prog w=.ok (.enter K args) w)
  (s0:∀w',Acc w w' B v0→zC K (#[.int .u32 x0]++caps) w' λe w''=>e=.returned (.int .u32 y0)∧Acc w' w'' B v1)
  (s1:∀w',Acc w w' B v1→zC K (#[.int .u32 x1]++caps) w' λe w''=>e=.returned (.int .u32 y1)∧Acc w' w'' B v2)
  (s2:∀w',Acc w w' B v2→zC K (#[.int .u32 x2]++caps) w' λe w''=>e=.returned (.int .u32 y2)∧Acc w' w'' B v3):
  Calls Tryz.prog 165 #[.agg #[.int .u32 x0,.int .u32 x1,.int .u32 x2],.func (.func K) #[] caps] w λe w'=>e=.returned (.agg #[.int .u32 y0,.int .u32 y1,.int .u32 y2])∧Acc w w' B v3:=by
 have u:Hid (∀w',Acc w w' B v0→zC K (#[.int .u32 x0]++caps) w' λe w''=>e=.returned (.int .u32 y0)∧Acc w' w'' B v1):=s0;have x:Hid (∀w',Acc w w' B v1→zC K (#[.int .u32 x1]++caps) w' λe w''=>e=.returned (.int .u32 y1)∧Acc w' w'' B v2):=s1;have y:Hid (∀w',Acc w w' B v2→zC K (#[.int .u32 x2]++caps) w' λe w''=>e=.returned (.int .u32 y2)∧Acc w' w'' B v3):=s2;have q:Hid (Acc w w B v0):=h;clear s0 s1 s2 h;go_enter Tryz.func165,Tryz.ntmps165;go_wp2_with fail;refine wp_loop_rounds 4 ?_;rw[rounds_succ];go_wp2_with fail;refine(u.o _ ((q.o.alloc _).alloc _)).mono ?_;rintro e i ⟨rfl,m⟩;have X:=q.o.old;have j:Trio i w.heap.size (.int .u32 x0) (.int .u32 x1) (.int .u32 x2):=(trio_a _ _ _ _ _).acc m (by omega);have G:Trio i (w.heap.size+1) (.int .u32 0) (.int .u32 0) (.int .u32 0):=(trio_b _ _ _ _ _).acc m (by omega);have D:=((q.o.alloc _).alloc _).trans m;have c0:=j.c0;have O:=j.free 0;have c:=j.set0 (.int .u32 y0);have M:=c.c1;have z:Hid (Trio (i.setCell ⟨w.heap.size,0,none⟩ (.int .u32 y0)) w.heap.size (.int .u32 y0) (.int .u32 x1) (.int .u32 x2)):=c;have s:Hid (Trio (i.setCell ⟨w.heap.size,0,none⟩ (.int .u32 y0)) (w.heap.size+1) (.int .u32 0) (.int .u32 0) (.int .u32 0)):=G.other _ _ (by omega);have f:Hid (Acc w (i.setCell ⟨w.heap.size,0,none⟩ (.int .u32 y0)) B v1):=D.setNew _ _ _ zc;clear m j G D c;go_wp2_with fail;rw[rounds_succ];go_wp2_with fail;refine(x.o _ f.o).mono ?_;rintro e C ⟨rfl,n⟩;have k:=z.o.acc n (by omega);have H:=s.o.acc n (by omega);have E:=f.o.trans n;clear c0 O M n;have c1:=k.c1;have P:=k.free 1;have d:=k.set1 (.int .u32 y1);have N:=d.c2;have z:Hid (Trio (C.setCell ⟨w.heap.size,1,none⟩ (.int .u32 y1)) w.heap.size (.int .u32 y0) (.int .u32 y1) (.int .u32 x2)):=d;have s:Hid (Trio (C.setCell ⟨w.heap.size,1,none⟩ (.int .u32 y1)) (w.heap.size+1) (.int .u32 0) (.int .u32 0) (.int .u32 0)):=H.other _ _ (by omega)
 have g:Hid (Acc w (C.setCell ⟨w.heap.size,1,none⟩ (.int .u32 y1)) B v2):=E.setNew _ _ _ zc;clear k H E d;go_wp2_with fail;rw[rounds_succ];go_wp2_with fail;refine(y.o _ g.o).mono ?_;rintro e J ⟨rfl,p⟩;have l:=z.o.acc p (by omega);have I:=s.o.acc p (by omega);have F:=g.o.trans p;clear c1 P N p;have c2:=l.c2;have T:=l.free 2;have b:=l.set2 (.int .u32 y2);have a:=I.other (G':=w.heap.size) 2 (.int .u32 y2) (by omega);have Q:=b.c0;have R:=b.c1;have S:=b.c2;have Y:=a.c0;have Z:=a.c1;have r2:=a.c2;have U:=a.free 0;have V:=a.free 1;have W:=a.free 2;have t:Hid (Trio (J.setCell ⟨w.heap.size,2,none⟩ (.int .u32 y2)) (w.heap.size+1) (.int .u32 0) (.int .u32 0) (.int .u32 0)):=a;have r:Hid (Acc w (J.setCell ⟨w.heap.size,2,none⟩ (.int .u32 y2)) B v3):=F.setNew _ _ _ zc;clear l I F b a;go_wp2_with fail;rw[rounds_succ];go_wp2_with fail;have A:=((t.o.set0 (.int .u32 y0)).set1 (.int .u32 y1)).set2 (.int .u32 y2);have L:=((r.o.setNew (w.heap.size+1) 0 (.int .u32 y0) (by omega)).setNew (w.heap.size+1) 1 (.int .u32 y1) (by omega)).setNew (w.heap.size+1) 2 (.int .u32 y2) (by omega);refine bodyPost_ret (v:=.agg #[.int .u32 y0,.int .u32 y1,.int .u32 y2]) (by simp[results,Tryz.results165,A.c0,A.c1,A.c2,go_sem]) rfl ⟨rfl,L⟩
theorem below_set{w w':World}(h:Below B w w')(G i:Nat)(u:Value)(hG:B≤G):Below B w (w'.setCell ⟨G,i,none⟩ u):=by
 refine⟨h.os,h.tape,h.output,by simp[World.setCell];exact h.size,λk a=>?_⟩;rw[← h.block k a];simp only[World.setCell,Array.getElem?_modify];rw[if_neg (by omega)]
theorem Acc.below{w0 w1 w:World}(hb:zB w0 w1)(h:Acc w1 w B v)(hB:w0.heap.size≤B):zB w0 w:=
 hb.trans ⟨h.os,h.tape,h.output,h.size,λk a=>h.block k (Nat.lt_of_lt_of_le a hb.size) (by omega)⟩
theorem Trio.alloc(h:Trio w G y0 y1 y2)(o:Obj):Trio (w.alloc o) G y0 y1 y2:=by
 have b:G<w.heap.size:=by
  by_cases a:G<w.heap.size
  ·exact a
  ·unfold Trio at h;rw[Array.getElem?_eq_none (by omega)] at h;cases h
 unfold Trio at *;show (w.heap.push o)[G]?=_;rw[Array.getElem?_push,if_neg (by omega)];exact h
theorem below_put{w w':World}(h:Below B w w')(G i j k:Nat)(u v x:Value)(hG:B≤G):Below B w (((w'.setCell ⟨G,i,none⟩ u).setCell ⟨G,j,none⟩ v).setCell ⟨G,k,none⟩ x).drew:=
 (below_set (below_set (below_set h G i u hG) G j v hG) G k x hG).drew
theorem bel2(w:World)(o1 o2:Obj):zB w ((w.alloc o1).alloc o2):=(zb.alloc zc o1).alloc (by simp) o2
theorem bel3(w:World)(o1 o2 o3:Obj):zB w (((w.alloc o1).alloc o2).alloc o3):=(bel2 w o1 o2).alloc (by simp;omega) _
theorem Acc.keep{w0 w:World}{B M:Nat}{v u:Value}(h:Acc w0 w B v)(hc:w0.cell? ⟨M,0,none⟩=some u)(hM:M≠B):w.cell? ⟨M,0,none⟩=some u:=by
 have b:M<w0.heap.size:=by
  by_cases c:M<w0.heap.size
  ·exact c
  ·simp[World.cell?,Array.getElem?_eq_none (show w0.heap.size≤M by omega)] at hc
 rw[← hc];exact World.cell?_of_block (w:=w0) (a:=⟨M,0,none⟩) (h.block M b hM)
theorem bel4(w:World)(o1 o2 o3 o4:Obj):zB w ((((w.alloc o1).alloc o2).alloc o3).alloc o4):=(bel3 w o1 o2 o3).alloc (by simp;omega) _
theorem trio_d(w:World)(cs:Array Value)(m:Value)(T:TypeId)(x y z u:Value)(U:TypeId):
  (((((w.alloc (.cells cs 135)).alloc (.cells #[m] T)).alloc (.cells #[x,y,z] 135)).alloc (.cells #[u] U)).cell? ⟨w.heap.size+1+1+1,0,none⟩=some u) ∧
  (((((w.alloc (.cells cs 135)).alloc (.cells #[m] T)).alloc (.cells #[x,y,z] 135)).alloc (.cells #[u] U)).frozen? ⟨w.heap.size+1+1+1,0,none⟩=false) ∧
  Trio ((((w.alloc (.cells cs 135)).alloc (.cells #[m] T)).alloc (.cells #[x,y,z] 135)).alloc (.cells #[u] U)) (w.heap.size+1+1) x y z ∧
  ((((w.alloc (.cells cs 135)).alloc (.cells #[m] T)).alloc (.cells #[x,y,z] 135)).alloc (.cells #[u] U)).cell? ⟨w.heap.size+1,0,none⟩=some m:=by
 have b:w.heap.size+1=(w.heap.push (.cells cs 135)).size:=by simp
 have c:w.heap.size+1+1=((w.heap.push (.cells cs 135)).push (.cells #[m] T)).size:=by simp
 have d:w.heap.size+1+1+1=(((w.heap.push (.cells cs 135)).push (.cells #[m] T)).push (.cells #[x,y,z] 135)).size:=by simp
 have e:((((w.heap.push (.cells cs 135)).push (.cells #[m] T)).push (.cells #[x,y,z] 135)).push (.cells #[u] U))[w.heap.size+1+1+1]?=some (.cells #[u] U):=by
  rw[d,Array.getElem?_push_size]
 have a:((((w.heap.push (.cells cs 135)).push (.cells #[m] T)).push (.cells #[x,y,z] 135)).push (.cells #[u] U))[w.heap.size+1]?=some (.cells #[m] T):=by
  rw[Array.getElem?_push,if_neg (by simp),Array.getElem?_push,if_neg (by simp),b,Array.getElem?_push_size]
 refine⟨?_,?_,?_,?_⟩
 ·simp only[World.cell?,World.alloc,e];rfl
 ·simp only[World.frozen?,World.alloc,e];rfl
 ·show ((((w.heap.push _).push _).push _).push _)[w.heap.size+1+1]?=_;rw[Array.getElem?_push,if_neg (by simp),c,Array.getElem?_push_size]
 ·simp only[World.cell?,World.alloc,a];rfl
end words
end Go.Proofs.YtoepgdhiepedeaaGreatDoor
