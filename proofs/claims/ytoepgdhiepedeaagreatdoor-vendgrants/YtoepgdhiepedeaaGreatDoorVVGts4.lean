import Derived.Test.YtoepgdhiepedeaaGreatDoorVVGts3
set_option linter.unusedVariables false
set_option linter.unusedSimpArgs false
set_option maxHeartbeats 4000000
set_option maxRecDepth 100000
namespace Go.Proofs.YtoepgdhiepedeaaGreatDoor
namespace disk
open cell (Wr wr0 set_at list_ext)
def lenAt(c:List Int)(a:Nat):Int:=if a=c.length∨c.getD a 0=0 then 0 else if 64<c.getD a 0 then -1 else if (c.length:Int)≤a+c.getD a 0 then -1 else c.getD a 0
def recAt(c:List Int)(a:Nat):List Int:=(c.drop (a+1)).take (c.getD a 0).toNat
variable{c:List Int}{k:Nat}
theorem len_pos{a:Nat}(h:0<lenAt c a):lenAt c a=c.getD a 0∧0<c.getD a 0∧c.getD a 0≤64∧a+c.getD a 0<c.length:=by
 unfold lenAt at h ⊢;by_cases b:a=c.length∨c.getD a 0=0
 ·rw[if_pos b] at h;omega
 ·by_cases d:64<c.getD a 0
  ·rw[if_neg b,if_pos d] at h;omega
  ·by_cases e:(c.length:Int)≤a+c.getD a 0
   ·rw[if_neg b,if_neg d,if_pos e] at h;omega
   ·rw[if_neg b,if_neg d,if_neg e] at h ⊢;exact⟨rfl,h,by omega,by omega⟩
theorem len_of{a:Nat}(h0:0<c.getD a 0)(h1:c.getD a 0≤64)(h2:a+c.getD a 0<c.length):lenAt c a=c.getD a 0:=by
 unfold lenAt;rw[if_neg (by omega),if_neg (by omega),if_neg (by omega)]
def stepD(c:List Int)(s:List (List Int) × Nat):List (List Int) × Nat:=if 0<lenAt c s.2 then (s.1++[recAt c s.2],s.2+(lenAt c s.2).toNat+1) else s
def itD(c:List Int):Nat→List (List Int) × Nat
 |0=>([],0)
 |k+1=>stepD c (itD c k)
theorem it_live(h:0<lenAt c (itD c k).2):itD c (k+1)=((itD c k).1++[recAt c (itD c k).2],(itD c k).2+(lenAt c (itD c k).2).toNat+1):=by
 show stepD c (itD c k)=_;unfold stepD;rw[if_pos h]
theorem it_dead(h:¬ 0<lenAt c (itD c k).2):∀m,itD c (k+m)=itD c k
 |0=>rfl
 |m+1=>by
  show stepD c (itD c (k+m))=_;rw[it_dead h m];unfold stepD;rw[if_neg h]
theorem it_bound(c:List Int)(k:Nat):(itD c k).2≤c.length∧((∀i,i<k→0<lenAt c (itD c i).2)→k≤(itD c k).2):=by
 induction k with
 |zero=>exact⟨Nat.zero_le _,λ_=>zc⟩
 |succ k ih=>
  by_cases h:0<lenAt c (itD c k).2
  ·rw[it_live h];obtain⟨e,d,f,g⟩:=len_pos h;refine⟨by show (itD c k).2+_+1≤_;omega,λa=>?_⟩;have:=ih.2 λi b=>a i (by omega);show k+1≤(itD c k).2+_+1;omega
  ·rw[it_dead h 1];exact⟨ih.1,λa=>absurd (a k (by omega)) h⟩
def repD(c:List Int):List (List Int) × Nat:=itD c (c.length+1)
theorem rep_dead(c:List Int):¬ 0<lenAt c (repD c).2:=λh=>by
 have all:∀i,i<c.length+1→0<lenAt c (itD c i).2:=λi b=>by
  refine Classical.byContradiction λa=>?_;have e:=it_dead a (c.length+1-i);rw[show i+(c.length+1-i)=c.length+1 by omega] at e;unfold repD at h;rw[e] at h;exact a h
 have:=(it_bound c (c.length+1)).2 all;have:=(it_bound c (c.length+1)).1;omega
theorem rep_of(h:¬ 0<lenAt c (itD c k).2):repD c=itD c k:=by
 by_cases a:k≤c.length+1
 ·have e:=it_dead h (c.length+1-k);rw[show k+(c.length+1-k)=c.length+1 by omega] at e;exact e
 ·have e:=it_dead (rep_dead c) (k-(c.length+1));rw[show c.length+1+(k-(c.length+1))=k by omega] at e;exact e.symm
def May(c:List Int):Prop:=1≤c.length∧c.length≤2048
def RepIs(c:List Int)(out:List (List Int))(e:Int)(f:Int):Prop:=
 (¬ May c∧out=[]∧e=0∧f=1)∨(May c∧lenAt c (repD c).2<0∧out=[]∧e=0∧f=3)∨(May c∧lenAt c (repD c).2=0∧out=(repD c).1∧e=((repD c).2:Int)∧f=0)
theorem RepIs.one{o o':List (List Int)}{e e' f f':Int}(h:RepIs c o e f)(h':RepIs c o' e' f'):o=o'∧e=e'∧f=f':=by
 rcases h with⟨a,rfl,rfl,rfl⟩|⟨a,b,rfl,rfl,rfl⟩|⟨a,b,rfl,rfl,rfl⟩<;>rcases h' with⟨d,rfl,rfl,rfl⟩|⟨d,g,rfl,rfl,rfl⟩|⟨d,g,rfl,rfl,rfl⟩<;>first|exact⟨rfl,rfl,rfl⟩|contradiction|omega
def putW(at_:Nat)(rec:List Int):Nat→List Wr
 |0=>[]
 |k+1=>putW at_ rec k++[⟨((at_+k+1:Nat):Int),rec.getD k 0⟩]
def zeroW(c:List Int)(p:Nat):List Wr:=if p<c.length then [⟨(p:Int),0⟩] else []
def appW(c:List Int)(a:Nat)(rec:List Int):List Wr:=putW a rec rec.length++(zeroW c (a+rec.length+1)++[⟨(a:Int),(rec.length:Int)⟩])
def RMay(r:List Int):Prop:=1≤r.length∧r.length≤64
def AppIs(c rec:List Int)(ls:List Wr)(f:Int):Prop:=
 (¬ RMay rec∧ls=[]∧f=1)∨(RMay rec∧¬ May c∧ls=[]∧f=1)∨(RMay rec∧May c∧lenAt c (repD c).2<0∧ls=[]∧f=3) ∨
 (RMay rec∧May c∧lenAt c (repD c).2=0∧c.length≤(repD c).2+rec.length∧ls=[]∧f=16)∨(RMay rec∧May c∧lenAt c (repD c).2=0∧(repD c).2+rec.length<c.length∧ls=appW c (repD c).2 rec∧f=0)
theorem AppIs.one{c rec:List Int}{l l':List Wr}{f f':Int}(h:AppIs c rec l f)(h':AppIs c rec l' f'):l=l'∧f=f':=by
 rcases h with⟨a,rfl,rfl⟩|⟨a,b,rfl,rfl⟩|⟨a,b,d,rfl,rfl⟩|⟨a,b,d,g,rfl,rfl⟩|⟨a,b,d,g,rfl,rfl⟩<;>rcases h' with⟨e,rfl,rfl⟩|⟨e,i,rfl,rfl⟩|⟨e,i,j,rfl,rfl⟩|⟨e,i,j,k,rfl,rfl⟩|⟨e,i,j,k,rfl,rfl⟩<;>first|exact⟨rfl,rfl⟩|contradiction|omega
theorem rep_bound(c:List Int):(repD c).2≤c.length:=(it_bound c _).1
theorem put_len(a:Nat)(rec:List Int)(k:Nat):(putW a rec k).length=k:=by
 induction k with
 |zero=>rfl
 |succ k ih=>rw[putW,List.length_append,ih];rfl
theorem app_len(c:List Int)(a:Nat)(r:List Int):(appW c a r).length=r.length+(if a+r.length+1<c.length then 2 else 1):=by
 unfold appW zeroW;rw[List.length_append,put_len];split<;>rfl
end disk
namespace deb
open tar
def Ok1(d:Du):Prop:=(0≤d.a∧d.a≤1000000000)∧0≤d.b∧d.b≤10000
def DFits(l:List Du):Prop:=∀i,i<l.length→Ok1 (l.getD i du0)
def Mays(l:List Du):Prop:=l.length≤8∧DFits l
def FaultIs(l:List Du)(e:Int):Prop:=(¬ l.length≤8∧e=1)∨(l.length≤8∧¬ DFits l∧e=2)∨(Mays l∧e=0)
variable{l:List Du}{b x:Int}
theorem FaultIs.ok{e:Int}(h:FaultIs l e):e=0↔Mays l:=by
 rcases h with⟨a,rfl⟩|⟨a,b,rfl⟩|⟨h,rfl⟩
 ·exact⟨λh=>absurd h (by decide),λh=>absurd h.1 a⟩
 ·exact⟨λh=>absurd h (by decide),λh=>absurd h.2 b⟩
 ·exact⟨λ_=>h,λ_=>rfl⟩
theorem fits_mem(h:∀d∈l,Ok1 d):DFits l:=λi a=>by
 have e:l.getD i du0=l[i]:=by simp[List.getD,List.getElem?_eq_getElem a]
 rw[e];exact h _ (List.getElem_mem a)
theorem mem_fits(h:DFits l):∀d∈l,Ok1 d:=λd b=>by
 obtain⟨i,a,rfl⟩:=List.getElem_of_mem b;have e:l.getD i du0=l[i]:=by simp[List.getD,List.getElem?_eq_getElem a]
 rw[← e];exact h i a
def sumK(l:List Du):Nat→Int
 |0=>0
 |k+1=>sumK l k+(l.getD k du0).a
theorem sumK_next(l:List Du)(k:Nat):sumK l (k+1)=sumK l k+(l.getD k du0).a:=rfl
def sumD:List Du→Int
 |[]=>0
 |d::l=>d.a+sumD l
theorem sumD_app(l m:List Du):sumD (l++m)=sumD l+sumD m:=by
 induction l with
 |nil=>simp[sumD]
 |cons t l ih=>simp only[List.cons_append,sumD,ih];omega
theorem sumK_take(l:List Du)(k:Nat)(hk:k≤l.length):sumK l k=sumD (l.take k):=by
 induction k with
 |zero=>simp[sumK,sumD]
 |succ k ih=>rw[sumK_next,take_one l k (by omega),sumD_app,ih (by omega)];simp[sumD]
theorem sumK_all(l:List Du):sumK l l.length=sumD l:=by rw[sumK_take l _ zc,List.take_length]
theorem sumD_pos(h:∀d∈l,Ok1 d):0≤sumD l∧sumD l≤(l.length:Int)*1000000000:=by
 induction l with
 |nil=>exact⟨Int.le_refl _,Int.le_refl _⟩
 |cons t l ih=>
  have g:=ih λx c=>h x (List.mem_cons_of_mem _ c);have b:=h t List.mem_cons_self;obtain⟨⟨e,f⟩,_⟩:=b;refine⟨by show 0≤t.a+sumD l;omega,?_⟩;show t.a+sumD l≤((l.length+1:Nat):Int)*1000000000;omega
theorem sumK_bd(h:Mays l)(k:Nat)(hk:k≤l.length):0≤sumK l k∧sumK l k≤8000000000:=by
 rw[sumK_take l k hk];have a:=sumD_pos (l:=l.take k) λd b=>mem_fits h.2 d (List.mem_of_mem_take b);have c:(l.take k).length≤8:=by rw[List.length_take];have:=h.1;omega
 exact⟨a.1,by omega⟩
def OwedIs(l:List Du)(x e:Int):Prop:=FaultIs l e∧((e=0∧x=sumD l)∨(e≠0∧x=0))
def TMay(t bp:Int):Prop:=(0≤t∧t≤100000000)∧0≤bp∧bp≤10000
def ShareIs(t bp s e:Int):Prop:=(TMay t bp∧s=t*bp/10000∧e=0)∨(¬ TMay t bp∧s=0∧e=2)
theorem share_bd{t bp:Int}(h:TMay t bp):0≤t*bp/10000∧t*bp/10000≤100000000:=by
 obtain⟨⟨a,d⟩,b,c⟩:=h;have e:=Int.mul_nonneg a b;have f:t*bp≤t*10000:=Int.mul_le_mul_of_nonneg_left c a;generalize t*bp=p at *;omega
def left(a end_ s:Int):Int:=min a (end_-s)
def recK(l:List Du)(s:Int):Nat→List Du
 |0=>[]
 |k+1=>recK l s k++(if 0<left (l.getD k du0).a (sumK l (k+1)) s then [⟨left (l.getD k du0).a (sumK l (k+1)) s,(l.getD k du0).b⟩] else [])
theorem recK_yes(l:List Du)(s:Int)(k:Nat)(h:0<left (l.getD k du0).a (sumK l (k+1)) s):recK l s (k+1)=recK l s k++[⟨left (l.getD k du0).a (sumK l (k+1)) s,(l.getD k du0).b⟩]:=by
 show recK l s k++_=_;rw[if_pos h]
theorem recK_no(l:List Du)(s:Int)(k:Nat)(h:¬ 0<left (l.getD k du0).a (sumK l (k+1)) s):recK l s (k+1)=recK l s k:=by
 show recK l s k++_=_;rw[if_neg h,List.append_nil]
theorem recK_len(l:List Du)(s:Int)(k:Nat):(recK l s k).length≤k:=by
 induction k with
 |zero=>exact zc
 |succ k ih=>
  by_cases h:0<left (l.getD k du0).a (sumK l (k+1)) s
  ·rw[recK_yes l s k h,List.length_append];simp;omega
  ·rw[recK_no l s k h];omega
theorem recK_ok(h:Mays l)(s:Int)(k:Nat)(hk:k≤l.length):∀d∈recK l s k,Ok1 d∧1≤d.a:=by
 induction k with
 |zero=>intro d b;cases b
 |succ k ih=>
  intro d b;by_cases f:0<left (l.getD k du0).a (sumK l (k+1)) s
  ·rw[recK_yes l s k f] at b;rcases List.mem_append.1 b with b|b
   ·exact ih (by omega) d b
   ·have e:=List.mem_singleton.1 b;subst e;have c:=h.2 k (by omega);have g:left (l.getD k du0).a (sumK l (k+1)) s≤(l.getD k du0).a:=by unfold left;omega
    have i:=c.1.2;exact⟨⟨⟨by show 0≤left _ _ _;omega,by show left _ _ _≤_;omega⟩,c.2⟩,by show 1≤left _ _ _;omega⟩
  ·rw[recK_no l s k f] at b;exact ih (by omega) d b
def RecIs(l:List Du)(t bp:Int)(z:List Du)(p e:Int):Prop:=
 (¬ Mays l∧FaultIs l e∧z=[]∧p=0)∨(Mays l∧¬ TMay t bp∧e=2∧z=[]∧p=0)∨(Mays l∧TMay t bp∧e=0∧z=recK l (t*bp/10000) l.length∧p=min (t*bp/10000) (sumD l))
theorem RecIs.got{t bp p e:Int}{z:List Du}(h:RecIs l t bp z p e)(hm:Mays l)(ht:TMay t bp):e=0∧z=recK l (t*bp/10000) l.length∧p=min (t*bp/10000) (sumD l):=by
 rcases h with⟨a,_⟩|⟨_,b,_⟩|⟨_,_,c⟩
 ·exact absurd hm a
 ·exact absurd ht b
 ·exact c
def grow(b x:Int):Int:=min 1000000000 (x+x*b/10000)
def growN(b:Int):Nat→Int→Int
 |0,x=>x
 |k+1,x=>grow b (growN b k x)
theorem grow_bd(hb:0≤b)(hb2:b≤10000)(hx:0≤x)(hx2:x≤1000000000):x≤grow b x∧grow b x≤1000000000:=by
 have a:=Int.mul_nonneg hx hb;unfold grow;generalize x*b=p at *;omega
theorem growN_bd(hb:0≤b)(hb2:b≤10000)(hx:0≤x)(hx2:x≤1000000000)(k:Nat):x≤growN b k x∧growN b k x≤1000000000:=by
 induction k with
 |zero=>exact⟨Int.le_refl _,hx2⟩
 |succ k ih=>
  have:=grow_bd hb hb2 (show 0≤growN b k x by omega) ih.2;exact⟨by show x≤grow b _;omega,this.2⟩
theorem growN_add(b:Int)(j k:Nat)(x:Int):growN b k (growN b j x)=growN b (j+k) x:=by
 induction k with
 |zero=>rfl
 |succ k ih=>show grow b _=grow b _;rw[ih];rfl
theorem growN_still(h:grow b x=x)(k:Nat):growN b k x=x:=by
 induction k with
 |zero=>rfl
 |succ k ih=>show grow b (growN b k x)=x;rw[ih,h]
def ageAll(l:List Du)(m:Nat):List Du:=l.map λd=>⟨growN d.b m d.a,d.b⟩
theorem ageAll_len(l:List Du)(m:Nat):(ageAll l m).length=l.length:=List.length_map _
theorem ageAll_at(l:List Du)(m:Nat)(i:Nat)(hi:i<l.length):(ageAll l m).getD i du0=⟨growN (l.getD i du0).b m (l.getD i du0).a,(l.getD i du0).b⟩:=by
 unfold ageAll;simp[List.getD,List.getElem?_eq_getElem hi]
theorem ageAll_mays(h:Mays l)(m:Nat):Mays (ageAll l m):=by
 refine⟨by rw[ageAll_len];exact h.1,λi a=>?_⟩;rw[ageAll_len] at a;rw[ageAll_at l m i a];obtain⟨⟨d,e⟩,b,c⟩:=h.2 i a;have:=growN_bd b c d e m;exact⟨⟨by show 0≤growN _ _ _;omega,this.2⟩,b,c⟩
theorem ageAll_take(l:List Du)(m k:Nat)(hk:k<l.length):ageAll (l.take (k+1)) m=ageAll (l.take k) m++[⟨growN (l.getD k du0).b m (l.getD k du0).a,(l.getD k du0).b⟩]:=by
 rw[take_one l k hk];unfold ageAll;rw[List.map_append];rfl
def AgeIs(l:List Du)(m:Int)(z:List Du)(e:Int):Prop:=(¬ Mays l∧FaultIs l e∧z=[])∨(Mays l∧¬ (0≤m∧m≤2400)∧e=2∧z=[])∨(Mays l∧(0≤m∧m≤2400)∧e=0∧z=ageAll l m.toNat)
theorem AgeIs.got{m e:Int}{z:List Du}(h:AgeIs l m z e)(hm:Mays l)(ht:0≤m∧m≤2400):e=0∧z=ageAll l m.toNat:=by
 rcases h with⟨a,_⟩|⟨_,b,_⟩|⟨_,_,c⟩
 ·exact absurd hm a
 ·exact absurd ht b
 ·exact c
end deb
namespace acc
open tar (Du du0 Right MostOf cost)
open deb (sumD recK ageAll)
structure Ac where
 me:Int
 rv:Int
 nx:Int
 mo:Int
 bo:Int
 fr:Int
 ds:List Du
def ac0:Ac:=⟨0,0,0,0,0,0,[]⟩
structure Tm where
 ts:List Du
 ff:Int
 fb:Int
 db:Int
 al:Int
structure Bi where
 id:Int
 te:Int
 de:Int
 fe:Int
 pr:Int
 ch:Int
 un:Int
def bi0:Bi:=⟨0,0,0,0,0,0,0⟩
def AMay(a:Ac):Prop:=deb.Mays a.ds∧(0≤a.me∧a.me≤49)∧(0≤a.rv∧a.rv≤15)∧(1≤a.nx∧a.nx≤1048576)∧(0≤a.mo∧a.mo≤2399)∧(0≤a.bo∧a.bo≤10000000)∧-1≤a.fr∧a.fr≤a.mo
def TOk(t:Tm):Prop:=(0≤t.ff∧t.ff≤100000)∧(0≤t.fb∧t.fb≤10000)∧(0≤t.db∧t.db≤10000)∧0≤t.al∧t.al≤2097151
def TRight(t:Tm):Prop:=Right t.ts∧TOk t
def TFault(t:Tm)(e:Int):Prop:=(¬ Right t.ts∧tar.FaultIs t.ts e)∨(Right t.ts∧¬ TOk t∧e=2)∨(TRight t∧e=0)
variable{a:Ac}{b b':Ac}{t:Tm}{l l':Bi}
theorem TFault.one{e f:Int}(h:TFault t e)(h':TFault t f):e=f:=by
 rcases h with⟨a,b⟩|⟨a,b,rfl⟩|⟨⟨a,b⟩,rfl⟩<;>rcases h' with⟨d,c⟩|⟨d,c,rfl⟩|⟨⟨d,c⟩,rfl⟩<;>first|rfl|exact b.one c|contradiction
theorem TFault.ok{e:Int}(h:TFault t e):e=0↔TRight t:=by
 rcases h with⟨a,b⟩|⟨a,b,rfl⟩|⟨h,rfl⟩
 ·exact⟨λh=>absurd (b.ok.1 h) a,λh=>absurd h.1 a⟩
 ·exact⟨λh=>absurd h (by decide),λh=>absurd h.2 b⟩
 ·exact⟨λ_=>h,λ_=>rfl⟩
def OpenIs(m:Int)(b:Ac)(e:Int):Prop:=((0≤m∧m≤49)∧b=⟨m,0,1,0,0,-1,[]⟩∧e=0)∨(¬ (0≤m∧m≤49)∧b=ac0∧e=2)
theorem OpenIs.one{m e e':Int}(h:OpenIs m b e)(h':OpenIs m b' e'):b=b'∧e=e':=by
 rcases h with⟨a,rfl,rfl⟩|⟨a,rfl,rfl⟩<;>rcases h' with⟨c,rfl,rfl⟩|⟨c,rfl,rfl⟩<;>first|exact⟨rfl,rfl⟩|contradiction
def rolled(a:Ac)(m:Int):Ac:=if m=a.mo then a else ⟨a.me,a.rv,a.nx,m,0,a.fr,ageAll a.ds (m-a.mo).toNat⟩
def RMay(a:Ac)(m:Int):Prop:=(0≤m∧m≤2399)∧a.mo≤m
def RErr(a:Ac)(m e:Int):Prop:=(¬ (0≤m∧m≤2399)∧e=2)∨((0≤m∧m≤2399)∧m<a.mo∧e=23)
theorem RErr.one{m e f:Int}(h:RErr a m e)(h':RErr a m f):e=f:=by
 rcases h with⟨p,rfl⟩|⟨p,q,rfl⟩<;>rcases h' with⟨b,rfl⟩|⟨b,c,rfl⟩<;>first|rfl|contradiction
theorem RErr.ne{m e:Int}(h:RErr a m e):e≠0:=by rcases h with⟨_,rfl⟩|⟨_,_,rfl⟩<;>decide
def RollIs(a:Ac)(m:Int)(b:Ac)(e:Int):Prop:=(¬ AMay a∧b=ac0∧e=5)∨(AMay a∧¬ RMay a m∧RErr a m e∧b=ac0)∨(AMay a∧RMay a m∧b=rolled a m∧e=0)
theorem rolled_may{m:Int}(h:AMay a)(hr:RMay a m):AMay (rolled a m):=by
 obtain⟨b,c,d,f,i,j,g⟩:=h;obtain⟨⟨k,l⟩,n⟩:=hr;unfold rolled;by_cases e:m=a.mo
 ·rw[if_pos e];exact⟨b,c,d,f,i,j,g⟩
 ·rw[if_neg e];exact⟨deb.ageAll_mays b _,c,d,f,⟨k,l⟩,⟨(by decide:(0:Int)≤0),(by decide:(0:Int)≤10000000)⟩,g.1,by show a.fr≤m;omega⟩
theorem rolled_same(a:Ac)(m:Int):(rolled a m).me=a.me∧(rolled a m).rv=a.rv∧(rolled a m).nx=a.nx∧(rolled a m).mo=m∧(rolled a m).fr=a.fr:=by
 unfold rolled;by_cases e:m=a.mo
 ·rw[if_pos e];exact⟨rfl,rfl,rfl,e.symm,rfl⟩
 ·rw[if_neg e];exact⟨rfl,rfl,rfl,rfl,rfl⟩
def share(t:Tm)(te:Int):Int:=te*t.db/10000
def paid(a:Ac)(t:Tm)(te m:Int):Int:=min (share t te) (sumD (rolled a m).ds)
def fee(t:Tm)(te:Int):Int:=t.ff+te*t.fb/10000
def rest(a:Ac)(t:Tm)(te m:Int):Int:=te-paid a t te m-fee t te
def Ready(a:Ac)(t:Tm)(m:Int):Prop:=AMay a∧TRight t∧RMay a m
def Refused(a:Ac)(t:Tm)(m e:Int):Prop:=(¬ AMay a∧e=5)∨(AMay a∧¬ TRight t∧TFault t e)∨(AMay a∧TRight t∧¬ RMay a m∧RErr a m e)
theorem Refused.one{m e f:Int}(h:Refused a t m e)(h':Refused a t m f):e=f:=by
 rcases h with⟨p,rfl⟩|⟨p,q,r⟩|⟨p,q,r,s⟩<;>rcases h' with⟨b,rfl⟩|⟨b,d,c⟩|⟨b,d,c,g⟩<;>first|rfl|exact r.one c|exact s.one g|contradiction
theorem Refused.not{m e:Int}(h:Refused a t m e):¬ Ready a t m:=λb=>by
 rcases h with⟨p,_⟩|⟨_,q,_⟩|⟨_,_,r,_⟩
 ·exact p b.1
 ·exact q b.2.1
 ·exact r b.2.2
def TenOk(a:Ac)(t:Tm)(te m:Int):Prop:=(1≤te∧te≤100000000)∧0≤rest a t te m∧¬ MostOf t.ts (rolled a m).bo (rest a t te m) 0
def sold(a:Ac)(t:Tm)(te m u:Int):Ac:=⟨a.me,a.rv,a.nx+1,m,(rolled a m).bo+u,a.fr,recK (rolled a m).ds (share t te) (rolled a m).ds.length⟩
def bill(a:Ac)(t:Tm)(te m u:Int):Bi:=⟨a.nx,te,paid a t te m,fee t te,cost t.ts (rolled a m).bo ((rolled a m).bo+u),rest a t te m-cost t.ts (rolled a m).bo ((rolled a m).bo+u),u⟩
def SellIs(a:Ac)(t:Tm)(te m:Int)(b:Ac)(l:Bi)(e:Int):Prop:=
 (Refused a t m e∧b=ac0∧l=bi0)∨(Ready a t m∧¬ TenOk a t te m∧e=19∧b=ac0∧l=bi0)∨(Ready a t m∧TenOk a t te m∧¬ a.nx≤1048575∧e=20∧b=ac0∧l=bi0)∨(Ready a t m∧TenOk a t te m∧a.nx≤1048575∧e=0∧∃u,MostOf t.ts (rolled a m).bo (rest a t te m) u∧b=sold a t te m u∧l=bill a t te m u)
theorem SellIs.one{te m e e':Int}(h:SellIs a t te m b l e)(h':SellIs a t te m b' l' e'):b=b'∧l=l'∧e=e':=by
 rcases h with⟨p,rfl,rfl⟩|⟨p,q,rfl,rfl,rfl⟩|⟨p,q,r,rfl,rfl,rfl⟩|⟨p,q,r,rfl,u,g,rfl,rfl⟩<;>rcases h' with⟨c,rfl,rfl⟩|⟨c,f,rfl,rfl,rfl⟩|⟨c,f,i,rfl,rfl,rfl⟩|⟨c,f,i,rfl,j,d,rfl,rfl⟩<;>first|exact⟨rfl,rfl,rfl⟩|exact⟨rfl,rfl,p.one c⟩|exact absurd c p.not|exact absurd p c.not|contradiction|skip
 obtain rfl:=g.one p.2.1.1 (rolled_may p.1 p.2.2).2.2.2.2.2.1.1 d;exact⟨rfl,rfl,rfl⟩
def granted(a:Ac)(m:Int):Ac:=⟨a.me,a.rv,a.nx+1,m,(rolled a m).bo,m,(rolled a m).ds⟩
def GrantIs(a:Ac)(t:Tm)(m:Int)(b:Ac)(l:Bi)(e:Int):Prop:=
 (Refused a t m e∧b=ac0∧l=bi0)∨(Ready a t m∧t.al=0∧e=22∧b=ac0∧l=bi0)∨(Ready a t m∧¬ t.al=0∧a.fr=m∧e=21∧b=ac0∧l=bi0)∨(Ready a t m∧¬ t.al=0∧¬ a.fr=m∧¬ a.nx≤1048575∧e=20∧b=ac0∧l=bi0)∨(Ready a t m∧¬ t.al=0∧¬ a.fr=m∧a.nx≤1048575∧e=0∧b=granted a m∧l=⟨a.nx,0,0,0,0,0,t.al⟩)
theorem GrantIs.one{m e e':Int}(h:GrantIs a t m b l e)(h':GrantIs a t m b' l' e'):b=b'∧l=l'∧e=e':=by
 rcases h with⟨p,rfl,rfl⟩|⟨p,q,rfl,rfl,rfl⟩|⟨p,q,r,rfl,rfl,rfl⟩|⟨p,q,r,s,rfl,rfl,rfl⟩|⟨p,q,r,s,rfl,rfl,rfl⟩<;>rcases h' with⟨c,rfl,rfl⟩|⟨c,d,rfl,rfl,rfl⟩|⟨c,d,f,rfl,rfl,rfl⟩|⟨c,d,f,g,rfl,rfl,rfl⟩|⟨c,d,f,g,rfl,rfl,rfl⟩<;>first|exact⟨rfl,rfl,rfl⟩|exact⟨rfl,rfl,p.one c⟩|exact absurd c p.not|exact absurd p c.not|contradiction
def OweIs(a:Ac)(d:Du)(b:Ac)(e:Int):Prop:=
 (¬ AMay a∧b=ac0∧e=5)∨(AMay a∧¬ ((1≤d.a∧d.a≤1000000000)∧0≤d.b∧d.b≤10000)∧b=ac0∧e=2)∨(AMay a∧((1≤d.a∧d.a≤1000000000)∧0≤d.b∧d.b≤10000)∧¬ a.ds.length<8∧b=ac0∧e=16)∨(AMay a∧((1≤d.a∧d.a≤1000000000)∧0≤d.b∧d.b≤10000)∧a.ds.length<8∧b=⟨a.me,a.rv,a.nx,a.mo,a.bo,a.fr,a.ds++[d]⟩∧e=0)
theorem OweIs.one{d:Du}{e e':Int}(h:OweIs a d b e)(h':OweIs a d b' e'):b=b'∧e=e':=by
 rcases h with⟨p,rfl,rfl⟩|⟨p,q,rfl,rfl⟩|⟨p,q,r,rfl,rfl⟩|⟨p,q,r,rfl,rfl⟩<;>rcases h' with⟨c,rfl,rfl⟩|⟨c,f,rfl,rfl⟩|⟨c,f,g,rfl,rfl⟩|⟨c,f,g,rfl,rfl⟩<;>first|exact⟨rfl,rfl⟩|contradiction
def RekeyIs(a:Ac)(b:Ac)(l:Bi)(e:Int):Prop:=
 (¬ AMay a∧b=ac0∧l=bi0∧e=5)∨(AMay a∧¬ a.rv<15∧b=ac0∧l=bi0∧e=24)∨(AMay a∧a.rv<15∧¬ a.nx≤1048575∧b=ac0∧l=bi0∧e=20)∨(AMay a∧a.rv<15∧a.nx≤1048575∧b=⟨a.me,a.rv+1,a.nx+1,a.mo,a.bo,a.fr,a.ds⟩∧l=⟨a.nx,0,0,0,0,0,0⟩∧e=0)
theorem RekeyIs.one{e e':Int}(h:RekeyIs a b l e)(h':RekeyIs a b' l' e'):b=b'∧l=l'∧e=e':=by
 rcases h with⟨p,rfl,rfl,rfl⟩|⟨p,q,rfl,rfl,rfl⟩|⟨p,q,r,rfl,rfl,rfl⟩|⟨p,q,r,rfl,rfl,rfl⟩<;>rcases h' with⟨c,rfl,rfl,rfl⟩|⟨c,d,rfl,rfl,rfl⟩|⟨c,d,f,rfl,rfl,rfl⟩|⟨c,d,f,rfl,rfl,rfl⟩<;>first|exact⟨rfl,rfl,rfl⟩|contradiction
end acc
namespace disk
open cell
theorem it_short(c:List Int)(k:Nat):∀z∈(itD c k).1,z.length≤64:=by
 induction k with
 |zero=>intro z a;cases a
 |succ k ih=>
  intro z a;by_cases h:0<lenAt c (itD c k).2
  ·rw[it_live h] at a;rcases List.mem_append.1 a with a|a
   ·exact ih z a
   ·obtain rfl:=List.mem_singleton.1 a;obtain⟨_,_,b,_⟩:=len_pos h;unfold recAt;rw[List.length_take];omega
  ·rw[it_dead h 1] at a;exact ih z a
theorem it_count(c:List Int)(k:Nat):(itD c k).1.length≤(itD c k).2:=by
 induction k with
 |zero=>exact zc
 |succ k ih=>
  by_cases h:0<lenAt c (itD c k).2
  ·rw[it_live h];show ((itD c k).1++[_]).length≤(itD c k).2+_+1;rw[List.length_append];simp only[List.length_cons,List.length_nil];omega
  ·rw[it_dead h 1];exact ih
theorem rep_few{c:List Int}{o:List (List Int)}{x f:Int}(h:RepIs c o x f):o.length≤2048∧∀z∈o,z.length≤64:=by
 rcases h with⟨_,rfl,_⟩|⟨_,_,rfl,_⟩|⟨b,_,rfl,_⟩
 ·exact⟨Nat.zero_le _,λz a=>by cases a⟩
 ·exact⟨Nat.zero_le _,λz a=>by cases a⟩
 ·exact⟨Nat.le_trans (it_count c _) (Nat.le_trans (it_bound c _).1 b.2),it_short c _⟩
theorem app_few{c r:List Int}{l:List Wr}{f:Int}(h:AppIs c r l f):l.length≤66:=by
 rcases h with⟨_,rfl,_⟩|⟨_,_,rfl,_⟩|⟨_,_,_,rfl,_⟩|⟨_,_,_,_,rfl,_⟩|⟨a,_,_,_,rfl,_⟩
 ·exact Nat.zero_le _
 ·exact Nat.zero_le _
 ·exact Nat.zero_le _
 ·exact Nat.zero_le _
 ·rw[app_len];have:=a.2;split<;>omega
end disk
end Go.Proofs.YtoepgdhiepedeaaGreatDoor
