import Derived.Test.YtoepgdhiepedeaaGreatDoorVVSls0
set_option linter.unusedVariables false
set_option linter.unusedSimpArgs false
set_option maxHeartbeats 4000000
set_option maxRecDepth 100000
namespace Go.Proofs.YtoepgdhiepedeaaGreatDoor
namespace tar
structure Du where
 a:Int
 b:Int
def du0:Du:=⟨0,0⟩
structure Tr where
 a:Int
 b:Int
 c:Int
def tr0:Tr:=⟨0,0,0⟩
theorem take_one(l:List Du)(k:Nat)(h:k<l.length):l.take (k+1)=l.take k++[l.getD k du0]:=by
 rw[List.take_succ_eq_append_getElem h];simp[List.getD,List.getElem?_eq_getElem h]
def low(l:List Du)(k:Nat):Int:=if k=0 then 0 else (l.getD (k-1) du0).a
theorem low_next(l:List Du)(k:Nat):low l (k+1)=(l.getD k du0).a:=rfl
theorem low_zero(l:List Du):low l 0=0:=rfl
def Fits(l:List Du):Prop:=∀i,i<l.length→(1≤(l.getD i du0).a∧(l.getD i du0).a≤10000000)∧1≤(l.getD i du0).b∧(l.getD i du0).b≤100000
def Rises(l:List Du):Prop:=∀i,1≤i→i<l.length→(l.getD (i-1) du0).a<(l.getD i du0).a
def Sized(l:List Du):Prop:=1≤l.length∧l.length≤8
def Ends(l:List Du):Prop:=(l.getD (l.length-1) du0).a=10000000
def Right(l:List Du):Prop:=Sized l∧Fits l∧Rises l∧Ends l
def FaultIs(l:List Du)(e:Int):Prop:=(¬ Sized l∧e=1)∨(Sized l∧¬ Fits l∧e=2)∨(Sized l∧Fits l∧¬ (Rises l∧Ends l)∧e=3)∨(Right l∧e=0)
variable{l:List Du}
theorem FaultIs.one{e f:Int}(h:FaultIs l e)(h':FaultIs l f):e=f:=by
 rcases h with⟨a,rfl⟩|⟨a,b,rfl⟩|⟨a,b,c,rfl⟩|⟨⟨a,b,c⟩,rfl⟩<;>rcases h' with⟨d,rfl⟩|⟨d,g,rfl⟩|⟨d,g,i,rfl⟩|⟨⟨d,g,i⟩,rfl⟩<;>first|rfl|contradiction
theorem FaultIs.ok{e:Int}(h:FaultIs l e):e=0↔Right l:=by
 rcases h with⟨a,rfl⟩|⟨a,b,rfl⟩|⟨a,b,c,rfl⟩|⟨h,rfl⟩
 ·exact⟨λh=>absurd h (by decide),λh=>absurd h.1 a⟩
 ·exact⟨λh=>absurd h (by decide),λh=>absurd h.2.1 b⟩
 ·exact⟨λh=>absurd h (by decide),λh=>absurd h.2.2 c⟩
 ·exact⟨λ_=>h,λ_=>rfl⟩
def ov(lo hi x y:Int):Int:=max 0 (min hi y-max lo x)
theorem ov_pos(lo hi x y:Int):0≤ov lo hi x y:=by unfold ov;omega
def costK(l:List Du)(x y:Int):Nat→Int
 |0=>0
 |k+1=>costK l x y k+ov (low l k) (l.getD k du0).a x y*(l.getD k du0).b
def cost(l:List Du)(x y:Int):Int:=costK l x y l.length
theorem costK_next(l:List Du)(x y:Int)(k:Nat):costK l x y (k+1)=costK l x y k+ov (low l k) (l.getD k du0).a x y*(l.getD k du0).b:=rfl
def manyK(l:List Du)(x y:Int):Nat→Int
 |0=>0
 |k+1=>manyK l x y k+ov (low l k) (l.getD k du0).a x y
theorem Right.price(h:Right l)(k:Nat)(hk:k<l.length):1≤(l.getD k du0).b∧(l.getD k du0).b≤100000:=(h.2.1 k hk).2
theorem Right.upto(h:Right l)(k:Nat)(hk:k<l.length):1≤(l.getD k du0).a∧(l.getD k du0).a≤10000000:=(h.2.1 k hk).1
theorem Right.rise(h:Right l)(k:Nat)(hk:k<l.length):low l k<(l.getD k du0).a:=by
 by_cases e:k=0
 ·subst e;rw[low_zero];have:=(h.upto 0 hk).1;omega
 ·unfold low;rw[if_neg e];exact h.2.2.1 k (by omega) hk
theorem Right.low_pos(h:Right l)(k:Nat)(hk:k≤l.length):0≤low l k:=by
 unfold low;by_cases e:k=0
 ·rw[if_pos e];omega
 ·rw[if_neg e];have:=(h.upto (k-1) (by omega)).1;omega
theorem Right.low_end(h:Right l):low l l.length=10000000:=by
 unfold low;rw[if_neg (by have:=h.1.1;omega)];exact h.2.2.2
theorem many_eq(h:Right l)(x y:Int)(hx:0≤x)(hxy:x≤y)(k:Nat)(hk:k≤l.length):manyK l x y k=max 0 (min (low l k) y-x):=by
 induction k with
 |zero=>unfold manyK;rw[low_zero];omega
 |succ k ih=>
  have a:=ih (by omega);have b:=h.rise k (by omega);have c:=h.low_pos k (by omega);unfold manyK;rw[a,low_next];unfold ov;omega
theorem many_all(h:Right l)(x y:Int)(hx:0≤x)(hxy:x≤y)(hy:y≤10000000):manyK l x y l.length=y-x:=by
 rw[many_eq h x y hx hxy _ zc,h.low_end];omega
theorem costK_pos(h:Right l)(x y:Int)(k:Nat)(hk:k≤l.length):0≤costK l x y k:=by
 induction k with
 |zero=>exact Int.le_refl _
 |succ k ih=>
  have c:=ih (by omega);have d:=Int.mul_nonneg (ov_pos (low l k) (l.getD k du0).a x y) (show 0≤(l.getD k du0).b by have:=(h.price k (by omega)).1;omega);unfold costK;omega
theorem cost_many(h:Right l)(x y:Int)(k:Nat)(hk:k≤l.length):manyK l x y k≤costK l x y k∧costK l x y k≤manyK l x y k*100000:=by
 induction k with
 |zero=>exact⟨Int.le_refl _,Int.le_refl _⟩
 |succ k ih=>
  have f:=ih (by omega);have c:=ov_pos (low l k) (l.getD k du0).a x y;have d:=h.price k (by omega);have e:ov (low l k) (l.getD k du0).a x y*1≤ov (low l k) (l.getD k du0).a x y*(l.getD k du0).b:=Int.mul_le_mul_of_nonneg_left d.1 c;have g:ov (low l k) (l.getD k du0).a x y*(l.getD k du0).b≤ov (low l k) (l.getD k du0).a x y*100000:=Int.mul_le_mul_of_nonneg_left d.2 c;unfold costK manyK;rw[Int.mul_one] at e;constructor
  ·omega
  ·rw[Int.add_mul];omega
theorem cost_bd(h:Right l)(x y:Int)(hx:0≤x)(hxy:x≤y)(hy:y≤10000000):y-x≤cost l x y∧cost l x y≤(y-x)*100000:=by
 have:=cost_many h x y l.length zc;rw[many_all h x y hx hxy hy] at this;exact this
theorem ov_adds(lo hi x y z:Int)(h:lo≤hi)(h1:x≤y)(h2:y≤z):ov lo hi x z=ov lo hi x y+ov lo hi y z:=by unfold ov;omega
theorem costK_adds(h:Right l)(x y z:Int)(h1:x≤y)(h2:y≤z)(k:Nat)(hk:k≤l.length):costK l x z k=costK l x y k+costK l y z k:=by
 induction k with
 |zero=>rfl
 |succ k ih=>
  have a:=ih (by omega);have b:=h.rise k (by omega);unfold costK;rw[a,ov_adds _ _ x y z (by omega) h1 h2,Int.add_mul];omega
theorem cost_adds(h:Right l)(x y z:Int)(h1:x≤y)(h2:y≤z):cost l x z=cost l x y+cost l y z:=costK_adds h x y z h1 h2 _ zc
theorem cost_self(h:Right l)(x:Int):cost l x x=0:=by
 have:=cost_adds h x x x (Int.le_refl _) (Int.le_refl _);omega
theorem costK_mono(h:Right l)(x y:Int)(j k:Nat)(hjk:j≤k)(hk:k≤l.length):costK l x y j≤costK l x y k:=by
 induction k with
 |zero=>
  have:j=0:=by omega
  subst this;exact Int.le_refl _
 |succ k ih=>
  by_cases e:j=k+1
  ·subst e;exact Int.le_refl _
  ·have c:=ih (by omega) (by omega);have d:=Int.mul_nonneg (ov_pos (low l k) (l.getD k du0).a x y) (show 0≤(l.getD k du0).b by have:=(h.price k (by omega)).1;omega);rw[costK_next];omega
theorem low_mono(h:Right l)(j k:Nat)(hjk:j≤k)(hk:k≤l.length):low l j≤low l k:=by
 induction k with
 |zero=>
  have:j=0:=by omega
  subst this;exact Int.le_refl _
 |succ k ih=>
  by_cases e:j=k+1
  ·subst e;exact Int.le_refl _
  ·have a:=ih (by omega) (by omega);have b:=h.rise k (by omega);rw[low_next];omega
def Mays(x n:Int):Prop:=(0≤x∧x≤10000000)∧(0≤n∧n≤2097151)∧x+n≤10000000
def MayIs(l:List Du)(x n:Int)(e:Int):Prop:=(¬ Right l∧FaultIs l e)∨(Right l∧¬ Mays x n∧e=2)∨(Right l∧Mays x n∧e=0)
theorem MayIs.ok{x n e:Int}(h:MayIs l x n e):e=0↔Right l∧Mays x n:=by
 rcases h with⟨a,b⟩|⟨a,b,rfl⟩|⟨a,b,rfl⟩
 ·exact⟨λh=>absurd (b.ok.1 h) a,λh=>absurd h.1 a⟩
 ·exact⟨λh=>absurd h (by decide),λh=>absurd h.2 b⟩
 ·exact⟨λ_=>⟨a,b⟩,λ_=>rfl⟩
def billK(l:List Du)(x y:Int):Nat→List Tr
 |0=>[]
 |k+1=>billK l x y k++(if 0<ov (low l k) (l.getD k du0).a x y then [⟨ov (low l k) (l.getD k du0).a x y,(l.getD k du0).b,ov (low l k) (l.getD k du0).a x y*(l.getD k du0).b⟩] else [])
theorem bill_len(l:List Du)(x y:Int)(k:Nat):(billK l x y k).length≤k:=by
 induction k with
 |zero=>exact zc
 |succ k ih=>unfold billK;rw[List.length_append];split<;>simp<;>omega
def sumA:List Tr→Int
 |[]=>0
 |t::l=>t.a+sumA l
def sumC:List Tr→Int
 |[]=>0
 |t::l=>t.c+sumC l
theorem sumA_app(l m:List Tr):sumA (l++m)=sumA l+sumA m:=by
 induction l with
 |nil=>simp[sumA]
 |cons t l ih=>simp only[List.cons_append,sumA,ih];omega
theorem sumC_app(l m:List Tr):sumC (l++m)=sumC l+sumC m:=by
 induction l with
 |nil=>simp[sumC]
 |cons t l ih=>simp only[List.cons_append,sumC,ih];omega
theorem bill_sums(l:List Du)(x y:Int)(k:Nat):sumA (billK l x y k)=manyK l x y k∧sumC (billK l x y k)=costK l x y k:=by
 induction k with
 |zero=>exact⟨rfl,rfl⟩
 |succ k ih=>
  have b:=ov_pos (low l k) (l.getD k du0).a x y;unfold billK manyK costK;rw[sumA_app,sumC_app,ih.1,ih.2];by_cases h:0<ov (low l k) (l.getD k du0).a x y
  ·rw[if_pos h];simp[sumA,sumC]
  ·have e:ov (low l k) (l.getD k du0).a x y=0:=by omega
   rw[if_neg h,e];simp[sumA,sumC]
def LineOk(t:Tr):Prop:=1≤t.a∧t.a≤10000000∧1≤t.b∧t.b≤100000∧t.c=t.a*t.b
def Top(x:Int):Int:=min 2097151 (10000000-x)
def MostOf(l:List Du)(x m u:Int):Prop:=(0≤u∧u≤Top x)∧cost l x (x+u)≤m∧(u=Top x∨m<cost l x (x+(u+1)))
theorem MostOf.one{x m u v:Int}(h:Right l)(hx:0≤x)(a:MostOf l x m u)(b:MostOf l x m v):u=v:=by
 obtain⟨⟨k,f⟩,n,d⟩:=a;obtain⟨⟨o,g⟩,p,e⟩:=b;rcases Int.lt_trichotomy u v with c|c|c
 ·rcases d with d|d
  ·omega
  ·have i:=cost_adds h x (x+(u+1)) (x+v) (by omega) (by omega);have j:=cost_bd h (x+(u+1)) (x+v) (by omega) (by omega) (by unfold Top at g;omega);omega
 ·exact c
 ·rcases e with e|e
  ·omega
  ·have i:=cost_adds h x (x+(v+1)) (x+u) (by omega) (by omega);have j:=cost_bd h (x+(v+1)) (x+u) (by omega) (by omega) (by unfold Top at f;omega);omega
def MayMost(x m:Int):Prop:=(0≤x∧x≤10000000)∧0≤m∧m≤1000000000000
def MostIs(l:List Du)(x m:Int)(u p e:Int):Prop:=(¬ Right l∧FaultIs l e∧u=0∧p=0)∨(Right l∧¬ MayMost x m∧e=2∧u=0∧p=0)∨(Right l∧MayMost x m∧e=0∧MostOf l x m u∧p=cost l x (x+u))
theorem rise_not{k:Nat}(h1:1≤k)(hk:k<l.length)(h:(l.getD k du0).a≤(l.getD (k-1) du0).a):¬ (Rises l∧Ends l):=λb=>by
 have:=b.1 k h1 hk;omega
theorem prod_bd{o p:Int}(h0:0≤o)(h1:o≤10000000)(h2:1≤p)(h3:p≤100000):0≤o*p∧o*p≤1000000000000:=by
 have a:=Int.mul_nonneg h0 (show 0≤p by omega);have b:o*p≤10000000*100000:=Int.le_trans (Int.mul_le_mul_of_nonneg_left h3 h0) (Int.mul_le_mul_of_nonneg_right h1 (by decide));exact⟨a,by omega⟩
theorem costK_le(h:Right l)(x y:Int)(hx:0≤x)(hxy:x≤y)(hy:y≤10000000)(k:Nat)(hk:k≤l.length):costK l x y k≤1000000000000:=by
 have b:=costK_mono h x y k l.length hk zc;have a:=(cost_bd h x y hx hxy hy).2;unfold cost at a;omega
theorem ov_le(lo hi x y:Int)(h0:0≤lo)(h1:hi≤10000000):ov lo hi x y≤10000000:=by unfold ov;omega
theorem billK_yes(l:List Du)(x y:Int)(k:Nat)(h:0<ov (low l k) (l.getD k du0).a x y):billK l x y (k+1)=billK l x y k++[⟨ov (low l k) (l.getD k du0).a x y,(l.getD k du0).b,ov (low l k) (l.getD k du0).a x y*(l.getD k du0).b⟩]:=by
 unfold billK;rw[if_pos h];cases k<;>rfl
theorem billK_no(l:List Du)(x y:Int)(k:Nat)(h:¬ 0<ov (low l k) (l.getD k du0).a x y):billK l x y (k+1)=billK l x y k:=by
 conv=>lhs;unfold billK
 rw[if_neg h,List.append_nil]
end tar
namespace deb
open tar
def Ok1(d:Du):Prop:=(0≤d.a∧d.a≤1000000000)∧0≤d.b∧d.b≤10000
def DFits(l:List Du):Prop:=∀i,i<l.length→Ok1 (l.getD i du0)
def Mays(l:List Du):Prop:=l.length≤8∧DFits l
def FaultIs(l:List Du)(e:Int):Prop:=(¬ l.length≤8∧e=1)∨(l.length≤8∧¬ DFits l∧e=2)∨(Mays l∧e=0)
variable{l:List Du}{b x:Int}
theorem FaultIs.ok{e:Int}(h:FaultIs l e):e=0↔Mays l:=by
 rcases h with⟨a,rfl⟩|⟨a,b,rfl⟩|⟨h,rfl⟩
 ·exact⟨λh=>absurd h (by decide),λh=>absurd h.1 a⟩
 ·exact⟨λh=>absurd h (by decide),λh=>absurd h.2 b⟩
 ·exact⟨λ_=>h,λ_=>rfl⟩
theorem fits_mem(h:∀d∈l,Ok1 d):DFits l:=λi a=>by
 have e:l.getD i du0=l[i]:=by simp[List.getD,List.getElem?_eq_getElem a]
 rw[e];exact h _ (List.getElem_mem a)
theorem mem_fits(h:DFits l):∀d∈l,Ok1 d:=λd b=>by
 obtain⟨i,a,rfl⟩:=List.getElem_of_mem b;have e:l.getD i du0=l[i]:=by simp[List.getD,List.getElem?_eq_getElem a]
 rw[← e];exact h i a
def sumK(l:List Du):Nat→Int
 |0=>0
 |k+1=>sumK l k+(l.getD k du0).a
theorem sumK_next(l:List Du)(k:Nat):sumK l (k+1)=sumK l k+(l.getD k du0).a:=rfl
def sumD:List Du→Int
 |[]=>0
 |d::l=>d.a+sumD l
theorem sumD_app(l m:List Du):sumD (l++m)=sumD l+sumD m:=by
 induction l with
 |nil=>simp[sumD]
 |cons t l ih=>simp only[List.cons_append,sumD,ih];omega
theorem sumK_take(l:List Du)(k:Nat)(hk:k≤l.length):sumK l k=sumD (l.take k):=by
 induction k with
 |zero=>simp[sumK,sumD]
 |succ k ih=>rw[sumK_next,take_one l k (by omega),sumD_app,ih (by omega)];simp[sumD]
theorem sumK_all(l:List Du):sumK l l.length=sumD l:=by rw[sumK_take l _ zc,List.take_length]
theorem sumD_pos(h:∀d∈l,Ok1 d):0≤sumD l∧sumD l≤(l.length:Int)*1000000000:=by
 induction l with
 |nil=>exact⟨Int.le_refl _,Int.le_refl _⟩
 |cons t l ih=>
  have g:=ih λx c=>h x (List.mem_cons_of_mem _ c);have b:=h t List.mem_cons_self;obtain⟨⟨e,f⟩,_⟩:=b;refine⟨by show 0≤t.a+sumD l;omega,?_⟩;show t.a+sumD l≤((l.length+1:Nat):Int)*1000000000;omega
theorem sumK_bd(h:Mays l)(k:Nat)(hk:k≤l.length):0≤sumK l k∧sumK l k≤8000000000:=by
 rw[sumK_take l k hk];have a:=sumD_pos (l:=l.take k) λd b=>mem_fits h.2 d (List.mem_of_mem_take b);have c:(l.take k).length≤8:=by rw[List.length_take];have:=h.1;omega
 exact⟨a.1,by omega⟩
def OwedIs(l:List Du)(x e:Int):Prop:=FaultIs l e∧((e=0∧x=sumD l)∨(e≠0∧x=0))
def TMay(t bp:Int):Prop:=(0≤t∧t≤100000000)∧0≤bp∧bp≤10000
def ShareIs(t bp s e:Int):Prop:=(TMay t bp∧s=t*bp/10000∧e=0)∨(¬ TMay t bp∧s=0∧e=2)
theorem share_bd{t bp:Int}(h:TMay t bp):0≤t*bp/10000∧t*bp/10000≤100000000:=by
 obtain⟨⟨a,d⟩,b,c⟩:=h;have e:=Int.mul_nonneg a b;have f:t*bp≤t*10000:=Int.mul_le_mul_of_nonneg_left c a;generalize t*bp=p at *;omega
def left(a end_ s:Int):Int:=min a (end_-s)
def recK(l:List Du)(s:Int):Nat→List Du
 |0=>[]
 |k+1=>recK l s k++(if 0<left (l.getD k du0).a (sumK l (k+1)) s then [⟨left (l.getD k du0).a (sumK l (k+1)) s,(l.getD k du0).b⟩] else [])
theorem recK_yes(l:List Du)(s:Int)(k:Nat)(h:0<left (l.getD k du0).a (sumK l (k+1)) s):recK l s (k+1)=recK l s k++[⟨left (l.getD k du0).a (sumK l (k+1)) s,(l.getD k du0).b⟩]:=by
 show recK l s k++_=_;rw[if_pos h]
theorem recK_no(l:List Du)(s:Int)(k:Nat)(h:¬ 0<left (l.getD k du0).a (sumK l (k+1)) s):recK l s (k+1)=recK l s k:=by
 show recK l s k++_=_;rw[if_neg h,List.append_nil]
theorem recK_len(l:List Du)(s:Int)(k:Nat):(recK l s k).length≤k:=by
 induction k with
 |zero=>exact zc
 |succ k ih=>
  by_cases h:0<left (l.getD k du0).a (sumK l (k+1)) s
  ·rw[recK_yes l s k h,List.length_append];simp;omega
  ·rw[recK_no l s k h];omega
theorem recK_ok(h:Mays l)(s:Int)(k:Nat)(hk:k≤l.length):∀d∈recK l s k,Ok1 d∧1≤d.a:=by
 induction k with
 |zero=>intro d b;cases b
 |succ k ih=>
  intro d b;by_cases f:0<left (l.getD k du0).a (sumK l (k+1)) s
  ·rw[recK_yes l s k f] at b;rcases List.mem_append.1 b with b|b
   ·exact ih (by omega) d b
   ·have e:=List.mem_singleton.1 b;subst e;have c:=h.2 k (by omega);have g:left (l.getD k du0).a (sumK l (k+1)) s≤(l.getD k du0).a:=by unfold left;omega
    have i:=c.1.2;exact⟨⟨⟨by show 0≤left _ _ _;omega,by show left _ _ _≤_;omega⟩,c.2⟩,by show 1≤left _ _ _;omega⟩
  ·rw[recK_no l s k f] at b;exact ih (by omega) d b
def RecIs(l:List Du)(t bp:Int)(z:List Du)(p e:Int):Prop:=
 (¬ Mays l∧FaultIs l e∧z=[]∧p=0)∨(Mays l∧¬ TMay t bp∧e=2∧z=[]∧p=0)∨(Mays l∧TMay t bp∧e=0∧z=recK l (t*bp/10000) l.length∧p=min (t*bp/10000) (sumD l))
theorem RecIs.got{t bp p e:Int}{z:List Du}(h:RecIs l t bp z p e)(hm:Mays l)(ht:TMay t bp):e=0∧z=recK l (t*bp/10000) l.length∧p=min (t*bp/10000) (sumD l):=by
 rcases h with⟨a,_⟩|⟨_,b,_⟩|⟨_,_,c⟩
 ·exact absurd hm a
 ·exact absurd ht b
 ·exact c
def grow(b x:Int):Int:=min 1000000000 (x+x*b/10000)
def growN(b:Int):Nat→Int→Int
 |0,x=>x
 |k+1,x=>grow b (growN b k x)
theorem grow_bd(hb:0≤b)(hb2:b≤10000)(hx:0≤x)(hx2:x≤1000000000):x≤grow b x∧grow b x≤1000000000:=by
 have a:=Int.mul_nonneg hx hb;unfold grow;generalize x*b=p at *;omega
theorem growN_bd(hb:0≤b)(hb2:b≤10000)(hx:0≤x)(hx2:x≤1000000000)(k:Nat):x≤growN b k x∧growN b k x≤1000000000:=by
 induction k with
 |zero=>exact⟨Int.le_refl _,hx2⟩
 |succ k ih=>
  have:=grow_bd hb hb2 (show 0≤growN b k x by omega) ih.2;exact⟨by show x≤grow b _;omega,this.2⟩
theorem growN_add(b:Int)(j k:Nat)(x:Int):growN b k (growN b j x)=growN b (j+k) x:=by
 induction k with
 |zero=>rfl
 |succ k ih=>show grow b _=grow b _;rw[ih];rfl
theorem growN_still(h:grow b x=x)(k:Nat):growN b k x=x:=by
 induction k with
 |zero=>rfl
 |succ k ih=>show grow b (growN b k x)=x;rw[ih,h]
def ageAll(l:List Du)(m:Nat):List Du:=l.map λd=>⟨growN d.b m d.a,d.b⟩
theorem ageAll_len(l:List Du)(m:Nat):(ageAll l m).length=l.length:=List.length_map _
theorem ageAll_at(l:List Du)(m:Nat)(i:Nat)(hi:i<l.length):(ageAll l m).getD i du0=⟨growN (l.getD i du0).b m (l.getD i du0).a,(l.getD i du0).b⟩:=by
 unfold ageAll;simp[List.getD,List.getElem?_eq_getElem hi]
theorem ageAll_mays(h:Mays l)(m:Nat):Mays (ageAll l m):=by
 refine⟨by rw[ageAll_len];exact h.1,λi a=>?_⟩;rw[ageAll_len] at a;rw[ageAll_at l m i a];obtain⟨⟨d,e⟩,b,c⟩:=h.2 i a;have:=growN_bd b c d e m;exact⟨⟨by show 0≤growN _ _ _;omega,this.2⟩,b,c⟩
theorem ageAll_take(l:List Du)(m k:Nat)(hk:k<l.length):ageAll (l.take (k+1)) m=ageAll (l.take k) m++[⟨growN (l.getD k du0).b m (l.getD k du0).a,(l.getD k du0).b⟩]:=by
 rw[take_one l k hk];unfold ageAll;rw[List.map_append];rfl
def AgeIs(l:List Du)(m:Int)(z:List Du)(e:Int):Prop:=(¬ Mays l∧FaultIs l e∧z=[])∨(Mays l∧¬ (0≤m∧m≤2400)∧e=2∧z=[])∨(Mays l∧(0≤m∧m≤2400)∧e=0∧z=ageAll l m.toNat)
theorem AgeIs.got{m e:Int}{z:List Du}(h:AgeIs l m z e)(hm:Mays l)(ht:0≤m∧m≤2400):e=0∧z=ageAll l m.toNat:=by
 rcases h with⟨a,_⟩|⟨_,b,_⟩|⟨_,_,c⟩
 ·exact absurd hm a
 ·exact absurd ht b
 ·exact c
end deb
namespace acc
open tar (Du du0 Right MostOf cost)
open deb (sumD recK ageAll)
structure Ac where
 me:Int
 rv:Int
 nx:Int
 mo:Int
 bo:Int
 fr:Int
 ds:List Du
def ac0:Ac:=⟨0,0,0,0,0,0,[]⟩
structure Tm where
 ts:List Du
 ff:Int
 fb:Int
 db:Int
 al:Int
structure Bi where
 id:Int
 te:Int
 de:Int
 fe:Int
 pr:Int
 ch:Int
 un:Int
def bi0:Bi:=⟨0,0,0,0,0,0,0⟩
def AMay(a:Ac):Prop:=deb.Mays a.ds∧(0≤a.me∧a.me≤49)∧(0≤a.rv∧a.rv≤15)∧(1≤a.nx∧a.nx≤1048576)∧(0≤a.mo∧a.mo≤2399)∧(0≤a.bo∧a.bo≤10000000)∧-1≤a.fr∧a.fr≤a.mo
def TOk(t:Tm):Prop:=(0≤t.ff∧t.ff≤100000)∧(0≤t.fb∧t.fb≤10000)∧(0≤t.db∧t.db≤10000)∧0≤t.al∧t.al≤2097151
def TRight(t:Tm):Prop:=Right t.ts∧TOk t
def TFault(t:Tm)(e:Int):Prop:=(¬ Right t.ts∧tar.FaultIs t.ts e)∨(Right t.ts∧¬ TOk t∧e=2)∨(TRight t∧e=0)
variable{a:Ac}{b b':Ac}{t:Tm}{l l':Bi}
theorem TFault.one{e f:Int}(h:TFault t e)(h':TFault t f):e=f:=by
 rcases h with⟨a,b⟩|⟨a,b,rfl⟩|⟨⟨a,b⟩,rfl⟩<;>rcases h' with⟨d,c⟩|⟨d,c,rfl⟩|⟨⟨d,c⟩,rfl⟩<;>first|rfl|exact b.one c|contradiction
theorem TFault.ok{e:Int}(h:TFault t e):e=0↔TRight t:=by
 rcases h with⟨a,b⟩|⟨a,b,rfl⟩|⟨h,rfl⟩
 ·exact⟨λh=>absurd (b.ok.1 h) a,λh=>absurd h.1 a⟩
 ·exact⟨λh=>absurd h (by decide),λh=>absurd h.2 b⟩
 ·exact⟨λ_=>h,λ_=>rfl⟩
def OpenIs(m:Int)(b:Ac)(e:Int):Prop:=((0≤m∧m≤49)∧b=⟨m,0,1,0,0,-1,[]⟩∧e=0)∨(¬ (0≤m∧m≤49)∧b=ac0∧e=2)
theorem OpenIs.one{m e e':Int}(h:OpenIs m b e)(h':OpenIs m b' e'):b=b'∧e=e':=by
 rcases h with⟨a,rfl,rfl⟩|⟨a,rfl,rfl⟩<;>rcases h' with⟨c,rfl,rfl⟩|⟨c,rfl,rfl⟩<;>first|exact⟨rfl,rfl⟩|contradiction
def rolled(a:Ac)(m:Int):Ac:=if m=a.mo then a else ⟨a.me,a.rv,a.nx,m,0,a.fr,ageAll a.ds (m-a.mo).toNat⟩
def RMay(a:Ac)(m:Int):Prop:=(0≤m∧m≤2399)∧a.mo≤m
def RErr(a:Ac)(m e:Int):Prop:=(¬ (0≤m∧m≤2399)∧e=2)∨((0≤m∧m≤2399)∧m<a.mo∧e=23)
theorem RErr.one{m e f:Int}(h:RErr a m e)(h':RErr a m f):e=f:=by
 rcases h with⟨p,rfl⟩|⟨p,q,rfl⟩<;>rcases h' with⟨b,rfl⟩|⟨b,c,rfl⟩<;>first|rfl|contradiction
theorem RErr.ne{m e:Int}(h:RErr a m e):e≠0:=by rcases h with⟨_,rfl⟩|⟨_,_,rfl⟩<;>decide
def RollIs(a:Ac)(m:Int)(b:Ac)(e:Int):Prop:=(¬ AMay a∧b=ac0∧e=5)∨(AMay a∧¬ RMay a m∧RErr a m e∧b=ac0)∨(AMay a∧RMay a m∧b=rolled a m∧e=0)
theorem rolled_may{m:Int}(h:AMay a)(hr:RMay a m):AMay (rolled a m):=by
 obtain⟨b,c,d,f,i,j,g⟩:=h;obtain⟨⟨k,l⟩,n⟩:=hr;unfold rolled;by_cases e:m=a.mo
 ·rw[if_pos e];exact⟨b,c,d,f,i,j,g⟩
 ·rw[if_neg e];exact⟨deb.ageAll_mays b _,c,d,f,⟨k,l⟩,⟨(by decide:(0:Int)≤0),(by decide:(0:Int)≤10000000)⟩,g.1,by show a.fr≤m;omega⟩
theorem rolled_same(a:Ac)(m:Int):(rolled a m).me=a.me∧(rolled a m).rv=a.rv∧(rolled a m).nx=a.nx∧(rolled a m).mo=m∧(rolled a m).fr=a.fr:=by
 unfold rolled;by_cases e:m=a.mo
 ·rw[if_pos e];exact⟨rfl,rfl,rfl,e.symm,rfl⟩
 ·rw[if_neg e];exact⟨rfl,rfl,rfl,rfl,rfl⟩
def share(t:Tm)(te:Int):Int:=te*t.db/10000
def paid(a:Ac)(t:Tm)(te m:Int):Int:=min (share t te) (sumD (rolled a m).ds)
def fee(t:Tm)(te:Int):Int:=t.ff+te*t.fb/10000
def rest(a:Ac)(t:Tm)(te m:Int):Int:=te-paid a t te m-fee t te
def Ready(a:Ac)(t:Tm)(m:Int):Prop:=AMay a∧TRight t∧RMay a m
def Refused(a:Ac)(t:Tm)(m e:Int):Prop:=(¬ AMay a∧e=5)∨(AMay a∧¬ TRight t∧TFault t e)∨(AMay a∧TRight t∧¬ RMay a m∧RErr a m e)
theorem Refused.one{m e f:Int}(h:Refused a t m e)(h':Refused a t m f):e=f:=by
 rcases h with⟨p,rfl⟩|⟨p,q,r⟩|⟨p,q,r,s⟩<;>rcases h' with⟨b,rfl⟩|⟨b,d,c⟩|⟨b,d,c,g⟩<;>first|rfl|exact r.one c|exact s.one g|contradiction
theorem Refused.not{m e:Int}(h:Refused a t m e):¬ Ready a t m:=λb=>by
 rcases h with⟨p,_⟩|⟨_,q,_⟩|⟨_,_,r,_⟩
 ·exact p b.1
 ·exact q b.2.1
 ·exact r b.2.2
def TenOk(a:Ac)(t:Tm)(te m:Int):Prop:=(1≤te∧te≤100000000)∧0≤rest a t te m∧¬ MostOf t.ts (rolled a m).bo (rest a t te m) 0
def sold(a:Ac)(t:Tm)(te m u:Int):Ac:=⟨a.me,a.rv,a.nx+1,m,(rolled a m).bo+u,a.fr,recK (rolled a m).ds (share t te) (rolled a m).ds.length⟩
def bill(a:Ac)(t:Tm)(te m u:Int):Bi:=⟨a.nx,te,paid a t te m,fee t te,cost t.ts (rolled a m).bo ((rolled a m).bo+u),rest a t te m-cost t.ts (rolled a m).bo ((rolled a m).bo+u),u⟩
def SellIs(a:Ac)(t:Tm)(te m:Int)(b:Ac)(l:Bi)(e:Int):Prop:=
 (Refused a t m e∧b=ac0∧l=bi0)∨(Ready a t m∧¬ TenOk a t te m∧e=19∧b=ac0∧l=bi0)∨(Ready a t m∧TenOk a t te m∧¬ a.nx≤1048575∧e=20∧b=ac0∧l=bi0)∨(Ready a t m∧TenOk a t te m∧a.nx≤1048575∧e=0∧∃u,MostOf t.ts (rolled a m).bo (rest a t te m) u∧b=sold a t te m u∧l=bill a t te m u)
theorem SellIs.one{te m e e':Int}(h:SellIs a t te m b l e)(h':SellIs a t te m b' l' e'):b=b'∧l=l'∧e=e':=by
 rcases h with⟨p,rfl,rfl⟩|⟨p,q,rfl,rfl,rfl⟩|⟨p,q,r,rfl,rfl,rfl⟩|⟨p,q,r,rfl,u,g,rfl,rfl⟩<;>rcases h' with⟨c,rfl,rfl⟩|⟨c,f,rfl,rfl,rfl⟩|⟨c,f,i,rfl,rfl,rfl⟩|⟨c,f,i,rfl,j,d,rfl,rfl⟩<;>first|exact⟨rfl,rfl,rfl⟩|exact⟨rfl,rfl,p.one c⟩|exact absurd c p.not|exact absurd p c.not|contradiction|skip
 obtain rfl:=g.one p.2.1.1 (rolled_may p.1 p.2.2).2.2.2.2.2.1.1 d;exact⟨rfl,rfl,rfl⟩
def granted(a:Ac)(m:Int):Ac:=⟨a.me,a.rv,a.nx+1,m,(rolled a m).bo,m,(rolled a m).ds⟩
def GrantIs(a:Ac)(t:Tm)(m:Int)(b:Ac)(l:Bi)(e:Int):Prop:=
 (Refused a t m e∧b=ac0∧l=bi0)∨(Ready a t m∧t.al=0∧e=22∧b=ac0∧l=bi0)∨(Ready a t m∧¬ t.al=0∧a.fr=m∧e=21∧b=ac0∧l=bi0)∨(Ready a t m∧¬ t.al=0∧¬ a.fr=m∧¬ a.nx≤1048575∧e=20∧b=ac0∧l=bi0)∨(Ready a t m∧¬ t.al=0∧¬ a.fr=m∧a.nx≤1048575∧e=0∧b=granted a m∧l=⟨a.nx,0,0,0,0,0,t.al⟩)
theorem GrantIs.one{m e e':Int}(h:GrantIs a t m b l e)(h':GrantIs a t m b' l' e'):b=b'∧l=l'∧e=e':=by
 rcases h with⟨p,rfl,rfl⟩|⟨p,q,rfl,rfl,rfl⟩|⟨p,q,r,rfl,rfl,rfl⟩|⟨p,q,r,s,rfl,rfl,rfl⟩|⟨p,q,r,s,rfl,rfl,rfl⟩<;>rcases h' with⟨c,rfl,rfl⟩|⟨c,d,rfl,rfl,rfl⟩|⟨c,d,f,rfl,rfl,rfl⟩|⟨c,d,f,g,rfl,rfl,rfl⟩|⟨c,d,f,g,rfl,rfl,rfl⟩<;>first|exact⟨rfl,rfl,rfl⟩|exact⟨rfl,rfl,p.one c⟩|exact absurd c p.not|exact absurd p c.not|contradiction
def OweIs(a:Ac)(d:Du)(b:Ac)(e:Int):Prop:=
 (¬ AMay a∧b=ac0∧e=5)∨(AMay a∧¬ ((1≤d.a∧d.a≤1000000000)∧0≤d.b∧d.b≤10000)∧b=ac0∧e=2)∨(AMay a∧((1≤d.a∧d.a≤1000000000)∧0≤d.b∧d.b≤10000)∧¬ a.ds.length<8∧b=ac0∧e=16)∨(AMay a∧((1≤d.a∧d.a≤1000000000)∧0≤d.b∧d.b≤10000)∧a.ds.length<8∧b=⟨a.me,a.rv,a.nx,a.mo,a.bo,a.fr,a.ds++[d]⟩∧e=0)
theorem OweIs.one{d:Du}{e e':Int}(h:OweIs a d b e)(h':OweIs a d b' e'):b=b'∧e=e':=by
 rcases h with⟨p,rfl,rfl⟩|⟨p,q,rfl,rfl⟩|⟨p,q,r,rfl,rfl⟩|⟨p,q,r,rfl,rfl⟩<;>rcases h' with⟨c,rfl,rfl⟩|⟨c,f,rfl,rfl⟩|⟨c,f,g,rfl,rfl⟩|⟨c,f,g,rfl,rfl⟩<;>first|exact⟨rfl,rfl⟩|contradiction
def RekeyIs(a:Ac)(b:Ac)(l:Bi)(e:Int):Prop:=
 (¬ AMay a∧b=ac0∧l=bi0∧e=5)∨(AMay a∧¬ a.rv<15∧b=ac0∧l=bi0∧e=24)∨(AMay a∧a.rv<15∧¬ a.nx≤1048575∧b=ac0∧l=bi0∧e=20)∨(AMay a∧a.rv<15∧a.nx≤1048575∧b=⟨a.me,a.rv+1,a.nx+1,a.mo,a.bo,a.fr,a.ds⟩∧l=⟨a.nx,0,0,0,0,0,0⟩∧e=0)
theorem RekeyIs.one{e e':Int}(h:RekeyIs a b l e)(h':RekeyIs a b' l' e'):b=b'∧l=l'∧e=e':=by
 rcases h with⟨p,rfl,rfl,rfl⟩|⟨p,q,rfl,rfl,rfl⟩|⟨p,q,r,rfl,rfl,rfl⟩|⟨p,q,r,rfl,rfl,rfl⟩<;>rcases h' with⟨c,rfl,rfl,rfl⟩|⟨c,d,rfl,rfl,rfl⟩|⟨c,d,f,rfl,rfl,rfl⟩|⟨c,d,f,rfl,rfl,rfl⟩<;>first|exact⟨rfl,rfl,rfl⟩|contradiction
end acc
end Go.Proofs.YtoepgdhiepedeaaGreatDoor
