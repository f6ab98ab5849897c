import Derived.Test.YtoepgdhiepedeaaGreatDoorVVGts0
set_option linter.unusedVariables false
set_option linter.unusedSimpArgs false
set_option maxHeartbeats 4000000
set_option maxRecDepth 100000
namespace Go.Proofs.YtoepgdhiepedeaaGreatDoor
namespace cell
structure Wr where
 p:Int
 d:Int
def wr0:Wr:=⟨0,0⟩
theorem set_at(c:List Int)(i j:Nat)(v:Int):(c.set i v).getD j 0=if j=i∧i<c.length then v else c.getD j 0:=by
 simp only[List.getD,List.getElem?_set];by_cases h:i=j
 ·subst h;by_cases a:i<c.length
  ·simp[a]
  ·simp[a]
 ·rw[if_neg h,if_neg (by omega)]
theorem list_ext{a b:List Int}(hl:a.length=b.length)(h:∀j,j<a.length→a.getD j 0=b.getD j 0):a=b:=by
 apply List.ext_getElem hl;intro j c d;have:=h j c;simpa [List.getD,List.getElem?_eq_getElem c,List.getElem?_eq_getElem d] using this
end cell
namespace book
open Go.RowKit
structure Ev where
 kd:Int
 me:Int
 mo:Int
 id:Int
 te:Int
 de:Int
 fe:Int
 pr:Int
 ch:Int
 un:Int
 tg:Int
 ow:Int
 bp:Int
def ev0:Ev:=⟨0,0,0,0,0,0,0,0,0,0,0,0,0⟩
def EMay(v:Ev):Prop:=(0≤v.me∧v.me≤49)∧((v.kd=1∧v.mo=0∧v.id=0∧v.te=0∧v.de=0∧v.fe=0∧v.pr=0∧v.ch=0∧v.un=0∧v.tg=0∧v.ow=0∧v.bp=0)∨(v.kd=5∧v.mo=0∧v.id=0∧v.te=0∧v.de=0∧v.fe=0∧v.pr=0∧v.ch=0∧v.un=0∧v.tg=0∧(1≤v.ow∧v.ow≤1000000000)∧0≤v.bp∧v.bp≤10000) ∨
 ((2≤v.kd∧v.kd≤4)∧(1≤v.id∧v.id≤1048575)∧(0≤v.tg∧v.tg≤65535)∧(v.ow=0∧v.bp=0)∧((v.kd=4∧v.mo=0∧v.te=0∧v.de=0∧v.fe=0∧v.pr=0∧v.ch=0∧v.un=0)∨(v.kd≠4∧(0≤v.mo∧v.mo≤2399)∧(1≤v.un∧v.un≤2097151) ∧
   ((v.kd=3∧v.te=0∧v.de=0∧v.fe=0∧v.pr=0∧v.ch=0)∨(v.kd≠3∧(1≤v.te∧v.te≤100000000)∧(0≤v.de∧v.de≤v.te)∧(0≤v.fe∧v.fe≤v.te)∧(0≤v.pr∧v.pr≤v.te)∧(0≤v.ch∧v.ch≤v.te)∧v.de+v.fe+v.pr+v.ch=v.te))))))
def evL(v:Ev):List Int:=[v.kd,v.me,v.mo,v.id,v.te,v.de,v.fe,v.pr,v.ch,v.un,v.tg,v.ow,v.bp]
theorem evL_len(v:Ev):(evL v).length=13:=rfl
theorem may_word{v:Ev}(h:EMay v):∀x∈evL v,0≤x∧x<4294967296:=by
 intro x a;unfold EMay at h;simp only[evL,List.mem_cons,List.not_mem_nil,or_false] at a;rcases a with rfl|rfl|rfl|rfl|rfl|rfl|rfl|rfl|rfl|rfl|rfl|rfl|rfl<;>omega
def evOf(l:List Int):Ev:=⟨l.getD 0 0,l.getD 1 0,l.getD 2 0,l.getD 3 0,l.getD 4 0,l.getD 5 0,l.getD 6 0,l.getD 7 0,l.getD 8 0,l.getD 9 0,l.getD 10 0,l.getD 11 0,l.getD 12 0⟩
theorem evL_Of{l:List Int}(h:l.length=13):evL (evOf l)=l:=by
 match l,h with
 |[a0,a1,a2,a3,a4,a5,a6,a7,a8,a9,a10,a11,a12],_=>rfl
def EncIs(v:Ev)(ws:List Int)(e:Int):Prop:=(EMay v∧ws=evL v∧e=0)∨(¬ EMay v∧ws=[]∧e=5)
theorem EncIs.one{v:Ev}{a b:List Int}{e f:Int}(h:EncIs v a e)(h':EncIs v b f):a=b∧e=f:=by
 rcases h with⟨q,rfl,rfl⟩|⟨q,rfl,rfl⟩<;>rcases h' with⟨c,rfl,rfl⟩|⟨c,rfl,rfl⟩<;>first|exact⟨rfl,rfl⟩|contradiction
def DecIs(l:List Int)(v:Ev)(e:Int):Prop:=(l.length≠13∧v=ev0∧e=1)∨(l.length=13∧¬ EMay (evOf l)∧v=ev0∧e=5)∨(l.length=13∧EMay (evOf l)∧v=evOf l∧e=0)
theorem DecIs.one{l:List Int}{a b:Ev}{e f:Int}(h:DecIs l a e)(h':DecIs l b f):a=b∧e=f:=by
 rcases h with⟨q,rfl,rfl⟩|⟨q,r,rfl,rfl⟩|⟨q,r,rfl,rfl⟩<;>rcases h' with⟨c,rfl,rfl⟩|⟨c,d,rfl,rfl⟩|⟨c,d,rfl,rfl⟩<;>first|exact⟨rfl,rfl⟩|contradiction
end book
namespace tar
structure Du where
 a:Int
 b:Int
def du0:Du:=⟨0,0⟩
structure Tr where
 a:Int
 b:Int
 c:Int
def tr0:Tr:=⟨0,0,0⟩
theorem take_one(l:List Du)(k:Nat)(h:k<l.length):l.take (k+1)=l.take k++[l.getD k du0]:=by
 rw[List.take_succ_eq_append_getElem h];simp[List.getD,List.getElem?_eq_getElem h]
def low(l:List Du)(k:Nat):Int:=if k=0 then 0 else (l.getD (k-1) du0).a
theorem low_next(l:List Du)(k:Nat):low l (k+1)=(l.getD k du0).a:=rfl
theorem low_zero(l:List Du):low l 0=0:=rfl
def Fits(l:List Du):Prop:=∀i,i<l.length→(1≤(l.getD i du0).a∧(l.getD i du0).a≤10000000)∧1≤(l.getD i du0).b∧(l.getD i du0).b≤100000
def Rises(l:List Du):Prop:=∀i,1≤i→i<l.length→(l.getD (i-1) du0).a<(l.getD i du0).a
def Sized(l:List Du):Prop:=1≤l.length∧l.length≤8
def Ends(l:List Du):Prop:=(l.getD (l.length-1) du0).a=10000000
def Right(l:List Du):Prop:=Sized l∧Fits l∧Rises l∧Ends l
def FaultIs(l:List Du)(e:Int):Prop:=(¬ Sized l∧e=1)∨(Sized l∧¬ Fits l∧e=2)∨(Sized l∧Fits l∧¬ (Rises l∧Ends l)∧e=3)∨(Right l∧e=0)
variable{l:List Du}
theorem FaultIs.one{e f:Int}(h:FaultIs l e)(h':FaultIs l f):e=f:=by
 rcases h with⟨a,rfl⟩|⟨a,b,rfl⟩|⟨a,b,c,rfl⟩|⟨⟨a,b,c⟩,rfl⟩<;>rcases h' with⟨d,rfl⟩|⟨d,g,rfl⟩|⟨d,g,i,rfl⟩|⟨⟨d,g,i⟩,rfl⟩<;>first|rfl|contradiction
theorem FaultIs.ok{e:Int}(h:FaultIs l e):e=0↔Right l:=by
 rcases h with⟨a,rfl⟩|⟨a,b,rfl⟩|⟨a,b,c,rfl⟩|⟨h,rfl⟩
 ·exact⟨λh=>absurd h (by decide),λh=>absurd h.1 a⟩
 ·exact⟨λh=>absurd h (by decide),λh=>absurd h.2.1 b⟩
 ·exact⟨λh=>absurd h (by decide),λh=>absurd h.2.2 c⟩
 ·exact⟨λ_=>h,λ_=>rfl⟩
def ov(lo hi x y:Int):Int:=max 0 (min hi y-max lo x)
theorem ov_pos(lo hi x y:Int):0≤ov lo hi x y:=by unfold ov;omega
def costK(l:List Du)(x y:Int):Nat→Int
 |0=>0
 |k+1=>costK l x y k+ov (low l k) (l.getD k du0).a x y*(l.getD k du0).b
def cost(l:List Du)(x y:Int):Int:=costK l x y l.length
theorem costK_next(l:List Du)(x y:Int)(k:Nat):costK l x y (k+1)=costK l x y k+ov (low l k) (l.getD k du0).a x y*(l.getD k du0).b:=rfl
def manyK(l:List Du)(x y:Int):Nat→Int
 |0=>0
 |k+1=>manyK l x y k+ov (low l k) (l.getD k du0).a x y
theorem Right.price(h:Right l)(k:Nat)(hk:k<l.length):1≤(l.getD k du0).b∧(l.getD k du0).b≤100000:=(h.2.1 k hk).2
theorem Right.upto(h:Right l)(k:Nat)(hk:k<l.length):1≤(l.getD k du0).a∧(l.getD k du0).a≤10000000:=(h.2.1 k hk).1
theorem Right.rise(h:Right l)(k:Nat)(hk:k<l.length):low l k<(l.getD k du0).a:=by
 by_cases e:k=0
 ·subst e;rw[low_zero];have:=(h.upto 0 hk).1;omega
 ·unfold low;rw[if_neg e];exact h.2.2.1 k (by omega) hk
theorem Right.low_pos(h:Right l)(k:Nat)(hk:k≤l.length):0≤low l k:=by
 unfold low;by_cases e:k=0
 ·rw[if_pos e];omega
 ·rw[if_neg e];have:=(h.upto (k-1) (by omega)).1;omega
theorem Right.low_end(h:Right l):low l l.length=10000000:=by
 unfold low;rw[if_neg (by have:=h.1.1;omega)];exact h.2.2.2
theorem many_eq(h:Right l)(x y:Int)(hx:0≤x)(hxy:x≤y)(k:Nat)(hk:k≤l.length):manyK l x y k=max 0 (min (low l k) y-x):=by
 induction k with
 |zero=>unfold manyK;rw[low_zero];omega
 |succ k ih=>
  have a:=ih (by omega);have b:=h.rise k (by omega);have c:=h.low_pos k (by omega);unfold manyK;rw[a,low_next];unfold ov;omega
theorem many_all(h:Right l)(x y:Int)(hx:0≤x)(hxy:x≤y)(hy:y≤10000000):manyK l x y l.length=y-x:=by
 rw[many_eq h x y hx hxy _ zc,h.low_end];omega
theorem costK_pos(h:Right l)(x y:Int)(k:Nat)(hk:k≤l.length):0≤costK l x y k:=by
 induction k with
 |zero=>exact Int.le_refl _
 |succ k ih=>
  have c:=ih (by omega);have d:=Int.mul_nonneg (ov_pos (low l k) (l.getD k du0).a x y) (show 0≤(l.getD k du0).b by have:=(h.price k (by omega)).1;omega);unfold costK;omega
theorem cost_many(h:Right l)(x y:Int)(k:Nat)(hk:k≤l.length):manyK l x y k≤costK l x y k∧costK l x y k≤manyK l x y k*100000:=by
 induction k with
 |zero=>exact⟨Int.le_refl _,Int.le_refl _⟩
 |succ k ih=>
  have f:=ih (by omega);have c:=ov_pos (low l k) (l.getD k du0).a x y;have d:=h.price k (by omega);have e:ov (low l k) (l.getD k du0).a x y*1≤ov (low l k) (l.getD k du0).a x y*(l.getD k du0).b:=Int.mul_le_mul_of_nonneg_left d.1 c;have g:ov (low l k) (l.getD k du0).a x y*(l.getD k du0).b≤ov (low l k) (l.getD k du0).a x y*100000:=Int.mul_le_mul_of_nonneg_left d.2 c;unfold costK manyK;rw[Int.mul_one] at e;constructor
  ·omega
  ·rw[Int.add_mul];omega
theorem cost_bd(h:Right l)(x y:Int)(hx:0≤x)(hxy:x≤y)(hy:y≤10000000):y-x≤cost l x y∧cost l x y≤(y-x)*100000:=by
 have:=cost_many h x y l.length zc;rw[many_all h x y hx hxy hy] at this;exact this
theorem ov_adds(lo hi x y z:Int)(h:lo≤hi)(h1:x≤y)(h2:y≤z):ov lo hi x z=ov lo hi x y+ov lo hi y z:=by unfold ov;omega
theorem costK_adds(h:Right l)(x y z:Int)(h1:x≤y)(h2:y≤z)(k:Nat)(hk:k≤l.length):costK l x z k=costK l x y k+costK l y z k:=by
 induction k with
 |zero=>rfl
 |succ k ih=>
  have a:=ih (by omega);have b:=h.rise k (by omega);unfold costK;rw[a,ov_adds _ _ x y z (by omega) h1 h2,Int.add_mul];omega
theorem cost_adds(h:Right l)(x y z:Int)(h1:x≤y)(h2:y≤z):cost l x z=cost l x y+cost l y z:=costK_adds h x y z h1 h2 _ zc
theorem cost_self(h:Right l)(x:Int):cost l x x=0:=by
 have:=cost_adds h x x x (Int.le_refl _) (Int.le_refl _);omega
theorem costK_mono(h:Right l)(x y:Int)(j k:Nat)(hjk:j≤k)(hk:k≤l.length):costK l x y j≤costK l x y k:=by
 induction k with
 |zero=>
  have:j=0:=by omega
  subst this;exact Int.le_refl _
 |succ k ih=>
  by_cases e:j=k+1
  ·subst e;exact Int.le_refl _
  ·have c:=ih (by omega) (by omega);have d:=Int.mul_nonneg (ov_pos (low l k) (l.getD k du0).a x y) (show 0≤(l.getD k du0).b by have:=(h.price k (by omega)).1;omega);rw[costK_next];omega
theorem low_mono(h:Right l)(j k:Nat)(hjk:j≤k)(hk:k≤l.length):low l j≤low l k:=by
 induction k with
 |zero=>
  have:j=0:=by omega
  subst this;exact Int.le_refl _
 |succ k ih=>
  by_cases e:j=k+1
  ·subst e;exact Int.le_refl _
  ·have a:=ih (by omega) (by omega);have b:=h.rise k (by omega);rw[low_next];omega
def Mays(x n:Int):Prop:=(0≤x∧x≤10000000)∧(0≤n∧n≤2097151)∧x+n≤10000000
def MayIs(l:List Du)(x n:Int)(e:Int):Prop:=(¬ Right l∧FaultIs l e)∨(Right l∧¬ Mays x n∧e=2)∨(Right l∧Mays x n∧e=0)
theorem MayIs.ok{x n e:Int}(h:MayIs l x n e):e=0↔Right l∧Mays x n:=by
 rcases h with⟨a,b⟩|⟨a,b,rfl⟩|⟨a,b,rfl⟩
 ·exact⟨λh=>absurd (b.ok.1 h) a,λh=>absurd h.1 a⟩
 ·exact⟨λh=>absurd h (by decide),λh=>absurd h.2 b⟩
 ·exact⟨λ_=>⟨a,b⟩,λ_=>rfl⟩
def billK(l:List Du)(x y:Int):Nat→List Tr
 |0=>[]
 |k+1=>billK l x y k++(if 0<ov (low l k) (l.getD k du0).a x y then [⟨ov (low l k) (l.getD k du0).a x y,(l.getD k du0).b,ov (low l k) (l.getD k du0).a x y*(l.getD k du0).b⟩] else [])
theorem bill_len(l:List Du)(x y:Int)(k:Nat):(billK l x y k).length≤k:=by
 induction k with
 |zero=>exact zc
 |succ k ih=>unfold billK;rw[List.length_append];split<;>simp<;>omega
def sumA:List Tr→Int
 |[]=>0
 |t::l=>t.a+sumA l
def sumC:List Tr→Int
 |[]=>0
 |t::l=>t.c+sumC l
theorem sumA_app(l m:List Tr):sumA (l++m)=sumA l+sumA m:=by
 induction l with
 |nil=>simp[sumA]
 |cons t l ih=>simp only[List.cons_append,sumA,ih];omega
theorem sumC_app(l m:List Tr):sumC (l++m)=sumC l+sumC m:=by
 induction l with
 |nil=>simp[sumC]
 |cons t l ih=>simp only[List.cons_append,sumC,ih];omega
theorem bill_sums(l:List Du)(x y:Int)(k:Nat):sumA (billK l x y k)=manyK l x y k∧sumC (billK l x y k)=costK l x y k:=by
 induction k with
 |zero=>exact⟨rfl,rfl⟩
 |succ k ih=>
  have b:=ov_pos (low l k) (l.getD k du0).a x y;unfold billK manyK costK;rw[sumA_app,sumC_app,ih.1,ih.2];by_cases h:0<ov (low l k) (l.getD k du0).a x y
  ·rw[if_pos h];simp[sumA,sumC]
  ·have e:ov (low l k) (l.getD k du0).a x y=0:=by omega
   rw[if_neg h,e];simp[sumA,sumC]
def LineOk(t:Tr):Prop:=1≤t.a∧t.a≤10000000∧1≤t.b∧t.b≤100000∧t.c=t.a*t.b
def Top(x:Int):Int:=min 2097151 (10000000-x)
def MostOf(l:List Du)(x m u:Int):Prop:=(0≤u∧u≤Top x)∧cost l x (x+u)≤m∧(u=Top x∨m<cost l x (x+(u+1)))
theorem MostOf.one{x m u v:Int}(h:Right l)(hx:0≤x)(a:MostOf l x m u)(b:MostOf l x m v):u=v:=by
 obtain⟨⟨k,f⟩,n,d⟩:=a;obtain⟨⟨o,g⟩,p,e⟩:=b;rcases Int.lt_trichotomy u v with c|c|c
 ·rcases d with d|d
  ·omega
  ·have i:=cost_adds h x (x+(u+1)) (x+v) (by omega) (by omega);have j:=cost_bd h (x+(u+1)) (x+v) (by omega) (by omega) (by unfold Top at g;omega);omega
 ·exact c
 ·rcases e with e|e
  ·omega
  ·have i:=cost_adds h x (x+(v+1)) (x+u) (by omega) (by omega);have j:=cost_bd h (x+(v+1)) (x+u) (by omega) (by omega) (by unfold Top at f;omega);omega
def MayMost(x m:Int):Prop:=(0≤x∧x≤10000000)∧0≤m∧m≤1000000000000
def MostIs(l:List Du)(x m:Int)(u p e:Int):Prop:=(¬ Right l∧FaultIs l e∧u=0∧p=0)∨(Right l∧¬ MayMost x m∧e=2∧u=0∧p=0)∨(Right l∧MayMost x m∧e=0∧MostOf l x m u∧p=cost l x (x+u))
theorem rise_not{k:Nat}(h1:1≤k)(hk:k<l.length)(h:(l.getD k du0).a≤(l.getD (k-1) du0).a):¬ (Rises l∧Ends l):=λb=>by
 have:=b.1 k h1 hk;omega
theorem prod_bd{o p:Int}(h0:0≤o)(h1:o≤10000000)(h2:1≤p)(h3:p≤100000):0≤o*p∧o*p≤1000000000000:=by
 have a:=Int.mul_nonneg h0 (show 0≤p by omega);have b:o*p≤10000000*100000:=Int.le_trans (Int.mul_le_mul_of_nonneg_left h3 h0) (Int.mul_le_mul_of_nonneg_right h1 (by decide));exact⟨a,by omega⟩
theorem costK_le(h:Right l)(x y:Int)(hx:0≤x)(hxy:x≤y)(hy:y≤10000000)(k:Nat)(hk:k≤l.length):costK l x y k≤1000000000000:=by
 have b:=costK_mono h x y k l.length hk zc;have a:=(cost_bd h x y hx hxy hy).2;unfold cost at a;omega
theorem ov_le(lo hi x y:Int)(h0:0≤lo)(h1:hi≤10000000):ov lo hi x y≤10000000:=by unfold ov;omega
theorem billK_yes(l:List Du)(x y:Int)(k:Nat)(h:0<ov (low l k) (l.getD k du0).a x y):billK l x y (k+1)=billK l x y k++[⟨ov (low l k) (l.getD k du0).a x y,(l.getD k du0).b,ov (low l k) (l.getD k du0).a x y*(l.getD k du0).b⟩]:=by
 unfold billK;rw[if_pos h];cases k<;>rfl
theorem billK_no(l:List Du)(x y:Int)(k:Nat)(h:¬ 0<ov (low l k) (l.getD k du0).a x y):billK l x y (k+1)=billK l x y k:=by
 conv=>lhs;unfold billK
 rw[if_neg h,List.append_nil]
end tar
namespace token
open Go.RowKit
theorem in_yes(n lo hi:Int)(w:World)(h1:lo≤n)(h2:n≤hi):
  Calls Tryz.prog 47 #[zI n,zI lo,zI hi] w λe w'=>e=.returned (.bool true)∧w'=w:=by
 go_enter Tryz.func47,Tryz.ntmps47;go_wp2;go_ret;exact⟨rfl,rfl⟩
theorem in_no(n lo hi:Int)(w:World)(h:n<lo∨hi<n):
  Calls Tryz.prog 47 #[zI n,zI lo,zI hi] w λe w'=>e=.returned (.bool false)∧w'=w:=by
 by_cases a:n<lo
 ·clear h;go_enter Tryz.func47,Tryz.ntmps47;go_wp2;go_ret;exact⟨rfl,rfl⟩
 ·have b:lo≤n:=by omega
  have c:decide (n≤hi)=false:=by simp;omega
  clear h a;go_enter Tryz.func47,Tryz.ntmps47;go_wp2;go_ret;exact⟨rfl,rfl⟩
open Go.ChangeShapes Go.WideShapes Go.ChangeAt Go.Deep
def Eight(w:World)(g:Nat)(a0 a1 a2 a3 a4 a5 a6 a7:Int):Prop:=
 ∃t fr,w.heap[g]?=some (.cells #[zI a0,zI a1,zI a2,zI a3,zI a4,zI a5,zI a6,zI a7] t fr)
structure TTab (w:World):Prop where
 places:Eight w 1 57 3 37 20 16 21 0 16
 amounts:Eight w 0 1 2097151 0 0 1 15 0 0
variable{a0 a1 a2 a3 a4 a5 a6 a7:Int}{w:World}{g:Nat}
theorem Eight.lt(h:Eight w g a0 a1 a2 a3 a4 a5 a6 a7):g<w.heap.size:=by
 obtain⟨t,b,h⟩:=h;by_cases a:g<w.heap.size
 ·exact a
 ·rw[Array.getElem?_eq_none (by omega)] at h;cases h
theorem Eight.below{w w':World}(h:Eight w g a0 a1 a2 a3 a4 a5 a6 a7)(hb:zB w w'):Eight w' g a0 a1 a2 a3 a4 a5 a6 a7:=by
 have b:=h.lt;obtain⟨t,a,h⟩:=h;exact⟨t,a,by rw[hb.block g b];exact h⟩
theorem TTab.below{w w':World}(h:TTab w)(hb:zB w w'):TTab w':=⟨h.places.below hb,h.amounts.below hb⟩
theorem list8{α:Type}(l:List α)(h:l.length=8):∃a b c d e f g i,l=[a,b,c,d,e,f,g,i]:=by
 match l,h with
 |[a,b,c,d,e,f,g,i],_=>exact⟨a,b,c,d,e,f,g,i,rfl⟩
theorem two_of{H:Type}{enc:TypeId × Value→H}{P:Program}{base:Nat}{spare:Nat→Bool}{held:Bool}{fuel:Nat}{t e:TypeId}{f0 f1:Field}{c0 c1:Value}{a0 a1:Int}{p:List MemPlace}
  (ht:P.underlying t=some (.struct #[f0,f1])) (hone:oneCellFields P #[f0,f1]=true) (he:P.underlying e=some (.int .i64)) (e0:f0.type=e) (e1:f1.type=e)
  (h:DataW.trod enc P w base spare held fuel t [c0,c1]=some (.agg [.lit (.int .i64 a0),.lit (.int .i64 a1)],p)):c0=zI a0∧c1=zI a1:=by
 obtain⟨o,q,n,c,_,a,b⟩:=trod_struct2 ht h;obtain⟨j,g⟩:=hone_of hone 0 f0 rfl;obtain⟨k,i⟩:=hone_of hone 1 f1 rfl;rw[j,g,e0] at a;rw[k,i,e1] at b;obtain⟨l,d,rfl,_⟩:=DataW.trod_int he a;obtain⟨m,f,rfl,_⟩:=DataW.trod_int he b;simp at d f c;obtain⟨⟨rfl,rfl⟩,_⟩:=c;exact⟨d,f⟩
theorem trod_array4w{H:Type}{enc:TypeId × Value→H}{P:Program}{base:Nat}{spare:Nat→Bool}{held:Bool}{t e:TypeId}{fuel:Nat}{cs:List Value}{x:DataW H × List MemPlace}(ht:P.underlying t=some (.array 4 e))(hce:P.cellsOf e=2)(hct:P.cellsOf t=8)
  (h:DataW.trod enc P w base spare held fuel t cs=some x):
  cs.length=8∧∃y0 y1 y2 y3 n,x=(.agg [y0.1,y1.1,y2.1,y3.1],y0.2++(y1.2++(y2.2++y3.2)))∧DataW.trod enc P w base spare held n e (cs.take 2)=some y0∧DataW.trod enc P w base spare held n e ((cs.drop 2).take 2)=some y1∧DataW.trod enc P w base spare held n e ((cs.drop 4).take 2)=some y2∧DataW.trod enc P w base spare held n e ((cs.drop 6).take 2)=some y3:=by
 cases fuel with
 |zero=>simp[DataW.trod] at h
 |succ n=>
  unfold DataW.trod at h;rw[ht] at h;have b:List.range 4=[0,1,2,3]:=rfl;simp[b,hce,hct] at h;obtain⟨a,h⟩:=h;refine⟨a,?_⟩;cases h0:DataW.trod enc P w base spare held n e (cs.take 2) with
  |none=>simp[h0] at h
  |some y0=>
   cases h1:DataW.trod enc P w base spare held n e ((cs.drop 2).take 2) with
   |none=>simp[h0,h1] at h
   |some y1=>
    cases h2:DataW.trod enc P w base spare held n e ((cs.drop 4).take 2) with
    |none=>simp[h0,h1,h2] at h
    |some y2=>
     cases h3:DataW.trod enc P w base spare held n e ((cs.drop 6).take 2) with
     |none=>simp[h0,h1,h2,h3] at h
     |some y3=>
      simp[h0,h1,h2,h3] at h;exact⟨y0,y1,y2,y3,n,by rw[← h],h0,h1,h2,h3⟩
theorem eight_of{W:World}{name:String}{rest:List (String × DataW Unit)}{t e z:TypeId}{f0 f1:Field}
  (hg:Tryz.prog.globalNamed name=some g) (hty:(Tryz.prog.globals[g]?).map (·.type)=some t) (ht:Tryz.prog.underlying t=some (.array 4 e)) (hce:Tryz.prog.cellsOf e=2) (hct:Tryz.prog.cellsOf t=8)
  (hs:Tryz.prog.underlying e=some (.struct #[f0,f1])) (hone:oneCellFields Tryz.prog #[f0,f1]=true) (hz:Tryz.prog.underlying z=some (.int .i64)) (e0:f0.type=z) (e1:f1.type=z)
  (h:laidMet Tryz.prog ((name,.agg [.agg [.lit (.int .i64 a0),.lit (.int .i64 a1)],.agg [.lit (.int .i64 a2),.lit (.int .i64 a3)],.agg [.lit (.int .i64 a4),.lit (.int .i64 a5)],.agg [.lit (.int .i64 a6),.lit (.int .i64 a7)]])::rest) W):Eight W g a0 a1 a2 a3 a4 a5 a6 a7:=by
 obtain⟨M,⟨L,r,cs,i,p,q,d,f,a,E,_,_⟩,_⟩:=h;obtain rfl:=Option.some.inj (hg.symm.trans d);obtain rfl:=Option.some.inj (hty.symm.trans f);obtain⟨F,A,B,C,D,n,o,j,k,l,m⟩:=trod_array4w ht hce hct E;simp only[Prod.mk.injEq,DataW.agg.injEq,List.cons.injEq,and_true] at o;obtain⟨⟨s,u,x,y⟩,_⟩:=o;obtain⟨A,N⟩:=A;obtain⟨B,O⟩:=B;obtain⟨C,P⟩:=C;obtain⟨D,Q⟩:=D;simp only at s u x y;subst s u x y;obtain⟨c0,c1,c2,G,H,I,J,K,c⟩:=list8 _ F;rw[c] at j k l m;obtain⟨rfl,rfl⟩:=two_of hs hone hz e0 e1 j;obtain⟨rfl,rfl⟩:=two_of hs hone hz e0 e1 k;obtain⟨rfl,rfl⟩:=two_of hs hone hz e0 e1 l;obtain⟨rfl,rfl⟩:=two_of hs hone hz e0 e1 m;unfold World.var? at a;rw[hg] at a;simp only[Option.bind_some] at a;split at a
 ·rename_i cs' r fr hc
  have b:=Option.some.inj a;refine⟨r,fr,?_⟩;rw[hc,b]
  congr 2
  first
  |(cases cs;simp_all)
  |simp_all
 ·cases a
end token
namespace cents
open Go.RowKit
def Row(w:World)(a:Option Addr)(len:Nat)(zs:List Int):Prop:=
 zs.length=len∧(len=0∨∃b off,a=some ⟨b,off,none⟩∧∀i,i<len→w.cell? ⟨b,off+i,none⟩=some (zI (zs.getD i 0)))
def okAll(lo hi:Int)(l:List Int):Bool:=l.all λn=>decide (lo≤n)&&decide (n≤hi)
theorem okAll_step(lo hi:Int)(zs:List Int)(k:Nat)(hk:k<zs.length)(h:okAll lo hi (zs.take k)=true)(h1:lo≤zs.getD k 0)(h2:zs.getD k 0≤hi):okAll lo hi (zs.take (k+1))=true:=by
 unfold okAll at *;rw[List.take_add_one,List.all_append,h];simp only[List.getD,List.getElem?_eq_getElem hk,Option.getD] at h1 h2 ⊢;simp[h1,h2]
theorem okAll_no(lo hi:Int)(zs:List Int)(k:Nat)(hk:k<zs.length)(h:zs.getD k 0<lo∨hi<zs.getD k 0):okAll lo hi zs=false:=by
 unfold okAll;rw[List.all_eq_false];refine⟨zs[k],List.getElem_mem hk,?_⟩;simp only[List.getD,List.getElem?_eq_getElem hk,Option.getD] at h;simp;omega
theorem ret_bool{a b:Bool}(h:a=b):Ending.returned (.bool a)=.returned (.bool b):=by rw[h]
theorem within_any(lo hi:Int)(a:Option Addr)(len cap:Nat)(zs:List Int)(w:World)(hr:Row w a len zs)(hl:len≤maxLen):
  Calls Tryz.prog 100 #[zI lo,zI hi,.slice a len cap] w λe w'=>e=.returned (.bool (okAll lo hi zs))∧w'=w:=by
 unfold maxLen at hl;obtain⟨r,hr⟩:=hr;go_enter Tryz.func100,Tryz.ntmps100;go_wp2;go_loop [11] (λi=>∃k:Nat,k≤len∧i=zI k∧okAll lo hi (zs.take k)=true) (λi=>len-(intOf i).toNat)
 case atStart=>exact⟨0,Nat.zero_le _,rfl,rfl⟩
 case round=>
  obtain⟨k,q,rfl,d⟩:=hrel;have h:Hid (okAll lo hi (zs.take k)=true):=d;clear d;by_cases g:k<len
  ·rcases hr with p|⟨b,n,rfl,j⟩
   ·omega
   have c:=j k g;clear j;generalize hzk:zs.getD k 0=z at c;have f:Hid (zs.getD k 0=z):=hzk;clear hzk;by_cases l:z<lo
   ·go_wp2;go_ret;exact⟨ret_bool (okAll_no lo hi zs k (by omega) (.inl (by rw[f.o];exact l))).symm,rfl⟩
   ·by_cases m:hi<z
    ·go_wp2;go_ret;exact⟨ret_bool (okAll_no lo hi zs k (by omega) (.inr (by rw[f.o];exact m))).symm,rfl⟩
    ·go_wp2;go_round
     case rel=>exact⟨k+1,by omega,by go_num,okAll_step lo hi zs k (by omega) h.o (by rw[f.o];omega) (by rw[f.o];omega)⟩
     case measure=>simp[intOf];omega
  ·go_wp2;go_ret;refine⟨ret_bool ?_,rfl⟩;have:=h.o;rw[List.take_of_length_le (by omega)] at this;exact this.symm
theorem row_one(w:World)(z:Int)(t:TypeId):Row (w.alloc (.cells #[zI z] t)) (some ⟨w.heap.size,0,none⟩) 1 [z]:=by
 refine⟨rfl,.inr ⟨_,_,rfl,λi a=>?_⟩⟩;obtain rfl:i=0:=by omega
 simp
theorem okAll_yes{lo hi z:Int}(h1:lo≤z)(h2:z≤hi):okAll lo hi [z]=true:=by simp[okAll,h1,h2]
theorem okAll_not{lo hi z:Int}(h:z<lo∨hi<z):okAll lo hi [z]=false:=by simp[okAll];omega
theorem within_one_yes(lo hi z:Int)(w:World)(b:Nat)(hb:b=w.heap.size)(h1:lo≤z)(h2:z≤hi):
  Calls Tryz.prog 100 #[zI lo,zI hi,.slice (some ⟨b,0,none⟩) 1 1] (w.alloc (.cells #[zI z] 3)) λe w'=>e=.returned (.bool true)∧w'=w.alloc (.cells #[zI z] 3):=by
 have h:=within_any lo hi _ 1 1 [z] _ (row_one w z 3) (by decide);rw[okAll_yes h1 h2] at h;rw[hb];exact h
theorem within_one_no(lo hi z:Int)(w:World)(b:Nat)(hb:b=w.heap.size)(h0:z<lo∨hi<z):
  Calls Tryz.prog 100 #[zI lo,zI hi,.slice (some ⟨b,0,none⟩) 1 1] (w.alloc (.cells #[zI z] 3)) λe w'=>e=.returned (.bool false)∧w'=w.alloc (.cells #[zI z] 3):=by
 have h:=within_any lo hi _ 1 1 [z] _ (row_one w z 3) (by decide);rw[okAll_not h0] at h;rw[hb];exact h
theorem prod_bd(a b A B:Int)(h1:0≤a)(h2:a≤A)(h3:0≤b)(h4:b≤B):0≤a*b∧a*b≤A*B:=
 ⟨Int.mul_nonneg h1 h3,Int.mul_le_mul h2 h4 h3 (by omega)⟩
theorem bel1(w:World)(o:Obj):zB w (w.alloc o):=zb.alloc zc _
theorem bel2(w:World)(o o':Obj):zB w ((w.alloc o).alloc o'):=(bel1 w o).alloc (by simp) _
theorem part_yes(a b:Int)(w:World)(h1:0≤a)(h2:a≤1000000000000)(h3:0≤b)(h4:b≤10000):
  Calls Tryz.prog 68 #[zI a,zI b] w λe w'=>e=.returned (.tuple #[zI (a*b/10000),zI 0])∧zB w w':=by
 obtain⟨c,d⟩:=prod_bd a b _ _ h1 h2 h3 h4;go_enter Tryz.func68,Tryz.ntmps68;go_wp2_with fail;refine(within_one_yes _ _ _ _ _ rfl h1 h2).mono ?_;rintro e w' ⟨rfl,rfl⟩;go_wp2_with fail;refine(within_one_yes _ _ _ _ _ (by simp) h3 h4).mono ?_;rintro e w' ⟨rfl,rfl⟩;go_wp2;go_ret2;exact⟨rfl,bel2 _ _ _⟩
theorem part_no(a b:Int)(w:World)(h:(a<0∨1000000000000<a)∨(b<0∨10000<b)):
  Calls Tryz.prog 68 #[zI a,zI b] w λe w'=>e=.returned (.tuple #[zI 0,zI 2])∧zB w w':=by
 by_cases c:a<0∨1000000000000<a
 ·clear h;go_enter Tryz.func68,Tryz.ntmps68;go_wp2_with fail;refine(within_one_no _ _ _ _ _ rfl c).mono ?_;rintro e w' ⟨rfl,rfl⟩;go_wp2;go_ret2;exact⟨rfl,bel1 _ _⟩
 ·have g:b<0∨10000<b:=by omega
  have d:0≤a:=by omega
  have f:a≤1000000000000:=by omega
  clear h c;go_enter Tryz.func68,Tryz.ntmps68;go_wp2_with fail;refine(within_one_yes _ _ _ _ _ rfl d f).mono ?_;rintro e w' ⟨rfl,rfl⟩;go_wp2_with fail;refine(within_one_no _ _ _ _ _ (by simp) g).mono ?_;rintro e w' ⟨rfl,rfl⟩;go_wp2;go_ret2;exact⟨rfl,bel2 _ _ _⟩
end cents
end Go.Proofs.YtoepgdhiepedeaaGreatDoor
