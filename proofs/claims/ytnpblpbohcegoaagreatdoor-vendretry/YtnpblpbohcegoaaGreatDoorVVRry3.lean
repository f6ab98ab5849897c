import Derived.Test.YtnpblpbohcegoaaGreatDoorVVRry0
set_option linter.unusedVariables false
set_option linter.unusedSimpArgs false
set_option maxHeartbeats 4000000
set_option maxRecDepth 100000
namespace Go.Proofs.YtnpblpbohcegoaaGreatDoor
namespace tar
structure Du where
 a:Int
 b:Int
def du0:Du:=⟨0,0⟩
structure Tr where
 a:Int
 b:Int
 c:Int
def tr0:Tr:=⟨0,0,0⟩
theorem take_one (l:List Du) (k:Nat) (h:k<l.length):l.take (k+1)=l.take k++[l.getD k du0]:=by
 rw [List.take_succ_eq_append_getElem h];simp [List.getD,List.getElem?_eq_getElem h]
def low (l:List Du) (k:Nat):Int:=if k=0 then 0 else (l.getD (k - 1) du0).a
theorem low_next (l:List Du) (k:Nat):low l (k+1)=(l.getD k du0).a:=rfl
theorem low_zero (l:List Du):low l 0=0:=rfl
def Fits (l:List Du):Prop:=∀ i,i<l.length→(1≤(l.getD i du0).a∧(l.getD i du0).a≤10000000)∧1≤(l.getD i du0).b∧(l.getD i du0).b≤100000
def Rises (l:List Du):Prop:=∀ i,1≤i→i<l.length→(l.getD (i - 1) du0).a<(l.getD i du0).a
def Sized (l:List Du):Prop:=1≤l.length∧l.length≤8
def Ends (l:List Du):Prop:=(l.getD (l.length - 1) du0).a=10000000
def Right (l:List Du):Prop:=Sized l∧Fits l∧Rises l∧Ends l
def FaultIs (l:List Du) (e:Int):Prop:=(¬ Sized l∧e=1)∨(Sized l∧¬ Fits l∧e=2)∨(Sized l∧Fits l∧¬ (Rises l∧Ends l)∧e=3)∨(Right l∧e=0)
theorem FaultIs.one {l:List Du} {e f:Int} (h:FaultIs l e) (h':FaultIs l f):e=f:=by
 rcases h with ⟨a,rfl⟩ | ⟨a,b,rfl⟩ | ⟨a,b,c,rfl⟩ | ⟨⟨a,b,c⟩,rfl⟩ <;> rcases h' with ⟨a',rfl⟩ | ⟨a',b',rfl⟩ | ⟨a',b',c',rfl⟩ | ⟨⟨a',b',c'⟩,rfl⟩ <;> first | rfl | contradiction
theorem FaultIs.ok {l:List Du} {e:Int} (h:FaultIs l e):e=0↔Right l:=by
 rcases h with ⟨a,rfl⟩ | ⟨a,b,rfl⟩ | ⟨a,b,c,rfl⟩ | ⟨h,rfl⟩
 ·exact ⟨fun h=>absurd h (by decide),fun h=>absurd h.1 a⟩
 ·exact ⟨fun h=>absurd h (by decide),fun h=>absurd h.2.1 b⟩
 ·exact ⟨fun h=>absurd h (by decide),fun h=>absurd h.2.2 c⟩
 ·exact ⟨fun _=>h,fun _=>rfl⟩
def ov (lo hi x y:Int):Int:=max 0 (min hi y - max lo x)
theorem ov_pos (lo hi x y:Int):0≤ov lo hi x y:=by unfold ov;omega
def costK (l:List Du) (x y:Int):Nat→Int
 | 0=>0
 | k+1=>costK l x y k+ov (low l k) (l.getD k du0).a x y*(l.getD k du0).b
def cost (l:List Du) (x y:Int):Int:=costK l x y l.length
theorem costK_next (l:List Du) (x y:Int) (k:Nat):costK l x y (k+1)=costK l x y k+ov (low l k) (l.getD k du0).a x y*(l.getD k du0).b:=rfl
def manyK (l:List Du) (x y:Int):Nat→Int
 | 0=>0
 | k+1=>manyK l x y k+ov (low l k) (l.getD k du0).a x y
theorem Right.price {l:List Du} (h:Right l) (k:Nat) (hk:k<l.length):1≤(l.getD k du0).b∧(l.getD k du0).b≤100000:=(h.2.1 k hk).2
theorem Right.upto {l:List Du} (h:Right l) (k:Nat) (hk:k<l.length):1≤(l.getD k du0).a∧(l.getD k du0).a≤10000000:=(h.2.1 k hk).1
theorem Right.rise {l:List Du} (h:Right l) (k:Nat) (hk:k<l.length):low l k<(l.getD k du0).a:=by
 by_cases e:k=0
 ·subst e;rw [low_zero];have:=(h.upto 0 hk).1;omega
 ·unfold low;rw [if_neg e];exact h.2.2.1 k (by omega) hk
theorem Right.low_pos {l:List Du} (h:Right l) (k:Nat) (hk:k≤l.length):0≤low l k:=by
 unfold low;by_cases e:k=0
 ·rw [if_pos e];omega
 ·rw [if_neg e];have:=(h.upto (k - 1) (by omega)).1;omega
theorem Right.low_end {l:List Du} (h:Right l):low l l.length=10000000:=by
 unfold low;rw [if_neg (by have:=h.1.1;omega)];exact h.2.2.2
theorem many_eq {l:List Du} (h:Right l) (x y:Int) (hx:0≤x) (hxy:x≤y) (k:Nat) (hk:k≤l.length):manyK l x y k=max 0 (min (low l k) y - x):=by
 induction k with
 | zero=>unfold manyK;rw [low_zero];omega
 | succ k ih=>
  have h1:=ih (by omega);have h2:=h.rise k (by omega);have h3:=h.low_pos k (by omega);unfold manyK;rw [h1,low_next];unfold ov;omega
theorem many_all {l:List Du} (h:Right l) (x y:Int) (hx:0≤x) (hxy:x≤y) (hy:y≤10000000):manyK l x y l.length=y - x:=by
 rw [many_eq h x y hx hxy _ (Nat.le_refl _),h.low_end];omega
theorem costK_pos {l:List Du} (h:Right l) (x y:Int) (k:Nat) (hk:k≤l.length):0≤costK l x y k:=by
 induction k with
 | zero=>exact Int.le_refl _
 | succ k ih=>
  have h1:=ih (by omega);have h2:=Int.mul_nonneg (ov_pos (low l k) (l.getD k du0).a x y) (show 0≤(l.getD k du0).b by have:=(h.price k (by omega)).1;omega);unfold costK;omega
theorem cost_many {l:List Du} (h:Right l) (x y:Int) (k:Nat) (hk:k≤l.length):manyK l x y k≤costK l x y k∧costK l x y k≤manyK l x y k*100000:=by
 induction k with
 | zero=>exact ⟨Int.le_refl _,Int.le_refl _⟩
 | succ k ih=>
  have h1:=ih (by omega);have h0:=ov_pos (low l k) (l.getD k du0).a x y;have hp:=h.price k (by omega);have h2:ov (low l k) (l.getD k du0).a x y*1≤ov (low l k) (l.getD k du0).a x y*(l.getD k du0).b:=Int.mul_le_mul_of_nonneg_left hp.1 h0;have h3:ov (low l k) (l.getD k du0).a x y*(l.getD k du0).b≤ov (low l k) (l.getD k du0).a x y*100000:=Int.mul_le_mul_of_nonneg_left hp.2 h0;unfold costK manyK;rw [Int.mul_one] at h2;constructor
  ·omega
  ·rw [Int.add_mul];omega
theorem cost_bd {l:List Du} (h:Right l) (x y:Int) (hx:0≤x) (hxy:x≤y) (hy:y≤10000000):y - x≤cost l x y∧cost l x y≤(y - x)*100000:=by
 have:=cost_many h x y l.length (Nat.le_refl _);rw [many_all h x y hx hxy hy] at this;exact this
theorem ov_adds (lo hi x y z:Int) (h:lo≤hi) (h1:x≤y) (h2:y≤z):ov lo hi x z=ov lo hi x y+ov lo hi y z:=by unfold ov;omega
theorem costK_adds {l:List Du} (h:Right l) (x y z:Int) (h1:x≤y) (h2:y≤z) (k:Nat) (hk:k≤l.length):costK l x z k=costK l x y k+costK l y z k:=by
 induction k with
 | zero=>rfl
 | succ k ih=>
  have h3:=ih (by omega);have h4:=h.rise k (by omega);unfold costK;rw [h3,ov_adds _ _ x y z (by omega) h1 h2,Int.add_mul];omega
theorem cost_adds {l:List Du} (h:Right l) (x y z:Int) (h1:x≤y) (h2:y≤z):cost l x z=cost l x y+cost l y z:=costK_adds h x y z h1 h2 _ (Nat.le_refl _)
theorem costK_mono {l:List Du} (h:Right l) (x y:Int) (j k:Nat) (hjk:j≤k) (hk:k≤l.length):costK l x y j≤costK l x y k:=by
 induction k with
 | zero=>
  have:j=0:=by omega
  subst this;exact Int.le_refl _
 | succ k ih=>
  by_cases e:j=k+1
  ·subst e;exact Int.le_refl _
  ·have h1:=ih (by omega) (by omega);have h2:=Int.mul_nonneg (ov_pos (low l k) (l.getD k du0).a x y) (show 0≤(l.getD k du0).b by have:=(h.price k (by omega)).1;omega);rw [costK_next];omega
theorem low_mono {l:List Du} (h:Right l) (j k:Nat) (hjk:j≤k) (hk:k≤l.length):low l j≤low l k:=by
 induction k with
 | zero=>
  have:j=0:=by omega
  subst this;exact Int.le_refl _
 | succ k ih=>
  by_cases e:j=k+1
  ·subst e;exact Int.le_refl _
  ·have h1:=ih (by omega) (by omega);have h2:=h.rise k (by omega);rw [low_next];omega
def billK (l:List Du) (x y:Int):Nat→List Tr
 | 0=>[]
 | k+1=>billK l x y k++(if 0<ov (low l k) (l.getD k du0).a x y then [⟨ov (low l k) (l.getD k du0).a x y,(l.getD k du0).b,ov (low l k) (l.getD k du0).a x y*(l.getD k du0).b⟩] else [])
theorem bill_len (l:List Du) (x y:Int) (k:Nat):(billK l x y k).length≤k:=by
 induction k with
 | zero=>exact Nat.le_refl _
 | succ k ih=>unfold billK;rw [List.length_append];split <;> simp <;> omega
def sumA:List Tr→Int
 | []=>0
 | t :: l=>t.a+sumA l
def sumC:List Tr→Int
 | []=>0
 | t :: l=>t.c+sumC l
theorem sumA_app (l m:List Tr):sumA (l++m)=sumA l+sumA m:=by
 induction l with
 | nil=>simp [sumA]
 | cons t l ih=>simp only [List.cons_append,sumA,ih];omega
theorem sumC_app (l m:List Tr):sumC (l++m)=sumC l+sumC m:=by
 induction l with
 | nil=>simp [sumC]
 | cons t l ih=>simp only [List.cons_append,sumC,ih];omega
theorem bill_sums (l:List Du) (x y:Int) (k:Nat):sumA (billK l x y k)=manyK l x y k∧sumC (billK l x y k)=costK l x y k:=by
 induction k with
 | zero=>exact ⟨rfl,rfl⟩
 | succ k ih=>
  have h0:=ov_pos (low l k) (l.getD k du0).a x y;unfold billK manyK costK;rw [sumA_app,sumC_app,ih.1,ih.2];by_cases h:0<ov (low l k) (l.getD k du0).a x y
  ·rw [if_pos h];simp [sumA,sumC]
  ·have e:ov (low l k) (l.getD k du0).a x y=0:=by omega
   rw [if_neg h,e];simp [sumA,sumC]
def LineOk (t:Tr):Prop:=1≤t.a∧t.a≤10000000∧1≤t.b∧t.b≤100000∧t.c=t.a*t.b
def Top (x:Int):Int:=min 2097151 (10000000 - x)
def MostOf (l:List Du) (x m u:Int):Prop:=(0≤u∧u≤Top x)∧cost l x (x+u)≤m∧(u=Top x∨m<cost l x (x+(u+1)))
theorem MostOf.one {l:List Du} {x m u v:Int} (h:Right l) (hx:0≤x) (a:MostOf l x m u) (b:MostOf l x m v):u=v:=by
 obtain ⟨⟨a1,a2⟩,a3,a4⟩:=a;obtain ⟨⟨b1,b2⟩,b3,b4⟩:=b;rcases Int.lt_trichotomy u v with c | c | c
 ·rcases a4 with a4 | a4
  ·omega
  ·have h1:=cost_adds h x (x+(u+1)) (x+v) (by omega) (by omega);have h2:=cost_bd h (x+(u+1)) (x+v) (by omega) (by omega) (by unfold Top at b2;omega);omega
 ·exact c
 ·rcases b4 with b4 | b4
  ·omega
  ·have h1:=cost_adds h x (x+(v+1)) (x+u) (by omega) (by omega);have h2:=cost_bd h (x+(v+1)) (x+u) (by omega) (by omega) (by unfold Top at a2;omega);omega
def MayMost (x m:Int):Prop:=(0≤x∧x≤10000000)∧0≤m∧m≤1000000000000
def MostIs (l:List Du) (x m:Int) (u p e:Int):Prop:=(¬ Right l∧FaultIs l e∧u=0∧p=0)∨(Right l∧¬ MayMost x m∧e=2∧u=0∧p=0)∨(Right l∧MayMost x m∧e=0∧MostOf l x m u∧p=cost l x (x+u))
theorem prod_bd {o p:Int} (h0:0≤o) (h1:o≤10000000) (h2:1≤p) (h3:p≤100000):0≤o*p∧o*p≤1000000000000:=by
 have a:=Int.mul_nonneg h0 (show 0≤p by omega);have b:o*p≤10000000*100000:=Int.le_trans (Int.mul_le_mul_of_nonneg_left h3 h0) (Int.mul_le_mul_of_nonneg_right h1 (by decide));exact ⟨a,by omega⟩
theorem ov_le (lo hi x y:Int) (h0:0≤lo) (h1:hi≤10000000):ov lo hi x y≤10000000:=by unfold ov;omega
theorem billK_yes (l:List Du) (x y:Int) (k:Nat) (h:0<ov (low l k) (l.getD k du0).a x y):billK l x y (k+1)=billK l x y k++[⟨ov (low l k) (l.getD k du0).a x y,(l.getD k du0).b,ov (low l k) (l.getD k du0).a x y*(l.getD k du0).b⟩]:=by
 unfold billK;rw [if_pos h];cases k <;> rfl
theorem billK_no (l:List Du) (x y:Int) (k:Nat) (h:¬ 0<ov (low l k) (l.getD k du0).a x y):billK l x y (k+1)=billK l x y k:=by
 conv=>lhs;unfold billK
 rw [if_neg h,List.append_nil]
end tar
namespace deb
open tar
def Ok1 (d:Du):Prop:=(0≤d.a∧d.a≤1000000000)∧0≤d.b∧d.b≤10000
def DFits (l:List Du):Prop:=∀ i,i<l.length→Ok1 (l.getD i du0)
def Mays (l:List Du):Prop:=l.length≤8∧DFits l
def FaultIs (l:List Du) (e:Int):Prop:=(¬ l.length≤8∧e=1)∨(l.length≤8∧¬ DFits l∧e=2)∨(Mays l∧e=0)
theorem FaultIs.ok {l:List Du} {e:Int} (h:FaultIs l e):e=0↔Mays l:=by
 rcases h with ⟨a,rfl⟩ | ⟨a,b,rfl⟩ | ⟨h,rfl⟩
 ·exact ⟨fun h=>absurd h (by decide),fun h=>absurd h.1 a⟩
 ·exact ⟨fun h=>absurd h (by decide),fun h=>absurd h.2 b⟩
 ·exact ⟨fun _=>h,fun _=>rfl⟩
theorem fits_mem {l:List Du} (h:∀ d∈l,Ok1 d):DFits l:=fun i hi=>by
 have e:l.getD i du0=l[i]:=by simp [List.getD,List.getElem?_eq_getElem hi]
 rw [e];exact h _ (List.getElem_mem hi)
theorem mem_fits {l:List Du} (h:DFits l):∀ d∈l,Ok1 d:=fun d hd=>by
 obtain ⟨i,hi,rfl⟩:=List.getElem_of_mem hd;have e:l.getD i du0=l[i]:=by simp [List.getD,List.getElem?_eq_getElem hi]
 rw [← e];exact h i hi
def sumK (l:List Du):Nat→Int
 | 0=>0
 | k+1=>sumK l k+(l.getD k du0).a
theorem sumK_next (l:List Du) (k:Nat):sumK l (k+1)=sumK l k+(l.getD k du0).a:=rfl
def sumD:List Du→Int
 | []=>0
 | d :: l=>d.a+sumD l
theorem sumD_app (l m:List Du):sumD (l++m)=sumD l+sumD m:=by
 induction l with
 | nil=>simp [sumD]
 | cons t l ih=>simp only [List.cons_append,sumD,ih];omega
theorem sumK_take (l:List Du) (k:Nat) (hk:k≤l.length):sumK l k=sumD (l.take k):=by
 induction k with
 | zero=>simp [sumK,sumD]
 | succ k ih=>rw [sumK_next,take_one l k (by omega),sumD_app,ih (by omega)];simp [sumD]
theorem sumK_all (l:List Du):sumK l l.length=sumD l:=by rw [sumK_take l _ (Nat.le_refl _),List.take_length]
theorem sumD_pos {l:List Du} (h:∀ d∈l,Ok1 d):0≤sumD l∧sumD l≤(l.length:Int)*1000000000:=by
 induction l with
 | nil=>exact ⟨Int.le_refl _,Int.le_refl _⟩
 | cons t l ih=>
  have h1:=ih fun x hx=>h x (List.mem_cons_of_mem _ hx);have h2:=h t List.mem_cons_self;obtain ⟨⟨a1,a2⟩,_⟩:=h2;refine ⟨by show 0≤t.a+sumD l;omega,?_⟩;show t.a+sumD l≤((l.length+1:Nat):Int)*1000000000;omega
theorem sumK_bd {l:List Du} (h:Mays l) (k:Nat) (hk:k≤l.length):0≤sumK l k∧sumK l k≤8000000000:=by
 rw [sumK_take l k hk];have h1:=sumD_pos (l:=l.take k) fun d hd=>mem_fits h.2 d (List.mem_of_mem_take hd);have h2:(l.take k).length≤8:=by rw [List.length_take];have:=h.1;omega
 exact ⟨h1.1,by omega⟩
def OwedIs (l:List Du) (x e:Int):Prop:=FaultIs l e∧((e=0∧x=sumD l)∨(e≠0∧x=0))
def TMay (t bp:Int):Prop:=(0≤t∧t≤100000000)∧0≤bp∧bp≤10000
def ShareIs (t bp s e:Int):Prop:=(TMay t bp∧s=t*bp / 10000∧e=0)∨(¬ TMay t bp∧s=0∧e=2)
theorem share_bd {t bp:Int} (h:TMay t bp):0≤t*bp / 10000∧t*bp / 10000≤100000000:=by
 obtain ⟨⟨a1,a2⟩,b1,b2⟩:=h;have h1:=Int.mul_nonneg a1 b1;have h2:t*bp≤t*10000:=Int.mul_le_mul_of_nonneg_left b2 a1;generalize t*bp=p at *;omega
def left (a end_ s:Int):Int:=min a (end_ - s)
def recK (l:List Du) (s:Int):Nat→List Du
 | 0=>[]
 | k+1=>recK l s k++(if 0<left (l.getD k du0).a (sumK l (k+1)) s then [⟨left (l.getD k du0).a (sumK l (k+1)) s,(l.getD k du0).b⟩] else [])
theorem recK_yes (l:List Du) (s:Int) (k:Nat) (h:0<left (l.getD k du0).a (sumK l (k+1)) s):recK l s (k+1)=recK l s k++[⟨left (l.getD k du0).a (sumK l (k+1)) s,(l.getD k du0).b⟩]:=by
 show recK l s k++_=_;rw [if_pos h]
theorem recK_no (l:List Du) (s:Int) (k:Nat) (h:¬ 0<left (l.getD k du0).a (sumK l (k+1)) s):recK l s (k+1)=recK l s k:=by
 show recK l s k++_=_;rw [if_neg h,List.append_nil]
theorem recK_len (l:List Du) (s:Int) (k:Nat):(recK l s k).length≤k:=by
 induction k with
 | zero=>exact Nat.le_refl _
 | succ k ih=>
  by_cases h:0<left (l.getD k du0).a (sumK l (k+1)) s
  ·rw [recK_yes l s k h,List.length_append];simp;omega
  ·rw [recK_no l s k h];omega
theorem recK_ok {l:List Du} (h:Mays l) (s:Int) (k:Nat) (hk:k≤l.length):∀ d∈recK l s k,Ok1 d∧1≤d.a:=by
 induction k with
 | zero=>intro d hd;cases hd
 | succ k ih=>
  intro d hd;by_cases hp:0<left (l.getD k du0).a (sumK l (k+1)) s
  ·rw [recK_yes l s k hp] at hd;rcases List.mem_append.1 hd with hd | hd
   ·exact ih (by omega) d hd
   ·have e:=List.mem_singleton.1 hd;subst e;have h1:=h.2 k (by omega);have h2:left (l.getD k du0).a (sumK l (k+1)) s≤(l.getD k du0).a:=by unfold left;omega
    have h3:=h1.1.2;exact ⟨⟨⟨by show 0≤left _ _ _;omega,by show left _ _ _≤_;omega⟩,h1.2⟩,by show 1≤left _ _ _;omega⟩
  ·rw [recK_no l s k hp] at hd;exact ih (by omega) d hd
def RecIs (l:List Du) (t bp:Int) (z:List Du) (p e:Int):Prop:=
 (¬ Mays l∧FaultIs l e∧z=[]∧p=0)∨(Mays l∧¬ TMay t bp∧e=2∧z=[]∧p=0)∨(Mays l∧TMay t bp∧e=0∧z=recK l (t*bp / 10000) l.length∧p=min (t*bp / 10000) (sumD l))
theorem RecIs.got {l:List Du} {t bp p e:Int} {z:List Du} (h:RecIs l t bp z p e) (hm:Mays l) (ht:TMay t bp):e=0∧z=recK l (t*bp / 10000) l.length∧p=min (t*bp / 10000) (sumD l):=by
 rcases h with ⟨a,_⟩ | ⟨_,b,_⟩ | ⟨_,_,c⟩
 ·exact absurd hm a
 ·exact absurd ht b
 ·exact c
def grow (b x:Int):Int:=min 1000000000 (x+x*b / 10000)
def growN (b:Int):Nat→Int→Int
 | 0,x=>x
 | k+1,x=>grow b (growN b k x)
theorem grow_bd {b x:Int} (hb:0≤b) (hb2:b≤10000) (hx:0≤x) (hx2:x≤1000000000):x≤grow b x∧grow b x≤1000000000:=by
 have h1:=Int.mul_nonneg hx hb;unfold grow;generalize x*b=p at *;omega
theorem growN_bd {b x:Int} (hb:0≤b) (hb2:b≤10000) (hx:0≤x) (hx2:x≤1000000000) (k:Nat):x≤growN b k x∧growN b k x≤1000000000:=by
 induction k with
 | zero=>exact ⟨Int.le_refl _,hx2⟩
 | succ k ih=>
  have:=grow_bd hb hb2 (show 0≤growN b k x by omega) ih.2;exact ⟨by show x≤grow b _;omega,this.2⟩
theorem growN_add (b:Int) (j k:Nat) (x:Int):growN b k (growN b j x)=growN b (j+k) x:=by
 induction k with
 | zero=>rfl
 | succ k ih=>show grow b _=grow b _;rw [ih];rfl
theorem growN_still {b x:Int} (h:grow b x=x) (k:Nat):growN b k x=x:=by
 induction k with
 | zero=>rfl
 | succ k ih=>show grow b (growN b k x)=x;rw [ih,h]
def ageAll (l:List Du) (m:Nat):List Du:=l.map fun d=>⟨growN d.b m d.a,d.b⟩
theorem ageAll_len (l:List Du) (m:Nat):(ageAll l m).length=l.length:=List.length_map _
theorem ageAll_at (l:List Du) (m:Nat) (i:Nat) (hi:i<l.length):(ageAll l m).getD i du0=⟨growN (l.getD i du0).b m (l.getD i du0).a,(l.getD i du0).b⟩:=by
 unfold ageAll;simp [List.getD,List.getElem?_eq_getElem hi]
theorem ageAll_mays {l:List Du} (h:Mays l) (m:Nat):Mays (ageAll l m):=by
 refine ⟨by rw [ageAll_len];exact h.1,fun i hi=>?_⟩;rw [ageAll_len] at hi;rw [ageAll_at l m i hi];obtain ⟨⟨a1,a2⟩,b1,b2⟩:=h.2 i hi;have:=growN_bd b1 b2 a1 a2 m;exact ⟨⟨by show 0≤growN _ _ _;omega,this.2⟩,b1,b2⟩
theorem ageAll_take (l:List Du) (m k:Nat) (hk:k<l.length):ageAll (l.take (k+1)) m=ageAll (l.take k) m++[⟨growN (l.getD k du0).b m (l.getD k du0).a,(l.getD k du0).b⟩]:=by
 rw [take_one l k hk];unfold ageAll;rw [List.map_append];rfl
def AgeIs (l:List Du) (m:Int) (z:List Du) (e:Int):Prop:=(¬ Mays l∧FaultIs l e∧z=[])∨(Mays l∧¬ (0≤m∧m≤2400)∧e=2∧z=[])∨(Mays l∧(0≤m∧m≤2400)∧e=0∧z=ageAll l m.toNat)
theorem AgeIs.got {l:List Du} {m e:Int} {z:List Du} (h:AgeIs l m z e) (hm:Mays l) (ht:0≤m∧m≤2400):e=0∧z=ageAll l m.toNat:=by
 rcases h with ⟨a,_⟩ | ⟨_,b,_⟩ | ⟨_,_,c⟩
 ·exact absurd hm a
 ·exact absurd ht b
 ·exact c
end deb
namespace cents
open Go.RowKit
def Row (w:World) (a:Option Addr) (len:Nat) (zs:List Int):Prop:=
 zs.length=len∧(len=0∨∃ b off,a=some ⟨b,off,none⟩∧∀ i,i<len→w.cell? ⟨b,off+i,none⟩=some (zI (zs.getD i 0)))
def okAll (lo hi:Int) (l:List Int):Bool:=l.all fun n=>decide (lo≤n) && decide (n≤hi)
theorem okAll_step (lo hi:Int) (zs:List Int) (k:Nat) (hk:k<zs.length) (h:okAll lo hi (zs.take k)=true) (h1:lo≤zs.getD k 0) (h2:zs.getD k 0≤hi):okAll lo hi (zs.take (k+1))=true:=by
 unfold okAll at *;rw [List.take_add_one,List.all_append,h];simp only [List.getD,List.getElem?_eq_getElem hk,Option.getD] at h1 h2 ⊢;simp [h1,h2]
theorem okAll_no (lo hi:Int) (zs:List Int) (k:Nat) (hk:k<zs.length) (h:zs.getD k 0<lo∨hi<zs.getD k 0):okAll lo hi zs=false:=by
 unfold okAll;rw [List.all_eq_false];refine ⟨zs[k],List.getElem_mem hk,?_⟩;simp only [List.getD,List.getElem?_eq_getElem hk,Option.getD] at h;simp;omega
theorem ret_bool {a b:Bool} (h:a=b):Ending.returned (.bool a) = .returned (.bool b):=by rw [h]
theorem within_any (lo hi:Int) (a:Option Addr) (len cap:Nat) (zs:List Int) (w:World) (hr:Row w a len zs) (hl:len≤maxLen) :
  Calls Tryz.prog 192 #[zI lo,zI hi,.slice a len cap] w fun e w'=>e = .returned (.bool (okAll lo hi zs))∧w'=w:=by
 unfold maxLen at hl;obtain ⟨hz,hr⟩:=hr;go_enter Tryz.func192,Tryz.ntmps192;go_wp2;go_loop [11] (fun i=>∃ k:Nat,k≤len∧i=zI k∧okAll lo hi (zs.take k)=true) (fun i=>len - (intOf i).toNat)
 case atStart=>exact ⟨0,Nat.zero_le _,rfl,rfl⟩
 case round=>
  obtain ⟨k,hk,rfl,hok⟩:=hrel;have HK:Hid (okAll lo hi (zs.take k)=true):=hok;clear hok;by_cases hlt:k<len
  ·rcases hr with h0 | ⟨b,off,rfl,hc⟩
   ·omega
   have hcell:=hc k hlt;clear hc;generalize hzk:zs.getD k 0=z at hcell;have HZ:Hid (zs.getD k 0=z):=hzk;clear hzk;by_cases h1:z<lo
   ·go_wp2;go_ret;exact ⟨ret_bool (okAll_no lo hi zs k (by omega) (.inl (by rw [HZ.o];exact h1))).symm,rfl⟩
   ·by_cases h2:hi<z
    ·go_wp2;go_ret;exact ⟨ret_bool (okAll_no lo hi zs k (by omega) (.inr (by rw [HZ.o];exact h2))).symm,rfl⟩
    ·go_wp2;go_round
     case rel=>exact ⟨k+1,by omega,by go_num,okAll_step lo hi zs k (by omega) HK.o (by rw [HZ.o];omega) (by rw [HZ.o];omega)⟩
     case measure=>simp [intOf];omega
  ·go_wp2;go_ret;refine ⟨ret_bool ?_,rfl⟩;have:=HK.o;rw [List.take_of_length_le (by omega)] at this;exact this.symm
end cents
section
open Go.RowKit
theorem operIn_round {F:Fence} {n:Nat} {P:Program} (hro:F.round=none) (l:Nat) {o:Oper} (hd:∀ c,o.op ≠ .defer c) {a:Act} {w:World} {K K':Act→World→Prop} {Q:Exit→Act→World→Prop} (hK:∀ a w,K a w→K' a w) (h:o.wpIn F n P a w K Q):o.wpIn (F.inRound l) n P a w K' Q:=by
 have h2:=Oper.wpIn_mono hK h;unfold Oper.wpIn at *;refine ⟨h2.1,?_⟩;have h3:=h2.2;rw [hro,Oper.semAt_none] at h3;rw [Fence.inRound_round,Oper.semAt_some l _ _ hd];generalize (execOp a.eval o).run P w=r at *;cases r with
 | ok x w'=>cases x <;> exact h3
 | halt x w'=>cases x <;> exact h3
theorem opsIn_round {F:Fence} {n:Nat} {P:Program} {ops:Array Oper} {Q:Exit→Act→World→Prop} (hro:F.round=none) (l:Nat) (hd:∀ (i:Nat) (o:Oper),ops[i]?=some o→∀ c,o.op ≠ .defer c):∀ (s:List Nat) (a:Act) (w:World),wpOpsIn F n P ops Q s a w→wpOpsIn (F.inRound l) n P ops Q s a w
 | [],_,_,h=>h
 | i :: s,a,w,h=>by
  unfold wpOpsIn at h ⊢;cases hi:ops[i]? with
  | none=>rw [hi] at h;exact opsIn_round hro l hd s a w h
  | some o=>
   rw [hi] at h;dsimp only at h ⊢;by_cases hw:Region.wanted o (yielded ops a.tmps)=true
   ·rw [if_pos hw] at h ⊢;exact operIn_round hro l (hd i o hi) (fun a w h=>opsIn_round hro l hd s a w h) h
   ·rw [if_neg hw] at h ⊢;exact ⟨h.1,opsIn_round hro l hd s _ w h.2⟩
def noDefer (l:List Oper):Bool:=l.all fun o=>match o.op with | .defer _=>false | _=>true
theorem noDefer_spec {l:List Oper} (h:noDefer l=true) (i:Nat) (o:Oper) (ho:l.toArray[i]?=some o) (c:Call):o.op ≠ .defer c:=by
 intro e
 have h1:o∈l:=by
  have:l[i]?=some o:=by simpa using ho
  exact List.mem_of_getElem? this
 have h2:=List.all_eq_true.1 h o h1;rw [e] at h2;exact Bool.noConfusion h2
theorem round_quiet {F:Fence} {n:Nat} {P:Program} {id:Nat} {Q:Exit→Act→World→Prop} {a:Act} {w:World} {l:List Oper} {r:Nat} (hro:F.round=none) (hm:P.follows .mixedOrders=true) (hB:Region.lexB .any l.toArray=true) (hd:noDefer l=true)
  (h:wpQuietIn F n P l.toArray (fun w'=>∃ n,w'=w.drewN n) (fun a'=>∀ w',(∃ n,w'=w.drewN n)→Q .normal a' w') l a):(Code.region id l.toArray true).wpIn (F.inRound r) n P Q a w:=by
 simp only [Region.lexB,Bool.and_eq_true] at hB;refine wpIn_region_draw fun t=>opsIn_round hro r (noDefer_spec hd) _ _ _ ?_;simp only [Region.schedule,hm,Bool.true_or,if_true];refine wpAnyIn_sound _ t _ a _ ?_;refine wpAnyIn_of_quiet (C:=fun w'=>∃ n,w'=w.drewN n) (Q:=fun a'=>∀ w',(∃ n,w'=w.drewN n)→Q .normal a' w') hro (fun _ w' hw' h=>h w' hw') _ _ _ _ ⟨1,rfl⟩ ?_;have:=wpAnyQIn_lex (F:=F) (n:=n) (C:=fun w'=>∃ n,w'=w.drewN n) (md:= .any) hB.1 l 0 (Array.replicate l.toArray.size false) a (by simp) (by simpa using hB.2) h;simpa using this
end
end Go.Proofs.YtnpblpbohcegoaaGreatDoor
