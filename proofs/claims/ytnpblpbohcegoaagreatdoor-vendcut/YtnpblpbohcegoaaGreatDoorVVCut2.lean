import Derived.Test.YtnpblpbohcegoaaGreatDoorVVCut1
set_option linter.unusedVariables false
set_option linter.unusedSimpArgs false
set_option maxHeartbeats 4000000
set_option maxRecDepth 100000
namespace Go.Proofs.YtnpblpbohcegoaaGreatDoor
namespace tar
structure Du where
 a:Int
 b:Int
def du0:Du:=⟨0,0⟩
structure Tr where
 a:Int
 b:Int
 c:Int
def tr0:Tr:=⟨0,0,0⟩
theorem take_one (l:List Du) (k:Nat) (h:k<l.length):l.take (k+1)=l.take k++[l.getD k du0]:=by
 rw [List.take_succ_eq_append_getElem h];simp [List.getD,List.getElem?_eq_getElem h]
def low (l:List Du) (k:Nat):Int:=if k=0 then 0 else (l.getD (k - 1) du0).a
theorem low_next (l:List Du) (k:Nat):low l (k+1)=(l.getD k du0).a:=rfl
theorem low_zero (l:List Du):low l 0=0:=rfl
def Fits (l:List Du):Prop:=∀ i,i<l.length→(1≤(l.getD i du0).a∧(l.getD i du0).a≤10000000)∧1≤(l.getD i du0).b∧(l.getD i du0).b≤100000
def Rises (l:List Du):Prop:=∀ i,1≤i→i<l.length→(l.getD (i - 1) du0).a<(l.getD i du0).a
def Sized (l:List Du):Prop:=1≤l.length∧l.length≤8
def Ends (l:List Du):Prop:=(l.getD (l.length - 1) du0).a=10000000
def Right (l:List Du):Prop:=Sized l∧Fits l∧Rises l∧Ends l
def FaultIs (l:List Du) (e:Int):Prop:=(¬ Sized l∧e=1)∨(Sized l∧¬ Fits l∧e=2)∨(Sized l∧Fits l∧¬ (Rises l∧Ends l)∧e=3)∨(Right l∧e=0)
theorem FaultIs.one {l:List Du} {e f:Int} (h:FaultIs l e) (h':FaultIs l f):e=f:=by
 rcases h with ⟨a,rfl⟩ | ⟨a,b,rfl⟩ | ⟨a,b,c,rfl⟩ | ⟨⟨a,b,c⟩,rfl⟩ <;> rcases h' with ⟨a',rfl⟩ | ⟨a',b',rfl⟩ | ⟨a',b',c',rfl⟩ | ⟨⟨a',b',c'⟩,rfl⟩ <;> first | rfl | contradiction
theorem FaultIs.ok {l:List Du} {e:Int} (h:FaultIs l e):e=0↔Right l:=by
 rcases h with ⟨a,rfl⟩ | ⟨a,b,rfl⟩ | ⟨a,b,c,rfl⟩ | ⟨h,rfl⟩
 ·exact ⟨fun h=>absurd h (by decide),fun h=>absurd h.1 a⟩
 ·exact ⟨fun h=>absurd h (by decide),fun h=>absurd h.2.1 b⟩
 ·exact ⟨fun h=>absurd h (by decide),fun h=>absurd h.2.2 c⟩
 ·exact ⟨fun _=>h,fun _=>rfl⟩
def ov (lo hi x y:Int):Int:=max 0 (min hi y - max lo x)
theorem ov_pos (lo hi x y:Int):0≤ov lo hi x y:=by unfold ov;omega
def costK (l:List Du) (x y:Int):Nat→Int
 | 0=>0
 | k+1=>costK l x y k+ov (low l k) (l.getD k du0).a x y*(l.getD k du0).b
def cost (l:List Du) (x y:Int):Int:=costK l x y l.length
theorem costK_next (l:List Du) (x y:Int) (k:Nat):costK l x y (k+1)=costK l x y k+ov (low l k) (l.getD k du0).a x y*(l.getD k du0).b:=rfl
def manyK (l:List Du) (x y:Int):Nat→Int
 | 0=>0
 | k+1=>manyK l x y k+ov (low l k) (l.getD k du0).a x y
theorem Right.price {l:List Du} (h:Right l) (k:Nat) (hk:k<l.length):1≤(l.getD k du0).b∧(l.getD k du0).b≤100000:=(h.2.1 k hk).2
theorem Right.upto {l:List Du} (h:Right l) (k:Nat) (hk:k<l.length):1≤(l.getD k du0).a∧(l.getD k du0).a≤10000000:=(h.2.1 k hk).1
theorem Right.rise {l:List Du} (h:Right l) (k:Nat) (hk:k<l.length):low l k<(l.getD k du0).a:=by
 by_cases e:k=0
 ·subst e;rw [low_zero];have:=(h.upto 0 hk).1;omega
 ·unfold low;rw [if_neg e];exact h.2.2.1 k (by omega) hk
theorem Right.low_pos {l:List Du} (h:Right l) (k:Nat) (hk:k≤l.length):0≤low l k:=by
 unfold low;by_cases e:k=0
 ·rw [if_pos e];omega
 ·rw [if_neg e];have:=(h.upto (k - 1) (by omega)).1;omega
theorem Right.low_end {l:List Du} (h:Right l):low l l.length=10000000:=by
 unfold low;rw [if_neg (by have:=h.1.1;omega)];exact h.2.2.2
theorem many_eq {l:List Du} (h:Right l) (x y:Int) (hx:0≤x) (hxy:x≤y) (k:Nat) (hk:k≤l.length):manyK l x y k=max 0 (min (low l k) y - x):=by
 induction k with
 | zero=>unfold manyK;rw [low_zero];omega
 | succ k ih=>
  have h1:=ih (by omega);have h2:=h.rise k (by omega);have h3:=h.low_pos k (by omega);unfold manyK;rw [h1,low_next];unfold ov;omega
theorem many_all {l:List Du} (h:Right l) (x y:Int) (hx:0≤x) (hxy:x≤y) (hy:y≤10000000):manyK l x y l.length=y - x:=by
 rw [many_eq h x y hx hxy _ (Nat.le_refl _),h.low_end];omega
theorem costK_pos {l:List Du} (h:Right l) (x y:Int) (k:Nat) (hk:k≤l.length):0≤costK l x y k:=by
 induction k with
 | zero=>exact Int.le_refl _
 | succ k ih=>
  have h1:=ih (by omega);have h2:=Int.mul_nonneg (ov_pos (low l k) (l.getD k du0).a x y) (show 0≤(l.getD k du0).b by have:=(h.price k (by omega)).1;omega);unfold costK;omega
theorem cost_many {l:List Du} (h:Right l) (x y:Int) (k:Nat) (hk:k≤l.length):manyK l x y k≤costK l x y k∧costK l x y k≤manyK l x y k*100000:=by
 induction k with
 | zero=>exact ⟨Int.le_refl _,Int.le_refl _⟩
 | succ k ih=>
  have h1:=ih (by omega);have h0:=ov_pos (low l k) (l.getD k du0).a x y;have hp:=h.price k (by omega);have h2:ov (low l k) (l.getD k du0).a x y*1≤ov (low l k) (l.getD k du0).a x y*(l.getD k du0).b:=Int.mul_le_mul_of_nonneg_left hp.1 h0;have h3:ov (low l k) (l.getD k du0).a x y*(l.getD k du0).b≤ov (low l k) (l.getD k du0).a x y*100000:=Int.mul_le_mul_of_nonneg_left hp.2 h0;unfold costK manyK;rw [Int.mul_one] at h2;constructor
  ·omega
  ·rw [Int.add_mul];omega
theorem cost_bd {l:List Du} (h:Right l) (x y:Int) (hx:0≤x) (hxy:x≤y) (hy:y≤10000000):y - x≤cost l x y∧cost l x y≤(y - x)*100000:=by
 have:=cost_many h x y l.length (Nat.le_refl _);rw [many_all h x y hx hxy hy] at this;exact this
theorem ov_adds (lo hi x y z:Int) (h:lo≤hi) (h1:x≤y) (h2:y≤z):ov lo hi x z=ov lo hi x y+ov lo hi y z:=by unfold ov;omega
theorem costK_adds {l:List Du} (h:Right l) (x y z:Int) (h1:x≤y) (h2:y≤z) (k:Nat) (hk:k≤l.length):costK l x z k=costK l x y k+costK l y z k:=by
 induction k with
 | zero=>rfl
 | succ k ih=>
  have h3:=ih (by omega);have h4:=h.rise k (by omega);unfold costK;rw [h3,ov_adds _ _ x y z (by omega) h1 h2,Int.add_mul];omega
theorem cost_adds {l:List Du} (h:Right l) (x y z:Int) (h1:x≤y) (h2:y≤z):cost l x z=cost l x y+cost l y z:=costK_adds h x y z h1 h2 _ (Nat.le_refl _)
theorem costK_mono {l:List Du} (h:Right l) (x y:Int) (j k:Nat) (hjk:j≤k) (hk:k≤l.length):costK l x y j≤costK l x y k:=by
 induction k with
 | zero=>
  have:j=0:=by omega
  subst this;exact Int.le_refl _
 | succ k ih=>
  by_cases e:j=k+1
  ·subst e;exact Int.le_refl _
  ·have h1:=ih (by omega) (by omega);have h2:=Int.mul_nonneg (ov_pos (low l k) (l.getD k du0).a x y) (show 0≤(l.getD k du0).b by have:=(h.price k (by omega)).1;omega);rw [costK_next];omega
theorem low_mono {l:List Du} (h:Right l) (j k:Nat) (hjk:j≤k) (hk:k≤l.length):low l j≤low l k:=by
 induction k with
 | zero=>
  have:j=0:=by omega
  subst this;exact Int.le_refl _
 | succ k ih=>
  by_cases e:j=k+1
  ·subst e;exact Int.le_refl _
  ·have h1:=ih (by omega) (by omega);have h2:=h.rise k (by omega);rw [low_next];omega
def billK (l:List Du) (x y:Int):Nat→List Tr
 | 0=>[]
 | k+1=>billK l x y k++(if 0<ov (low l k) (l.getD k du0).a x y then [⟨ov (low l k) (l.getD k du0).a x y,(l.getD k du0).b,ov (low l k) (l.getD k du0).a x y*(l.getD k du0).b⟩] else [])
theorem bill_len (l:List Du) (x y:Int) (k:Nat):(billK l x y k).length≤k:=by
 induction k with
 | zero=>exact Nat.le_refl _
 | succ k ih=>unfold billK;rw [List.length_append];split <;> simp <;> omega
def sumA:List Tr→Int
 | []=>0
 | t :: l=>t.a+sumA l
def sumC:List Tr→Int
 | []=>0
 | t :: l=>t.c+sumC l
theorem sumA_app (l m:List Tr):sumA (l++m)=sumA l+sumA m:=by
 induction l with
 | nil=>simp [sumA]
 | cons t l ih=>simp only [List.cons_append,sumA,ih];omega
theorem sumC_app (l m:List Tr):sumC (l++m)=sumC l+sumC m:=by
 induction l with
 | nil=>simp [sumC]
 | cons t l ih=>simp only [List.cons_append,sumC,ih];omega
theorem bill_sums (l:List Du) (x y:Int) (k:Nat):sumA (billK l x y k)=manyK l x y k∧sumC (billK l x y k)=costK l x y k:=by
 induction k with
 | zero=>exact ⟨rfl,rfl⟩
 | succ k ih=>
  have h0:=ov_pos (low l k) (l.getD k du0).a x y;unfold billK manyK costK;rw [sumA_app,sumC_app,ih.1,ih.2];by_cases h:0<ov (low l k) (l.getD k du0).a x y
  ·rw [if_pos h];simp [sumA,sumC]
  ·have e:ov (low l k) (l.getD k du0).a x y=0:=by omega
   rw [if_neg h,e];simp [sumA,sumC]
def LineOk (t:Tr):Prop:=1≤t.a∧t.a≤10000000∧1≤t.b∧t.b≤100000∧t.c=t.a*t.b
def Top (x:Int):Int:=min 2097151 (10000000 - x)
def MostOf (l:List Du) (x m u:Int):Prop:=(0≤u∧u≤Top x)∧cost l x (x+u)≤m∧(u=Top x∨m<cost l x (x+(u+1)))
theorem MostOf.one {l:List Du} {x m u v:Int} (h:Right l) (hx:0≤x) (a:MostOf l x m u) (b:MostOf l x m v):u=v:=by
 obtain ⟨⟨a1,a2⟩,a3,a4⟩:=a;obtain ⟨⟨b1,b2⟩,b3,b4⟩:=b;rcases Int.lt_trichotomy u v with c | c | c
 ·rcases a4 with a4 | a4
  ·omega
  ·have h1:=cost_adds h x (x+(u+1)) (x+v) (by omega) (by omega);have h2:=cost_bd h (x+(u+1)) (x+v) (by omega) (by omega) (by unfold Top at b2;omega);omega
 ·exact c
 ·rcases b4 with b4 | b4
  ·omega
  ·have h1:=cost_adds h x (x+(v+1)) (x+u) (by omega) (by omega);have h2:=cost_bd h (x+(v+1)) (x+u) (by omega) (by omega) (by unfold Top at a2;omega);omega
def MayMost (x m:Int):Prop:=(0≤x∧x≤10000000)∧0≤m∧m≤1000000000000
def MostIs (l:List Du) (x m:Int) (u p e:Int):Prop:=(¬ Right l∧FaultIs l e∧u=0∧p=0)∨(Right l∧¬ MayMost x m∧e=2∧u=0∧p=0)∨(Right l∧MayMost x m∧e=0∧MostOf l x m u∧p=cost l x (x+u))
theorem prod_bd {o p:Int} (h0:0≤o) (h1:o≤10000000) (h2:1≤p) (h3:p≤100000):0≤o*p∧o*p≤1000000000000:=by
 have a:=Int.mul_nonneg h0 (show 0≤p by omega);have b:o*p≤10000000*100000:=Int.le_trans (Int.mul_le_mul_of_nonneg_left h3 h0) (Int.mul_le_mul_of_nonneg_right h1 (by decide));exact ⟨a,by omega⟩
theorem ov_le (lo hi x y:Int) (h0:0≤lo) (h1:hi≤10000000):ov lo hi x y≤10000000:=by unfold ov;omega
theorem billK_yes (l:List Du) (x y:Int) (k:Nat) (h:0<ov (low l k) (l.getD k du0).a x y):billK l x y (k+1)=billK l x y k++[⟨ov (low l k) (l.getD k du0).a x y,(l.getD k du0).b,ov (low l k) (l.getD k du0).a x y*(l.getD k du0).b⟩]:=by
 unfold billK;rw [if_pos h];cases k <;> rfl
theorem billK_no (l:List Du) (x y:Int) (k:Nat) (h:¬ 0<ov (low l k) (l.getD k du0).a x y):billK l x y (k+1)=billK l x y k:=by
 conv=>lhs;unfold billK
 rw [if_neg h,List.append_nil]
end tar
namespace deb
open tar
def Ok1 (d:Du):Prop:=(0≤d.a∧d.a≤1000000000)∧0≤d.b∧d.b≤10000
def DFits (l:List Du):Prop:=∀ i,i<l.length→Ok1 (l.getD i du0)
def Mays (l:List Du):Prop:=l.length≤8∧DFits l
def FaultIs (l:List Du) (e:Int):Prop:=(¬ l.length≤8∧e=1)∨(l.length≤8∧¬ DFits l∧e=2)∨(Mays l∧e=0)
theorem FaultIs.ok {l:List Du} {e:Int} (h:FaultIs l e):e=0↔Mays l:=by
 rcases h with ⟨a,rfl⟩ | ⟨a,b,rfl⟩ | ⟨h,rfl⟩
 ·exact ⟨fun h=>absurd h (by decide),fun h=>absurd h.1 a⟩
 ·exact ⟨fun h=>absurd h (by decide),fun h=>absurd h.2 b⟩
 ·exact ⟨fun _=>h,fun _=>rfl⟩
theorem fits_mem {l:List Du} (h:∀ d∈l,Ok1 d):DFits l:=fun i hi=>by
 have e:l.getD i du0=l[i]:=by simp [List.getD,List.getElem?_eq_getElem hi]
 rw [e];exact h _ (List.getElem_mem hi)
theorem mem_fits {l:List Du} (h:DFits l):∀ d∈l,Ok1 d:=fun d hd=>by
 obtain ⟨i,hi,rfl⟩:=List.getElem_of_mem hd;have e:l.getD i du0=l[i]:=by simp [List.getD,List.getElem?_eq_getElem hi]
 rw [← e];exact h i hi
def sumK (l:List Du):Nat→Int
 | 0=>0
 | k+1=>sumK l k+(l.getD k du0).a
theorem sumK_next (l:List Du) (k:Nat):sumK l (k+1)=sumK l k+(l.getD k du0).a:=rfl
def sumD:List Du→Int
 | []=>0
 | d :: l=>d.a+sumD l
theorem sumD_app (l m:List Du):sumD (l++m)=sumD l+sumD m:=by
 induction l with
 | nil=>simp [sumD]
 | cons t l ih=>simp only [List.cons_append,sumD,ih];omega
theorem sumK_take (l:List Du) (k:Nat) (hk:k≤l.length):sumK l k=sumD (l.take k):=by
 induction k with
 | zero=>simp [sumK,sumD]
 | succ k ih=>rw [sumK_next,take_one l k (by omega),sumD_app,ih (by omega)];simp [sumD]
theorem sumK_all (l:List Du):sumK l l.length=sumD l:=by rw [sumK_take l _ (Nat.le_refl _),List.take_length]
theorem sumD_pos {l:List Du} (h:∀ d∈l,Ok1 d):0≤sumD l∧sumD l≤(l.length:Int)*1000000000:=by
 induction l with
 | nil=>exact ⟨Int.le_refl _,Int.le_refl _⟩
 | cons t l ih=>
  have h1:=ih fun x hx=>h x (List.mem_cons_of_mem _ hx);have h2:=h t List.mem_cons_self;obtain ⟨⟨a1,a2⟩,_⟩:=h2;refine ⟨by show 0≤t.a+sumD l;omega,?_⟩;show t.a+sumD l≤((l.length+1:Nat):Int)*1000000000;omega
theorem sumK_bd {l:List Du} (h:Mays l) (k:Nat) (hk:k≤l.length):0≤sumK l k∧sumK l k≤8000000000:=by
 rw [sumK_take l k hk];have h1:=sumD_pos (l:=l.take k) fun d hd=>mem_fits h.2 d (List.mem_of_mem_take hd);have h2:(l.take k).length≤8:=by rw [List.length_take];have:=h.1;omega
 exact ⟨h1.1,by omega⟩
def OwedIs (l:List Du) (x e:Int):Prop:=FaultIs l e∧((e=0∧x=sumD l)∨(e≠0∧x=0))
def TMay (t bp:Int):Prop:=(0≤t∧t≤100000000)∧0≤bp∧bp≤10000
def ShareIs (t bp s e:Int):Prop:=(TMay t bp∧s=t*bp / 10000∧e=0)∨(¬ TMay t bp∧s=0∧e=2)
theorem share_bd {t bp:Int} (h:TMay t bp):0≤t*bp / 10000∧t*bp / 10000≤100000000:=by
 obtain ⟨⟨a1,a2⟩,b1,b2⟩:=h;have h1:=Int.mul_nonneg a1 b1;have h2:t*bp≤t*10000:=Int.mul_le_mul_of_nonneg_left b2 a1;generalize t*bp=p at *;omega
def left (a end_ s:Int):Int:=min a (end_ - s)
def recK (l:List Du) (s:Int):Nat→List Du
 | 0=>[]
 | k+1=>recK l s k++(if 0<left (l.getD k du0).a (sumK l (k+1)) s then [⟨left (l.getD k du0).a (sumK l (k+1)) s,(l.getD k du0).b⟩] else [])
theorem recK_yes (l:List Du) (s:Int) (k:Nat) (h:0<left (l.getD k du0).a (sumK l (k+1)) s):recK l s (k+1)=recK l s k++[⟨left (l.getD k du0).a (sumK l (k+1)) s,(l.getD k du0).b⟩]:=by
 show recK l s k++_=_;rw [if_pos h]
theorem recK_no (l:List Du) (s:Int) (k:Nat) (h:¬ 0<left (l.getD k du0).a (sumK l (k+1)) s):recK l s (k+1)=recK l s k:=by
 show recK l s k++_=_;rw [if_neg h,List.append_nil]
theorem recK_len (l:List Du) (s:Int) (k:Nat):(recK l s k).length≤k:=by
 induction k with
 | zero=>exact Nat.le_refl _
 | succ k ih=>
  by_cases h:0<left (l.getD k du0).a (sumK l (k+1)) s
  ·rw [recK_yes l s k h,List.length_append];simp;omega
  ·rw [recK_no l s k h];omega
theorem recK_ok {l:List Du} (h:Mays l) (s:Int) (k:Nat) (hk:k≤l.length):∀ d∈recK l s k,Ok1 d∧1≤d.a:=by
 induction k with
 | zero=>intro d hd;cases hd
 | succ k ih=>
  intro d hd;by_cases hp:0<left (l.getD k du0).a (sumK l (k+1)) s
  ·rw [recK_yes l s k hp] at hd;rcases List.mem_append.1 hd with hd | hd
   ·exact ih (by omega) d hd
   ·have e:=List.mem_singleton.1 hd;subst e;have h1:=h.2 k (by omega);have h2:left (l.getD k du0).a (sumK l (k+1)) s≤(l.getD k du0).a:=by unfold left;omega
    have h3:=h1.1.2;exact ⟨⟨⟨by show 0≤left _ _ _;omega,by show left _ _ _≤_;omega⟩,h1.2⟩,by show 1≤left _ _ _;omega⟩
  ·rw [recK_no l s k hp] at hd;exact ih (by omega) d hd
def RecIs (l:List Du) (t bp:Int) (z:List Du) (p e:Int):Prop:=
 (¬ Mays l∧FaultIs l e∧z=[]∧p=0)∨(Mays l∧¬ TMay t bp∧e=2∧z=[]∧p=0)∨(Mays l∧TMay t bp∧e=0∧z=recK l (t*bp / 10000) l.length∧p=min (t*bp / 10000) (sumD l))
theorem RecIs.got {l:List Du} {t bp p e:Int} {z:List Du} (h:RecIs l t bp z p e) (hm:Mays l) (ht:TMay t bp):e=0∧z=recK l (t*bp / 10000) l.length∧p=min (t*bp / 10000) (sumD l):=by
 rcases h with ⟨a,_⟩ | ⟨_,b,_⟩ | ⟨_,_,c⟩
 ·exact absurd hm a
 ·exact absurd ht b
 ·exact c
def grow (b x:Int):Int:=min 1000000000 (x+x*b / 10000)
def growN (b:Int):Nat→Int→Int
 | 0,x=>x
 | k+1,x=>grow b (growN b k x)
theorem grow_bd {b x:Int} (hb:0≤b) (hb2:b≤10000) (hx:0≤x) (hx2:x≤1000000000):x≤grow b x∧grow b x≤1000000000:=by
 have h1:=Int.mul_nonneg hx hb;unfold grow;generalize x*b=p at *;omega
theorem growN_bd {b x:Int} (hb:0≤b) (hb2:b≤10000) (hx:0≤x) (hx2:x≤1000000000) (k:Nat):x≤growN b k x∧growN b k x≤1000000000:=by
 induction k with
 | zero=>exact ⟨Int.le_refl _,hx2⟩
 | succ k ih=>
  have:=grow_bd hb hb2 (show 0≤growN b k x by omega) ih.2;exact ⟨by show x≤grow b _;omega,this.2⟩
theorem growN_add (b:Int) (j k:Nat) (x:Int):growN b k (growN b j x)=growN b (j+k) x:=by
 induction k with
 | zero=>rfl
 | succ k ih=>show grow b _=grow b _;rw [ih];rfl
theorem growN_still {b x:Int} (h:grow b x=x) (k:Nat):growN b k x=x:=by
 induction k with
 | zero=>rfl
 | succ k ih=>show grow b (growN b k x)=x;rw [ih,h]
def ageAll (l:List Du) (m:Nat):List Du:=l.map fun d=>⟨growN d.b m d.a,d.b⟩
theorem ageAll_len (l:List Du) (m:Nat):(ageAll l m).length=l.length:=List.length_map _
theorem ageAll_at (l:List Du) (m:Nat) (i:Nat) (hi:i<l.length):(ageAll l m).getD i du0=⟨growN (l.getD i du0).b m (l.getD i du0).a,(l.getD i du0).b⟩:=by
 unfold ageAll;simp [List.getD,List.getElem?_eq_getElem hi]
theorem ageAll_mays {l:List Du} (h:Mays l) (m:Nat):Mays (ageAll l m):=by
 refine ⟨by rw [ageAll_len];exact h.1,fun i hi=>?_⟩;rw [ageAll_len] at hi;rw [ageAll_at l m i hi];obtain ⟨⟨a1,a2⟩,b1,b2⟩:=h.2 i hi;have:=growN_bd b1 b2 a1 a2 m;exact ⟨⟨by show 0≤growN _ _ _;omega,this.2⟩,b1,b2⟩
theorem ageAll_take (l:List Du) (m k:Nat) (hk:k<l.length):ageAll (l.take (k+1)) m=ageAll (l.take k) m++[⟨growN (l.getD k du0).b m (l.getD k du0).a,(l.getD k du0).b⟩]:=by
 rw [take_one l k hk];unfold ageAll;rw [List.map_append];rfl
def AgeIs (l:List Du) (m:Int) (z:List Du) (e:Int):Prop:=(¬ Mays l∧FaultIs l e∧z=[])∨(Mays l∧¬ (0≤m∧m≤2400)∧e=2∧z=[])∨(Mays l∧(0≤m∧m≤2400)∧e=0∧z=ageAll l m.toNat)
theorem AgeIs.got {l:List Du} {m e:Int} {z:List Du} (h:AgeIs l m z e) (hm:Mays l) (ht:0≤m∧m≤2400):e=0∧z=ageAll l m.toNat:=by
 rcases h with ⟨a,_⟩ | ⟨_,b,_⟩ | ⟨_,_,c⟩
 ·exact absurd hm a
 ·exact absurd ht b
 ·exact c
end deb
namespace acc
open tar (Du du0 Right MostOf cost)
open deb (sumD recK ageAll)
structure Ac where
 me:Int
 rv:Int
 nx:Int
 mo:Int
 bo:Int
 fr:Int
 ds:List Du
def ac0:Ac:=⟨0,0,0,0,0,0,[]⟩
structure Tm where
 ts:List Du
 ff:Int
 fb:Int
 db:Int
 al:Int
structure Bi where
 id:Int
 te:Int
 de:Int
 fe:Int
 pr:Int
 ch:Int
 un:Int
def bi0:Bi:=⟨0,0,0,0,0,0,0⟩
def AMay (a:Ac):Prop:=deb.Mays a.ds∧(0≤a.me∧a.me≤49)∧(0≤a.rv∧a.rv≤15)∧(1≤a.nx∧a.nx≤1048576)∧(0≤a.mo∧a.mo≤2399)∧(0≤a.bo∧a.bo≤10000000)∧-1≤a.fr∧a.fr≤a.mo
def TOk (t:Tm):Prop:=(0≤t.ff∧t.ff≤100000)∧(0≤t.fb∧t.fb≤10000)∧(0≤t.db∧t.db≤10000)∧0≤t.al∧t.al≤2097151
def TRight (t:Tm):Prop:=Right t.ts∧TOk t
def TFault (t:Tm) (e:Int):Prop:=(¬ Right t.ts∧tar.FaultIs t.ts e)∨(Right t.ts∧¬ TOk t∧e=2)∨(TRight t∧e=0)
theorem TFault.one {t:Tm} {e f:Int} (h:TFault t e) (h':TFault t f):e=f:=by
 rcases h with ⟨a,b⟩ | ⟨a,b,rfl⟩ | ⟨⟨a,b⟩,rfl⟩ <;> rcases h' with ⟨a',b'⟩ | ⟨a',b',rfl⟩ | ⟨⟨a',b'⟩,rfl⟩ <;> first | rfl | exact b.one b' | contradiction
theorem TFault.ok {t:Tm} {e:Int} (h:TFault t e):e=0↔TRight t:=by
 rcases h with ⟨a,b⟩ | ⟨a,b,rfl⟩ | ⟨h,rfl⟩
 ·exact ⟨fun h=>absurd (b.ok.1 h) a,fun h=>absurd h.1 a⟩
 ·exact ⟨fun h=>absurd h (by decide),fun h=>absurd h.2 b⟩
 ·exact ⟨fun _=>h,fun _=>rfl⟩
def OpenIs (m:Int) (b:Ac) (e:Int):Prop:=((0≤m∧m≤49)∧b=⟨m,0,1,0,0,-1,[]⟩∧e=0)∨(¬ (0≤m∧m≤49)∧b=ac0∧e=2)
theorem OpenIs.one {m e e':Int} {b b':Ac} (h:OpenIs m b e) (h':OpenIs m b' e'):b=b'∧e=e':=by
 rcases h with ⟨a,rfl,rfl⟩ | ⟨a,rfl,rfl⟩ <;> rcases h' with ⟨a',rfl,rfl⟩ | ⟨a',rfl,rfl⟩ <;> first | exact ⟨rfl,rfl⟩ | contradiction
def rolled (a:Ac) (m:Int):Ac:=if m=a.mo then a else ⟨a.me,a.rv,a.nx,m,0,a.fr,ageAll a.ds (m - a.mo).toNat⟩
def RMay (a:Ac) (m:Int):Prop:=(0≤m∧m≤2399)∧a.mo≤m
def RErr (a:Ac) (m e:Int):Prop:=(¬ (0≤m∧m≤2399)∧e=2)∨((0≤m∧m≤2399)∧m<a.mo∧e=23)
theorem RErr.one {a:Ac} {m e f:Int} (h:RErr a m e) (h':RErr a m f):e=f:=by
 rcases h with ⟨p,rfl⟩ | ⟨p,q,rfl⟩ <;> rcases h' with ⟨p',rfl⟩ | ⟨p',q',rfl⟩ <;> first | rfl | contradiction
theorem RErr.ne {a:Ac} {m e:Int} (h:RErr a m e):e≠0:=by rcases h with ⟨_,rfl⟩ | ⟨_,_,rfl⟩ <;> decide
theorem rolled_may {a:Ac} {m:Int} (h:AMay a) (hr:RMay a m):AMay (rolled a m):=by
 obtain ⟨h1,h2,h3,h4,h5,h6,h7⟩:=h;obtain ⟨⟨r1,r2⟩,r3⟩:=hr;unfold rolled;by_cases e:m=a.mo
 ·rw [if_pos e];exact ⟨h1,h2,h3,h4,h5,h6,h7⟩
 ·rw [if_neg e];exact ⟨deb.ageAll_mays h1 _,h2,h3,h4,⟨r1,r2⟩,⟨(by decide:(0:Int)≤0),(by decide:(0:Int)≤10000000)⟩,h7.1,by show a.fr≤m;omega⟩
theorem rolled_same (a:Ac) (m:Int):(rolled a m).me=a.me∧(rolled a m).rv=a.rv∧(rolled a m).nx=a.nx∧(rolled a m).mo=m∧(rolled a m).fr=a.fr:=by
 unfold rolled;by_cases e:m=a.mo
 ·rw [if_pos e];exact ⟨rfl,rfl,rfl,e.symm,rfl⟩
 ·rw [if_neg e];exact ⟨rfl,rfl,rfl,rfl,rfl⟩
def share (t:Tm) (te:Int):Int:=te*t.db / 10000
def paid (a:Ac) (t:Tm) (te m:Int):Int:=min (share t te) (sumD (rolled a m).ds)
def fee (t:Tm) (te:Int):Int:=t.ff+te*t.fb / 10000
def rest (a:Ac) (t:Tm) (te m:Int):Int:=te - paid a t te m - fee t te
def Ready (a:Ac) (t:Tm) (m:Int):Prop:=AMay a∧TRight t∧RMay a m
def Refused (a:Ac) (t:Tm) (m e:Int):Prop:=(¬ AMay a∧e=5)∨(AMay a∧¬ TRight t∧TFault t e)∨(AMay a∧TRight t∧¬ RMay a m∧RErr a m e)
theorem Refused.one {a:Ac} {t:Tm} {m e f:Int} (h:Refused a t m e) (h':Refused a t m f):e=f:=by
 rcases h with ⟨p,rfl⟩ | ⟨p,q,r⟩ | ⟨p,q,r,s⟩ <;> rcases h' with ⟨p',rfl⟩ | ⟨p',q',r'⟩ | ⟨p',q',r',s'⟩ <;> first | rfl | exact r.one r' | exact s.one s' | contradiction
theorem Refused.not {a:Ac} {t:Tm} {m e:Int} (h:Refused a t m e):¬ Ready a t m:=fun hr=>by
 rcases h with ⟨p,_⟩ | ⟨_,q,_⟩ | ⟨_,_,r,_⟩
 ·exact p hr.1
 ·exact q hr.2.1
 ·exact r hr.2.2
def TenOk (a:Ac) (t:Tm) (te m:Int):Prop:=(1≤te∧te≤100000000)∧0≤rest a t te m∧¬ MostOf t.ts (rolled a m).bo (rest a t te m) 0
def sold (a:Ac) (t:Tm) (te m u:Int):Ac:=⟨a.me,a.rv,a.nx+1,m,(rolled a m).bo+u,a.fr,recK (rolled a m).ds (share t te) (rolled a m).ds.length⟩
def bill (a:Ac) (t:Tm) (te m u:Int):Bi:=⟨a.nx,te,paid a t te m,fee t te,cost t.ts (rolled a m).bo ((rolled a m).bo+u),rest a t te m - cost t.ts (rolled a m).bo ((rolled a m).bo+u),u⟩
def SellIs (a:Ac) (t:Tm) (te m:Int) (b:Ac) (l:Bi) (e:Int):Prop:=
 (Refused a t m e∧b=ac0∧l=bi0)∨(Ready a t m∧¬ TenOk a t te m∧e=19∧b=ac0∧l=bi0)∨(Ready a t m∧TenOk a t te m∧¬ a.nx≤1048575∧e=20∧b=ac0∧l=bi0)∨(Ready a t m∧TenOk a t te m∧a.nx≤1048575∧e=0∧∃ u,MostOf t.ts (rolled a m).bo (rest a t te m) u∧b=sold a t te m u∧l=bill a t te m u)
theorem SellIs.one {a:Ac} {t:Tm} {te m e e':Int} {b b':Ac} {l l':Bi} (h:SellIs a t te m b l e) (h':SellIs a t te m b' l' e'):b=b'∧l=l'∧e=e':=by
 rcases h with ⟨p,rfl,rfl⟩ | ⟨p,q,rfl,rfl,rfl⟩ | ⟨p,q,r,rfl,rfl,rfl⟩ | ⟨p,q,r,rfl,u,hu,rfl,rfl⟩ <;> rcases h' with ⟨p',rfl,rfl⟩ | ⟨p',q',rfl,rfl,rfl⟩ | ⟨p',q',r',rfl,rfl,rfl⟩ | ⟨p',q',r',rfl,u',hu',rfl,rfl⟩ <;> first | exact ⟨rfl,rfl,rfl⟩ | exact ⟨rfl,rfl,p.one p'⟩ | exact absurd p' p.not | exact absurd p p'.not | contradiction | skip
 obtain rfl:=hu.one p.2.1.1 (rolled_may p.1 p.2.2).2.2.2.2.2.1.1 hu';exact ⟨rfl,rfl,rfl⟩
def granted (a:Ac) (m:Int):Ac:=⟨a.me,a.rv,a.nx+1,m,(rolled a m).bo,m,(rolled a m).ds⟩
def GrantIs (a:Ac) (t:Tm) (m:Int) (b:Ac) (l:Bi) (e:Int):Prop:=
 (Refused a t m e∧b=ac0∧l=bi0)∨(Ready a t m∧t.al=0∧e=22∧b=ac0∧l=bi0)∨(Ready a t m∧¬ t.al=0∧a.fr=m∧e=21∧b=ac0∧l=bi0)∨(Ready a t m∧¬ t.al=0∧¬ a.fr=m∧¬ a.nx≤1048575∧e=20∧b=ac0∧l=bi0)∨(Ready a t m∧¬ t.al=0∧¬ a.fr=m∧a.nx≤1048575∧e=0∧b=granted a m∧l=⟨a.nx,0,0,0,0,0,t.al⟩)
theorem GrantIs.one {a:Ac} {t:Tm} {m e e':Int} {b b':Ac} {l l':Bi} (h:GrantIs a t m b l e) (h':GrantIs a t m b' l' e'):b=b'∧l=l'∧e=e':=by
 rcases h with ⟨p,rfl,rfl⟩ | ⟨p,q,rfl,rfl,rfl⟩ | ⟨p,q,r,rfl,rfl,rfl⟩ | ⟨p,q,r,s,rfl,rfl,rfl⟩ | ⟨p,q,r,s,rfl,rfl,rfl⟩ <;> rcases h' with ⟨p',rfl,rfl⟩ | ⟨p',q',rfl,rfl,rfl⟩ | ⟨p',q',r',rfl,rfl,rfl⟩ | ⟨p',q',r',s',rfl,rfl,rfl⟩ | ⟨p',q',r',s',rfl,rfl,rfl⟩ <;> first | exact ⟨rfl,rfl,rfl⟩ | exact ⟨rfl,rfl,p.one p'⟩ | exact absurd p' p.not | exact absurd p p'.not | contradiction
def OweIs (a:Ac) (d:Du) (b:Ac) (e:Int):Prop:=
 (¬ AMay a∧b=ac0∧e=5)∨(AMay a∧¬ ((1≤d.a∧d.a≤1000000000)∧0≤d.b∧d.b≤10000)∧b=ac0∧e=2)∨(AMay a∧((1≤d.a∧d.a≤1000000000)∧0≤d.b∧d.b≤10000)∧¬ a.ds.length<8∧b=ac0∧e=16)∨(AMay a∧((1≤d.a∧d.a≤1000000000)∧0≤d.b∧d.b≤10000)∧a.ds.length<8∧b=⟨a.me,a.rv,a.nx,a.mo,a.bo,a.fr,a.ds++[d]⟩∧e=0)
theorem OweIs.one {a:Ac} {d:Du} {e e':Int} {b b':Ac} (h:OweIs a d b e) (h':OweIs a d b' e'):b=b'∧e=e':=by
 rcases h with ⟨p,rfl,rfl⟩ | ⟨p,q,rfl,rfl⟩ | ⟨p,q,r,rfl,rfl⟩ | ⟨p,q,r,rfl,rfl⟩ <;> rcases h' with ⟨p',rfl,rfl⟩ | ⟨p',q',rfl,rfl⟩ | ⟨p',q',r',rfl,rfl⟩ | ⟨p',q',r',rfl,rfl⟩ <;> first | exact ⟨rfl,rfl⟩ | contradiction
def RekeyIs (a:Ac) (b:Ac) (l:Bi) (e:Int):Prop:=
 (¬ AMay a∧b=ac0∧l=bi0∧e=5)∨(AMay a∧¬ a.rv<15∧b=ac0∧l=bi0∧e=24)∨(AMay a∧a.rv<15∧¬ a.nx≤1048575∧b=ac0∧l=bi0∧e=20)∨(AMay a∧a.rv<15∧a.nx≤1048575∧b=⟨a.me,a.rv+1,a.nx+1,a.mo,a.bo,a.fr,a.ds⟩∧l=⟨a.nx,0,0,0,0,0,0⟩∧e=0)
theorem RekeyIs.one {a:Ac} {e e':Int} {b b':Ac} {l l':Bi} (h:RekeyIs a b l e) (h':RekeyIs a b' l' e'):b=b'∧l=l'∧e=e':=by
 rcases h with ⟨p,rfl,rfl,rfl⟩ | ⟨p,q,rfl,rfl,rfl⟩ | ⟨p,q,r,rfl,rfl,rfl⟩ | ⟨p,q,r,rfl,rfl,rfl⟩ <;> rcases h' with ⟨p',rfl,rfl,rfl⟩ | ⟨p',q',rfl,rfl,rfl⟩ | ⟨p',q',r',rfl,rfl,rfl⟩ | ⟨p',q',r',rfl,rfl,rfl⟩ <;> first | exact ⟨rfl,rfl,rfl⟩ | contradiction
end acc
namespace tar
open Go.RowKit
def RowD (w:World) (a:Option Addr) (len:Nat) (ls:List Du):Prop:=
 ls.length=len∧(len=0∨∃ b off,a=some ⟨b,off,none⟩∧∀ i,i<len→w.cell? ⟨b,off+i*2,none⟩=some (zI (ls.getD i du0).a)∧w.cell? ⟨b,off+i*2+1,none⟩=some (zI (ls.getD i du0).b))
theorem RowD.below {w w':World} {a:Option Addr} {n:Nat} {zs:List Du} (h:RowD w a n zs) (hb:Below w.heap.size w w'):RowD w' a n zs:=by
 refine ⟨h.1,?_⟩;rcases h.2 with h0 | ⟨b,off,rfl,hc⟩
 ·exact .inl h0
 ·refine .inr ⟨b,off,rfl,fun i hi=>?_⟩;have h1:=hc i hi;rw [hb.cell (p:=⟨b,off+i*2,none⟩) (World.block_lt_of_cell? w _ h1.1),hb.cell (p:=⟨b,off+i*2+1,none⟩) (World.block_lt_of_cell? w _ h1.2)];exact h1
theorem RowD.nil (w:World) (a:Option Addr):RowD w a 0 []:=⟨rfl,.inl rfl⟩
theorem RowD.at {w:World} {a:Option Addr} {n:Nat} {zs:List Du} (h:RowD w a n zs) (h0:0<n):∃ b off,a=some ⟨b,off,none⟩∧b<w.heap.size∧∀ i,i<n→w.cell? ⟨b,off+i*2,none⟩=some (zI (zs.getD i du0).a)∧w.cell? ⟨b,off+i*2+1,none⟩=some (zI (zs.getD i du0).b):=by
 rcases h.2 with h1 | ⟨b,off,rfl,hc⟩
 ·omega
 ·exact ⟨b,off,rfl,World.block_lt_of_cell? w _ (hc 0 h0).1,hc⟩
theorem rowD_of {w:World} {a:Addr} {m len:Nat} (hl:len≤m)
  (h:∀ j,j<m→∃ z0 z1,w.cell? (a.add (j*2))=some (zI z0)∧w.cell? (a.add (j*2+1))=some (zI z1)∧(Lit.int .i64 z0).wf=true∧(Lit.int .i64 z1).wf=true) :
  ∃ zs:List Du,RowD w (some a) len zs∧∀ x∈zs,(Lit.int .i64 x.a).wf=true∧(Lit.int .i64 x.b).wf=true:=by
 have h':∀ j,∃ e:Du,j<m→w.cell? (a.add (j*2))=some (zI e.a)∧w.cell? (a.add (j*2+1))=some (zI e.b)∧(Lit.int .i64 e.a).wf=true∧(Lit.int .i64 e.b).wf=true:=fun j=>by
  by_cases hj:j<m
  ·obtain ⟨z0,z1,hz⟩:=h j hj;exact ⟨⟨z0,z1⟩,fun _=>hz⟩
  ·exact ⟨du0,fun hh=>absurd hh hj⟩
 obtain ⟨f,hf⟩:∃ f:Nat→Du,∀ j,j<m→w.cell? (a.add (j*2))=some (zI (f j).a)∧w.cell? (a.add (j*2+1))=some (zI (f j).b)∧(Lit.int .i64 (f j).a).wf=true∧(Lit.int .i64 (f j).b).wf=true:=⟨fun j=>Classical.choose (h' j),fun j hj=>Classical.choose_spec (h' j) hj⟩
 clear h' h;refine ⟨(List.range len).map f,⟨by simp,?_⟩,fun x hx=>?_⟩
 ·by_cases h0:len=0
  ·exact .inl h0
  ·obtain ⟨b,off,spot⟩:=a;have hs:spot=none:=by simpa [Addr.add] using World.cell?_spot (hf 0 (by omega)).1
   subst hs;refine .inr ⟨b,off,rfl,fun i hi=>?_⟩;have h1:=hf i (by omega);rw [Addr.add_lit,Addr.add_lit,← Nat.add_assoc] at h1;have e:((List.range len).map f).getD i du0=f i:=by simp [List.getD,hi]
   rw [e];exact ⟨h1.1,h1.2.1⟩
 ·obtain ⟨j,hj,rfl⟩:=List.mem_map.1 hx;exact (hf j (by have:=List.mem_range.1 hj;omega)).2.2
def cellsD:List Du→List Value
 | []=>[]
 | e :: l=>zI e.a :: zI e.b :: cellsD l
theorem cellsD_len (l:List Du):(cellsD l).length=l.length*2:=by
 induction l with
 | nil=>rfl
 | cons e l ih=>simp [cellsD,ih];omega
theorem cellsD_app (l m:List Du):cellsD (l++m)=cellsD l++cellsD m:=by
 induction l with
 | nil=>rfl
 | cons e l ih=>simp [cellsD,ih]
theorem oneD (l:List Du):∀ u∈cellsD l,u.oneCell'=true:=by
 induction l with
 | nil=>intro u hu;cases hu
 | cons e l ih=>
  intro u hu;simp only [cellsD,List.mem_cons] at hu;rcases hu with rfl | rfl | hu
  ·rfl
  ·rfl
  ·exact ih u hu
theorem cellsD_at (l:List Du) (k:Nat) (hk:k<l.length):(cellsD l)[k*2]?=some (zI (l.getD k du0).a)∧(cellsD l)[k*2+1]?=some (zI (l.getD k du0).b):=by
 induction l generalizing k with
 | nil=>simp at hk
 | cons x l ih=>
  cases k with
  | zero=>exact ⟨rfl,rfl⟩
  | succ k=>
   rw [show (k+1)*2=k*2+1+1 by omega];have:=ih k (by simpa using hk);simpa [cellsD] using this
theorem cellsD_get {w:World} {b off len:Nat} {zs:List Du} (hz:zs.length=len) (hc:∀ i,i<len→w.cell? ⟨b,off+i*2,none⟩=some (zI (zs.getD i du0).a)∧w.cell? ⟨b,off+i*2+1,none⟩=some (zI (zs.getD i du0).b)) (j:Nat) (u:Value) (hu:(cellsD zs)[j]?=some u):w.cell? ⟨b,off+j,none⟩=some u:=by
 have hj:j<(cellsD zs).length:=by
  by_cases h:j<(cellsD zs).length
  ·exact h
  ·rw [List.getElem?_eq_none (by omega)] at hu;cases hu
 rw [cellsD_len] at hj;have h1:=cellsD_at zs (j / 2) (by omega);have h2:=hc (j / 2) (by omega);rcases Nat.mod_two_eq_zero_or_one j with e | e
 ·have e2:j / 2*2=j:=by omega
  rw [e2] at h1 h2;rw [h1.1] at hu;rw [h2.1];exact hu
 ·have e2:j / 2*2+1=j:=by omega
  rw [Nat.add_assoc,e2] at h2;rw [e2] at h1;rw [h1.2] at hu;rw [h2.2];exact hu
def Ld (T:TypeId) (w:World) (base:Nat) (v:Value) (l:List Du):Prop:=w.ownsRow base T 2 v l.length (cellsD l)
theorem Ld.zero (T:TypeId) (w:World) (base:Nat):Ld T w base (zS) []:=World.ownsRow_nil _ _ _ _
theorem Ld.alloc {T:TypeId} {w:World} {base:Nat} {v:Value} {l:List Du} (h:Ld T w base v l) (o:Obj):Ld T (w.alloc o) base v l:=World.ownsRow.alloc h o
theorem Ld.next {T:TypeId} {w w':World} {base:Nat} {v:Value} {l:List Du} (h:Ld T w base v l) (hb:Below w.heap.size w w'):Ld T w' base v l:=by
 refine ⟨h.1,?_⟩;rcases h.2 with hn | ⟨g,cap,cur,hv,hg,hc,rest⟩
 ·exact .inl hn
 ·exact .inr ⟨g,cap,cur,hv,hg,Blk.next hc hb,rest⟩
theorem Ld.row {T:TypeId} {w:World} {base:Nat} {v:Value} {l:List Du} (h:Ld T w base v l):∃ a cap,v = .slice a l.length cap∧RowD w a l.length l∧(a=none→cap=0)∧l.length≤cap∧(∀ x,a=some x→x.off=0∧x.spot=none):=by
 rcases h.2 with ⟨hv,hn⟩ | ⟨g,cap,cur,hv,_,_,h1,_⟩
 ·exact ⟨none,0,by rw [hn];exact hv,⟨rfl,.inl hn⟩,fun _=>rfl,by omega,fun x h=>by cases h⟩
 ·subst hv;refine ⟨_,cap,rfl,⟨rfl,.inr ⟨g,0,rfl,fun i hi=>?_⟩⟩,(fun h=>by cases h),h1,fun x h=>by cases h;exact ⟨rfl,rfl⟩⟩;have e1:=World.ownsRow.cellAt h (i*2) (by omega);have e2:=World.ownsRow.cellAt h (i*2+1) (by omega);rw [Nat.zero_add,e1,e2];exact cellsD_at l i hi
theorem own_far {w:World} {base n k:Nat} {t:TypeId} {v:Value} {l:List Value} (h:w.ownsRow base t n v k l) {G:Nat} (hG:G<base):some G≠v.ownBlock:=by
 intro e;have:=(World.ownsRow.lt h G e.symm).1;omega
theorem own_bel {w0 w w':World} {base B n k:Nat} {t:TypeId} {v:Value} {l:List Value} (h:w.ownsRow base t n v k l) (hg:w.grownBy w' v.ownBlock) (hb:Below B w0 w) (hB:B≤base) (hw:B≤w.heap.size):Below B w0 w':=by
 refine ⟨hg.os.trans hb.os,hg.tape.trans hb.tape,hg.output.trans hb.output,Nat.le_trans hb.size hg.size,fun k hk=>?_⟩;rw [← hb.block k hk];exact hg.block k (by omega) (own_far h (by omega))
theorem bel_drewN {B:Nat} {w w':World} (h:Below B w w') (n:Nat):Below B w (w'.drewN n):=⟨h.os,h.tape,h.output,h.size,h.block⟩
structure PairT (P:Program) (T S:TypeId):Prop where
 info:(P.info? T).map (fun i=>(i.zero,i.size,i.bytes))=some (some (.agg #[zI 0,zI 0]),2,16)
 under:P.underlying S=some (.slice T)
theorem wp_pair {P:Program} {T S:TypeId} (hP:PairT P T S) {w:World} {ops:Array Oper} {rest:List Oper} {o:Oper} {a:Act} {Q:Exit→Act→World→Prop} (hgd:o.guard=none) (s x:Operand)
  (ho:o.op = .call { callee:= .builtin .append,args:=#[s,x],argTypes:=#[S,S] })
  (base G:Nat) (v:Value) (l:List Du) (r:Du) (hs:a.eval s=v) (hx:a.eval x = .slice (some ⟨G,0,none⟩) 1 1) (hv:Ld T w base v l) (hu:w.cell? ⟨G,0,none⟩=some (zI r.a)∧w.cell? ⟨G,1,none⟩=some (zI r.b)) (hn:l.length≤1000000) (hbase:base≤w.heap.size)
  (h:∀ v' w',Ld T w' base v' (l++[r])→w.grownBy w' v.ownBlock→wpList P ops Q rest (a.put o.dst v') w'):wpList P ops Q (o :: rest) a w:=by
 obtain ⟨i0,hi,hz0,hz1,hz2⟩:=info_parts hP.info;refine wpList_append_own w hgd s x S ho base T i0 (.agg #[zI 0,zI 0]) 2 16 hP.under hi hz0 hz1 hz2 rfl (by decide) v l.length (cellsD l) hs hv ⟨G,0,none⟩ 1 1 (cellsD [r]) hx rfl ?_ (oneD [r]) (by unfold maxLen;omega) (by omega) hbase ?_
 ·intro j u hj
  match j,hj with
  | 0,hj=>simp [cellsD] at hj;subst hj;simpa [Addr.add] using hu.1
  | 1,hj=>simp [cellsD] at hj;subst hj;simpa [Addr.add] using hu.2
  | j+2,hj=>simp [cellsD] at hj
 intro v' w' h1 h2 _;refine h v' w' ?_ h2;unfold Ld;rw [List.length_append,cellsD_app];exact h1
theorem step_pair {P:Program} {T S:TypeId} (hP:PairT P T S) {w:World} {ops:Array Oper} {o:Oper} {a:Act} {K:Act→World→Prop} {Q:Exit→Act→World→Prop} {E:Prop} (hgd:o.guard=none) (s x:Operand)
  (ho:o.op = .call { callee:= .builtin .append,args:=#[s,x],argTypes:=#[S,S] })
  (base G:Nat) (v:Value) (l:List Du) (r:Du) (hs:a.eval s=v) (hx:a.eval x = .slice (some ⟨G,0,none⟩) 1 1) (hv:Ld T w base v l) (hu:w.cell? ⟨G,0,none⟩=some (zI r.a)∧w.cell? ⟨G,1,none⟩=some (zI r.b)) (hn:l.length≤1000000) (hbase:base≤w.heap.size)
  (h:∀ v' w',Ld T w' base v' (l++[r])→w.grownBy w' v.ownBlock→K (a.put o.dst v') w'):if Region.wanted o (yielded ops a.tmps)=true then Oper.wp P o a w K Q else E:=by
 have hw:Region.wanted o (yielded ops a.tmps)=true:=by simp [Region.wanted,hgd]
 rw [if_pos hw];obtain ⟨i0,hi,hz0,hz1,hz2⟩:=info_parts hP.info
 obtain ⟨v',w',hr,h2,h3,_⟩:=run_append_own (P:=P) w base S o.type T i0 (.agg #[zI 0,zI 0]) 2 16 hP.under hi hz0 hz1 hz2 rfl (by decide) v l.length (cellsD l) hv ⟨G,0,none⟩ 1 1 (cellsD [r]) rfl (by
  intro j u hj
  match j,hj with
  | 0,hj=>simp [cellsD] at hj;subst hj;simpa [Addr.add] using hu.1
  | 1,hj=>simp [cellsD] at hj;subst hj;simpa [Addr.add] using hu.2
  | j+2,hj=>simp [cellsD] at hj) (oneD [r]) (by unfold maxLen;omega) (by omega) hbase
 unfold Oper.wp execOp;simp only [ho,resolve,invoke,builtin,Sem.run_bind,Sem.run_pure,Result.andThen_ok,List.map_toArray,List.map_cons,List.map_nil,hs,hx,hr];refine h v' w' ?_ h3;unfold Ld;rw [List.length_append,cellsD_app];exact h2
theorem wp_pairs {P:Program} {T S:TypeId} (hP:PairT P T S) {w:World} {ops:Array Oper} {rest:List Oper} {o:Oper} {a:Act} {Q:Exit→Act→World→Prop} (hgd:o.guard=none) (s x:Operand)
  (ho:o.op = .call { callee:= .builtin .append,args:=#[s,x],argTypes:=#[S,S] })
  (base:Nat) (A:Addr) (len cap:Nat) (zs:List Du) (hs:a.eval s=zS) (hx:a.eval x = .slice (some A) len cap) (hr:RowD w (some A) len zs) (hl:len*16≤140737488351232) (hbase:base≤w.heap.size)
  (h:∀ v' w',Ld T w' base v' zs→w.grownBy w' none→wpList P ops Q rest (a.put o.dst v') w'):wpList P ops Q (o :: rest) a w:=by
 obtain ⟨i0,hi,hz0,hz1,hz2⟩:=info_parts hP.info;obtain ⟨hz,hr⟩:=hr;refine wpList_append_own w hgd s x S ho base T i0 (.agg #[zI 0,zI 0]) 2 16 hP.under hi hz0 hz1 hz2 rfl (by decide) _ _ _ hs (World.ownsRow_nil _ _ _ _) A len cap (cellsD zs) hx ?_ ?_ (oneD zs) (by unfold maxLen;omega) (by omega) hbase ?_
 ·rw [cellsD_len,hz]
 ·intro j u hu;rcases hr with h | ⟨b,off,h,hc⟩
  ·rw [List.getElem?_eq_none (by rw [cellsD_len];omega)] at hu;cases hu
  ·obtain rfl:=Option.some.inj h;rw [Addr.add_lit];exact cellsD_get hz hc j u hu
 ·intro v' w' h1 h2 _;refine h v' w' ?_ (by simpa [Value.ownBlock] using h2);show w'.ownsRow _ _ _ _ _ _;rw [hz];simpa using h1
def RowL (w:World) (a:Option Addr) (len:Nat) (ls:List Tr):Prop:=
 ls.length=len∧(len=0∨∃ b off,a=some ⟨b,off,none⟩∧∀ i,i<len→w.cell? ⟨b,off+i*3,none⟩=some (zI (ls.getD i tr0).a)∧w.cell? ⟨b,off+i*3+1,none⟩=some (zI (ls.getD i tr0).b)∧w.cell? ⟨b,off+i*3+2,none⟩=some (zI (ls.getD i tr0).c))
theorem RowL.at {w:World} {a:Option Addr} {n:Nat} {zs:List Tr} (h:RowL w a n zs) (h0:0<n):∃ b off,a=some ⟨b,off,none⟩∧b<w.heap.size∧∀ i,i<n→w.cell? ⟨b,off+i*3,none⟩=some (zI (zs.getD i tr0).a)∧w.cell? ⟨b,off+i*3+1,none⟩=some (zI (zs.getD i tr0).b)∧w.cell? ⟨b,off+i*3+2,none⟩=some (zI (zs.getD i tr0).c):=by
 rcases h.2 with h1 | ⟨b,off,rfl,hc⟩
 ·omega
 ·exact ⟨b,off,rfl,World.block_lt_of_cell? w _ (hc 0 h0).1,hc⟩
def ErrPost (w:World) (R:Int→Prop) (e:Ending) (w':World):Prop:=∃ f,e = .returned (zI f)∧R f∧Below w.heap.size w w'
def TwoPost (w:World) (R:Int→Int→Prop) (e:Ending) (w':World):Prop:=∃ p f,e = .returned (.tuple #[zI p,zI f])∧R p f∧Below w.heap.size w w'
def ThreePost (w:World) (R:Int→Int→Int→Prop) (e:Ending) (w':World):Prop:=∃ u p f,e = .returned (.tuple #[zI u,zI p,zI f])∧R u p f∧Below w.heap.size w w'
structure Came (w:World) (a:Option Addr) (len cap:Nat) (ls:List Du):Prop where
 row:RowD w a len ls
 nil:a=none→cap=0
 room:len≤cap
 bytes:len*16≤140737488351232
 wf:∀ x∈ls,(Lit.int .i64 x.a).wf=true∧(Lit.int .i64 x.b).wf=true
theorem Came.below {w w':World} {a:Option Addr} {len cap:Nat} {ls:List Du} (h:Came w a len cap ls) (hb:Below w.heap.size w w'):Came w' a len cap ls:=⟨h.row.below hb,h.nil,h.room,h.bytes,h.wf⟩
theorem Came.most {w:World} {a:Option Addr} {len cap:Nat} {ls:List Du} (h:Came w a len cap ls):len≤maxLen:=by have:=h.bytes;unfold maxLen;omega
theorem Ld.came {T:TypeId} {w:World} {base:Nat} {v:Value} {l:List Du} (h:Ld T w base v l) (hl:l.length*16≤140737488351232) (hw:∀ x∈l,(Lit.int .i64 x.a).wf=true∧(Lit.int .i64 x.b).wf=true):∃ a cap,v = .slice a l.length cap∧Came w a l.length cap l:=by
 obtain ⟨a,cap,hv,hr,hn,hc,_⟩:=h.row;exact ⟨a,cap,hv,hr,hn,hc,hl,hw⟩
theorem wf_mid {z:Int} (h0:0≤z) (h1:z≤4000000000000):(Lit.int .i64 z).wf=true:=by
 have h1:IntKind.i64.min≤z:=by
  have e:IntKind.i64.min=-9223372036854775808:=by decide
  omega
 have h2:z≤IntKind.i64.max:=by
  have e:IntKind.i64.max=9223372036854775807:=by decide
  omega
 show (decide (IntKind.i64.min≤z) && decide (z≤IntKind.i64.max))=true;rw [Bool.and_eq_true];exact ⟨decide_eq_true h1,decide_eq_true h2⟩
theorem MostIs.got {l:List Du} {x m u p e:Int} (h:MostIs l x m u p e) (hR:Right l) (hM:MayMost x m):e=0∧MostOf l x m u∧p=cost l x (x+u):=by
 rcases h with ⟨a,_⟩ | ⟨_,b,_⟩ | ⟨_,_,c,d⟩
 ·exact absurd hR a
 ·exact absurd hM b
 ·exact ⟨c,d⟩
end tar
namespace deb
open tar (Du du0 Came RowD Ld ErrPost TwoPost PairT)
open Go.RowKit
structure Fresh (w:World) (base:Nat) (a:Option Addr) (len cap:Nat) (ls:List Du):Prop where
 came:Came w a len cap ls
 new:0<len→∀ x,a=some x→base≤x.block
def RecPost (w:World) (l:List Du) (t bp:Int) (e:Ending) (w':World):Prop:=∃ a len cap z p f,e = .returned (.tuple #[.slice a len cap,zI p,zI f])∧RecIs l t bp z p f∧Fresh w' w.heap.size a len cap z∧Below w.heap.size w w'
def AgePost (w:World) (l:List Du) (m:Int) (e:Ending) (w':World):Prop:=∃ a len cap z f,e = .returned (.tuple #[.slice a len cap,zI f])∧AgeIs l m z f∧Fresh w' w.heap.size a len cap z∧Below w.heap.size w w'
theorem Mays.wf {l:List Du} (h:Mays l):∀ x∈l,(Lit.int .i64 x.a).wf=true∧(Lit.int .i64 x.b).wf=true:=fun x hx=>by
 obtain ⟨⟨a1,a2⟩,b1,b2⟩:=mem_fits h.2 x hx;exact ⟨tar.wf_mid a1 (by omega),tar.wf_mid b1 (by omega)⟩
theorem ld_mays {T:TypeId} {w:World} {base:Nat} {v:Value} {l:List Du} (h:Ld T w base v l) (hm:Mays l):∃ a cap,v = .slice a l.length cap∧Came w a l.length cap l:=h.came (by have:=hm.1;omega) hm.wf
theorem ld_new {T:TypeId} {w:World} {base:Nat} {a:Option Addr} {n cap:Nat} {l:List Du} (h:Ld T w base (.slice a n cap) l):0<n→∀ x,a=some x→base≤x.block:=fun hn x hx=>by
 subst hx;exact (World.ownsRow.lt h x.block rfl).1
theorem ld_fresh {T:TypeId} {w:World} {base:Nat} {v:Value} {l:List Du} (h:Ld T w base v l) (hm:Mays l):∃ a cap,v = .slice a l.length cap∧Fresh w base a l.length cap l:=by
 obtain ⟨a,cap,rfl,hc⟩:=ld_mays h hm;exact ⟨a,cap,rfl,hc,ld_new h⟩
theorem Fresh.low {w:World} {base base':Nat} {a:Option Addr} {len cap:Nat} {ls:List Du} (h:Fresh w base a len cap ls) (hb:base'≤base):Fresh w base' a len cap ls:=⟨h.came,fun hn x hx=>Nat.le_trans hb (h.new hn x hx)⟩
theorem Fresh.below {w w':World} {base:Nat} {a:Option Addr} {len cap:Nat} {ls:List Du} (h:Fresh w base a len cap ls) (hb:Below w.heap.size w w'):Fresh w' base a len cap ls:=⟨h.came.below hb,h.new⟩
theorem came_nil (w:World):Came w none 0 0 []:=⟨tar.RowD.nil _ _,fun _=>rfl,Nat.le_refl _,by omega,fun x hx=>by cases hx⟩
theorem fresh_nil (w:World) (base:Nat):Fresh w base none 0 0 []:=⟨came_nil w,fun h=>absurd h (Nat.lt_irrefl _)⟩
end deb
namespace check
open Go.RowKit
def pick (n many:Int):Int:=(if n<0 then -(n+1) else n) % many
theorem pick_nonneg (n many:Int) (h:0<many):0≤pick n many:=Int.emod_nonneg _ (by omega)
theorem pick_lt (n many:Int) (h:0<many):pick n many<many:=Int.emod_lt_of_pos _ h
theorem picked_any (n many:Int) (w:World) (hn:(Lit.int .i64 n).wf=true) (hm:0<many) (hm':many≤4000000000000) :
  Calls Tryz.prog 18 #[zI n,zI many] w fun e w'=>e = .returned (zI (pick n many))∧w'=w:=by
 have hb:-9223372036854775808≤n∧n≤9223372036854775807:=bounds_i64 hn;obtain ⟨hb1,hb2⟩:=hb;by_cases h:n<0
 ·have e0:pick n many=(-(n+1)) % many:=by unfold pick;rw [if_pos h]
  rw [e0];go_enter Tryz.func18,Tryz.ntmps18;go_wp2;go_ret;exact ⟨by rw [← Int.neg_tmod,Int.tmod_eq_emod_of_nonneg (by omega)];rfl,rfl⟩
 ·have e0:pick n many=n % many:=by unfold pick;rw [if_neg h]
  rw [e0];go_enter Tryz.func18,Tryz.ntmps18;go_wp2;go_ret;exact ⟨rfl,rfl⟩
end check
namespace deb
open tar (Du du0 Came RowD Ld ErrPost TwoPost PairT)
open Go.RowKit
theorem dwithin (lo hi n:Int) (w:World):Calls Tryz.prog 202 #[zI lo,zI hi,zI n] w fun e w'=>e = .returned (.bool (decide (lo≤n∧n≤hi)))∧w'=w:=by
 by_cases h1:lo≤n
 ·by_cases h2:n≤hi
  ·have h3:decide (lo≤n∧n≤hi)=true:=by simp;omega
   rw [h3];clear h3;go_enter Tryz.func202,Tryz.ntmps202;go_wp2;go_ret;exact ⟨rfl,rfl⟩
  ·have h3:decide (lo≤n∧n≤hi)=false:=by simp;omega
   have h4:decide (n≤hi)=false:=by simp;omega
   rw [h3];clear h3 h2;go_enter Tryz.func202,Tryz.ntmps202;go_wp2;go_ret;exact ⟨rfl,rfl⟩
 ·have h3:decide (lo≤n∧n≤hi)=false:=by simp;omega
  have h4:decide (lo≤n)=false:=by simp;omega
  rw [h3];clear h3 h1;go_enter Tryz.func202,Tryz.ntmps202;go_wp2;go_ret;exact ⟨rfl,rfl⟩
end deb
end Go.Proofs.YtnpblpbohcegoaaGreatDoor
