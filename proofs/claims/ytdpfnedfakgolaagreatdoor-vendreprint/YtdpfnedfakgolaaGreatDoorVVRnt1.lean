import Derived.Test.YtdpfnedfakgolaaGreatDoorVVRnt0
set_option linter.unusedVariables false
set_option linter.unusedSimpArgs false
set_option maxHeartbeats 4000000
set_option maxRecDepth 100000
namespace Go.Proofs.YtdpfnedfakgolaaGreatDoor
section
open Go.RowKit
def Blk (w:World) (G:Nat) (cs:Array Value) (t:TypeId):Prop:=w.heap[G]?=some (.cells cs t (0,0))
theorem Blk.lt {w:World} {G:Nat} {cs:Array Value} {t:TypeId} (h:Blk w G cs t):G<w.heap.size:=by
 unfold Blk at h;by_cases hh:G<w.heap.size
 ·exact hh
 ·rw [Array.getElem?_eq_none (by omega)] at h;cases h
theorem Blk.new (w:World) (cs:Array Value) (t:TypeId):Blk (w.alloc (.cells cs t)) w.heap.size cs t:=by
 show (w.heap.push _)[w.heap.size]?=_;rw [Array.getElem?_push_size]
theorem Blk.new1 (w:World) (o:Obj) (cs:Array Value) (t:TypeId):Blk ((w.alloc o).alloc (.cells cs t)) (w.heap.size+1) cs t:=by
 have h:=Blk.new (w.alloc o) cs t
 rwa [show (w.alloc o).heap.size=w.heap.size+1 by simp] at h
theorem Blk.new2 (w:World) (o p:Obj) (cs:Array Value) (t:TypeId):Blk (((w.alloc o).alloc p).alloc (.cells cs t)) (w.heap.size+1+1) cs t:=by
 have h:=Blk.new ((w.alloc o).alloc p) cs t
 rwa [show ((w.alloc o).alloc p).heap.size=w.heap.size+1+1 by simp] at h
theorem Blk.new3 (w:World) (o p q:Obj) (cs:Array Value) (t:TypeId):Blk ((((w.alloc o).alloc p).alloc q).alloc (.cells cs t)) (w.heap.size+1+1+1) cs t:=by
 have h:=Blk.new (((w.alloc o).alloc p).alloc q) cs t
 rwa [show (((w.alloc o).alloc p).alloc q).heap.size=w.heap.size+1+1+1 by simp] at h
theorem Blk.alloc {w:World} {G:Nat} {cs:Array Value} {t:TypeId} (h:Blk w G cs t) (o:Obj):Blk (w.alloc o) G cs t:=by
 have hl:=h.lt;unfold Blk at *;show (w.heap.push o)[G]?=_;rw [Array.getElem?_push,if_neg (by omega)];exact h
theorem Blk.below {w w':World} {G B:Nat} {cs:Array Value} {t:TypeId} (h:Blk w G cs t) (hb:Below B w w') (hG:G<B):Blk w' G cs t:=by
 unfold Blk at *;rw [hb.block G hG];exact h
theorem Blk.next {w w':World} {G:Nat} {cs:Array Value} {t:TypeId} (h:Blk w G cs t) (hb:Below w.heap.size w w'):Blk w' G cs t:=h.below hb h.lt
theorem Blk.cell {w:World} {G:Nat} {cs:Array Value} {t:TypeId} (h:Blk w G cs t) (i:Nat):w.cell? ⟨G,i,none⟩=cs[i]?:=by
 unfold Blk at h;simp [World.cell?,h]
theorem Blk.free {w:World} {G:Nat} {cs:Array Value} {t:TypeId} (h:Blk w G cs t) (i:Nat):w.frozen? ⟨G,i,none⟩=false:=by
 unfold Blk at h;simp [World.frozen?,h]
theorem Blk.set {w:World} {G:Nat} {cs:Array Value} {t:TypeId} (h:Blk w G cs t) (i:Nat) (u:Value):Blk (w.setCell ⟨G,i,none⟩ u) G (cs.setIfInBounds i u) t:=by
 have hl:=h.lt;unfold Blk at *;have hl':=hl;simp [World.setCell,Array.getElem?_modify,h]
theorem Blk.other {w:World} {G G':Nat} {cs:Array Value} {t:TypeId} (h:Blk w G cs t) (i:Nat) (u:Value) (hne:G'≠G):Blk (w.setCell ⟨G',i,none⟩ u) G cs t:=by
 unfold Blk at *;simp only [World.setCell,Array.getElem?_modify];rw [if_neg hne];exact h
theorem Blk.drew {w:World} {G:Nat} {cs:Array Value} {t:TypeId} (h:Blk w G cs t) (q:Nat):Blk (w.drewN q) G cs t:=h
theorem bel_set {B:Nat} {w w':World} (h:Below B w w') (G i:Nat) (u:Value) (hG:B≤G):Below B w (w'.setCell ⟨G,i,none⟩ u):=by
 refine ⟨h.os,h.tape,h.output,by simp [World.setCell];exact h.size,fun k hk=>?_⟩;rw [← h.block k hk];simp only [World.setCell,Array.getElem?_modify];rw [if_neg (by omega)]
theorem bel_drew {B:Nat} {w0 w:World} (h:Below B w0 w) (q:Nat):Below B w0 (w.drewN q):=⟨h.os,h.tape,h.output,h.size,h.block⟩
theorem bel_step {w0 w w':World} (h:Below w0.heap.size w0 w) (h':Below w.heap.size w w'):Below w0.heap.size w0 w':=h.trans (h'.mono h.size)
end
namespace cell
structure Wr where
 p:Int
 d:Int
def wr0:Wr:=⟨0,0⟩
def wrt:List Int→List Wr→List Int
 | c,[]=>c
 | c,e :: l=>wrt (c.set e.p.toNat e.d) l
theorem wrt_app (c:List Int) (l m:List Wr):wrt c (l++m)=wrt (wrt c l) m:=by
 induction l generalizing c with
 | nil=>rfl
 | cons e l ih=>exact ih _
theorem wrt_one (c:List Int) (e:Wr):wrt c [e]=c.set e.p.toNat e.d:=rfl
theorem wrt_len (c:List Int) (l:List Wr):(wrt c l).length=c.length:=by
 induction l generalizing c with
 | nil=>rfl
 | cons e l ih=>rw [wrt,ih,List.length_set]
theorem take_one (l:List Wr) (k:Nat) (h:k<l.length):l.take (k+1)=l.take k++[l.getD k wr0]:=by
 rw [List.take_succ_eq_append_getElem h];simp [List.getD,List.getElem?_eq_getElem h]
theorem wrt_step (c:List Int) (l:List Wr) (k:Nat) (h:k<l.length):wrt c (l.take (k+1))=(wrt c (l.take k)).set (l.getD k wr0).p.toNat (l.getD k wr0).d:=by
 rw [take_one l k h,wrt_app,wrt_one]
theorem set_at (c:List Int) (i j:Nat) (v:Int):(c.set i v).getD j 0=if j=i∧i<c.length then v else c.getD j 0:=by
 simp only [List.getD,List.getElem?_set];by_cases h:i=j
 ·subst h;by_cases h2:i<c.length
  ·simp [h2]
  ·simp [h2]
 ·rw [if_neg h,if_neg (by omega)]
def inN (n:Nat) (e:Wr):Bool:=decide (0≤e.p) && decide (e.p<n)
theorem inN_iff {n:Nat} {e:Wr}:inN n e=true↔0≤e.p∧e.p<n:=by simp [inN]
def allN (n:Nat) (l:List Wr):Bool:=l.all (inN n)
theorem allN_at {n:Nat} {l:List Wr} (h:allN n l=true) (k:Nat) (hk:k<l.length):0≤(l.getD k wr0).p∧(l.getD k wr0).p<n:=by
 have:=List.all_eq_true.1 h l[k] (List.getElem_mem hk);rw [inN_iff] at this;simpa [List.getD,List.getElem?_eq_getElem hk] using this
theorem allN_take {n:Nat} {l:List Wr} (h:allN n l=true) (k:Nat):allN n (l.take k)=true:=by
 refine List.all_eq_true.2 fun e he=>?_;exact List.all_eq_true.1 h e (List.mem_of_mem_take he)
theorem allN_step (n:Nat) (l:List Wr) (k:Nat) (hk:k<l.length):allN n (l.take (k+1))=(allN n (l.take k) && inN n (l.getD k wr0)):=by
 rw [take_one l k hk];simp [allN]
theorem allN_of_false {n:Nat} {l:List Wr} {k:Nat} (hk:k<l.length) (h:inN n (l.getD k wr0)=false):allN n l=false:=by
 refine Bool.eq_false_iff.2 fun ha=>?_;have:=allN_at ha k hk;rw [← inN_iff] at this;rw [h] at this;cases this
theorem allN_snoc {n:Nat} {l:List Wr} {e:Wr} (h:allN n l=true) (he:0≤e.p∧e.p<n):allN n (l++[e])=true:=by
 unfold allN at *;rw [List.all_append,h];simp [inN,he]
theorem list_ext {a b:List Int} (hl:a.length=b.length) (h:∀ j,j<a.length→a.getD j 0=b.getD j 0):a=b:=by
 apply List.ext_getElem hl;intro j h1 h2;have:=h j h1;simpa [List.getD,List.getElem?_eq_getElem h1,List.getElem?_eq_getElem h2] using this
end cell
namespace tar
structure Du where
 a:Int
 b:Int
def du0:Du:=⟨0,0⟩
structure Tr where
 a:Int
 b:Int
 c:Int
def tr0:Tr:=⟨0,0,0⟩
theorem take_one (l:List Du) (k:Nat) (h:k<l.length):l.take (k+1)=l.take k++[l.getD k du0]:=by
 rw [List.take_succ_eq_append_getElem h];simp [List.getD,List.getElem?_eq_getElem h]
def low (l:List Du) (k:Nat):Int:=if k=0 then 0 else (l.getD (k - 1) du0).a
theorem low_next (l:List Du) (k:Nat):low l (k+1)=(l.getD k du0).a:=rfl
theorem low_zero (l:List Du):low l 0=0:=rfl
def Fits (l:List Du):Prop:=∀ i,i<l.length→(1≤(l.getD i du0).a∧(l.getD i du0).a≤10000000)∧1≤(l.getD i du0).b∧(l.getD i du0).b≤100000
def Rises (l:List Du):Prop:=∀ i,1≤i→i<l.length→(l.getD (i - 1) du0).a<(l.getD i du0).a
def Sized (l:List Du):Prop:=1≤l.length∧l.length≤8
def Ends (l:List Du):Prop:=(l.getD (l.length - 1) du0).a=10000000
def Right (l:List Du):Prop:=Sized l∧Fits l∧Rises l∧Ends l
def FaultIs (l:List Du) (e:Int):Prop:=(¬ Sized l∧e=1)∨(Sized l∧¬ Fits l∧e=2)∨(Sized l∧Fits l∧¬ (Rises l∧Ends l)∧e=3)∨(Right l∧e=0)
theorem FaultIs.one {l:List Du} {e f:Int} (h:FaultIs l e) (h':FaultIs l f):e=f:=by
 rcases h with ⟨a,rfl⟩ | ⟨a,b,rfl⟩ | ⟨a,b,c,rfl⟩ | ⟨⟨a,b,c⟩,rfl⟩ <;> rcases h' with ⟨a',rfl⟩ | ⟨a',b',rfl⟩ | ⟨a',b',c',rfl⟩ | ⟨⟨a',b',c'⟩,rfl⟩ <;> first | rfl | contradiction
theorem FaultIs.ok {l:List Du} {e:Int} (h:FaultIs l e):e=0↔Right l:=by
 rcases h with ⟨a,rfl⟩ | ⟨a,b,rfl⟩ | ⟨a,b,c,rfl⟩ | ⟨h,rfl⟩
 ·exact ⟨fun h=>absurd h (by decide),fun h=>absurd h.1 a⟩
 ·exact ⟨fun h=>absurd h (by decide),fun h=>absurd h.2.1 b⟩
 ·exact ⟨fun h=>absurd h (by decide),fun h=>absurd h.2.2 c⟩
 ·exact ⟨fun _=>h,fun _=>rfl⟩
def ov (lo hi x y:Int):Int:=max 0 (min hi y - max lo x)
theorem ov_pos (lo hi x y:Int):0≤ov lo hi x y:=by unfold ov;omega
def costK (l:List Du) (x y:Int):Nat→Int
 | 0=>0
 | k+1=>costK l x y k+ov (low l k) (l.getD k du0).a x y*(l.getD k du0).b
def cost (l:List Du) (x y:Int):Int:=costK l x y l.length
theorem costK_next (l:List Du) (x y:Int) (k:Nat):costK l x y (k+1)=costK l x y k+ov (low l k) (l.getD k du0).a x y*(l.getD k du0).b:=rfl
def manyK (l:List Du) (x y:Int):Nat→Int
 | 0=>0
 | k+1=>manyK l x y k+ov (low l k) (l.getD k du0).a x y
theorem Right.price {l:List Du} (h:Right l) (k:Nat) (hk:k<l.length):1≤(l.getD k du0).b∧(l.getD k du0).b≤100000:=(h.2.1 k hk).2
theorem Right.upto {l:List Du} (h:Right l) (k:Nat) (hk:k<l.length):1≤(l.getD k du0).a∧(l.getD k du0).a≤10000000:=(h.2.1 k hk).1
theorem Right.rise {l:List Du} (h:Right l) (k:Nat) (hk:k<l.length):low l k<(l.getD k du0).a:=by
 by_cases e:k=0
 ·subst e;rw [low_zero];have:=(h.upto 0 hk).1;omega
 ·unfold low;rw [if_neg e];exact h.2.2.1 k (by omega) hk
theorem Right.low_pos {l:List Du} (h:Right l) (k:Nat) (hk:k≤l.length):0≤low l k:=by
 unfold low;by_cases e:k=0
 ·rw [if_pos e];omega
 ·rw [if_neg e];have:=(h.upto (k - 1) (by omega)).1;omega
theorem Right.low_end {l:List Du} (h:Right l):low l l.length=10000000:=by
 unfold low;rw [if_neg (by have:=h.1.1;omega)];exact h.2.2.2
theorem many_eq {l:List Du} (h:Right l) (x y:Int) (hx:0≤x) (hxy:x≤y) (k:Nat) (hk:k≤l.length):manyK l x y k=max 0 (min (low l k) y - x):=by
 induction k with
 | zero=>unfold manyK;rw [low_zero];omega
 | succ k ih=>
  have h1:=ih (by omega);have h2:=h.rise k (by omega);have h3:=h.low_pos k (by omega);unfold manyK;rw [h1,low_next];unfold ov;omega
theorem many_all {l:List Du} (h:Right l) (x y:Int) (hx:0≤x) (hxy:x≤y) (hy:y≤10000000):manyK l x y l.length=y - x:=by
 rw [many_eq h x y hx hxy _ (Nat.le_refl _),h.low_end];omega
theorem costK_pos {l:List Du} (h:Right l) (x y:Int) (k:Nat) (hk:k≤l.length):0≤costK l x y k:=by
 induction k with
 | zero=>exact Int.le_refl _
 | succ k ih=>
  have h1:=ih (by omega);have h2:=Int.mul_nonneg (ov_pos (low l k) (l.getD k du0).a x y) (show 0≤(l.getD k du0).b by have:=(h.price k (by omega)).1;omega);unfold costK;omega
theorem cost_many {l:List Du} (h:Right l) (x y:Int) (k:Nat) (hk:k≤l.length):manyK l x y k≤costK l x y k∧costK l x y k≤manyK l x y k*100000:=by
 induction k with
 | zero=>exact ⟨Int.le_refl _,Int.le_refl _⟩
 | succ k ih=>
  have h1:=ih (by omega);have h0:=ov_pos (low l k) (l.getD k du0).a x y;have hp:=h.price k (by omega);have h2:ov (low l k) (l.getD k du0).a x y*1≤ov (low l k) (l.getD k du0).a x y*(l.getD k du0).b:=Int.mul_le_mul_of_nonneg_left hp.1 h0;have h3:ov (low l k) (l.getD k du0).a x y*(l.getD k du0).b≤ov (low l k) (l.getD k du0).a x y*100000:=Int.mul_le_mul_of_nonneg_left hp.2 h0;unfold costK manyK;rw [Int.mul_one] at h2;constructor
  ·omega
  ·rw [Int.add_mul];omega
theorem cost_bd {l:List Du} (h:Right l) (x y:Int) (hx:0≤x) (hxy:x≤y) (hy:y≤10000000):y - x≤cost l x y∧cost l x y≤(y - x)*100000:=by
 have:=cost_many h x y l.length (Nat.le_refl _);rw [many_all h x y hx hxy hy] at this;exact this
theorem ov_adds (lo hi x y z:Int) (h:lo≤hi) (h1:x≤y) (h2:y≤z):ov lo hi x z=ov lo hi x y+ov lo hi y z:=by unfold ov;omega
theorem costK_adds {l:List Du} (h:Right l) (x y z:Int) (h1:x≤y) (h2:y≤z) (k:Nat) (hk:k≤l.length):costK l x z k=costK l x y k+costK l y z k:=by
 induction k with
 | zero=>rfl
 | succ k ih=>
  have h3:=ih (by omega);have h4:=h.rise k (by omega);unfold costK;rw [h3,ov_adds _ _ x y z (by omega) h1 h2,Int.add_mul];omega
theorem cost_adds {l:List Du} (h:Right l) (x y z:Int) (h1:x≤y) (h2:y≤z):cost l x z=cost l x y+cost l y z:=costK_adds h x y z h1 h2 _ (Nat.le_refl _)
theorem costK_mono {l:List Du} (h:Right l) (x y:Int) (j k:Nat) (hjk:j≤k) (hk:k≤l.length):costK l x y j≤costK l x y k:=by
 induction k with
 | zero=>
  have:j=0:=by omega
  subst this;exact Int.le_refl _
 | succ k ih=>
  by_cases e:j=k+1
  ·subst e;exact Int.le_refl _
  ·have h1:=ih (by omega) (by omega);have h2:=Int.mul_nonneg (ov_pos (low l k) (l.getD k du0).a x y) (show 0≤(l.getD k du0).b by have:=(h.price k (by omega)).1;omega);rw [costK_next];omega
theorem low_mono {l:List Du} (h:Right l) (j k:Nat) (hjk:j≤k) (hk:k≤l.length):low l j≤low l k:=by
 induction k with
 | zero=>
  have:j=0:=by omega
  subst this;exact Int.le_refl _
 | succ k ih=>
  by_cases e:j=k+1
  ·subst e;exact Int.le_refl _
  ·have h1:=ih (by omega) (by omega);have h2:=h.rise k (by omega);rw [low_next];omega
def billK (l:List Du) (x y:Int):Nat→List Tr
 | 0=>[]
 | k+1=>billK l x y k++(if 0<ov (low l k) (l.getD k du0).a x y then [⟨ov (low l k) (l.getD k du0).a x y,(l.getD k du0).b,ov (low l k) (l.getD k du0).a x y*(l.getD k du0).b⟩] else [])
theorem bill_len (l:List Du) (x y:Int) (k:Nat):(billK l x y k).length≤k:=by
 induction k with
 | zero=>exact Nat.le_refl _
 | succ k ih=>unfold billK;rw [List.length_append];split <;> simp <;> omega
def sumA:List Tr→Int
 | []=>0
 | t :: l=>t.a+sumA l
def sumC:List Tr→Int
 | []=>0
 | t :: l=>t.c+sumC l
theorem sumA_app (l m:List Tr):sumA (l++m)=sumA l+sumA m:=by
 induction l with
 | nil=>simp [sumA]
 | cons t l ih=>simp only [List.cons_append,sumA,ih];omega
theorem sumC_app (l m:List Tr):sumC (l++m)=sumC l+sumC m:=by
 induction l with
 | nil=>simp [sumC]
 | cons t l ih=>simp only [List.cons_append,sumC,ih];omega
theorem bill_sums (l:List Du) (x y:Int) (k:Nat):sumA (billK l x y k)=manyK l x y k∧sumC (billK l x y k)=costK l x y k:=by
 induction k with
 | zero=>exact ⟨rfl,rfl⟩
 | succ k ih=>
  have h0:=ov_pos (low l k) (l.getD k du0).a x y;unfold billK manyK costK;rw [sumA_app,sumC_app,ih.1,ih.2];by_cases h:0<ov (low l k) (l.getD k du0).a x y
  ·rw [if_pos h];simp [sumA,sumC]
  ·have e:ov (low l k) (l.getD k du0).a x y=0:=by omega
   rw [if_neg h,e];simp [sumA,sumC]
def LineOk (t:Tr):Prop:=1≤t.a∧t.a≤10000000∧1≤t.b∧t.b≤100000∧t.c=t.a*t.b
def Top (x:Int):Int:=min 2097151 (10000000 - x)
def MostOf (l:List Du) (x m u:Int):Prop:=(0≤u∧u≤Top x)∧cost l x (x+u)≤m∧(u=Top x∨m<cost l x (x+(u+1)))
theorem MostOf.one {l:List Du} {x m u v:Int} (h:Right l) (hx:0≤x) (a:MostOf l x m u) (b:MostOf l x m v):u=v:=by
 obtain ⟨⟨a1,a2⟩,a3,a4⟩:=a;obtain ⟨⟨b1,b2⟩,b3,b4⟩:=b;rcases Int.lt_trichotomy u v with c | c | c
 ·rcases a4 with a4 | a4
  ·omega
  ·have h1:=cost_adds h x (x+(u+1)) (x+v) (by omega) (by omega);have h2:=cost_bd h (x+(u+1)) (x+v) (by omega) (by omega) (by unfold Top at b2;omega);omega
 ·exact c
 ·rcases b4 with b4 | b4
  ·omega
  ·have h1:=cost_adds h x (x+(v+1)) (x+u) (by omega) (by omega);have h2:=cost_bd h (x+(v+1)) (x+u) (by omega) (by omega) (by unfold Top at a2;omega);omega
def MayMost (x m:Int):Prop:=(0≤x∧x≤10000000)∧0≤m∧m≤1000000000000
def MostIs (l:List Du) (x m:Int) (u p e:Int):Prop:=(¬ Right l∧FaultIs l e∧u=0∧p=0)∨(Right l∧¬ MayMost x m∧e=2∧u=0∧p=0)∨(Right l∧MayMost x m∧e=0∧MostOf l x m u∧p=cost l x (x+u))
theorem prod_bd {o p:Int} (h0:0≤o) (h1:o≤10000000) (h2:1≤p) (h3:p≤100000):0≤o*p∧o*p≤1000000000000:=by
 have a:=Int.mul_nonneg h0 (show 0≤p by omega);have b:o*p≤10000000*100000:=Int.le_trans (Int.mul_le_mul_of_nonneg_left h3 h0) (Int.mul_le_mul_of_nonneg_right h1 (by decide));exact ⟨a,by omega⟩
theorem ov_le (lo hi x y:Int) (h0:0≤lo) (h1:hi≤10000000):ov lo hi x y≤10000000:=by unfold ov;omega
theorem billK_yes (l:List Du) (x y:Int) (k:Nat) (h:0<ov (low l k) (l.getD k du0).a x y):billK l x y (k+1)=billK l x y k++[⟨ov (low l k) (l.getD k du0).a x y,(l.getD k du0).b,ov (low l k) (l.getD k du0).a x y*(l.getD k du0).b⟩]:=by
 unfold billK;rw [if_pos h];cases k <;> rfl
theorem billK_no (l:List Du) (x y:Int) (k:Nat) (h:¬ 0<ov (low l k) (l.getD k du0).a x y):billK l x y (k+1)=billK l x y k:=by
 conv=>lhs;unfold billK
 rw [if_neg h,List.append_nil]
end tar
namespace words
structure W3 where
 a:Int
 b:Int
 c:Int
def W3.ok (w:W3):Prop:=(0≤w.a∧w.a<4294967296)∧(0≤w.b∧w.b<4294967296)∧(0≤w.c∧w.c<4294967296)
def W3.val (w:W3):Int:=w.a+w.b*4294967296+w.c*18446744073709551616
def top:Int:=79228162514264337593543950336
theorem W3.bd {w:W3} (h:w.ok):0≤w.val∧w.val<top:=by
 obtain ⟨h1,h2,h3⟩:=h;unfold W3.val top;omega
def carry3 (p q r:Int):W3:=⟨p % 4294967296,(p / 4294967296+q) % 4294967296,((p / 4294967296+q) / 4294967296+r) % 4294967296⟩
def carry3o (p q r:Int):Int:=((p / 4294967296+q) / 4294967296+r) / 4294967296
theorem carry3_ok (p q r:Int):(carry3 p q r).ok:=by
 unfold carry3 W3.ok;simp only;omega
theorem carry3_val (p q r:Int):(carry3 p q r).val+carry3o p q r*top=p+q*4294967296+r*18446744073709551616:=by
 unfold carry3 carry3o W3.val top;simp only;omega
def timesW (w:W3) (m:Int):W3:=carry3 (w.a*m) (w.b*m) (w.c*m)
def timesO (w:W3) (m:Int):Int:=carry3o (w.a*m) (w.b*m) (w.c*m)
theorem times_val (w:W3) (m:Int):(timesW w m).val+timesO w m*top=w.val*m:=by
 have:=carry3_val (w.a*m) (w.b*m) (w.c*m);unfold timesW timesO;rw [this];unfold W3.val;rw [Int.add_mul,Int.add_mul,Int.mul_right_comm w.b,Int.mul_right_comm w.c]
theorem prod_bd {x m:Int} (x0:0≤x) (x1:x<4294967296) (m0:0≤m) (m1:m<4294967296):0≤x*m∧x*m≤4294967295*4294967295:=
 ⟨Int.mul_nonneg x0 m0,Int.mul_le_mul (by omega) (by omega) m0 (by omega)⟩
theorem times_mod {w:W3} (m:Int):(timesW w m).val=w.val*m % top:=by
 have h:=times_val w m;have b:=W3.bd (carry3_ok (w.a*m) (w.b*m) (w.c*m));have e:(timesW w m).val=(carry3 (w.a*m) (w.b*m) (w.c*m)).val:=rfl;rw [← h,Int.add_mul_emod_self_right,Int.emod_eq_of_lt (by omega) (by omega)]
def over2 (w:W3) (d:Int):Int:=w.c % d
def over1 (w:W3) (d:Int):Int:=(over2 w d*4294967296+w.b) % d
def overR (w:W3) (d:Int):Int:=(over1 w d*4294967296+w.a) % d
def overW (w:W3) (d:Int):W3:=⟨(over1 w d*4294967296+w.a) / d,(over2 w d*4294967296+w.b) / d,w.c / d⟩
theorem word_div {r x d:Int} (h0:0<d) (r0:0≤r) (r1:r<d) (x0:0≤x) (x1:x<4294967296):0≤(r*4294967296+x) / d∧(r*4294967296+x) / d<4294967296:=by
 refine ⟨Int.ediv_nonneg (by omega) (by omega),?_⟩;rw [Int.ediv_lt_iff_lt_mul h0];omega
theorem over_left {w:W3} (d:Int) (h:0<d):0≤overR w d∧overR w d<d:=⟨Int.emod_nonneg _ (by omega),Int.emod_lt_of_pos _ h⟩
theorem over_ok {w:W3} (hw:w.ok) {d:Int} (h:0<d):(overW w d).ok:=by
 obtain ⟨⟨a1,a2⟩,⟨b1,b2⟩,c1,c2⟩:=hw;have r2:0≤over2 w d∧over2 w d<d:=⟨Int.emod_nonneg _ (by omega),Int.emod_lt_of_pos _ h⟩
 have r1:0≤over1 w d∧over1 w d<d:=⟨Int.emod_nonneg _ (by omega),Int.emod_lt_of_pos _ h⟩
 refine ⟨word_div h r1.1 r1.2 a1 a2,word_div h r2.1 r2.2 b1 b2,?_⟩;have:=word_div h (r:=0) (by omega) h c1 c2;simpa [overW] using this
theorem over_val (w:W3) (d:Int):(overW w d).val*d+overR w d=w.val:=by
 have e2:=Int.emod_add_mul_ediv w.c d;have e1:=Int.emod_add_mul_ediv (over2 w d*4294967296+w.b) d;have e0:=Int.emod_add_mul_ediv (over1 w d*4294967296+w.a) d;have f2:over2 w d=w.c % d:=rfl;have f1:over1 w d=(over2 w d*4294967296+w.b) % d:=rfl;have f0:overR w d=(over1 w d*4294967296+w.a) % d:=rfl;rw [← f2] at e2;rw [← f1] at e1;rw [← f0] at e0;unfold W3.val overW;simp only;rw [Int.add_mul,Int.add_mul,Int.mul_right_comm _ 4294967296,Int.mul_right_comm _ 18446744073709551616,Int.mul_comm _ d,Int.mul_comm _ d,Int.mul_comm _ d];generalize d*((over1 w d*4294967296+w.a) / d)=P0 at *;generalize d*((over2 w d*4294967296+w.b) / d)=P1 at *;generalize d*(w.c / d)=P2 at *;omega
def sh (v:Nat) (k:Int):Nat:=if k<0 then v / 2 ^ (-k).toNat else v*2 ^ k.toNat % 2 ^ 64
def onesN (n:Nat):Nat:=2 ^ n - 1
theorem sh_bit (v:Nat) (k:Int) (j:Nat) (hj:j<64):(sh v k).testBit j=(decide (k≤j) && v.testBit ((j:Int) - k).toNat):=by
 unfold sh;by_cases h:k<0
 ·rw [if_pos h,Nat.testBit_div_two_pow];have h1:k≤(j:Int):=by omega
  rw [decide_eq_true h1,Bool.true_and]
  congr 1;omega
 ·rw [if_neg h,Nat.testBit_mod_two_pow,Nat.testBit_mul_two_pow];rw [decide_eq_true hj,Bool.true_and];by_cases h1:k≤(j:Int)
  ·rw [decide_eq_true h1,decide_eq_true (show k.toNat≤j by omega)]
   congr 2;omega
  ·rw [decide_eq_false h1,decide_eq_false (show ¬ k.toNat≤j by omega)];simp
theorem ones_bit (n j:Nat):(onesN n).testBit j=decide (j<n):=Nat.testBit_two_pow_sub_one ..
theorem bit_hi {x j k:Nat} (h:x<2 ^ k) (hj:k≤j):x.testBit j=false:=Nat.testBit_lt_two_pow (Nat.lt_of_lt_of_le h (Nat.pow_le_pow_right (by decide) hj))
def bit3 (a b c:Nat) (m:Nat):Bool:=if m<32 then a.testBit m else if m<64 then b.testBit (m - 32) else c.testBit (m - 64)
def bitsN (a b c lo n:Nat):Nat:=(sh a (0 - lo) ||| sh b (32 - lo) ||| sh c (64 - lo)) &&& onesN n
theorem bits_bit {a b c lo n:Nat} (ha:a<2 ^ 32) (hb:b<2 ^ 32) (_hc:c<2 ^ 32) (hn:n≤64) (j:Nat):(bitsN a b c lo n).testBit j=(decide (j<n) && bit3 a b c (j+lo)):=by
 unfold bitsN;rw [Nat.testBit_and,ones_bit];by_cases hj:j<n
 ·rw [decide_eq_true hj,Bool.and_true,Bool.true_and,Nat.testBit_or,Nat.testBit_or,sh_bit _ _ _ (by omega),sh_bit _ _ _ (by omega),sh_bit _ _ _ (by omega)];unfold bit3;rw [decide_eq_true (show (0:Int) - (lo:Int)≤(j:Int) by omega),Bool.true_and];have e0:((j:Int) - (0 - (lo:Int))).toNat=j+lo:=by omega
  have e1:((j:Int) - (32 - (lo:Int))).toNat=j+lo - 32:=by omega
  have e2:((j:Int) - (64 - (lo:Int))).toNat=j+lo - 64:=by omega
  rw [e0,e1,e2];by_cases h1:j+lo<32
  ·rw [if_pos h1,decide_eq_false (show ¬ (32:Int) - (lo:Int)≤(j:Int) by omega),decide_eq_false (show ¬ (64:Int) - (lo:Int)≤(j:Int) by omega)];simp
  ·rw [if_neg h1,decide_eq_true (show (32:Int) - (lo:Int)≤(j:Int) by omega),bit_hi ha (by omega)];by_cases h2:j+lo<64
   ·rw [if_pos h2,decide_eq_false (show ¬ (64:Int) - (lo:Int)≤(j:Int) by omega)];simp
   ·rw [if_neg h2,decide_eq_true (show (64:Int) - (lo:Int)≤(j:Int) by omega),bit_hi hb (by omega)];simp
 ·rw [decide_eq_false hj];simp
def putN (x v n:Nat) (k:Int):Nat:=(x &&& (2 ^ 32 - 1 - sh (onesN n) k % 2 ^ 32)) ||| (sh v k % 2 ^ 32)
theorem put_bit (x v n:Nat) (k:Int) (j:Nat) (hj:j<32):(putN x v n k).testBit j=(x.testBit j && !(decide (k≤j) && decide ((j:Int) - k<n)) || (decide (k≤j) && v.testBit ((j:Int) - k).toNat)):=by
 unfold putN;have e:2 ^ 32 - 1 - sh (onesN n) k % 2 ^ 32=2 ^ 32 - (sh (onesN n) k % 2 ^ 32+1):=by omega
 rw [Nat.testBit_or,Nat.testBit_and,e,Nat.testBit_two_pow_sub_succ (Nat.mod_lt _ (by decide)),Nat.testBit_mod_two_pow,Nat.testBit_mod_two_pow,decide_eq_true hj,Bool.true_and,Bool.true_and,Bool.true_and,sh_bit _ _ _ (by omega),sh_bit _ _ _ (by omega),ones_bit];by_cases h1:k≤(j:Int)
 ·have e2:decide (((j:Int) - k).toNat<n)=decide ((j:Int) - k<n):=by
   rw [decide_eq_decide];omega
  rw [e2]
 ·rw [decide_eq_false h1];simp
theorem put_lt (x v n:Nat) (k:Int) (hx:x<2 ^ 32):putN x v n k<2 ^ 32:=by
 unfold putN;have hy:sh v k % 2 ^ 32<2 ^ 32:=Nat.mod_lt _ (by decide);exact Nat.or_lt_two_pow (Nat.lt_of_le_of_lt Nat.and_le_left hx) hy
theorem put_bits {a b c v lo n:Nat} (hv:v<2 ^ n) (m:Nat) (hm:m<96) :
  bit3 (putN a v n lo) (putN b v n ((lo:Int) - 32)) (putN c v n ((lo:Int) - 64)) m=if lo≤m∧m<lo+n then v.testBit (m - lo) else bit3 a b c m:=by
 have key:∀ (x:Nat) (j:Nat) (k:Int),j<32→k+(m:Int)=lo+j→(putN x v n k).testBit j=if lo≤m∧m<lo+n then v.testBit (m - lo) else x.testBit j:=by
  intro x j k hj hk;rw [put_bit _ _ _ _ _ hj];by_cases h1:k≤(j:Int)
  ·have e1:((j:Int) - k).toNat=m - lo:=by omega
   rw [decide_eq_true h1,e1];by_cases h2:(j:Int) - k<n
   ·rw [decide_eq_true h2,if_pos (by omega)];simp
   ·rw [decide_eq_false h2,if_neg (by omega),bit_hi hv (by omega)];simp
  ·rw [decide_eq_false h1,if_neg (by omega)];simp
 unfold bit3;by_cases h1:m<32
 ·rw [if_pos h1,if_pos h1];exact key a m lo h1 (by omega)
 ·rw [if_neg h1,if_neg h1];by_cases h2:m<64
  ·rw [if_pos h2,if_pos h2];exact key b (m - 32) _ (by omega) (by omega)
  ·rw [if_neg h2,if_neg h2];exact key c (m - 64) _ (by omega) (by omega)
theorem bits_put {a b c v lo n:Nat} (ha:a<2 ^ 32) (hb:b<2 ^ 32) (hc:c<2 ^ 32) (hv:v<2 ^ n) (hn:n≤64) (hl:lo+n≤96) :
  bitsN (putN a v n lo) (putN b v n ((lo:Int) - 32)) (putN c v n ((lo:Int) - 64)) lo n=v:=by
 apply Nat.eq_of_testBit_eq;intro j;rw [bits_bit (put_lt _ _ _ _ ha) (put_lt _ _ _ _ hb) (put_lt _ _ _ _ hc) hn];by_cases hj:j<n
 ·rw [decide_eq_true hj,Bool.true_and,put_bits hv _ (by omega),if_pos (by omega)]
  congr 1;omega
 ·rw [decide_eq_false hj,Bool.false_and,bit_hi hv (by omega)]
end words
namespace cell
open Go.RowKit
def RowU (w:World) (a:Option Addr) (len:Nat) (zs:List Int):Prop:=
 zs.length=len∧(len=0∨∃ b off,a=some ⟨b,off,none⟩∧∀ i,i<len→w.cell? ⟨b,off+i,none⟩=some (.int .u32 (zs.getD i 0)))
theorem RowU.below {w w':World} {a:Option Addr} {n:Nat} {zs:List Int} (h:RowU w a n zs) (hb:Below w.heap.size w w'):RowU w' a n zs:=by
 refine ⟨h.1,?_⟩;rcases h.2 with h0 | ⟨b,off,rfl,hc⟩
 ·exact .inl h0
 ·refine .inr ⟨b,off,rfl,fun i hi=>?_⟩;have h1:=hc i hi;rw [hb.cell (p:=⟨b,off+i,none⟩) (World.block_lt_of_cell? w _ h1)];exact h1
theorem RowU.nil (w:World) (a:Option Addr):RowU w a 0 []:=⟨rfl,.inl rfl⟩
theorem RowU.at {w:World} {a:Option Addr} {n:Nat} {zs:List Int} (h:RowU w a n zs) (h0:0<n):∃ b off,a=some ⟨b,off,none⟩∧b<w.heap.size∧∀ i,i<n→w.cell? ⟨b,off+i,none⟩=some (.int .u32 (zs.getD i 0)):=by
 rcases h.2 with h1 | ⟨b,off,rfl,hc⟩
 ·omega
 ·exact ⟨b,off,rfl,World.block_lt_of_cell? w _ (hc 0 h0),hc⟩
def Ws (w:World) (base:Nat) (v:Value) (zs:List Int):Prop:=w.ownsRow base 87 1 v zs.length (zs.map (.int .u32))
theorem Ws.alloc {w:World} {base:Nat} {v:Value} {l:List Int} (h:Ws w base v l) (o:Obj):Ws (w.alloc o) base v l:=World.ownsRow.alloc h o
theorem Ws.next {w w':World} {base:Nat} {v:Value} {l:List Int} (h:Ws w base v l) (hb:Below w.heap.size w w'):Ws w' base v l:=by
 refine ⟨h.1,?_⟩;rcases h.2 with hn | ⟨g,cap,cur,hv,hg,hc,rest⟩
 ·exact .inl hn
 ·exact .inr ⟨g,cap,cur,hv,hg,Blk.next hc hb,rest⟩
theorem Ws.row {w:World} {base:Nat} {v:Value} {l:List Int} (h:Ws w base v l):∃ a cap,v = .slice a l.length cap∧RowU w a l.length l∧(a=none→cap=0)∧l.length≤cap:=by
 rcases h.2 with ⟨hv,hn⟩ | ⟨g,cap,cur,hv,_,_,h1,_⟩
 ·exact ⟨none,0,by rw [hn];exact hv,⟨rfl,.inl hn⟩,fun _=>rfl,by omega⟩
 ·subst hv;refine ⟨_,cap,rfl,⟨rfl,.inr ⟨g,0,rfl,fun i hi=>?_⟩⟩,(fun h=>by cases h),h1⟩;have:=World.ownsRow.cellAt h i (by omega);rw [Nat.zero_add,this];simp [List.getD,hi]
theorem own_far {w:World} {base n k:Nat} {t:TypeId} {v:Value} {l:List Value} (h:w.ownsRow base t n v k l) {G:Nat} (hG:G<base):some G≠v.ownBlock:=by
 intro e;have:=(World.ownsRow.lt h G e.symm).1;omega
theorem own_bel {w0 w w':World} {base B n k:Nat} {t:TypeId} {v:Value} {l:List Value} (h:w.ownsRow base t n v k l) (hg:w.grownBy w' v.ownBlock) (hb:Below B w0 w) (hB:B≤base) (hw:B≤w.heap.size):Below B w0 w':=by
 refine ⟨hg.os.trans hb.os,hg.tape.trans hb.tape,hg.output.trans hb.output,Nat.le_trans hb.size hg.size,fun k hk=>?_⟩;rw [← hb.block k hk];exact hg.block k (by omega) (own_far h (by omega))
theorem alloc_le {w:World} {B:Nat} (h:B≤w.heap.size) (o:Obj):B≤(w.alloc o).heap.size:=by simp;omega
theorem info_u32:(Tryz.prog.info? 87).map (fun i=>(i.zero,i.size,i.bytes))=some (some (.int .u32 0),1,4):=by kernel_rfl
theorem wp_word {w:World} {ops:Array Oper} {rest:List Oper} {o:Oper} {a:Act} {Q:Exit→Act→World→Prop} (hgd:o.guard=none) (s x:Operand)
  (ho:o.op = .call { callee:= .builtin .append,args:=#[s,x],argTypes:=#[31,31] })
  (base G:Nat) (v:Value) (l:List Int) (r:Int) (hs:a.eval s=v) (hx:a.eval x = .slice (some ⟨G,0,none⟩) 1 1) (hv:Ws w base v l) (hu:w.cell? ⟨G,0,none⟩=some (.int .u32 r)) (hn:l.length≤1000000) (hbase:base≤w.heap.size)
  (h:∀ v' w',Ws w' base v' (l++[r])→w.grownBy w' v.ownBlock→wpList Tryz.prog ops Q rest (a.put o.dst v') w'):wpList Tryz.prog ops Q (o :: rest) a w:=by
 obtain ⟨i0,hi,hz0,hz1,hz2⟩:=info_parts info_u32;refine wpList_append_own w hgd s x 31 ho base 87 i0 (.int .u32 0) 1 4 Tryz.underlying31 hi hz0 hz1 hz2 rfl (by decide) v l.length (l.map (.int .u32)) hs hv ⟨G,0,none⟩ 1 1 [.int .u32 r] hx rfl ?_ ?_ (by unfold maxLen;omega) (by omega) hbase ?_
 ·intro j u hj
  match j,hj with
  | 0,hj=>simp at hj;subst hj;simpa [Addr.add] using hu
 ·intro u hu;simp at hu;subst hu;rfl
 intro v' w' h1 h2 _;refine h v' w' ?_ h2;unfold Ws;rw [List.length_append,List.map_append];exact h1
end cell
namespace words
open Go.ChangeShapes Go.WideShapes Go.ChangeAt Go.RowKit
theorem cells_word:Tryz.prog.cellsOf 87=1:=by kernel_rfl
end words
namespace token
open Go.RowKit
theorem bel_box (w:World) (o:Obj):Below w.heap.size w (w.alloc o):=(Below.refl _ _).alloc (Nat.le_refl _) o
end token
namespace cell
open Go.RowKit
def GaveU (w:World) (zs:List Int) (e:Ending) (w':World):Prop:=∃ v,e = .returned v∧Ws w' w.heap.size v zs∧Below w.heap.size w w'
theorem GaveU.mk {w w':World} {zs:List Int} {v:Value} (h1:Ws w' w.heap.size v zs) (h2:Below w.heap.size w w'):GaveU w zs (.returned v) w':=⟨v,rfl,h1,h2⟩
end cell
namespace bki
open Go.RowKit
def Row (w:World) (a:Option Addr) (len:Nat) (zs:List Int):Prop:=
 zs.length=len∧(len=0∨∃ b off,a=some ⟨b,off,none⟩∧∀ i,i<len→w.cell? ⟨b,off+i,none⟩=some (zI (zs.getD i 0)))
def okAll (lo hi:Int) (l:List Int):Bool:=l.all fun n=>decide (lo≤n) && decide (n≤hi)
theorem okAll_step (lo hi:Int) (zs:List Int) (k:Nat) (hk:k<zs.length) (h:okAll lo hi (zs.take k)=true) (h1:lo≤zs.getD k 0) (h2:zs.getD k 0≤hi):okAll lo hi (zs.take (k+1))=true:=by
 unfold okAll at *;rw [List.take_add_one,List.all_append,h];simp only [List.getD,List.getElem?_eq_getElem hk,Option.getD] at h1 h2 ⊢;simp [h1,h2]
theorem okAll_no (lo hi:Int) (zs:List Int) (k:Nat) (hk:k<zs.length) (h:zs.getD k 0<lo∨hi<zs.getD k 0):okAll lo hi zs=false:=by
 unfold okAll;rw [List.all_eq_false];refine ⟨zs[k],List.getElem_mem hk,?_⟩;simp only [List.getD,List.getElem?_eq_getElem hk,Option.getD] at h;simp;omega
theorem ret_bool {a b:Bool} (h:a=b):Ending.returned (.bool a) = .returned (.bool b):=by rw [h]
theorem within_any (lo hi:Int) (a:Option Addr) (len cap:Nat) (zs:List Int) (w:World) (hr:Row w a len zs) (hl:len≤maxLen) :
  Calls Tryz.prog 131 #[zI lo,zI hi,.slice a len cap] w fun e w'=>e = .returned (.bool (okAll lo hi zs))∧w'=w:=by
 unfold maxLen at hl;obtain ⟨hz,hr⟩:=hr;go_enter Tryz.func131,Tryz.ntmps131;go_wp2;go_loop [11] (fun i=>∃ k:Nat,k≤len∧i=zI k∧okAll lo hi (zs.take k)=true) (fun i=>len - (intOf i).toNat)
 case atStart=>exact ⟨0,Nat.zero_le _,rfl,rfl⟩
 case round=>
  obtain ⟨k,hk,rfl,hok⟩:=hrel;have HK:Hid (okAll lo hi (zs.take k)=true):=hok;clear hok;by_cases hlt:k<len
  ·rcases hr with h0 | ⟨b,off,rfl,hc⟩
   ·omega
   have hcell:=hc k hlt;clear hc;generalize hzk:zs.getD k 0=z at hcell;have HZ:Hid (zs.getD k 0=z):=hzk;clear hzk;by_cases h1:z<lo
   ·go_wp2;go_ret;exact ⟨ret_bool (okAll_no lo hi zs k (by omega) (.inl (by rw [HZ.o];exact h1))).symm,rfl⟩
   ·by_cases h2:hi<z
    ·go_wp2;go_ret;exact ⟨ret_bool (okAll_no lo hi zs k (by omega) (.inr (by rw [HZ.o];exact h2))).symm,rfl⟩
    ·go_wp2;go_round
     case rel=>exact ⟨k+1,by omega,by go_num,okAll_step lo hi zs k (by omega) HK.o (by rw [HZ.o];omega) (by rw [HZ.o];omega)⟩
     case measure=>simp [intOf];omega
  ·go_wp2;go_ret;refine ⟨ret_bool ?_,rfl⟩;have:=HK.o;rw [List.take_of_length_le (by omega)] at this;exact this.symm
theorem row_one (w:World) (z:Int) (t:TypeId):Row (w.alloc (.cells #[zI z] t)) (some ⟨w.heap.size,0,none⟩) 1 [z]:=by
 refine ⟨rfl,.inr ⟨_,_,rfl,fun i hi=>?_⟩⟩;obtain rfl:i=0:=by omega
 simp
theorem bel1 (w:World) (o:Obj):Below w.heap.size w (w.alloc o):=(Below.refl _ _).alloc (Nat.le_refl _) _
theorem bel2 (w:World) (o o':Obj):Below w.heap.size w ((w.alloc o).alloc o'):=(bel1 w o).alloc (by simp) _
theorem within_one (lo hi z:Int) (w:World) (b:Nat) (hb:b=w.heap.size) :
  Calls Tryz.prog 131 #[zI lo,zI hi,.slice (some ⟨b,0,none⟩) 1 1] (w.alloc (.cells #[zI z] 3)) fun e w'=>e = .returned (.bool (decide (lo≤z∧z≤hi)))∧w'=w.alloc (.cells #[zI z] 3):=by
 have h:=within_any lo hi _ 1 1 [z] _ (row_one w z 3) (by decide);have e:okAll lo hi [z]=decide (lo≤z∧z≤hi):=by simp [okAll]
 rw [e] at h;rw [hb];exact h
theorem row_four (w:World) (a b c d:Int) (t:TypeId):Row (w.alloc (.cells #[zI a,zI b,zI c,zI d] t)) (some ⟨w.heap.size,0,none⟩) 4 [a,b,c,d]:=by
 refine ⟨rfl,.inr ⟨_,_,rfl,fun i hi=>?_⟩⟩
 match i,hi with
 | 0,_=>simp
 | 1,_=>simp
 | 2,_=>simp
 | 3,_=>simp
end bki
namespace tar
open Go.RowKit
theorem run_min (x y m:Int) (h:min x y=m) (w:World):(Builtin.min_ #[3,3] 3 #[zI x,zI y]).run Tryz.prog w = .ok (zI m) w:=by
 subst h;unfold Builtin.min_;by_cases h:y<x
 ·rw [show min x y=y by omega];simp [Builtin.min2,go_sem];omega
 ·rw [show min x y=x by omega];simp [Builtin.min2,go_sem];omega
end tar
namespace rct
open Go.RowKit
theorem met_tail {P:Program} {x:String × DataW Unit} {rest:List (String × DataW Unit)} {W:World} (h:laidMet P (x :: rest) W):laidMet P rest W:=by
 obtain ⟨ps,hv,hn,hc⟩:=h;obtain ⟨g',t',cs,fuel,p,q,hg',ht',hvar,hd,hr,rfl⟩:=hv;exact ⟨q,hr,(List.nodup_append.1 hn).2.1,fun b off hm=>hc b off (List.mem_append_right _ hm)⟩
end rct
end Go.Proofs.YtdpfnedfakgolaaGreatDoor
