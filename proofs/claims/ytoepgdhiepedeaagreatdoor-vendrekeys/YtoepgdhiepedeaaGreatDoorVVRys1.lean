import Derived.Test.YtoepgdhiepedeaaGreatDoorVVRys0
set_option linter.unusedVariables false
set_option linter.unusedSimpArgs false
set_option maxHeartbeats 4000000
set_option maxRecDepth 100000
namespace Go.Proofs.YtoepgdhiepedeaaGreatDoor
section
open Go.RowKit
def Blk(w:World)(G:Nat)(cs:Array Value)(t:TypeId):Prop:=w.heap[G]?=some (.cells cs t (0,0))
variable{cs:Array Value}{t:TypeId}{w:World}{G:Nat}
theorem Blk.lt(h:Blk w G cs t):G<w.heap.size:=by
 unfold Blk at h
 by_cases hh:G<w.heap.size
 ·exact hh
 ·rw[Array.getElem?_eq_none (by omega)] at h;cases h
theorem Blk.new(w:World)(cs:Array Value)(t:TypeId):Blk (w.alloc (.cells cs t)) w.heap.size cs t:=by
 show (w.heap.push _)[w.heap.size]?=_
 rw[Array.getElem?_push_size]
theorem Blk.new1(w:World)(o:Obj)(cs:Array Value)(t:TypeId):Blk ((w.alloc o).alloc (.cells cs t)) (w.heap.size+1) cs t:=by
 have h:=Blk.new (w.alloc o) cs t
 rwa [show (w.alloc o).heap.size=w.heap.size+1 by simp] at h
theorem Blk.new2(w:World)(o p:Obj)(cs:Array Value)(t:TypeId):Blk (((w.alloc o).alloc p).alloc (.cells cs t)) (w.heap.size+1+1) cs t:=by
 have h:=Blk.new ((w.alloc o).alloc p) cs t
 rwa [show ((w.alloc o).alloc p).heap.size=w.heap.size+1+1 by simp] at h
theorem Blk.new3(w:World)(o p q:Obj)(cs:Array Value)(t:TypeId):Blk ((((w.alloc o).alloc p).alloc q).alloc (.cells cs t)) (w.heap.size+1+1+1) cs t:=by
 have h:=Blk.new (((w.alloc o).alloc p).alloc q) cs t
 rwa [show (((w.alloc o).alloc p).alloc q).heap.size=w.heap.size+1+1+1 by simp] at h
theorem Blk.alloc(h:Blk w G cs t)(o:Obj):Blk (w.alloc o) G cs t:=by
 have hl:=h.lt
 unfold Blk at *
 show (w.heap.push o)[G]?=_
 rw[Array.getElem?_push,if_neg (by omega)];exact h
theorem Blk.below{w w':World}{G B:Nat}(h:Blk w G cs t)(hb:Below B w w')(hG:G<B):Blk w' G cs t:=by
 unfold Blk at *
 rw[hb.block G hG];exact h
theorem Blk.next{w w':World}(h:Blk w G cs t)(hb:Below w.heap.size w w'):Blk w' G cs t:=h.below hb h.lt
theorem Blk.cell(h:Blk w G cs t)(i:Nat):w.cell? ⟨G,i,none⟩=cs[i]?:=by
 unfold Blk at h;simp[World.cell?,h]
theorem Blk.free(h:Blk w G cs t)(i:Nat):w.frozen? ⟨G,i,none⟩=false:=by
 unfold Blk at h;simp[World.frozen?,h]
theorem Blk.set(h:Blk w G cs t)(i:Nat)(u:Value):Blk (w.setCell ⟨G,i,none⟩ u) G (cs.setIfInBounds i u) t:=by
 have hl:=h.lt
 unfold Blk at *
 have hl':=hl
 simp[World.setCell,Array.getElem?_modify,h]
theorem Blk.other{G G':Nat}(h:Blk w G cs t)(i:Nat)(u:Value)(hne:G'≠G):Blk (w.setCell ⟨G',i,none⟩ u) G cs t:=by
 unfold Blk at *
 simp only[World.setCell,Array.getElem?_modify];rw[if_neg hne];exact h
theorem Blk.drew(h:Blk w G cs t)(q:Nat):Blk (w.drewN q) G cs t:=h
theorem bel_set{B:Nat}{w w':World}(h:Below B w w')(G i:Nat)(u:Value)(hG:B≤G):Below B w (w'.setCell ⟨G,i,none⟩ u):=by
 refine⟨h.os,h.tape,h.output,by simp[World.setCell];exact h.size,λk hk=>?_⟩
 rw[← h.block k hk]
 simp only[World.setCell,Array.getElem?_modify]
 rw[if_neg (by omega)]
theorem bel_drew{B:Nat}{w0 w:World}(h:Below B w0 w)(q:Nat):Below B w0 (w.drewN q):=⟨h.os,h.tape,h.output,h.size,h.block⟩
theorem bel_step{w0 w w':World}(h:Below w0.heap.size w0 w)(h':Below w.heap.size w w'):Below w0.heap.size w0 w':=h.trans (h'.mono h.size)
end
namespace cell
structure Wr where
 p:Int
 d:Int
def wr0:Wr:=⟨0,0⟩
theorem set_at(c:List Int)(i j:Nat)(v:Int):(c.set i v).getD j 0=if j=i∧i<c.length then v else c.getD j 0:=by
 simp only[List.getD,List.getElem?_set];by_cases h:i=j
 ·subst h;by_cases a:i<c.length
  ·simp[a]
  ·simp[a]
 ·rw[if_neg h,if_neg (by omega)]
theorem list_ext{a b:List Int}(hl:a.length=b.length)(h:∀j,j<a.length→a.getD j 0=b.getD j 0):a=b:=by
 apply List.ext_getElem hl;intro j c d;have:=h j c;simpa [List.getD,List.getElem?_eq_getElem c,List.getElem?_eq_getElem d] using this
end cell
namespace tar
structure Du where
 a:Int
 b:Int
def du0:Du:=⟨0,0⟩
structure Tr where
 a:Int
 b:Int
 c:Int
def tr0:Tr:=⟨0,0,0⟩
theorem take_one(l:List Du)(k:Nat)(h:k<l.length):l.take (k+1)=l.take k++[l.getD k du0]:=by
 rw[List.take_succ_eq_append_getElem h];simp[List.getD,List.getElem?_eq_getElem h]
def low(l:List Du)(k:Nat):Int:=if k=0 then 0 else (l.getD (k-1) du0).a
theorem low_next(l:List Du)(k:Nat):low l (k+1)=(l.getD k du0).a:=rfl
theorem low_zero(l:List Du):low l 0=0:=rfl
def Fits(l:List Du):Prop:=∀i,i<l.length→(1≤(l.getD i du0).a∧(l.getD i du0).a≤10000000)∧1≤(l.getD i du0).b∧(l.getD i du0).b≤100000
def Rises(l:List Du):Prop:=∀i,1≤i→i<l.length→(l.getD (i-1) du0).a<(l.getD i du0).a
def Sized(l:List Du):Prop:=1≤l.length∧l.length≤8
def Ends(l:List Du):Prop:=(l.getD (l.length-1) du0).a=10000000
def Right(l:List Du):Prop:=Sized l∧Fits l∧Rises l∧Ends l
def FaultIs(l:List Du)(e:Int):Prop:=(¬ Sized l∧e=1)∨(Sized l∧¬ Fits l∧e=2)∨(Sized l∧Fits l∧¬ (Rises l∧Ends l)∧e=3)∨(Right l∧e=0)
variable{l:List Du}
theorem FaultIs.one{e f:Int}(h:FaultIs l e)(h':FaultIs l f):e=f:=by
 rcases h with⟨a,rfl⟩|⟨a,b,rfl⟩|⟨a,b,c,rfl⟩|⟨⟨a,b,c⟩,rfl⟩<;>rcases h' with⟨d,rfl⟩|⟨d,g,rfl⟩|⟨d,g,i,rfl⟩|⟨⟨d,g,i⟩,rfl⟩<;>first|rfl|contradiction
theorem FaultIs.ok{e:Int}(h:FaultIs l e):e=0↔Right l:=by
 rcases h with⟨a,rfl⟩|⟨a,b,rfl⟩|⟨a,b,c,rfl⟩|⟨h,rfl⟩
 ·exact⟨λh=>absurd h (by decide),λh=>absurd h.1 a⟩
 ·exact⟨λh=>absurd h (by decide),λh=>absurd h.2.1 b⟩
 ·exact⟨λh=>absurd h (by decide),λh=>absurd h.2.2 c⟩
 ·exact⟨λ_=>h,λ_=>rfl⟩
def ov(lo hi x y:Int):Int:=max 0 (min hi y-max lo x)
theorem ov_pos(lo hi x y:Int):0≤ov lo hi x y:=by unfold ov;omega
def costK(l:List Du)(x y:Int):Nat→Int
 |0=>0
 |k+1=>costK l x y k+ov (low l k) (l.getD k du0).a x y*(l.getD k du0).b
def cost(l:List Du)(x y:Int):Int:=costK l x y l.length
theorem costK_next(l:List Du)(x y:Int)(k:Nat):costK l x y (k+1)=costK l x y k+ov (low l k) (l.getD k du0).a x y*(l.getD k du0).b:=rfl
def manyK(l:List Du)(x y:Int):Nat→Int
 |0=>0
 |k+1=>manyK l x y k+ov (low l k) (l.getD k du0).a x y
theorem Right.price(h:Right l)(k:Nat)(hk:k<l.length):1≤(l.getD k du0).b∧(l.getD k du0).b≤100000:=(h.2.1 k hk).2
theorem Right.upto(h:Right l)(k:Nat)(hk:k<l.length):1≤(l.getD k du0).a∧(l.getD k du0).a≤10000000:=(h.2.1 k hk).1
theorem Right.rise(h:Right l)(k:Nat)(hk:k<l.length):low l k<(l.getD k du0).a:=by
 by_cases e:k=0
 ·subst e;rw[low_zero];have:=(h.upto 0 hk).1;omega
 ·unfold low;rw[if_neg e];exact h.2.2.1 k (by omega) hk
theorem Right.low_pos(h:Right l)(k:Nat)(hk:k≤l.length):0≤low l k:=by
 unfold low;by_cases e:k=0
 ·rw[if_pos e];omega
 ·rw[if_neg e];have:=(h.upto (k-1) (by omega)).1;omega
theorem Right.low_end(h:Right l):low l l.length=10000000:=by
 unfold low;rw[if_neg (by have:=h.1.1;omega)];exact h.2.2.2
theorem many_eq(h:Right l)(x y:Int)(hx:0≤x)(hxy:x≤y)(k:Nat)(hk:k≤l.length):manyK l x y k=max 0 (min (low l k) y-x):=by
 induction k with
 |zero=>unfold manyK;rw[low_zero];omega
 |succ k ih=>
  have a:=ih (by omega);have b:=h.rise k (by omega);have c:=h.low_pos k (by omega);unfold manyK;rw[a,low_next];unfold ov;omega
theorem many_all(h:Right l)(x y:Int)(hx:0≤x)(hxy:x≤y)(hy:y≤10000000):manyK l x y l.length=y-x:=by
 rw[many_eq h x y hx hxy _ zc,h.low_end];omega
theorem costK_pos(h:Right l)(x y:Int)(k:Nat)(hk:k≤l.length):0≤costK l x y k:=by
 induction k with
 |zero=>exact Int.le_refl _
 |succ k ih=>
  have c:=ih (by omega);have d:=Int.mul_nonneg (ov_pos (low l k) (l.getD k du0).a x y) (show 0≤(l.getD k du0).b by have:=(h.price k (by omega)).1;omega);unfold costK;omega
theorem cost_many(h:Right l)(x y:Int)(k:Nat)(hk:k≤l.length):manyK l x y k≤costK l x y k∧costK l x y k≤manyK l x y k*100000:=by
 induction k with
 |zero=>exact⟨Int.le_refl _,Int.le_refl _⟩
 |succ k ih=>
  have f:=ih (by omega);have c:=ov_pos (low l k) (l.getD k du0).a x y;have d:=h.price k (by omega);have e:ov (low l k) (l.getD k du0).a x y*1≤ov (low l k) (l.getD k du0).a x y*(l.getD k du0).b:=Int.mul_le_mul_of_nonneg_left d.1 c;have g:ov (low l k) (l.getD k du0).a x y*(l.getD k du0).b≤ov (low l k) (l.getD k du0).a x y*100000:=Int.mul_le_mul_of_nonneg_left d.2 c;unfold costK manyK;rw[Int.mul_one] at e;constructor
  ·omega
  ·rw[Int.add_mul];omega
theorem cost_bd(h:Right l)(x y:Int)(hx:0≤x)(hxy:x≤y)(hy:y≤10000000):y-x≤cost l x y∧cost l x y≤(y-x)*100000:=by
 have:=cost_many h x y l.length zc;rw[many_all h x y hx hxy hy] at this;exact this
theorem ov_adds(lo hi x y z:Int)(h:lo≤hi)(h1:x≤y)(h2:y≤z):ov lo hi x z=ov lo hi x y+ov lo hi y z:=by unfold ov;omega
theorem costK_adds(h:Right l)(x y z:Int)(h1:x≤y)(h2:y≤z)(k:Nat)(hk:k≤l.length):costK l x z k=costK l x y k+costK l y z k:=by
 induction k with
 |zero=>rfl
 |succ k ih=>
  have a:=ih (by omega);have b:=h.rise k (by omega);unfold costK;rw[a,ov_adds _ _ x y z (by omega) h1 h2,Int.add_mul];omega
theorem cost_adds(h:Right l)(x y z:Int)(h1:x≤y)(h2:y≤z):cost l x z=cost l x y+cost l y z:=costK_adds h x y z h1 h2 _ zc
theorem cost_self(h:Right l)(x:Int):cost l x x=0:=by
 have:=cost_adds h x x x (Int.le_refl _) (Int.le_refl _);omega
theorem costK_mono(h:Right l)(x y:Int)(j k:Nat)(hjk:j≤k)(hk:k≤l.length):costK l x y j≤costK l x y k:=by
 induction k with
 |zero=>
  have:j=0:=by omega
  subst this;exact Int.le_refl _
 |succ k ih=>
  by_cases e:j=k+1
  ·subst e;exact Int.le_refl _
  ·have c:=ih (by omega) (by omega);have d:=Int.mul_nonneg (ov_pos (low l k) (l.getD k du0).a x y) (show 0≤(l.getD k du0).b by have:=(h.price k (by omega)).1;omega);rw[costK_next];omega
theorem low_mono(h:Right l)(j k:Nat)(hjk:j≤k)(hk:k≤l.length):low l j≤low l k:=by
 induction k with
 |zero=>
  have:j=0:=by omega
  subst this;exact Int.le_refl _
 |succ k ih=>
  by_cases e:j=k+1
  ·subst e;exact Int.le_refl _
  ·have a:=ih (by omega) (by omega);have b:=h.rise k (by omega);rw[low_next];omega
def Mays(x n:Int):Prop:=(0≤x∧x≤10000000)∧(0≤n∧n≤2097151)∧x+n≤10000000
def MayIs(l:List Du)(x n:Int)(e:Int):Prop:=(¬ Right l∧FaultIs l e)∨(Right l∧¬ Mays x n∧e=2)∨(Right l∧Mays x n∧e=0)
theorem MayIs.ok{x n e:Int}(h:MayIs l x n e):e=0↔Right l∧Mays x n:=by
 rcases h with⟨a,b⟩|⟨a,b,rfl⟩|⟨a,b,rfl⟩
 ·exact⟨λh=>absurd (b.ok.1 h) a,λh=>absurd h.1 a⟩
 ·exact⟨λh=>absurd h (by decide),λh=>absurd h.2 b⟩
 ·exact⟨λ_=>⟨a,b⟩,λ_=>rfl⟩
def billK(l:List Du)(x y:Int):Nat→List Tr
 |0=>[]
 |k+1=>billK l x y k++(if 0<ov (low l k) (l.getD k du0).a x y then [⟨ov (low l k) (l.getD k du0).a x y,(l.getD k du0).b,ov (low l k) (l.getD k du0).a x y*(l.getD k du0).b⟩] else [])
theorem bill_len(l:List Du)(x y:Int)(k:Nat):(billK l x y k).length≤k:=by
 induction k with
 |zero=>exact zc
 |succ k ih=>unfold billK;rw[List.length_append];split<;>simp<;>omega
def sumA:List Tr→Int
 |[]=>0
 |t::l=>t.a+sumA l
def sumC:List Tr→Int
 |[]=>0
 |t::l=>t.c+sumC l
theorem sumA_app(l m:List Tr):sumA (l++m)=sumA l+sumA m:=by
 induction l with
 |nil=>simp[sumA]
 |cons t l ih=>simp only[List.cons_append,sumA,ih];omega
theorem sumC_app(l m:List Tr):sumC (l++m)=sumC l+sumC m:=by
 induction l with
 |nil=>simp[sumC]
 |cons t l ih=>simp only[List.cons_append,sumC,ih];omega
theorem bill_sums(l:List Du)(x y:Int)(k:Nat):sumA (billK l x y k)=manyK l x y k∧sumC (billK l x y k)=costK l x y k:=by
 induction k with
 |zero=>exact⟨rfl,rfl⟩
 |succ k ih=>
  have b:=ov_pos (low l k) (l.getD k du0).a x y;unfold billK manyK costK;rw[sumA_app,sumC_app,ih.1,ih.2];by_cases h:0<ov (low l k) (l.getD k du0).a x y
  ·rw[if_pos h];simp[sumA,sumC]
  ·have e:ov (low l k) (l.getD k du0).a x y=0:=by omega
   rw[if_neg h,e];simp[sumA,sumC]
def LineOk(t:Tr):Prop:=1≤t.a∧t.a≤10000000∧1≤t.b∧t.b≤100000∧t.c=t.a*t.b
def Top(x:Int):Int:=min 2097151 (10000000-x)
def MostOf(l:List Du)(x m u:Int):Prop:=(0≤u∧u≤Top x)∧cost l x (x+u)≤m∧(u=Top x∨m<cost l x (x+(u+1)))
theorem MostOf.one{x m u v:Int}(h:Right l)(hx:0≤x)(a:MostOf l x m u)(b:MostOf l x m v):u=v:=by
 obtain⟨⟨k,f⟩,n,d⟩:=a;obtain⟨⟨o,g⟩,p,e⟩:=b;rcases Int.lt_trichotomy u v with c|c|c
 ·rcases d with d|d
  ·omega
  ·have i:=cost_adds h x (x+(u+1)) (x+v) (by omega) (by omega);have j:=cost_bd h (x+(u+1)) (x+v) (by omega) (by omega) (by unfold Top at g;omega);omega
 ·exact c
 ·rcases e with e|e
  ·omega
  ·have i:=cost_adds h x (x+(v+1)) (x+u) (by omega) (by omega);have j:=cost_bd h (x+(v+1)) (x+u) (by omega) (by omega) (by unfold Top at f;omega);omega
def MayMost(x m:Int):Prop:=(0≤x∧x≤10000000)∧0≤m∧m≤1000000000000
def MostIs(l:List Du)(x m:Int)(u p e:Int):Prop:=(¬ Right l∧FaultIs l e∧u=0∧p=0)∨(Right l∧¬ MayMost x m∧e=2∧u=0∧p=0)∨(Right l∧MayMost x m∧e=0∧MostOf l x m u∧p=cost l x (x+u))
theorem rise_not{k:Nat}(h1:1≤k)(hk:k<l.length)(h:(l.getD k du0).a≤(l.getD (k-1) du0).a):¬ (Rises l∧Ends l):=λb=>by
 have:=b.1 k h1 hk;omega
theorem prod_bd{o p:Int}(h0:0≤o)(h1:o≤10000000)(h2:1≤p)(h3:p≤100000):0≤o*p∧o*p≤1000000000000:=by
 have a:=Int.mul_nonneg h0 (show 0≤p by omega);have b:o*p≤10000000*100000:=Int.le_trans (Int.mul_le_mul_of_nonneg_left h3 h0) (Int.mul_le_mul_of_nonneg_right h1 (by decide));exact⟨a,by omega⟩
theorem costK_le(h:Right l)(x y:Int)(hx:0≤x)(hxy:x≤y)(hy:y≤10000000)(k:Nat)(hk:k≤l.length):costK l x y k≤1000000000000:=by
 have b:=costK_mono h x y k l.length hk zc;have a:=(cost_bd h x y hx hxy hy).2;unfold cost at a;omega
theorem ov_le(lo hi x y:Int)(h0:0≤lo)(h1:hi≤10000000):ov lo hi x y≤10000000:=by unfold ov;omega
theorem billK_yes(l:List Du)(x y:Int)(k:Nat)(h:0<ov (low l k) (l.getD k du0).a x y):billK l x y (k+1)=billK l x y k++[⟨ov (low l k) (l.getD k du0).a x y,(l.getD k du0).b,ov (low l k) (l.getD k du0).a x y*(l.getD k du0).b⟩]:=by
 unfold billK;rw[if_pos h];cases k<;>rfl
theorem billK_no(l:List Du)(x y:Int)(k:Nat)(h:¬ 0<ov (low l k) (l.getD k du0).a x y):billK l x y (k+1)=billK l x y k:=by
 conv=>lhs;unfold billK
 rw[if_neg h,List.append_nil]
end tar
namespace ora
structure Pr where
 m:Int
 r:Int
 b:Int
 t:Int
def pr0:Pr:=⟨0,0,0,0⟩
def Pr.key(p:Pr)(m r b:Int):Prop:=p.m=m∧p.r=r∧p.b=b
structure At (l:List Pr) (m r b:Int) (i:Nat):Prop where
 lt:i<l.length
 is:(l.getD i pr0).key m r b
 first:∀j,j<i→¬ (l.getD j pr0).key m r b
def No(l:List Pr)(m r b:Int):Prop:=∀j,j<l.length→¬ (l.getD j pr0).key m r b
variable{l:List Pr}
theorem At.one{m r b:Int}{i j:Nat}(h:At l m r b i)(h':At l m r b j):i=j:=by
 rcases Nat.lt_trichotomy i j with a|a|a
 ·exact absurd h.is (h'.first i a)
 ·exact a
 ·exact absurd h'.is (h.first j a)
theorem At.not{m r b:Int}{i:Nat}(h:At l m r b i):¬ No l m r b:=λa=>a i h.lt h.is
def Pr.may(p:Pr):Prop:=(0≤p.m∧p.m≤49)∧(0≤p.r∧p.r≤15)∧(0≤p.b∧p.b≤8796093022207)∧(0≤p.t∧p.t≤65535)
structure May (l:List Pr):Prop where
 few:l.length≤500
 each:∀i,i<l.length→(l.getD i pr0).may∧At l (l.getD i pr0).m (l.getD i pr0).r (l.getD i pr0).b i
theorem find_or(l:List Pr)(m r b:Int):(∃i,At l m r b i)∨No l m r b:=by
 have key:∀k,k≤l.length→(∃i,At l m r b i)∨∀j,j<k→¬ (l.getD j pr0).key m r b:=by
  intro k
  induction k with
  |zero=>intro _;exact .inr λj a=>absurd a (Nat.not_lt_zero _)
  |succ k ih=>
   intro d;rcases ih (by omega) with h|h
   ·exact .inl h
   ·by_cases c:(l.getD k pr0).key m r b
    ·exact .inl ⟨k,d,c,h⟩
    ·refine .inr λj a=>?_;by_cases e:j=k
     ·subst e;exact c
     ·exact h j (by omega)
 rcases key l.length zc with h|h
 ·exact .inl h
 ·exact .inr h
def IssueIs(l:List Pr)(m r b d:Int)(ls:List Pr)(x c:Int):Prop:=
 (¬ May l∧ls=[]∧x=0∧c=5)∨(May l∧¬ (Pr.mk m r b d).may∧ls=[]∧x=0∧c=2) ∨
  (May l∧(Pr.mk m r b d).may∧(∃i,At l m r b i∧x=(l.getD i pr0).t)∧ls=l∧c=0) ∨
  (May l∧(Pr.mk m r b d).may∧No l m r b∧l.length=500∧ls=[]∧x=0∧c=16) ∨
  (May l∧(Pr.mk m r b d).may∧No l m r b∧l.length<500∧ls=l++[⟨m,r,b,d⟩]∧x=d∧c=0)
theorem IssueIs.one{m r b d:Int}{ls ls':List Pr}{x x' c c':Int}(h:IssueIs l m r b d ls x c)(h':IssueIs l m r b d ls' x' c'):ls=ls'∧x=x'∧c=c':=by
 rcases h with⟨a,rfl,rfl,rfl⟩|⟨a,f,rfl,rfl,rfl⟩|⟨a,f,⟨i,n,rfl⟩,rfl,rfl⟩|⟨a,f,k,q,rfl,rfl,rfl⟩|⟨a,f,k,q,rfl,rfl,rfl⟩<;>
  rcases h' with⟨e,rfl,rfl,rfl⟩|⟨e,g,rfl,rfl,rfl⟩|⟨e,g,⟨j,p,rfl⟩,rfl,rfl⟩|⟨e,g,o,s,rfl,rfl,rfl⟩|⟨e,g,o,s,rfl,rfl,rfl⟩<;>
  first|exact⟨rfl,rfl,rfl⟩|exact absurd e a|exact absurd a e|exact absurd g f|exact absurd f g|(exfalso;omega)|exact absurd o n.not|exact absurd k p.not|skip
 have:=n.one p;subst this;exact⟨rfl,rfl,rfl⟩
end ora
namespace words
structure W3 where
 a:Int
 b:Int
 c:Int
def W3.ok(w:W3):Prop:=(0≤w.a∧w.a<4294967296)∧(0≤w.b∧w.b<4294967296)∧(0≤w.c∧w.c<4294967296)
def W3.val(w:W3):Int:=w.a+w.b*4294967296+w.c*18446744073709551616
def top:Int:=79228162514264337593543950336
variable{w:W3}
theorem W3.bd(h:w.ok):0≤w.val∧w.val<top:=by
 obtain⟨a,b,c⟩:=h;unfold W3.val top;omega
def carry3(p q r:Int):W3:=⟨p%4294967296,(p/4294967296+q)%4294967296,((p/4294967296+q)/4294967296+r)%4294967296⟩
def carry3o(p q r:Int):Int:=((p/4294967296+q)/4294967296+r)/4294967296
theorem carry3_ok(p q r:Int):(carry3 p q r).ok:=by
 unfold carry3 W3.ok;simp only;omega
theorem carry3_val(p q r:Int):(carry3 p q r).val+carry3o p q r*top=p+q*4294967296+r*18446744073709551616:=by
 unfold carry3 carry3o W3.val top;simp only;omega
def timesW(w:W3)(m:Int):W3:=carry3 (w.a*m) (w.b*m) (w.c*m)
def timesO(w:W3)(m:Int):Int:=carry3o (w.a*m) (w.b*m) (w.c*m)
theorem times_val(w:W3)(m:Int):(timesW w m).val+timesO w m*top=w.val*m:=by
 have:=carry3_val (w.a*m) (w.b*m) (w.c*m);unfold timesW timesO;rw[this];unfold W3.val;rw[Int.add_mul,Int.add_mul,Int.mul_right_comm w.b,Int.mul_right_comm w.c]
theorem prod_bd{x m:Int}(x0:0≤x)(x1:x<4294967296)(m0:0≤m)(m1:m<4294967296):0≤x*m∧x*m≤4294967295*4294967295:=
 ⟨Int.mul_nonneg x0 m0,Int.mul_le_mul (by omega) (by omega) m0 (by omega)⟩
theorem times_mod(m:Int):(timesW w m).val=w.val*m%top:=by
 have h:=times_val w m;have b:=W3.bd (carry3_ok (w.a*m) (w.b*m) (w.c*m));have e:(timesW w m).val=(carry3 (w.a*m) (w.b*m) (w.c*m)).val:=rfl;rw[← h,Int.add_mul_emod_self_right,Int.emod_eq_of_lt (by omega) (by omega)]
def over2(w:W3)(d:Int):Int:=w.c%d
def over1(w:W3)(d:Int):Int:=(over2 w d*4294967296+w.b)%d
def overR(w:W3)(d:Int):Int:=(over1 w d*4294967296+w.a)%d
def overW(w:W3)(d:Int):W3:=⟨(over1 w d*4294967296+w.a)/d,(over2 w d*4294967296+w.b)/d,w.c/d⟩
theorem word_div{r x d:Int}(h0:0<d)(r0:0≤r)(r1:r<d)(x0:0≤x)(x1:x<4294967296):0≤(r*4294967296+x)/d∧(r*4294967296+x)/d<4294967296:=by
 refine⟨Int.ediv_nonneg (by omega) (by omega),?_⟩;rw[Int.ediv_lt_iff_lt_mul h0];omega
theorem over_left(d:Int)(h:0<d):0≤overR w d∧overR w d<d:=⟨Int.emod_nonneg _ (by omega),Int.emod_lt_of_pos _ h⟩
theorem over_ok(hw:w.ok){d:Int}(h:0<d):(overW w d).ok:=by
 obtain⟨⟨c,e⟩,⟨f,g⟩,c1,c2⟩:=hw;have b:0≤over2 w d∧over2 w d<d:=⟨Int.emod_nonneg _ (by omega),Int.emod_lt_of_pos _ h⟩
 have a:0≤over1 w d∧over1 w d<d:=⟨Int.emod_nonneg _ (by omega),Int.emod_lt_of_pos _ h⟩
 refine⟨word_div h a.1 a.2 c e,word_div h b.1 b.2 f g,?_⟩;have:=word_div h (r:=0) (by omega) h c1 c2;simpa [overW] using this
theorem over_val(w:W3)(d:Int):(overW w d).val*d+overR w d=w.val:=by
 have g:=Int.emod_add_mul_ediv w.c d;have f:=Int.emod_add_mul_ediv (over2 w d*4294967296+w.b) d;have e:=Int.emod_add_mul_ediv (over1 w d*4294967296+w.a) d;have j:over2 w d=w.c%d:=rfl;have i:over1 w d=(over2 w d*4294967296+w.b)%d:=rfl;have h:overR w d=(over1 w d*4294967296+w.a)%d:=rfl;rw[← j] at g;rw[← i] at f;rw[← h] at e;unfold W3.val overW;simp only;rw[Int.add_mul,Int.add_mul,Int.mul_right_comm _ 4294967296,Int.mul_right_comm _ 18446744073709551616,Int.mul_comm _ d,Int.mul_comm _ d,Int.mul_comm _ d];generalize d*((over1 w d*4294967296+w.a)/d)=k at *;generalize d*((over2 w d*4294967296+w.b)/d)=l at *;generalize d*(w.c/d)=m at *;omega
end words
namespace book
open Go.RowKit
theorem eqI(d:Nat)(a b:Int)(w:World):(Op.equalIn (d+1) 3 (zI a) (zI b)).run Tryz.prog w=.ok (a==b) w:=run_equalIn_int w d _ _ _ a b Tryz.underlying3
end book
namespace cal
open Go.RowKit
theorem cin(n lo hi:Int)(w:World):Calls Tryz.prog 47 #[zI n,zI lo,zI hi] w λe w'=>e=.returned (.bool (decide (lo≤n∧n≤hi)))∧w'=w:=by
 by_cases b:lo≤n
 ·by_cases c:n≤hi
  ·have a:decide (lo≤n∧n≤hi)=true:=by simp;omega
   rw[a];clear a;go_enter Tryz.func47,Tryz.ntmps47;go_wp2;go_ret;exact⟨rfl,rfl⟩
  ·have a:decide (lo≤n∧n≤hi)=false:=by simp;omega
   have d:decide (n≤hi)=false:=by simp;omega
   rw[a];clear a c;go_enter Tryz.func47,Tryz.ntmps47;go_wp2;go_ret;exact⟨rfl,rfl⟩
 ·have a:decide (lo≤n∧n≤hi)=false:=by simp;omega
  have d:decide (lo≤n)=false:=by simp;omega
  rw[a];clear a b;go_enter Tryz.func47,Tryz.ntmps47;go_wp2;go_ret;exact⟨rfl,rfl⟩
end cal
namespace token
open Go.RowKit
theorem in_yes(n lo hi:Int)(w:World)(h1:lo≤n)(h2:n≤hi):
  Calls Tryz.prog 47 #[zI n,zI lo,zI hi] w λe w'=>e=.returned (.bool true)∧w'=w:=by
 go_enter Tryz.func47,Tryz.ntmps47;go_wp2;go_ret;exact⟨rfl,rfl⟩
theorem in_no(n lo hi:Int)(w:World)(h:n<lo∨hi<n):
  Calls Tryz.prog 47 #[zI n,zI lo,zI hi] w λe w'=>e=.returned (.bool false)∧w'=w:=by
 by_cases a:n<lo
 ·clear h;go_enter Tryz.func47,Tryz.ntmps47;go_wp2;go_ret;exact⟨rfl,rfl⟩
 ·have b:lo≤n:=by omega
  have c:decide (n≤hi)=false:=by simp;omega
  clear h a;go_enter Tryz.func47,Tryz.ntmps47;go_wp2;go_ret;exact⟨rfl,rfl⟩
end token
namespace words
open Go.ChangeShapes Go.WideShapes Go.ChangeAt Go.RowKit
theorem cells_word:Tryz.prog.cellsOf 83=1:=by kernel_rfl
end words
namespace cents
open Go.RowKit
def Row(w:World)(a:Option Addr)(len:Nat)(zs:List Int):Prop:=
 zs.length=len∧(len=0∨∃b off,a=some ⟨b,off,none⟩∧∀i,i<len→w.cell? ⟨b,off+i,none⟩=some (zI (zs.getD i 0)))
def okAll(lo hi:Int)(l:List Int):Bool:=l.all λn=>decide (lo≤n)&&decide (n≤hi)
theorem okAll_step(lo hi:Int)(zs:List Int)(k:Nat)(hk:k<zs.length)(h:okAll lo hi (zs.take k)=true)(h1:lo≤zs.getD k 0)(h2:zs.getD k 0≤hi):okAll lo hi (zs.take (k+1))=true:=by
 unfold okAll at *;rw[List.take_add_one,List.all_append,h];simp only[List.getD,List.getElem?_eq_getElem hk,Option.getD] at h1 h2 ⊢;simp[h1,h2]
theorem okAll_no(lo hi:Int)(zs:List Int)(k:Nat)(hk:k<zs.length)(h:zs.getD k 0<lo∨hi<zs.getD k 0):okAll lo hi zs=false:=by
 unfold okAll;rw[List.all_eq_false];refine⟨zs[k],List.getElem_mem hk,?_⟩;simp only[List.getD,List.getElem?_eq_getElem hk,Option.getD] at h;simp;omega
theorem ret_bool{a b:Bool}(h:a=b):Ending.returned (.bool a)=.returned (.bool b):=by rw[h]
theorem within_any(lo hi:Int)(a:Option Addr)(len cap:Nat)(zs:List Int)(w:World)(hr:Row w a len zs)(hl:len≤maxLen):
  Calls Tryz.prog 100 #[zI lo,zI hi,.slice a len cap] w λe w'=>e=.returned (.bool (okAll lo hi zs))∧w'=w:=by
 unfold maxLen at hl;obtain⟨r,hr⟩:=hr;go_enter Tryz.func100,Tryz.ntmps100;go_wp2;go_loop [11] (λi=>∃k:Nat,k≤len∧i=zI k∧okAll lo hi (zs.take k)=true) (λi=>len-(intOf i).toNat)
 case atStart=>exact⟨0,Nat.zero_le _,rfl,rfl⟩
 case round=>
  obtain⟨k,q,rfl,d⟩:=hrel;have h:Hid (okAll lo hi (zs.take k)=true):=d;clear d;by_cases g:k<len
  ·rcases hr with p|⟨b,n,rfl,j⟩
   ·omega
   have c:=j k g;clear j;generalize hzk:zs.getD k 0=z at c;have f:Hid (zs.getD k 0=z):=hzk;clear hzk;by_cases l:z<lo
   ·go_wp2;go_ret;exact⟨ret_bool (okAll_no lo hi zs k (by omega) (.inl (by rw[f.o];exact l))).symm,rfl⟩
   ·by_cases m:hi<z
    ·go_wp2;go_ret;exact⟨ret_bool (okAll_no lo hi zs k (by omega) (.inr (by rw[f.o];exact m))).symm,rfl⟩
    ·go_wp2;go_round
     case rel=>exact⟨k+1,by omega,by go_num,okAll_step lo hi zs k (by omega) h.o (by rw[f.o];omega) (by rw[f.o];omega)⟩
     case measure=>simp[intOf];omega
  ·go_wp2;go_ret;refine⟨ret_bool ?_,rfl⟩;have:=h.o;rw[List.take_of_length_le (by omega)] at this;exact this.symm
theorem row_one(w:World)(z:Int)(t:TypeId):Row (w.alloc (.cells #[zI z] t)) (some ⟨w.heap.size,0,none⟩) 1 [z]:=by
 refine⟨rfl,.inr ⟨_,_,rfl,λi a=>?_⟩⟩;obtain rfl:i=0:=by omega
 simp
theorem okAll_yes{lo hi z:Int}(h1:lo≤z)(h2:z≤hi):okAll lo hi [z]=true:=by simp[okAll,h1,h2]
theorem okAll_not{lo hi z:Int}(h:z<lo∨hi<z):okAll lo hi [z]=false:=by simp[okAll];omega
theorem within_one_yes(lo hi z:Int)(w:World)(b:Nat)(hb:b=w.heap.size)(h1:lo≤z)(h2:z≤hi):
  Calls Tryz.prog 100 #[zI lo,zI hi,.slice (some ⟨b,0,none⟩) 1 1] (w.alloc (.cells #[zI z] 3)) λe w'=>e=.returned (.bool true)∧w'=w.alloc (.cells #[zI z] 3):=by
 have h:=within_any lo hi _ 1 1 [z] _ (row_one w z 3) (by decide);rw[okAll_yes h1 h2] at h;rw[hb];exact h
theorem within_one_no(lo hi z:Int)(w:World)(b:Nat)(hb:b=w.heap.size)(h0:z<lo∨hi<z):
  Calls Tryz.prog 100 #[zI lo,zI hi,.slice (some ⟨b,0,none⟩) 1 1] (w.alloc (.cells #[zI z] 3)) λe w'=>e=.returned (.bool false)∧w'=w.alloc (.cells #[zI z] 3):=by
 have h:=within_any lo hi _ 1 1 [z] _ (row_one w z 3) (by decide);rw[okAll_not h0] at h;rw[hb];exact h
theorem prod_bd(a b A B:Int)(h1:0≤a)(h2:a≤A)(h3:0≤b)(h4:b≤B):0≤a*b∧a*b≤A*B:=
 ⟨Int.mul_nonneg h1 h3,Int.mul_le_mul h2 h4 h3 (by omega)⟩
theorem bel1(w:World)(o:Obj):zB w (w.alloc o):=zb.alloc zc _
theorem bel2(w:World)(o o':Obj):zB w ((w.alloc o).alloc o'):=(bel1 w o).alloc (by simp) _
theorem part_yes(a b:Int)(w:World)(h1:0≤a)(h2:a≤1000000000000)(h3:0≤b)(h4:b≤10000):
  Calls Tryz.prog 68 #[zI a,zI b] w λe w'=>e=.returned (.tuple #[zI (a*b/10000),zI 0])∧zB w w':=by
 obtain⟨c,d⟩:=prod_bd a b _ _ h1 h2 h3 h4;go_enter Tryz.func68,Tryz.ntmps68;go_wp2_with fail;refine(within_one_yes _ _ _ _ _ rfl h1 h2).mono ?_;rintro e w' ⟨rfl,rfl⟩;go_wp2_with fail;refine(within_one_yes _ _ _ _ _ (by simp) h3 h4).mono ?_;rintro e w' ⟨rfl,rfl⟩;go_wp2;go_ret2;exact⟨rfl,bel2 _ _ _⟩
theorem part_no(a b:Int)(w:World)(h:(a<0∨1000000000000<a)∨(b<0∨10000<b)):
  Calls Tryz.prog 68 #[zI a,zI b] w λe w'=>e=.returned (.tuple #[zI 0,zI 2])∧zB w w':=by
 by_cases c:a<0∨1000000000000<a
 ·clear h;go_enter Tryz.func68,Tryz.ntmps68;go_wp2_with fail;refine(within_one_no _ _ _ _ _ rfl c).mono ?_;rintro e w' ⟨rfl,rfl⟩;go_wp2;go_ret2;exact⟨rfl,bel1 _ _⟩
 ·have g:b<0∨10000<b:=by omega
  have d:0≤a:=by omega
  have f:a≤1000000000000:=by omega
  clear h c;go_enter Tryz.func68,Tryz.ntmps68;go_wp2_with fail;refine(within_one_yes _ _ _ _ _ rfl d f).mono ?_;rintro e w' ⟨rfl,rfl⟩;go_wp2_with fail;refine(within_one_no _ _ _ _ _ (by simp) g).mono ?_;rintro e w' ⟨rfl,rfl⟩;go_wp2;go_ret2;exact⟨rfl,bel2 _ _ _⟩
end cents
namespace tar
open Go.RowKit
theorem run_min(x y m:Int)(h:min x y=m)(w:World):(Builtin.min_ #[3,3] 3 #[zI x,zI y]).run Tryz.prog w=.ok (zI m) w:=by
 subst h;unfold Builtin.min_;by_cases h:y<x
 ·rw[show min x y=y by omega];simp[Builtin.min2,go_sem];omega
 ·rw[show min x y=x by omega];simp[Builtin.min2,go_sem];omega
end tar
end Go.Proofs.YtoepgdhiepedeaaGreatDoor
