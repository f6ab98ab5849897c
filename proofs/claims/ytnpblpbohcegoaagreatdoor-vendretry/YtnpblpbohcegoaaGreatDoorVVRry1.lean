import Derived.Test.YtnpblpbohcegoaaGreatDoorVVRry0
set_option linter.unusedVariables false
set_option linter.unusedSimpArgs false
set_option maxHeartbeats 4000000
set_option maxRecDepth 100000
namespace Go.Proofs.YtnpblpbohcegoaaGreatDoor
section
open Go.RowKit
def Blk (w:World) (G:Nat) (cs:Array Value) (t:TypeId):Prop:=w.heap[G]?=some (.cells cs t (0,0))
theorem Blk.lt {w:World} {G:Nat} {cs:Array Value} {t:TypeId} (h:Blk w G cs t):G<w.heap.size:=by
 unfold Blk at h;by_cases hh:G<w.heap.size
 ·exact hh
 ·rw [Array.getElem?_eq_none (by omega)] at h;cases h
theorem Blk.new (w:World) (cs:Array Value) (t:TypeId):Blk (w.alloc (.cells cs t)) w.heap.size cs t:=by
 show (w.heap.push _)[w.heap.size]?=_;rw [Array.getElem?_push_size]
theorem Blk.new1 (w:World) (o:Obj) (cs:Array Value) (t:TypeId):Blk ((w.alloc o).alloc (.cells cs t)) (w.heap.size+1) cs t:=by
 have h:=Blk.new (w.alloc o) cs t
 rwa [show (w.alloc o).heap.size=w.heap.size+1 by simp] at h
theorem Blk.new2 (w:World) (o p:Obj) (cs:Array Value) (t:TypeId):Blk (((w.alloc o).alloc p).alloc (.cells cs t)) (w.heap.size+1+1) cs t:=by
 have h:=Blk.new ((w.alloc o).alloc p) cs t
 rwa [show ((w.alloc o).alloc p).heap.size=w.heap.size+1+1 by simp] at h
theorem Blk.new3 (w:World) (o p q:Obj) (cs:Array Value) (t:TypeId):Blk ((((w.alloc o).alloc p).alloc q).alloc (.cells cs t)) (w.heap.size+1+1+1) cs t:=by
 have h:=Blk.new (((w.alloc o).alloc p).alloc q) cs t
 rwa [show (((w.alloc o).alloc p).alloc q).heap.size=w.heap.size+1+1+1 by simp] at h
theorem Blk.alloc {w:World} {G:Nat} {cs:Array Value} {t:TypeId} (h:Blk w G cs t) (o:Obj):Blk (w.alloc o) G cs t:=by
 have hl:=h.lt;unfold Blk at *;show (w.heap.push o)[G]?=_;rw [Array.getElem?_push,if_neg (by omega)];exact h
theorem Blk.below {w w':World} {G B:Nat} {cs:Array Value} {t:TypeId} (h:Blk w G cs t) (hb:Below B w w') (hG:G<B):Blk w' G cs t:=by
 unfold Blk at *;rw [hb.block G hG];exact h
theorem Blk.next {w w':World} {G:Nat} {cs:Array Value} {t:TypeId} (h:Blk w G cs t) (hb:Below w.heap.size w w'):Blk w' G cs t:=h.below hb h.lt
theorem Blk.cell {w:World} {G:Nat} {cs:Array Value} {t:TypeId} (h:Blk w G cs t) (i:Nat):w.cell? ⟨G,i,none⟩=cs[i]?:=by
 unfold Blk at h;simp [World.cell?,h]
theorem Blk.free {w:World} {G:Nat} {cs:Array Value} {t:TypeId} (h:Blk w G cs t) (i:Nat):w.frozen? ⟨G,i,none⟩=false:=by
 unfold Blk at h;simp [World.frozen?,h]
theorem Blk.set {w:World} {G:Nat} {cs:Array Value} {t:TypeId} (h:Blk w G cs t) (i:Nat) (u:Value):Blk (w.setCell ⟨G,i,none⟩ u) G (cs.setIfInBounds i u) t:=by
 have hl:=h.lt;unfold Blk at *;have hl':=hl;simp [World.setCell,Array.getElem?_modify,h]
theorem Blk.other {w:World} {G G':Nat} {cs:Array Value} {t:TypeId} (h:Blk w G cs t) (i:Nat) (u:Value) (hne:G'≠G):Blk (w.setCell ⟨G',i,none⟩ u) G cs t:=by
 unfold Blk at *;simp only [World.setCell,Array.getElem?_modify];rw [if_neg hne];exact h
theorem Blk.drew {w:World} {G:Nat} {cs:Array Value} {t:TypeId} (h:Blk w G cs t) (q:Nat):Blk (w.drewN q) G cs t:=h
theorem bel_set {B:Nat} {w w':World} (h:Below B w w') (G i:Nat) (u:Value) (hG:B≤G):Below B w (w'.setCell ⟨G,i,none⟩ u):=by
 refine ⟨h.os,h.tape,h.output,by simp [World.setCell];exact h.size,fun k hk=>?_⟩;rw [← h.block k hk];simp only [World.setCell,Array.getElem?_modify];rw [if_neg (by omega)]
theorem bel_drew {B:Nat} {w0 w:World} (h:Below B w0 w) (q:Nat):Below B w0 (w.drewN q):=⟨h.os,h.tape,h.output,h.size,h.block⟩
theorem bel_step {w0 w w':World} (h:Below w0.heap.size w0 w) (h':Below w.heap.size w w'):Below w0.heap.size w0 w':=h.trans (h'.mono h.size)
end
namespace cell
structure Wr where
 p:Int
 d:Int
def wr0:Wr:=⟨0,0⟩
def wrt:List Int→List Wr→List Int
 | c,[]=>c
 | c,e :: l=>wrt (c.set e.p.toNat e.d) l
theorem wrt_app (c:List Int) (l m:List Wr):wrt c (l++m)=wrt (wrt c l) m:=by
 induction l generalizing c with
 | nil=>rfl
 | cons e l ih=>exact ih _
theorem wrt_one (c:List Int) (e:Wr):wrt c [e]=c.set e.p.toNat e.d:=rfl
theorem wrt_len (c:List Int) (l:List Wr):(wrt c l).length=c.length:=by
 induction l generalizing c with
 | nil=>rfl
 | cons e l ih=>rw [wrt,ih,List.length_set]
theorem take_one (l:List Wr) (k:Nat) (h:k<l.length):l.take (k+1)=l.take k++[l.getD k wr0]:=by
 rw [List.take_succ_eq_append_getElem h];simp [List.getD,List.getElem?_eq_getElem h]
theorem wrt_step (c:List Int) (l:List Wr) (k:Nat) (h:k<l.length):wrt c (l.take (k+1))=(wrt c (l.take k)).set (l.getD k wr0).p.toNat (l.getD k wr0).d:=by
 rw [take_one l k h,wrt_app,wrt_one]
theorem set_at (c:List Int) (i j:Nat) (v:Int):(c.set i v).getD j 0=if j=i∧i<c.length then v else c.getD j 0:=by
 simp only [List.getD,List.getElem?_set];by_cases h:i=j
 ·subst h;by_cases h2:i<c.length
  ·simp [h2]
  ·simp [h2]
 ·rw [if_neg h,if_neg (by omega)]
def inN (n:Nat) (e:Wr):Bool:=decide (0≤e.p) && decide (e.p<n)
theorem inN_iff {n:Nat} {e:Wr}:inN n e=true↔0≤e.p∧e.p<n:=by simp [inN]
def allN (n:Nat) (l:List Wr):Bool:=l.all (inN n)
theorem allN_at {n:Nat} {l:List Wr} (h:allN n l=true) (k:Nat) (hk:k<l.length):0≤(l.getD k wr0).p∧(l.getD k wr0).p<n:=by
 have:=List.all_eq_true.1 h l[k] (List.getElem_mem hk);rw [inN_iff] at this;simpa [List.getD,List.getElem?_eq_getElem hk] using this
theorem allN_take {n:Nat} {l:List Wr} (h:allN n l=true) (k:Nat):allN n (l.take k)=true:=by
 refine List.all_eq_true.2 fun e he=>?_;exact List.all_eq_true.1 h e (List.mem_of_mem_take he)
theorem allN_step (n:Nat) (l:List Wr) (k:Nat) (hk:k<l.length):allN n (l.take (k+1))=(allN n (l.take k) && inN n (l.getD k wr0)):=by
 rw [take_one l k hk];simp [allN]
theorem allN_of_false {n:Nat} {l:List Wr} {k:Nat} (hk:k<l.length) (h:inN n (l.getD k wr0)=false):allN n l=false:=by
 refine Bool.eq_false_iff.2 fun ha=>?_;have:=allN_at ha k hk;rw [← inN_iff] at this;rw [h] at this;cases this
theorem allN_snoc {n:Nat} {l:List Wr} {e:Wr} (h:allN n l=true) (he:0≤e.p∧e.p<n):allN n (l++[e])=true:=by
 unfold allN at *;rw [List.all_append,h];simp [inN,he]
theorem list_ext {a b:List Int} (hl:a.length=b.length) (h:∀ j,j<a.length→a.getD j 0=b.getD j 0):a=b:=by
 apply List.ext_getElem hl;intro j h1 h2;have:=h j h1;simpa [List.getD,List.getElem?_eq_getElem h1,List.getElem?_eq_getElem h2] using this
end cell
namespace book
open Go.RowKit
structure Ev where
 kd:Int
 me:Int
 mo:Int
 id:Int
 te:Int
 de:Int
 fe:Int
 pr:Int
 ch:Int
 un:Int
 tg:Int
 ow:Int
 bp:Int
def ev0:Ev:=⟨0,0,0,0,0,0,0,0,0,0,0,0,0⟩
def EMay (v:Ev):Prop:=(0≤v.me∧v.me≤49)∧((v.kd=1∧v.mo=0∧v.id=0∧v.te=0∧v.de=0∧v.fe=0∧v.pr=0∧v.ch=0∧v.un=0∧v.tg=0∧v.ow=0∧v.bp=0)∨(v.kd=5∧v.mo=0∧v.id=0∧v.te=0∧v.de=0∧v.fe=0∧v.pr=0∧v.ch=0∧v.un=0∧v.tg=0∧(1≤v.ow∧v.ow≤1000000000)∧0≤v.bp∧v.bp≤10000) ∨
 ((2≤v.kd∧v.kd≤4)∧(1≤v.id∧v.id≤1048575)∧(0≤v.tg∧v.tg≤65535)∧(v.ow=0∧v.bp=0)∧((v.kd=4∧v.mo=0∧v.te=0∧v.de=0∧v.fe=0∧v.pr=0∧v.ch=0∧v.un=0)∨(v.kd≠4∧(0≤v.mo∧v.mo≤2399)∧(1≤v.un∧v.un≤2097151) ∧
   ((v.kd=3∧v.te=0∧v.de=0∧v.fe=0∧v.pr=0∧v.ch=0)∨(v.kd≠3∧(1≤v.te∧v.te≤100000000)∧(0≤v.de∧v.de≤v.te)∧(0≤v.fe∧v.fe≤v.te)∧(0≤v.pr∧v.pr≤v.te)∧(0≤v.ch∧v.ch≤v.te)∧v.de+v.fe+v.pr+v.ch=v.te))))))
def evL (v:Ev):List Int:=[v.kd,v.me,v.mo,v.id,v.te,v.de,v.fe,v.pr,v.ch,v.un,v.tg,v.ow,v.bp]
theorem evL_len (v:Ev):(evL v).length=13:=rfl
theorem may_word {v:Ev} (h:EMay v):∀ x∈evL v,0≤x∧x<4294967296:=by
 intro x hx;unfold EMay at h;simp only [evL,List.mem_cons,List.not_mem_nil,or_false] at hx;rcases hx with rfl | rfl | rfl | rfl | rfl | rfl | rfl | rfl | rfl | rfl | rfl | rfl | rfl <;> omega
def evOf (l:List Int):Ev:=⟨l.getD 0 0,l.getD 1 0,l.getD 2 0,l.getD 3 0,l.getD 4 0,l.getD 5 0,l.getD 6 0,l.getD 7 0,l.getD 8 0,l.getD 9 0,l.getD 10 0,l.getD 11 0,l.getD 12 0⟩
theorem evOf_L (v:Ev):evOf (evL v)=v:=rfl
def EncIs (v:Ev) (ws:List Int) (e:Int):Prop:=(EMay v∧ws=evL v∧e=0)∨(¬ EMay v∧ws=[]∧e=5)
theorem EncIs.one {v:Ev} {a b:List Int} {e f:Int} (h:EncIs v a e) (h':EncIs v b f):a=b∧e=f:=by
 rcases h with ⟨q,rfl,rfl⟩ | ⟨q,rfl,rfl⟩ <;> rcases h' with ⟨q',rfl,rfl⟩ | ⟨q',rfl,rfl⟩ <;> first | exact ⟨rfl,rfl⟩ | contradiction
def DecIs (l:List Int) (v:Ev) (e:Int):Prop:=(l.length≠13∧v=ev0∧e=1)∨(l.length=13∧¬ EMay (evOf l)∧v=ev0∧e=5)∨(l.length=13∧EMay (evOf l)∧v=evOf l∧e=0)
theorem DecIs.one {l:List Int} {a b:Ev} {e f:Int} (h:DecIs l a e) (h':DecIs l b f):a=b∧e=f:=by
 rcases h with ⟨q,rfl,rfl⟩ | ⟨q,r,rfl,rfl⟩ | ⟨q,r,rfl,rfl⟩ <;> rcases h' with ⟨q',rfl,rfl⟩ | ⟨q',r',rfl,rfl⟩ | ⟨q',r',rfl,rfl⟩ <;> first | exact ⟨rfl,rfl⟩ | contradiction
end book
namespace ora
structure Pr where
 m:Int
 r:Int
 b:Int
 t:Int
def pr0:Pr:=⟨0,0,0,0⟩
def Pr.key (p:Pr) (m r b:Int):Prop:=p.m=m∧p.r=r∧p.b=b
structure At (l:List Pr) (m r b:Int) (i:Nat):Prop where
 lt:i<l.length
 is:(l.getD i pr0).key m r b
 first:∀ j,j<i→¬ (l.getD j pr0).key m r b
def No (l:List Pr) (m r b:Int):Prop:=∀ j,j<l.length→¬ (l.getD j pr0).key m r b
theorem At.one {l:List Pr} {m r b:Int} {i j:Nat} (h:At l m r b i) (h':At l m r b j):i=j:=by
 rcases Nat.lt_trichotomy i j with h1 | h1 | h1
 ·exact absurd h.is (h'.first i h1)
 ·exact h1
 ·exact absurd h'.is (h.first j h1)
theorem At.not {l:List Pr} {m r b:Int} {i:Nat} (h:At l m r b i):¬ No l m r b:=fun hn=>hn i h.lt h.is
def Pr.may (p:Pr):Prop:=(0≤p.m∧p.m≤49)∧(0≤p.r∧p.r≤15)∧(0≤p.b∧p.b≤8796093022207)∧(0≤p.t∧p.t≤65535)
structure May (l:List Pr):Prop where
 few:l.length≤500
 each:∀ i,i<l.length→(l.getD i pr0).may∧At l (l.getD i pr0).m (l.getD i pr0).r (l.getD i pr0).b i
theorem find_or (l:List Pr) (m r b:Int):(∃ i,At l m r b i)∨No l m r b:=by
 have key:∀ k,k≤l.length→(∃ i,At l m r b i)∨∀ j,j<k→¬ (l.getD j pr0).key m r b:=by
  intro k
  induction k with
  | zero=>intro _;exact .inr fun j hj=>absurd hj (Nat.not_lt_zero _)
  | succ k ih=>
   intro hk;rcases ih (by omega) with h | h
   ·exact .inl h
   ·by_cases hx:(l.getD k pr0).key m r b
    ·exact .inl ⟨k,hk,hx,h⟩
    ·refine .inr fun j hj=>?_;by_cases e:j=k
     ·subst e;exact hx
     ·exact h j (by omega)
 rcases key l.length (Nat.le_refl _) with h | h
 ·exact .inl h
 ·exact .inr h
def IssueIs (l:List Pr) (m r b d:Int) (ls:List Pr) (x c:Int):Prop:=
 (¬ May l∧ls=[]∧x=0∧c=5)∨(May l∧¬ (Pr.mk m r b d).may∧ls=[]∧x=0∧c=2) ∨
  (May l∧(Pr.mk m r b d).may∧(∃ i,At l m r b i∧x=(l.getD i pr0).t)∧ls=l∧c=0) ∨
  (May l∧(Pr.mk m r b d).may∧No l m r b∧l.length=500∧ls=[]∧x=0∧c=16) ∨
  (May l∧(Pr.mk m r b d).may∧No l m r b∧l.length<500∧ls=l++[⟨m,r,b,d⟩]∧x=d∧c=0)
theorem IssueIs.one {l:List Pr} {m r b d:Int} {ls ls':List Pr} {x x' c c':Int} (h:IssueIs l m r b d ls x c) (h':IssueIs l m r b d ls' x' c'):ls=ls'∧x=x'∧c=c':=by
 rcases h with ⟨a1,rfl,rfl,rfl⟩ | ⟨a1,a2,rfl,rfl,rfl⟩ | ⟨a1,a2,⟨i,ai,rfl⟩,rfl,rfl⟩ | ⟨a1,a2,a3,a4,rfl,rfl,rfl⟩ | ⟨a1,a2,a3,a4,rfl,rfl,rfl⟩ <;>
  rcases h' with ⟨b1,rfl,rfl,rfl⟩ | ⟨b1,b2,rfl,rfl,rfl⟩ | ⟨b1,b2,⟨j,bj,rfl⟩,rfl,rfl⟩ | ⟨b1,b2,b3,b4,rfl,rfl,rfl⟩ | ⟨b1,b2,b3,b4,rfl,rfl,rfl⟩ <;>
  first | exact ⟨rfl,rfl,rfl⟩ | exact absurd b1 a1 | exact absurd a1 b1 | exact absurd b2 a2 | exact absurd a2 b2 | (exfalso;omega) | exact absurd b3 ai.not | exact absurd a3 bj.not | skip
 have:=ai.one bj;subst this;exact ⟨rfl,rfl,rfl⟩
theorem getD_app (l:List Pr) (p:Pr) (i:Nat):(l++[p]).getD i pr0=if i<l.length then l.getD i pr0 else if i=l.length then p else pr0:=by
 simp only [List.getD];by_cases h:i<l.length
 ·rw [if_pos h,List.getElem?_append_left h]
 ·rw [if_neg h,List.getElem?_append_right (by omega)];by_cases e:i=l.length
  ·subst e;simp
  ·rw [if_neg e,List.getElem?_eq_none (by simp;omega)];rfl
theorem At.app {l:List Pr} {m r b:Int} {i:Nat} (h:At l m r b i) (p:Pr):At (l++[p]) m r b i:=by
 have hl:=h.lt;refine ⟨by rw [List.length_append];omega,?_,fun j hj=>?_⟩
 ·rw [getD_app,if_pos hl];exact h.is
 ·rw [getD_app,if_pos (by omega)];exact h.first j hj
theorem No.app {l:List Pr} {m r b:Int} (h:No l m r b) {p:Pr} (hp:p.key m r b):At (l++[p]) m r b l.length:=by
 refine ⟨by simp,?_,fun j hj=>?_⟩
 ·rw [getD_app,if_neg (Nat.lt_irrefl _),if_pos rfl];exact hp
 ·rw [getD_app,if_pos hj];exact h j hj
theorem No.keep {l:List Pr} {m r b:Int} (h:No l m r b) {p:Pr} (hp:¬ p.key m r b):No (l++[p]) m r b:=by
 intro j hj;rw [List.length_append] at hj;simp at hj;rw [getD_app];by_cases h1:j<l.length
 ·rw [if_pos h1];exact h j h1
 ·rw [if_neg h1,if_pos (by omega)];exact hp
theorem May.app {l:List Pr} {m r b d:Int} (h:May l) (hp:(Pr.mk m r b d).may) (hn:No l m r b) (hl:l.length<500):May (l++[⟨m,r,b,d⟩]):=by
 refine ⟨by rw [List.length_append];simp;omega,fun i hi=>?_⟩;rw [List.length_append] at hi;simp at hi;rw [getD_app];by_cases h1:i<l.length
 ·rw [if_pos h1];exact ⟨(h.each i h1).1,(h.each i h1).2.app _⟩
 ·rw [if_neg h1,if_pos (by omega)];have e:i=l.length:=by omega
  subst e;exact ⟨hp,hn.app ⟨rfl,rfl,rfl⟩⟩
end ora
namespace words
structure W3 where
 a:Int
 b:Int
 c:Int
def W3.ok (w:W3):Prop:=(0≤w.a∧w.a<4294967296)∧(0≤w.b∧w.b<4294967296)∧(0≤w.c∧w.c<4294967296)
def W3.val (w:W3):Int:=w.a+w.b*4294967296+w.c*18446744073709551616
def top:Int:=79228162514264337593543950336
theorem W3.bd {w:W3} (h:w.ok):0≤w.val∧w.val<top:=by
 obtain ⟨h1,h2,h3⟩:=h;unfold W3.val top;omega
def carry3 (p q r:Int):W3:=⟨p % 4294967296,(p / 4294967296+q) % 4294967296,((p / 4294967296+q) / 4294967296+r) % 4294967296⟩
def carry3o (p q r:Int):Int:=((p / 4294967296+q) / 4294967296+r) / 4294967296
theorem carry3_ok (p q r:Int):(carry3 p q r).ok:=by
 unfold carry3 W3.ok;simp only;omega
theorem carry3_val (p q r:Int):(carry3 p q r).val+carry3o p q r*top=p+q*4294967296+r*18446744073709551616:=by
 unfold carry3 carry3o W3.val top;simp only;omega
def timesW (w:W3) (m:Int):W3:=carry3 (w.a*m) (w.b*m) (w.c*m)
def timesO (w:W3) (m:Int):Int:=carry3o (w.a*m) (w.b*m) (w.c*m)
theorem times_val (w:W3) (m:Int):(timesW w m).val+timesO w m*top=w.val*m:=by
 have:=carry3_val (w.a*m) (w.b*m) (w.c*m);unfold timesW timesO;rw [this];unfold W3.val;rw [Int.add_mul,Int.add_mul,Int.mul_right_comm w.b,Int.mul_right_comm w.c]
theorem prod_bd {x m:Int} (x0:0≤x) (x1:x<4294967296) (m0:0≤m) (m1:m<4294967296):0≤x*m∧x*m≤4294967295*4294967295:=
 ⟨Int.mul_nonneg x0 m0,Int.mul_le_mul (by omega) (by omega) m0 (by omega)⟩
theorem times_mod {w:W3} (m:Int):(timesW w m).val=w.val*m % top:=by
 have h:=times_val w m;have b:=W3.bd (carry3_ok (w.a*m) (w.b*m) (w.c*m));have e:(timesW w m).val=(carry3 (w.a*m) (w.b*m) (w.c*m)).val:=rfl;rw [← h,Int.add_mul_emod_self_right,Int.emod_eq_of_lt (by omega) (by omega)]
def over2 (w:W3) (d:Int):Int:=w.c % d
def over1 (w:W3) (d:Int):Int:=(over2 w d*4294967296+w.b) % d
def overR (w:W3) (d:Int):Int:=(over1 w d*4294967296+w.a) % d
def overW (w:W3) (d:Int):W3:=⟨(over1 w d*4294967296+w.a) / d,(over2 w d*4294967296+w.b) / d,w.c / d⟩
theorem word_div {r x d:Int} (h0:0<d) (r0:0≤r) (r1:r<d) (x0:0≤x) (x1:x<4294967296):0≤(r*4294967296+x) / d∧(r*4294967296+x) / d<4294967296:=by
 refine ⟨Int.ediv_nonneg (by omega) (by omega),?_⟩;rw [Int.ediv_lt_iff_lt_mul h0];omega
theorem over_left {w:W3} (d:Int) (h:0<d):0≤overR w d∧overR w d<d:=⟨Int.emod_nonneg _ (by omega),Int.emod_lt_of_pos _ h⟩
theorem over_ok {w:W3} (hw:w.ok) {d:Int} (h:0<d):(overW w d).ok:=by
 obtain ⟨⟨a1,a2⟩,⟨b1,b2⟩,c1,c2⟩:=hw;have r2:0≤over2 w d∧over2 w d<d:=⟨Int.emod_nonneg _ (by omega),Int.emod_lt_of_pos _ h⟩
 have r1:0≤over1 w d∧over1 w d<d:=⟨Int.emod_nonneg _ (by omega),Int.emod_lt_of_pos _ h⟩
 refine ⟨word_div h r1.1 r1.2 a1 a2,word_div h r2.1 r2.2 b1 b2,?_⟩;have:=word_div h (r:=0) (by omega) h c1 c2;simpa [overW] using this
theorem over_val (w:W3) (d:Int):(overW w d).val*d+overR w d=w.val:=by
 have e2:=Int.emod_add_mul_ediv w.c d;have e1:=Int.emod_add_mul_ediv (over2 w d*4294967296+w.b) d;have e0:=Int.emod_add_mul_ediv (over1 w d*4294967296+w.a) d;have f2:over2 w d=w.c % d:=rfl;have f1:over1 w d=(over2 w d*4294967296+w.b) % d:=rfl;have f0:overR w d=(over1 w d*4294967296+w.a) % d:=rfl;rw [← f2] at e2;rw [← f1] at e1;rw [← f0] at e0;unfold W3.val overW;simp only;rw [Int.add_mul,Int.add_mul,Int.mul_right_comm _ 4294967296,Int.mul_right_comm _ 18446744073709551616,Int.mul_comm _ d,Int.mul_comm _ d,Int.mul_comm _ d];generalize d*((over1 w d*4294967296+w.a) / d)=P0 at *;generalize d*((over2 w d*4294967296+w.b) / d)=P1 at *;generalize d*(w.c / d)=P2 at *;omega
def sh (v:Nat) (k:Int):Nat:=if k<0 then v / 2 ^ (-k).toNat else v*2 ^ k.toNat % 2 ^ 64
def onesN (n:Nat):Nat:=2 ^ n - 1
theorem sh_bit (v:Nat) (k:Int) (j:Nat) (hj:j<64):(sh v k).testBit j=(decide (k≤j) && v.testBit ((j:Int) - k).toNat):=by
 unfold sh;by_cases h:k<0
 ·rw [if_pos h,Nat.testBit_div_two_pow];have h1:k≤(j:Int):=by omega
  rw [decide_eq_true h1,Bool.true_and]
  congr 1;omega
 ·rw [if_neg h,Nat.testBit_mod_two_pow,Nat.testBit_mul_two_pow];rw [decide_eq_true hj,Bool.true_and];by_cases h1:k≤(j:Int)
  ·rw [decide_eq_true h1,decide_eq_true (show k.toNat≤j by omega)]
   congr 2;omega
  ·rw [decide_eq_false h1,decide_eq_false (show ¬ k.toNat≤j by omega)];simp
theorem ones_bit (n j:Nat):(onesN n).testBit j=decide (j<n):=Nat.testBit_two_pow_sub_one ..
theorem bit_hi {x j k:Nat} (h:x<2 ^ k) (hj:k≤j):x.testBit j=false:=Nat.testBit_lt_two_pow (Nat.lt_of_lt_of_le h (Nat.pow_le_pow_right (by decide) hj))
def bit3 (a b c:Nat) (m:Nat):Bool:=if m<32 then a.testBit m else if m<64 then b.testBit (m - 32) else c.testBit (m - 64)
def bitsN (a b c lo n:Nat):Nat:=(sh a (0 - lo) ||| sh b (32 - lo) ||| sh c (64 - lo)) &&& onesN n
theorem bits_bit {a b c lo n:Nat} (ha:a<2 ^ 32) (hb:b<2 ^ 32) (_hc:c<2 ^ 32) (hn:n≤64) (j:Nat):(bitsN a b c lo n).testBit j=(decide (j<n) && bit3 a b c (j+lo)):=by
 unfold bitsN;rw [Nat.testBit_and,ones_bit];by_cases hj:j<n
 ·rw [decide_eq_true hj,Bool.and_true,Bool.true_and,Nat.testBit_or,Nat.testBit_or,sh_bit _ _ _ (by omega),sh_bit _ _ _ (by omega),sh_bit _ _ _ (by omega)];unfold bit3;rw [decide_eq_true (show (0:Int) - (lo:Int)≤(j:Int) by omega),Bool.true_and];have e0:((j:Int) - (0 - (lo:Int))).toNat=j+lo:=by omega
  have e1:((j:Int) - (32 - (lo:Int))).toNat=j+lo - 32:=by omega
  have e2:((j:Int) - (64 - (lo:Int))).toNat=j+lo - 64:=by omega
  rw [e0,e1,e2];by_cases h1:j+lo<32
  ·rw [if_pos h1,decide_eq_false (show ¬ (32:Int) - (lo:Int)≤(j:Int) by omega),decide_eq_false (show ¬ (64:Int) - (lo:Int)≤(j:Int) by omega)];simp
  ·rw [if_neg h1,decide_eq_true (show (32:Int) - (lo:Int)≤(j:Int) by omega),bit_hi ha (by omega)];by_cases h2:j+lo<64
   ·rw [if_pos h2,decide_eq_false (show ¬ (64:Int) - (lo:Int)≤(j:Int) by omega)];simp
   ·rw [if_neg h2,decide_eq_true (show (64:Int) - (lo:Int)≤(j:Int) by omega),bit_hi hb (by omega)];simp
 ·rw [decide_eq_false hj];simp
def putN (x v n:Nat) (k:Int):Nat:=(x &&& (2 ^ 32 - 1 - sh (onesN n) k % 2 ^ 32)) ||| (sh v k % 2 ^ 32)
theorem put_bit (x v n:Nat) (k:Int) (j:Nat) (hj:j<32):(putN x v n k).testBit j=(x.testBit j && !(decide (k≤j) && decide ((j:Int) - k<n)) || (decide (k≤j) && v.testBit ((j:Int) - k).toNat)):=by
 unfold putN;have e:2 ^ 32 - 1 - sh (onesN n) k % 2 ^ 32=2 ^ 32 - (sh (onesN n) k % 2 ^ 32+1):=by omega
 rw [Nat.testBit_or,Nat.testBit_and,e,Nat.testBit_two_pow_sub_succ (Nat.mod_lt _ (by decide)),Nat.testBit_mod_two_pow,Nat.testBit_mod_two_pow,decide_eq_true hj,Bool.true_and,Bool.true_and,Bool.true_and,sh_bit _ _ _ (by omega),sh_bit _ _ _ (by omega),ones_bit];by_cases h1:k≤(j:Int)
 ·have e2:decide (((j:Int) - k).toNat<n)=decide ((j:Int) - k<n):=by
   rw [decide_eq_decide];omega
  rw [e2]
 ·rw [decide_eq_false h1];simp
theorem put_lt (x v n:Nat) (k:Int) (hx:x<2 ^ 32):putN x v n k<2 ^ 32:=by
 unfold putN;have hy:sh v k % 2 ^ 32<2 ^ 32:=Nat.mod_lt _ (by decide);exact Nat.or_lt_two_pow (Nat.lt_of_le_of_lt Nat.and_le_left hx) hy
theorem put_bits {a b c v lo n:Nat} (hv:v<2 ^ n) (m:Nat) (hm:m<96) :
  bit3 (putN a v n lo) (putN b v n ((lo:Int) - 32)) (putN c v n ((lo:Int) - 64)) m=if lo≤m∧m<lo+n then v.testBit (m - lo) else bit3 a b c m:=by
 have key:∀ (x:Nat) (j:Nat) (k:Int),j<32→k+(m:Int)=lo+j→(putN x v n k).testBit j=if lo≤m∧m<lo+n then v.testBit (m - lo) else x.testBit j:=by
  intro x j k hj hk;rw [put_bit _ _ _ _ _ hj];by_cases h1:k≤(j:Int)
  ·have e1:((j:Int) - k).toNat=m - lo:=by omega
   rw [decide_eq_true h1,e1];by_cases h2:(j:Int) - k<n
   ·rw [decide_eq_true h2,if_pos (by omega)];simp
   ·rw [decide_eq_false h2,if_neg (by omega),bit_hi hv (by omega)];simp
  ·rw [decide_eq_false h1,if_neg (by omega)];simp
 unfold bit3;by_cases h1:m<32
 ·rw [if_pos h1,if_pos h1];exact key a m lo h1 (by omega)
 ·rw [if_neg h1,if_neg h1];by_cases h2:m<64
  ·rw [if_pos h2,if_pos h2];exact key b (m - 32) _ (by omega) (by omega)
  ·rw [if_neg h2,if_neg h2];exact key c (m - 64) _ (by omega) (by omega)
theorem bits_put {a b c v lo n:Nat} (ha:a<2 ^ 32) (hb:b<2 ^ 32) (hc:c<2 ^ 32) (hv:v<2 ^ n) (hn:n≤64) (hl:lo+n≤96) :
  bitsN (putN a v n lo) (putN b v n ((lo:Int) - 32)) (putN c v n ((lo:Int) - 64)) lo n=v:=by
 apply Nat.eq_of_testBit_eq;intro j;rw [bits_bit (put_lt _ _ _ _ ha) (put_lt _ _ _ _ hb) (put_lt _ _ _ _ hc) hn];by_cases hj:j<n
 ·rw [decide_eq_true hj,Bool.true_and,put_bits hv _ (by omega),if_pos (by omega)]
  congr 1;omega
 ·rw [decide_eq_false hj,Bool.false_and,bit_hi hv (by omega)]
end words
namespace cell
open Go.RowKit
def RowU (w:World) (a:Option Addr) (len:Nat) (zs:List Int):Prop:=
 zs.length=len∧(len=0∨∃ b off,a=some ⟨b,off,none⟩∧∀ i,i<len→w.cell? ⟨b,off+i,none⟩=some (.int .u32 (zs.getD i 0)))
theorem RowU.below {w w':World} {a:Option Addr} {n:Nat} {zs:List Int} (h:RowU w a n zs) (hb:Below w.heap.size w w'):RowU w' a n zs:=by
 refine ⟨h.1,?_⟩;rcases h.2 with h0 | ⟨b,off,rfl,hc⟩
 ·exact .inl h0
 ·refine .inr ⟨b,off,rfl,fun i hi=>?_⟩;have h1:=hc i hi;rw [hb.cell (p:=⟨b,off+i,none⟩) (World.block_lt_of_cell? w _ h1)];exact h1
theorem RowU.nil (w:World) (a:Option Addr):RowU w a 0 []:=⟨rfl,.inl rfl⟩
theorem RowU.at {w:World} {a:Option Addr} {n:Nat} {zs:List Int} (h:RowU w a n zs) (h0:0<n):∃ b off,a=some ⟨b,off,none⟩∧b<w.heap.size∧∀ i,i<n→w.cell? ⟨b,off+i,none⟩=some (.int .u32 (zs.getD i 0)):=by
 rcases h.2 with h1 | ⟨b,off,rfl,hc⟩
 ·omega
 ·exact ⟨b,off,rfl,World.block_lt_of_cell? w _ (hc 0 h0),hc⟩
def Ws (w:World) (base:Nat) (v:Value) (zs:List Int):Prop:=w.ownsRow base 99 1 v zs.length (zs.map (.int .u32))
theorem Ws.alloc {w:World} {base:Nat} {v:Value} {l:List Int} (h:Ws w base v l) (o:Obj):Ws (w.alloc o) base v l:=World.ownsRow.alloc h o
theorem Ws.next {w w':World} {base:Nat} {v:Value} {l:List Int} (h:Ws w base v l) (hb:Below w.heap.size w w'):Ws w' base v l:=by
 refine ⟨h.1,?_⟩;rcases h.2 with hn | ⟨g,cap,cur,hv,hg,hc,rest⟩
 ·exact .inl hn
 ·exact .inr ⟨g,cap,cur,hv,hg,Blk.next hc hb,rest⟩
theorem Ws.row {w:World} {base:Nat} {v:Value} {l:List Int} (h:Ws w base v l):∃ a cap,v = .slice a l.length cap∧RowU w a l.length l∧(a=none→cap=0)∧l.length≤cap:=by
 rcases h.2 with ⟨hv,hn⟩ | ⟨g,cap,cur,hv,_,_,h1,_⟩
 ·exact ⟨none,0,by rw [hn];exact hv,⟨rfl,.inl hn⟩,fun _=>rfl,by omega⟩
 ·subst hv;refine ⟨_,cap,rfl,⟨rfl,.inr ⟨g,0,rfl,fun i hi=>?_⟩⟩,(fun h=>by cases h),h1⟩;have:=World.ownsRow.cellAt h i (by omega);rw [Nat.zero_add,this];simp [List.getD,hi]
theorem own_far {w:World} {base n k:Nat} {t:TypeId} {v:Value} {l:List Value} (h:w.ownsRow base t n v k l) {G:Nat} (hG:G<base):some G≠v.ownBlock:=by
 intro e;have:=(World.ownsRow.lt h G e.symm).1;omega
theorem own_bel {w0 w w':World} {base B n k:Nat} {t:TypeId} {v:Value} {l:List Value} (h:w.ownsRow base t n v k l) (hg:w.grownBy w' v.ownBlock) (hb:Below B w0 w) (hB:B≤base) (hw:B≤w.heap.size):Below B w0 w':=by
 refine ⟨hg.os.trans hb.os,hg.tape.trans hb.tape,hg.output.trans hb.output,Nat.le_trans hb.size hg.size,fun k hk=>?_⟩;rw [← hb.block k hk];exact hg.block k (by omega) (own_far h (by omega))
theorem alloc_le {w:World} {B:Nat} (h:B≤w.heap.size) (o:Obj):B≤(w.alloc o).heap.size:=by simp;omega
theorem info_u32:(Tryz.prog.info? 99).map (fun i=>(i.zero,i.size,i.bytes))=some (some (.int .u32 0),1,4):=by kernel_rfl
theorem wp_word {w:World} {ops:Array Oper} {rest:List Oper} {o:Oper} {a:Act} {Q:Exit→Act→World→Prop} (hgd:o.guard=none) (s x:Operand)
  (ho:o.op = .call { callee:= .builtin .append,args:=#[s,x],argTypes:=#[25,25] })
  (base G:Nat) (v:Value) (l:List Int) (r:Int) (hs:a.eval s=v) (hx:a.eval x = .slice (some ⟨G,0,none⟩) 1 1) (hv:Ws w base v l) (hu:w.cell? ⟨G,0,none⟩=some (.int .u32 r)) (hn:l.length≤1000000) (hbase:base≤w.heap.size)
  (h:∀ v' w',Ws w' base v' (l++[r])→w.grownBy w' v.ownBlock→wpList Tryz.prog ops Q rest (a.put o.dst v') w'):wpList Tryz.prog ops Q (o :: rest) a w:=by
 obtain ⟨i0,hi,hz0,hz1,hz2⟩:=info_parts info_u32;refine wpList_append_own w hgd s x 25 ho base 99 i0 (.int .u32 0) 1 4 Tryz.underlying25 hi hz0 hz1 hz2 rfl (by decide) v l.length (l.map (.int .u32)) hs hv ⟨G,0,none⟩ 1 1 [.int .u32 r] hx rfl ?_ ?_ (by unfold maxLen;omega) (by omega) hbase ?_
 ·intro j u hj
  match j,hj with
  | 0,hj=>simp at hj;subst hj;simpa [Addr.add] using hu
 ·intro u hu;simp at hu;subst hu;rfl
 intro v' w' h1 h2 _;refine h v' w' ?_ h2;unfold Ws;rw [List.length_append,List.map_append];exact h1
end cell
namespace book
open Go.RowKit
structure Cu where
 me:Int
 rv:Int
 nx:Int
 mo:Int
 bo:Int
 fr:Int
 dp:Option Addr
 dn:Nat
 dc:Nat
 sp:Option Addr
 sn:Nat
 sc:Nat
def cu0:Cu:=⟨0,0,0,0,0,0,none,0,0,none,0,0⟩
def Cu.cs (x:Cu):List Value:=[zI x.me,zI x.rv,zI x.nx,zI x.mo,zI x.bo,zI x.fr,.slice x.dp x.dn x.dc,.slice x.sp x.sn x.sc]
def cellsC:List Cu→List Value
 | []=>[]
 | x :: l=>x.cs++cellsC l
theorem cellsC_len (l:List Cu):(cellsC l).length=l.length*8:=by
 induction l with
 | nil=>rfl
 | cons e l ih=>rw [cellsC,List.length_append,ih,List.length_cons];show 8+_=_;omega
theorem cellsC_app (l m:List Cu):cellsC (l++m)=cellsC l++cellsC m:=by
 induction l with
 | nil=>rfl
 | cons e l ih=>rw [List.cons_append,cellsC,cellsC,ih,List.append_assoc]
theorem oneC (l:List Cu):∀ u∈cellsC l,u.oneCell'=true:=by
 induction l with
 | nil=>intro u hu;cases hu
 | cons e l ih=>
  intro u hu;rw [cellsC] at hu;rcases List.mem_append.1 hu with hu | hu
  ·simp only [Cu.cs,List.mem_cons,List.not_mem_nil,or_false] at hu;rcases hu with rfl | rfl | rfl | rfl | rfl | rfl | rfl | rfl <;> rfl
  ·exact ih u hu
theorem cellsC_at (l:List Cu) (k j:Nat) (hk:k<l.length) (hj:j<8):(cellsC l)[k*8+j]?=(l.getD k cu0).cs[j]?:=by
 induction l generalizing k with
 | nil=>simp at hk
 | cons x l ih=>
  have h8:x.cs.length=8:=rfl;cases k with
  | zero=>rw [Nat.zero_mul,Nat.zero_add,cellsC,List.getElem?_append_left (by omega)];rfl
  | succ k=>
   rw [show (k+1)*8+j=x.cs.length+(k*8+j) by omega,cellsC,List.getElem?_append_right (by omega),Nat.add_sub_cancel_left];exact ih k (by simpa using hk)
def RowC (w:World) (a:Option Addr) (n:Nat) (l:List Cu):Prop:=l.length=n∧(n=0∨∃ b off,a=some ⟨b,off,none⟩∧b<w.heap.size∧∀ i j,i<n→j<8→w.cell? ⟨b,off+i*8+j,none⟩=(l.getD i cu0).cs[j]?)
theorem RowC.below {w w':World} {a:Option Addr} {n:Nat} {l:List Cu} (h:RowC w a n l) (hb:Below w.heap.size w w'):RowC w' a n l:=by
 refine ⟨h.1,?_⟩;rcases h.2 with h0 | ⟨b,off,rfl,lb,hc⟩
 ·exact .inl h0
 ·exact .inr ⟨b,off,rfl,Nat.lt_of_lt_of_le lb hb.size,fun i j hi hj=>(hb.cell (p:=⟨b,off+i*8+j,none⟩) lb).trans (hc i j hi hj)⟩
def Lc (w:World) (base:Nat) (v:Value) (l:List Cu):Prop:=w.ownsRow base 54 8 v l.length (cellsC l)
theorem Lc.zero (w:World) (base:Nat):Lc w base (zS) []:=World.ownsRow_nil _ _ _ _
theorem Lc.next {w w':World} {base:Nat} {v:Value} {l:List Cu} (h:Lc w base v l) (hb:Below w.heap.size w w'):Lc w' base v l:=by
 refine ⟨h.1,?_⟩;rcases h.2 with hn | ⟨g,cap,cur,hv,hg,hc,rest⟩
 ·exact .inl hn
 ·exact .inr ⟨g,cap,cur,hv,hg,Blk.next hc hb,rest⟩
theorem Lc.row {w:World} {base:Nat} {v:Value} {l:List Cu} (h:Lc w base v l):∃ a cap,v = .slice a l.length cap∧RowC w a l.length l∧(a=none→cap=0)∧l.length≤cap:=by
 rcases h.2 with ⟨hv,hn⟩ | ⟨g,cap,cur,hv,_,hc,h1,_⟩
 ·exact ⟨none,0,by rw [hn];exact hv,⟨rfl,.inl hn⟩,fun _=>rfl,by omega⟩
 ·subst hv;refine ⟨_,cap,rfl,⟨rfl,.inr ⟨g,0,rfl,Blk.lt hc,fun i j hi hj=>?_⟩⟩,(fun h=>by cases h),h1⟩;have e1:=World.ownsRow.cellAt h (i*8+j) (by omega);rw [Nat.zero_add,e1];exact cellsC_at l i j hi hj
theorem custI:(Tryz.prog.info? 54).map (fun i=>(i.zero,i.size,i.bytes))=some (some (.agg cu0.cs.toArray),8,96):=by kernel_rfl
theorem step_cust {w:World} {o:Oper} {a:Act} {K:Act→World→Prop} {Q:Exit→Act→World→Prop} (s x:Operand)
  (ho:o.op = .call { callee:= .builtin .append,args:=#[s,x],argTypes:=#[44,44] })
  (base G:Nat) (v:Value) (l:List Cu) (r:Cu) (hs:a.eval s=v) (hx:a.eval x = .slice (some ⟨G,0,none⟩) 1 1) (hv:Lc w base v l) (hu:Blk w G r.cs.toArray 54) (hn:l.length≤2000000) (hbase:base≤w.heap.size)
  (h:∀ v' w',Lc w' base v' (l++[r])→w.grownBy w' v.ownBlock→(v'.ownBlock=v.ownBlock∨v'.ownBlock=some w.heap.size)→K (a.put o.dst v') w'):Oper.wp Tryz.prog o a w K Q:=by
 obtain ⟨i0,hi,hz0,hz1,hz2⟩:=info_parts custI
 obtain ⟨v',w',hr,h2,h3,_,h5⟩:=run_append_own_at (P:=Tryz.prog) w base 44 o.type 54 i0 (.agg cu0.cs.toArray) 8 96 Tryz.underlying44 hi hz0 hz1 hz2 rfl (by decide) v l.length (cellsC l) hv ⟨G,0,none⟩ 1 1 (cellsC [r]) (by rw [cellsC_len];rfl) (by
  intro j u hj;rw [Addr.add_lit,Nat.zero_add,hu.cell j];rw [cellsC,cellsC,List.append_nil] at hj
  simpa using hj) (oneC [r]) (by unfold maxLen;omega) (by omega) hbase
 unfold Oper.wp execOp;simp only [ho,resolve,invoke,builtin,Sem.run_bind,Sem.run_pure,Result.andThen_ok,List.map_toArray,List.map_cons,List.map_nil,hs,hx,hr];refine h v' w' ?_ h3 h5;unfold Lc;rw [List.length_append,cellsC_app];exact h2
def FindIs (l:List Cu) (me at_ f:Int):Prop:=(∃ k,k<l.length∧(l.getD k cu0).me=me∧(∀ j,j<k→(l.getD j cu0).me≠me)∧at_=(k:Int)∧f=0)∨((∀ j,j<l.length→(l.getD j cu0).me≠me)∧at_=0∧f=18)
def FoundIs (l:List Cu) (me at_:Int):Prop:=(∃ k,k<l.length∧(l.getD k cu0).me=me∧(∀ j,j<k→(l.getD j cu0).me≠me)∧at_=(k:Int))∨((∀ j,j<l.length→(l.getD j cu0).me≠me)∧at_=-1)
end book
namespace cell
open Go.RowKit
def RowW (w:World) (a:Option Addr) (len:Nat) (ls:List Wr):Prop:=
 ls.length=len∧(len=0∨∃ b off,a=some ⟨b,off,none⟩∧∀ i,i<len→w.cell? ⟨b,off+i*2,none⟩=some (zI (ls.getD i wr0).p)∧w.cell? ⟨b,off+i*2+1,none⟩=some (.int .u32 (ls.getD i wr0).d))
theorem RowW.below {w w':World} {a:Option Addr} {n:Nat} {zs:List Wr} (h:RowW w a n zs) (hb:Below w.heap.size w w'):RowW w' a n zs:=by
 refine ⟨h.1,?_⟩;rcases h.2 with h0 | ⟨b,off,rfl,hc⟩
 ·exact .inl h0
 ·refine .inr ⟨b,off,rfl,fun i hi=>?_⟩;have h1:=hc i hi;rw [hb.cell (p:=⟨b,off+i*2,none⟩) (World.block_lt_of_cell? w _ h1.1),hb.cell (p:=⟨b,off+i*2+1,none⟩) (World.block_lt_of_cell? w _ h1.2)];exact h1
theorem RowW.nil (w:World) (a:Option Addr):RowW w a 0 []:=⟨rfl,.inl rfl⟩
theorem RowW.cut {w:World} {a:Option Addr} {n k:Nat} {zs:List Wr} (h:RowW w a n zs) (hk:k≤n):RowW w a k (zs.take k):=by
 refine ⟨by rw [List.length_take,h.1];omega,?_⟩;rcases h.2 with h0 | ⟨b,off,rfl,hc⟩
 ·exact .inl (by omega)
 ·refine .inr ⟨b,off,rfl,fun i hi=>?_⟩;have e:(zs.take k).getD i wr0=zs.getD i wr0:=by simp [List.getD,hi]
  rw [e];exact hc i (by omega)
theorem RowW.at {w:World} {a:Option Addr} {n:Nat} {zs:List Wr} (h:RowW w a n zs) (h0:0<n):∃ b off,a=some ⟨b,off,none⟩∧b<w.heap.size∧∀ i,i<n→w.cell? ⟨b,off+i*2,none⟩=some (zI (zs.getD i wr0).p)∧w.cell? ⟨b,off+i*2+1,none⟩=some (.int .u32 (zs.getD i wr0).d):=by
 rcases h.2 with h1 | ⟨b,off,rfl,hc⟩
 ·omega
 ·exact ⟨b,off,rfl,World.block_lt_of_cell? w _ (hc 0 h0).1,hc⟩
def cellsW:List Wr→List Value
 | []=>[]
 | e :: l=>zI e.p :: .int .u32 e.d :: cellsW l
theorem cellsW_app (l m:List Wr):cellsW (l++m)=cellsW l++cellsW m:=by
 induction l with
 | nil=>rfl
 | cons e l ih=>simp [cellsW,ih]
theorem oneW (l:List Wr):∀ u∈cellsW l,u.oneCell'=true:=by
 induction l with
 | nil=>intro u hu;cases hu
 | cons e l ih=>
  intro u hu;simp only [cellsW,List.mem_cons] at hu;rcases hu with rfl | rfl | hu
  ·rfl
  ·rfl
  ·exact ih u hu
theorem cellsW_at (l:List Wr) (k:Nat) (hk:k<l.length):(cellsW l)[k*2]?=some (zI (l.getD k wr0).p)∧(cellsW l)[k*2+1]?=some (.int .u32 (l.getD k wr0).d):=by
 induction l generalizing k with
 | nil=>simp at hk
 | cons x l ih=>
  cases k with
  | zero=>exact ⟨rfl,rfl⟩
  | succ k=>
   rw [show (k+1)*2=k*2+1+1 by omega];have:=ih k (by simpa using hk);simpa [cellsW] using this
def Lw (w:World) (base:Nat) (v:Value) (l:List Wr):Prop:=w.ownsRow base 122 2 v l.length (cellsW l)
theorem Lw.alloc {w:World} {base:Nat} {v:Value} {l:List Wr} (h:Lw w base v l) (o:Obj):Lw (w.alloc o) base v l:=World.ownsRow.alloc h o
theorem Lw.row {w:World} {base:Nat} {v:Value} {l:List Wr} (h:Lw w base v l):∃ a cap,v = .slice a l.length cap∧RowW w a l.length l∧(a=none→cap=0)∧l.length≤cap∧(∀ x,a=some x→x.off=0∧x.spot=none):=by
 rcases h.2 with ⟨hv,hn⟩ | ⟨g,cap,cur,hv,_,_,h1,_⟩
 ·exact ⟨none,0,by rw [hn];exact hv,⟨rfl,.inl hn⟩,fun _=>rfl,by omega,fun x h=>by cases h⟩
 ·subst hv;refine ⟨_,cap,rfl,⟨rfl,.inr ⟨g,0,rfl,fun i hi=>?_⟩⟩,(fun h=>by cases h),h1,fun x h=>by cases h;exact ⟨rfl,rfl⟩⟩;have e1:=World.ownsRow.cellAt h (i*2) (by omega);have e2:=World.ownsRow.cellAt h (i*2+1) (by omega);rw [Nat.zero_add,e1,e2];exact cellsW_at l i hi
theorem info_wr:(Tryz.prog.info? 122).map (fun i=>(i.zero,i.size,i.bytes))=some (some (.agg #[zI 0,.int .u32 0]),2,16):=by kernel_rfl
theorem wp_write {w:World} {ops:Array Oper} {rest:List Oper} {o:Oper} {a:Act} {Q:Exit→Act→World→Prop} (hgd:o.guard=none) (s x:Operand)
  (ho:o.op = .call { callee:= .builtin .append,args:=#[s,x],argTypes:=#[76,76] })
  (base G:Nat) (v:Value) (l:List Wr) (r:Wr) (hs:a.eval s=v) (hx:a.eval x = .slice (some ⟨G,0,none⟩) 1 1) (hv:Lw w base v l) (hu:w.cell? ⟨G,0,none⟩=some (zI r.p)∧w.cell? ⟨G,1,none⟩=some (.int .u32 r.d)) (hn:l.length≤1000000) (hbase:base≤w.heap.size)
  (h:∀ v' w',Lw w' base v' (l++[r])→w.grownBy w' v.ownBlock→wpList Tryz.prog ops Q rest (a.put o.dst v') w'):wpList Tryz.prog ops Q (o :: rest) a w:=by
 obtain ⟨i0,hi,hz0,hz1,hz2⟩:=info_parts info_wr;refine wpList_append_own w hgd s x 76 ho base 122 i0 (.agg #[zI 0,.int .u32 0]) 2 16 Tryz.underlying76 hi hz0 hz1 hz2 rfl (by decide) v l.length (cellsW l) hs hv ⟨G,0,none⟩ 1 1 (cellsW [r]) hx rfl ?_ (oneW [r]) (by unfold maxLen;omega) (by omega) hbase ?_
 ·intro j u hj
  match j,hj with
  | 0,hj=>simp [cellsW] at hj;subst hj;simpa [Addr.add] using hu.1
  | 1,hj=>simp [cellsW] at hj;subst hj;simpa [Addr.add] using hu.2
  | j+2,hj=>simp [cellsW] at hj
 intro v' w' h1 h2 _;refine h v' w' ?_ h2;unfold Lw;rw [List.length_append,cellsW_app];exact h1
end cell
end Go.Proofs.YtnpblpbohcegoaaGreatDoor
