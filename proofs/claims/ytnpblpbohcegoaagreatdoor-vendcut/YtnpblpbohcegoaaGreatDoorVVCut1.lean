import Derived.Test.YtnpblpbohcegoaaGreatDoorVVCut0
set_option linter.unusedVariables false
set_option linter.unusedSimpArgs false
set_option maxHeartbeats 4000000
set_option maxRecDepth 100000
namespace Go.Proofs.YtnpblpbohcegoaaGreatDoor
section
open Go.RowKit
def Blk (w:World) (G:Nat) (cs:Array Value) (t:TypeId):Prop:=w.heap[G]?=some (.cells cs t (0,0))
theorem Blk.lt {w:World} {G:Nat} {cs:Array Value} {t:TypeId} (h:Blk w G cs t):G<w.heap.size:=by
 unfold Blk at h;by_cases hh:G<w.heap.size
 ·exact hh
 ·rw [Array.getElem?_eq_none (by omega)] at h;cases h
theorem Blk.new (w:World) (cs:Array Value) (t:TypeId):Blk (w.alloc (.cells cs t)) w.heap.size cs t:=by
 show (w.heap.push _)[w.heap.size]?=_;rw [Array.getElem?_push_size]
theorem Blk.new1 (w:World) (o:Obj) (cs:Array Value) (t:TypeId):Blk ((w.alloc o).alloc (.cells cs t)) (w.heap.size+1) cs t:=by
 have h:=Blk.new (w.alloc o) cs t
 rwa [show (w.alloc o).heap.size=w.heap.size+1 by simp] at h
theorem Blk.new2 (w:World) (o p:Obj) (cs:Array Value) (t:TypeId):Blk (((w.alloc o).alloc p).alloc (.cells cs t)) (w.heap.size+1+1) cs t:=by
 have h:=Blk.new ((w.alloc o).alloc p) cs t
 rwa [show ((w.alloc o).alloc p).heap.size=w.heap.size+1+1 by simp] at h
theorem Blk.new3 (w:World) (o p q:Obj) (cs:Array Value) (t:TypeId):Blk ((((w.alloc o).alloc p).alloc q).alloc (.cells cs t)) (w.heap.size+1+1+1) cs t:=by
 have h:=Blk.new (((w.alloc o).alloc p).alloc q) cs t
 rwa [show (((w.alloc o).alloc p).alloc q).heap.size=w.heap.size+1+1+1 by simp] at h
theorem Blk.alloc {w:World} {G:Nat} {cs:Array Value} {t:TypeId} (h:Blk w G cs t) (o:Obj):Blk (w.alloc o) G cs t:=by
 have hl:=h.lt;unfold Blk at *;show (w.heap.push o)[G]?=_;rw [Array.getElem?_push,if_neg (by omega)];exact h
theorem Blk.below {w w':World} {G B:Nat} {cs:Array Value} {t:TypeId} (h:Blk w G cs t) (hb:Below B w w') (hG:G<B):Blk w' G cs t:=by
 unfold Blk at *;rw [hb.block G hG];exact h
theorem Blk.next {w w':World} {G:Nat} {cs:Array Value} {t:TypeId} (h:Blk w G cs t) (hb:Below w.heap.size w w'):Blk w' G cs t:=h.below hb h.lt
theorem Blk.cell {w:World} {G:Nat} {cs:Array Value} {t:TypeId} (h:Blk w G cs t) (i:Nat):w.cell? ⟨G,i,none⟩=cs[i]?:=by
 unfold Blk at h;simp [World.cell?,h]
theorem Blk.free {w:World} {G:Nat} {cs:Array Value} {t:TypeId} (h:Blk w G cs t) (i:Nat):w.frozen? ⟨G,i,none⟩=false:=by
 unfold Blk at h;simp [World.frozen?,h]
theorem Blk.set {w:World} {G:Nat} {cs:Array Value} {t:TypeId} (h:Blk w G cs t) (i:Nat) (u:Value):Blk (w.setCell ⟨G,i,none⟩ u) G (cs.setIfInBounds i u) t:=by
 have hl:=h.lt;unfold Blk at *;have hl':=hl;simp [World.setCell,Array.getElem?_modify,h]
theorem Blk.other {w:World} {G G':Nat} {cs:Array Value} {t:TypeId} (h:Blk w G cs t) (i:Nat) (u:Value) (hne:G'≠G):Blk (w.setCell ⟨G',i,none⟩ u) G cs t:=by
 unfold Blk at *;simp only [World.setCell,Array.getElem?_modify];rw [if_neg hne];exact h
theorem Blk.drew {w:World} {G:Nat} {cs:Array Value} {t:TypeId} (h:Blk w G cs t) (q:Nat):Blk (w.drewN q) G cs t:=h
theorem bel_set {B:Nat} {w w':World} (h:Below B w w') (G i:Nat) (u:Value) (hG:B≤G):Below B w (w'.setCell ⟨G,i,none⟩ u):=by
 refine ⟨h.os,h.tape,h.output,by simp [World.setCell];exact h.size,fun k hk=>?_⟩;rw [← h.block k hk];simp only [World.setCell,Array.getElem?_modify];rw [if_neg (by omega)]
theorem bel_drew {B:Nat} {w0 w:World} (h:Below B w0 w) (q:Nat):Below B w0 (w.drewN q):=⟨h.os,h.tape,h.output,h.size,h.block⟩
theorem bel_step {w0 w w':World} (h:Below w0.heap.size w0 w) (h':Below w.heap.size w w'):Below w0.heap.size w0 w':=h.trans (h'.mono h.size)
end
namespace cell
structure Wr where
 p:Int
 d:Int
def wr0:Wr:=⟨0,0⟩
def wrt:List Int→List Wr→List Int
 | c,[]=>c
 | c,e :: l=>wrt (c.set e.p.toNat e.d) l
theorem wrt_app (c:List Int) (l m:List Wr):wrt c (l++m)=wrt (wrt c l) m:=by
 induction l generalizing c with
 | nil=>rfl
 | cons e l ih=>exact ih _
theorem wrt_one (c:List Int) (e:Wr):wrt c [e]=c.set e.p.toNat e.d:=rfl
theorem wrt_len (c:List Int) (l:List Wr):(wrt c l).length=c.length:=by
 induction l generalizing c with
 | nil=>rfl
 | cons e l ih=>rw [wrt,ih,List.length_set]
theorem take_one (l:List Wr) (k:Nat) (h:k<l.length):l.take (k+1)=l.take k++[l.getD k wr0]:=by
 rw [List.take_succ_eq_append_getElem h];simp [List.getD,List.getElem?_eq_getElem h]
theorem wrt_step (c:List Int) (l:List Wr) (k:Nat) (h:k<l.length):wrt c (l.take (k+1))=(wrt c (l.take k)).set (l.getD k wr0).p.toNat (l.getD k wr0).d:=by
 rw [take_one l k h,wrt_app,wrt_one]
theorem set_at (c:List Int) (i j:Nat) (v:Int):(c.set i v).getD j 0=if j=i∧i<c.length then v else c.getD j 0:=by
 simp only [List.getD,List.getElem?_set];by_cases h:i=j
 ·subst h;by_cases h2:i<c.length
  ·simp [h2]
  ·simp [h2]
 ·rw [if_neg h,if_neg (by omega)]
def inN (n:Nat) (e:Wr):Bool:=decide (0≤e.p) && decide (e.p<n)
theorem inN_iff {n:Nat} {e:Wr}:inN n e=true↔0≤e.p∧e.p<n:=by simp [inN]
def allN (n:Nat) (l:List Wr):Bool:=l.all (inN n)
theorem allN_at {n:Nat} {l:List Wr} (h:allN n l=true) (k:Nat) (hk:k<l.length):0≤(l.getD k wr0).p∧(l.getD k wr0).p<n:=by
 have:=List.all_eq_true.1 h l[k] (List.getElem_mem hk);rw [inN_iff] at this;simpa [List.getD,List.getElem?_eq_getElem hk] using this
theorem allN_take {n:Nat} {l:List Wr} (h:allN n l=true) (k:Nat):allN n (l.take k)=true:=by
 refine List.all_eq_true.2 fun e he=>?_;exact List.all_eq_true.1 h e (List.mem_of_mem_take he)
theorem allN_step (n:Nat) (l:List Wr) (k:Nat) (hk:k<l.length):allN n (l.take (k+1))=(allN n (l.take k) && inN n (l.getD k wr0)):=by
 rw [take_one l k hk];simp [allN]
theorem allN_of_false {n:Nat} {l:List Wr} {k:Nat} (hk:k<l.length) (h:inN n (l.getD k wr0)=false):allN n l=false:=by
 refine Bool.eq_false_iff.2 fun ha=>?_;have:=allN_at ha k hk;rw [← inN_iff] at this;rw [h] at this;cases this
theorem allN_snoc {n:Nat} {l:List Wr} {e:Wr} (h:allN n l=true) (he:0≤e.p∧e.p<n):allN n (l++[e])=true:=by
 unfold allN at *;rw [List.all_append,h];simp [inN,he]
theorem list_ext {a b:List Int} (hl:a.length=b.length) (h:∀ j,j<a.length→a.getD j 0=b.getD j 0):a=b:=by
 apply List.ext_getElem hl;intro j h1 h2;have:=h j h1;simpa [List.getD,List.getElem?_eq_getElem h1,List.getElem?_eq_getElem h2] using this
end cell
namespace disk
open cell (Wr wr0 wrt wrt_app wrt_one wrt_len wrt_step set_at list_ext)
def lenAt (c:List Int) (a:Nat):Int:=if a=c.length∨c.getD a 0=0 then 0 else if 64<c.getD a 0 then -1 else if (c.length:Int)≤a+c.getD a 0 then -1 else c.getD a 0
def recAt (c:List Int) (a:Nat):List Int:=(c.drop (a+1)).take (c.getD a 0).toNat
theorem len_pos {c:List Int} {a:Nat} (h:0<lenAt c a):lenAt c a=c.getD a 0∧0<c.getD a 0∧c.getD a 0≤64∧a+c.getD a 0<c.length:=by
 unfold lenAt at h ⊢;by_cases h1:a=c.length∨c.getD a 0=0
 ·rw [if_pos h1] at h;omega
 ·by_cases h2:64<c.getD a 0
  ·rw [if_neg h1,if_pos h2] at h;omega
  ·by_cases h3:(c.length:Int)≤a+c.getD a 0
   ·rw [if_neg h1,if_neg h2,if_pos h3] at h;omega
   ·rw [if_neg h1,if_neg h2,if_neg h3] at h ⊢;exact ⟨rfl,h,by omega,by omega⟩
theorem len_of {c:List Int} {a:Nat} (h0:0<c.getD a 0) (h1:c.getD a 0≤64) (h2:a+c.getD a 0<c.length):lenAt c a=c.getD a 0:=by
 unfold lenAt;rw [if_neg (by omega),if_neg (by omega),if_neg (by omega)]
def stepD (c:List Int) (s:List (List Int) × Nat):List (List Int) × Nat:=if 0<lenAt c s.2 then (s.1++[recAt c s.2],s.2+(lenAt c s.2).toNat+1) else s
def itD (c:List Int):Nat→List (List Int) × Nat
 | 0=>([],0)
 | k+1=>stepD c (itD c k)
theorem it_live {c:List Int} {k:Nat} (h:0<lenAt c (itD c k).2):itD c (k+1)=((itD c k).1++[recAt c (itD c k).2],(itD c k).2+(lenAt c (itD c k).2).toNat+1):=by
 show stepD c (itD c k)=_;unfold stepD;rw [if_pos h]
theorem it_dead {c:List Int} {k:Nat} (h:¬ 0<lenAt c (itD c k).2):∀ m,itD c (k+m)=itD c k
 | 0=>rfl
 | m+1=>by
  show stepD c (itD c (k+m))=_;rw [it_dead h m];unfold stepD;rw [if_neg h]
theorem it_bound (c:List Int) (k:Nat):(itD c k).2≤c.length∧((∀ i,i<k→0<lenAt c (itD c i).2)→k≤(itD c k).2):=by
 induction k with
 | zero=>exact ⟨Nat.zero_le _,fun _=>Nat.le_refl _⟩
 | succ k ih=>
  by_cases h:0<lenAt c (itD c k).2
  ·rw [it_live h];obtain ⟨e,p0,p1,p2⟩:=len_pos h;refine ⟨by show (itD c k).2+_+1≤_;omega,fun hl=>?_⟩;have:=ih.2 fun i hi=>hl i (by omega);show k+1≤(itD c k).2+_+1;omega
  ·rw [it_dead h 1];exact ⟨ih.1,fun hl=>absurd (hl k (by omega)) h⟩
theorem it_mono (c:List Int) (k m:Nat):(itD c k).2≤(itD c (k+m)).2:=by
 induction m with
 | zero=>exact Nat.le_refl _
 | succ m ih=>
  refine Nat.le_trans ih ?_;show _≤(stepD c (itD c (k+m))).2;unfold stepD;by_cases h:0<lenAt c (itD c (k+m)).2
  ·rw [if_pos h];show _≤(itD c (k+m)).2+_+1;omega
  ·rw [if_neg h];exact Nat.le_refl _
def repD (c:List Int):List (List Int) × Nat:=itD c (c.length+1)
theorem rep_dead (c:List Int):¬ 0<lenAt c (repD c).2:=fun h=>by
 have all:∀ i,i<c.length+1→0<lenAt c (itD c i).2:=fun i hi=>by
  refine Classical.byContradiction fun hn=>?_;have e:=it_dead hn (c.length+1 - i);rw [show i+(c.length+1 - i)=c.length+1 by omega] at e;unfold repD at h;rw [e] at h;exact hn h
 have:=(it_bound c (c.length+1)).2 all;have:=(it_bound c (c.length+1)).1;omega
theorem rep_of {c:List Int} {k:Nat} (h:¬ 0<lenAt c (itD c k).2):repD c=itD c k:=by
 by_cases hk:k≤c.length+1
 ·have e:=it_dead h (c.length+1 - k);rw [show k+(c.length+1 - k)=c.length+1 by omega] at e;exact e
 ·have e:=it_dead (rep_dead c) (k - (c.length+1));rw [show c.length+1+(k - (c.length+1))=k by omega] at e;exact e.symm
def May (c:List Int):Prop:=1≤c.length∧c.length≤2048
def RepIs (c:List Int) (out:List (List Int)) (e:Int) (f:Int):Prop:=
 (¬ May c∧out=[]∧e=0∧f=1)∨(May c∧lenAt c (repD c).2<0∧out=[]∧e=0∧f=3)∨(May c∧lenAt c (repD c).2=0∧out=(repD c).1∧e=((repD c).2:Int)∧f=0)
theorem RepIs.one {c:List Int} {o o':List (List Int)} {e e' f f':Int} (h:RepIs c o e f) (h':RepIs c o' e' f'):o=o'∧e=e'∧f=f':=by
 rcases h with ⟨a,rfl,rfl,rfl⟩ | ⟨a,b,rfl,rfl,rfl⟩ | ⟨a,b,rfl,rfl,rfl⟩ <;> rcases h' with ⟨a',rfl,rfl,rfl⟩ | ⟨a',b',rfl,rfl,rfl⟩ | ⟨a',b',rfl,rfl,rfl⟩ <;> first | exact ⟨rfl,rfl,rfl⟩ | contradiction | omega
def putW (at_:Nat) (rec:List Int):Nat→List Wr
 | 0=>[]
 | k+1=>putW at_ rec k++[⟨((at_+k+1:Nat):Int),rec.getD k 0⟩]
def zeroW (c:List Int) (p:Nat):List Wr:=if p<c.length then [⟨(p:Int),0⟩] else []
def appW (c:List Int) (a:Nat) (rec:List Int):List Wr:=putW a rec rec.length++(zeroW c (a+rec.length+1)++[⟨(a:Int),(rec.length:Int)⟩])
def RMay (r:List Int):Prop:=1≤r.length∧r.length≤64
def AppIs (c rec:List Int) (ls:List Wr) (f:Int):Prop:=
 (¬ RMay rec∧ls=[]∧f=1)∨(RMay rec∧¬ May c∧ls=[]∧f=1)∨(RMay rec∧May c∧lenAt c (repD c).2<0∧ls=[]∧f=3) ∨
 (RMay rec∧May c∧lenAt c (repD c).2=0∧c.length≤(repD c).2+rec.length∧ls=[]∧f=16)∨(RMay rec∧May c∧lenAt c (repD c).2=0∧(repD c).2+rec.length<c.length∧ls=appW c (repD c).2 rec∧f=0)
theorem rec_same {c d:List Int} (hl:c.length=d.length) {a e:Nat} (h:∀ j,j<e→c.getD j 0=d.getD j 0) (ha:a<e) (hb:a+(c.getD a 0).toNat+1≤e):recAt c a=recAt d a:=by
 unfold recAt;rw [← h a ha];generalize (c.getD a 0).toNat=n at hb ⊢;refine list_ext (by simp [hl]) fun j hj=>?_;have hj':j<n:=by simp at hj;omega
 have:=h (a+1+j) (by omega);simpa [List.getD,List.getElem?_take,List.getElem?_drop,hj'] using this
theorem len_same {c d:List Int} (hl:c.length=d.length) {a:Nat} (h:c.getD a 0=d.getD a 0):lenAt c a=lenAt d a:=by
 unfold lenAt;rw [h,hl]
theorem it_same {c d:List Int} (hl:c.length=d.length) {K:Nat} (h:∀ j,j<(itD c K).2→c.getD j 0=d.getD j 0):∀ k,k≤K→(∀ i,i<k→0<lenAt c (itD c i).2)→itD d k=itD c k
 | 0,_,_=>rfl
 | k+1,hk,hv=>by
  have ih:=it_same hl h k (by omega) fun i hi=>hv i (by omega);have hp:=hv k (by omega);obtain ⟨e,p0,p1,p2⟩:=len_pos hp;have hm:=it_mono c (k+1) (K - (k+1));rw [show k+1+(K - (k+1))=K by omega,it_live hp] at hm;have hm':(itD c k).2+(lenAt c (itD c k).2).toNat+1≤(itD c K).2:=hm;have hlt:(itD c k).2<(itD c K).2:=by omega
  have e1:=len_same hl (h _ hlt);have e2:=rec_same hl h hlt (by rw [e] at hm';exact hm');have hq:0<lenAt d (itD d k).2:=by rw [ih,← e1];exact hp
  rw [it_live hp,it_live hq,ih,← e1,← e2]
theorem first_dead (c:List Int):∃ K,(∀ i,i<K→0<lenAt c (itD c i).2)∧¬ 0<lenAt c (itD c K).2:=by
 have h0:∃ K,¬ 0<lenAt c (itD c K).2:=⟨c.length+1,rep_dead c⟩
 have step:∀ n,(∃ K,K≤n∧(∀ i,i<K→0<lenAt c (itD c i).2)∧¬ 0<lenAt c (itD c K).2)∨(∀ i,i≤n→0<lenAt c (itD c i).2):=fun n=>by
  induction n with
  | zero=>
   by_cases h:0<lenAt c (itD c 0).2
   ·exact .inr fun i hi=>by
     obtain rfl:i=0:=by omega
     exact h
   ·exact .inl ⟨0,Nat.le_refl _,fun i hi=>by omega,h⟩
  | succ n ih=>
   rcases ih with ⟨K,hk,ha,hb⟩ | ha
   ·exact .inl ⟨K,by omega,ha,hb⟩
   ·by_cases h:0<lenAt c (itD c (n+1)).2
    ·exact .inr fun i hi=>by
      by_cases hi':i=n+1
      ·rw [hi'];exact h
      ·exact ha i (by omega)
    ·exact .inl ⟨n+1,Nat.le_refl _,fun i hi=>ha i (by omega),h⟩
 obtain ⟨K,hK⟩:=h0;rcases step K with ⟨K',_,ha,hb⟩ | ha
 ·exact ⟨K',ha,hb⟩
 ·exact absurd (ha K (Nat.le_refl _)) hK
theorem rep_bound (c:List Int):(repD c).2≤c.length:=(it_bound c _).1
theorem rep_keep {c d:List Int} (hl:c.length=d.length) (h:∀ j,j≤(repD c).2→c.getD j 0=d.getD j 0):repD d=repD c∧lenAt d (repD c).2=lenAt c (repD c).2:=by
 obtain ⟨K,ha,hb⟩:=first_dead c;have e:=rep_of hb;rw [e] at h ⊢;have e1:=it_same hl (K:=K) (fun j hj=>h j (by omega)) K (Nat.le_refl _) ha;have e2:=(len_same hl (h _ (Nat.le_refl _))).symm;refine ⟨?_,e2⟩;rw [rep_of (k:=K) (by rw [e1,e2];exact hb),e1]
theorem rep_more {c d:List Int} (hl:c.length=d.length) (h:∀ j,j<(repD c).2→c.getD j 0=d.getD j 0) {r:List Int} (hr:RMay r) (h1:d.getD (repD c).2 0=(r.length:Int)) (h2:recAt d (repD c).2=r) (hf:(repD c).2+r.length<c.length) (h3:lenAt d ((repD c).2+r.length+1)=0) :
  repD d=((repD c).1++[r],(repD c).2+r.length+1):=by
 obtain ⟨K,ha,hb⟩:=first_dead c;have e:=rep_of hb;rw [e] at h h1 h2 hf h3 ⊢;have e1:=it_same hl (K:=K) h K (Nat.le_refl _) ha;have hp:lenAt d (itD c K).2=(r.length:Int):=by rw [len_of (by rw [h1];have:=hr.1;omega) (by rw [h1];have:=hr.2;omega) (by rw [h1];omega),h1]
 have hq:itD d (K+1)=((itD c K).1++[r],(itD c K).2+r.length+1):=by
  rw [it_live (by rw [e1,hp];have:=hr.1;omega),e1,h2,hp];rfl
 rw [rep_of (k:=K+1) (by rw [hq];show ¬ 0<lenAt d _;rw [h3];omega),hq]
theorem put_at (c rec:List Int) (a k:Nat) (hk:a+k<c.length):∀ j,(wrt c (putW a rec k)).getD j 0=if a<j∧j≤a+k then rec.getD (j - a - 1) 0 else c.getD j 0:=by
 induction k with
 | zero=>intro j;rw [if_neg (by omega)];rfl
 | succ k ih=>
  intro j;rw [putW,wrt_app,wrt_one,set_at,wrt_len];show (if j=((a+k+1:Nat):Int).toNat∧((a+k+1:Nat):Int).toNat<c.length then rec.getD k 0 else _)=_;rw [Int.toNat_natCast];by_cases hj:j=a+k+1
  ·rw [if_pos ⟨hj,by omega⟩,if_pos ⟨by omega,by omega⟩,show j - a - 1=k by omega]
  ·rw [if_neg (by omega),ih (by omega)];by_cases h2:a<j∧j≤a+k
   ·rw [if_pos h2,if_pos ⟨h2.1,by omega⟩]
   ·rw [if_neg h2,if_neg (by omega)]
theorem put_len (a:Nat) (rec:List Int) (k:Nat):(putW a rec k).length=k:=by
 induction k with
 | zero=>rfl
 | succ k ih=>rw [putW,List.length_append,ih];rfl
theorem put_take (a:Nat) (rec:List Int) {k n:Nat} (h:k≤n):(putW a rec n).take k=putW a rec k:=by
 induction n with
 | zero=>
  obtain rfl:k=0:=by omega
  rfl
 | succ n ih=>
  by_cases hk:k=n+1
  ·rw [hk,List.take_of_length_le (by rw [put_len];omega)]
  ·rw [putW,List.take_append_of_le_length (by rw [put_len];omega),ih (by omega)]
theorem zero_at (c d:List Int) (hl:c.length=d.length) (p:Nat) (j:Nat):(wrt d (zeroW c p)).getD j 0=if j=p∧p<c.length then 0 else d.getD j 0:=by
 unfold zeroW;by_cases h:p<c.length
 ·rw [if_pos h,wrt_one,set_at,Int.toNat_natCast,← hl]
 ·rw [if_neg h,if_neg (by omega)];rfl
theorem app_len (c:List Int) (a:Nat) (r:List Int):(appW c a r).length=r.length+(if a+r.length+1<c.length then 2 else 1):=by
 unfold appW zeroW;rw [List.length_append,put_len];split <;> rfl
theorem app_cut (c r:List Int) (a k:Nat) (hf:a+r.length<c.length) (hk:k<(appW c a r).length) (j:Nat) (hj:j≤a):(wrt c ((appW c a r).take k)).getD j 0=c.getD j 0:=by
 have hk':k<r.length+((zeroW c (a+r.length+1)).length+1):=by unfold appW at hk;rw [List.length_append,List.length_append,put_len] at hk;exact hk
 have e:(appW c a r).take k=(putW a r r.length++zeroW c (a+r.length+1)).take k:=by
  unfold appW;rw [← List.append_assoc,List.take_append_of_le_length (by rw [List.length_append,put_len];omega)]
 rw [e];by_cases h1:k≤r.length
 ·rw [List.take_append_of_le_length (by rw [put_len];exact h1),put_take a r h1,put_at c r a k (by omega),if_neg (by omega)]
 ·rw [List.take_of_length_le (by rw [List.length_append,put_len];unfold zeroW at hk' ⊢;split <;> simp_all <;> omega),wrt_app,zero_at c _ (by rw [wrt_len]),if_neg (by omega),put_at c r a _ hf,if_neg (by omega)]
theorem app_all (c r:List Int) (a:Nat) (hf:a+r.length<c.length) (j:Nat):(wrt c (appW c a r)).getD j 0=if j=a then (r.length:Int) else if a<j∧j≤a+r.length then r.getD (j - a - 1) 0 else if j=a+r.length+1∧a+r.length+1<c.length then 0 else c.getD j 0:=by
 unfold appW;rw [wrt_app,wrt_app,wrt_one,set_at,wrt_len,wrt_len];show (if j=(a:Int).toNat∧(a:Int).toNat<c.length then _ else _)=_;rw [Int.toNat_natCast];by_cases h:j=a
 ·rw [if_pos ⟨h,by omega⟩,if_pos h]
 ·rw [if_neg (by omega),if_neg h,zero_at c _ (by rw [wrt_len])];by_cases h1:j=a+r.length+1∧a+r.length+1<c.length
  ·rw [if_pos h1,if_neg (by omega),if_pos h1]
  ·rw [if_neg h1,put_at c r a _ hf];by_cases h2:a<j∧j≤a+r.length
   ·rw [if_pos h2,if_pos h2]
   ·rw [if_neg h2,if_neg h2,if_neg h1]
def Tape (c:List Int) (l:List (List Int)) (e:Nat):Prop:=May c∧repD c=(l,e)∧lenAt c e=0
theorem Tape.cut {c:List Int} {l:List (List Int)} {e:Nat} (h:Tape c l e) {r:List Int} (hf:e+r.length<c.length) {k:Nat} (hk:k<(appW c e r).length):Tape (wrt c ((appW c e r).take k)) l e:=by
 obtain ⟨hm,hr,hl⟩:=h;have e2:(repD c).2=e:=by rw [hr]
 obtain ⟨a,b⟩:=rep_keep (c:=c) (d:=wrt c ((appW c e r).take k)) (by rw [wrt_len]) (fun j hj=>(app_cut c r e k hf hk j (by omega)).symm);exact ⟨by unfold May;rw [wrt_len];exact hm,by rw [a,hr],by rw [e2] at b;rw [b];exact hl⟩
theorem Tape.all {c:List Int} {l:List (List Int)} {e:Nat} (h:Tape c l e) {r:List Int} (hr:RMay r) (hf:e+r.length<c.length):Tape (wrt c (appW c e r)) (l++[r]) (e+r.length+1):=by
 obtain ⟨hm,hrep,hl⟩:=h;have e2:(repD c).2=e:=by rw [hrep]
 have e1:(repD c).1=l:=by rw [hrep]
 have at0:=app_all c r e hf;have hlen:(wrt c (appW c e r)).length=c.length:=wrt_len _ _;have h0:(wrt c (appW c e r)).getD e 0=(r.length:Int):=by rw [at0,if_pos rfl]
 have h3:lenAt (wrt c (appW c e r)) (e+r.length+1)=0:=by
  unfold lenAt;rw [hlen];by_cases hz:e+r.length+1=c.length
  ·rw [if_pos (.inl hz)]
  ·rw [if_pos (.inr (by rw [at0,if_neg (by omega),if_neg (by omega),if_pos ⟨rfl,by omega⟩]))]
 have h2:recAt (wrt c (appW c e r)) e=r:=by
  unfold recAt;rw [h0,Int.toNat_natCast];refine list_ext (by rw [List.length_take,List.length_drop,hlen];omega) fun j hj=>?_;have hj':j<r.length:=by rw [List.length_take] at hj;omega
  have q:=at0 (e+1+j);rw [if_neg (by omega),if_pos ⟨by omega,by omega⟩,show e+1+j - e - 1=j by omega] at q;rw [← q];simp [List.getD,List.getElem?_drop,hj']
 have:=rep_more (c:=c) (d:=wrt c (appW c e r)) hlen.symm (fun j hj=>by rw [at0,if_neg (by omega),if_neg (by omega),if_neg (by omega)]) hr (by rw [e2];exact h0) (by rw [e2];exact h2) (by rw [e2];exact hf) (by rw [e2];exact h3);rw [e1,e2] at this;exact ⟨by unfold May;rw [hlen];exact hm,this,h3⟩
theorem Tape.app {c:List Int} {l:List (List Int)} {e:Nat} (h:Tape c l e) {r:List Int} {ls:List Wr} {f:Int} (ha:AppIs c r ls f) (hr:RMay r):(e+r.length<c.length∧ls=appW c e r∧f=0)∨(c.length≤e+r.length∧ls=[]∧f=16):=by
 obtain ⟨hm,hrep,hl⟩:=h;have e2:(repD c).2=e:=by rw [hrep]
 unfold AppIs at ha;rw [e2,hl] at ha;rcases ha with ⟨a,_⟩ | ⟨_,a,_⟩ | ⟨_,_,a,_⟩ | ⟨_,_,_,a,b,c⟩ | ⟨_,_,_,a,b,c⟩
 ·exact absurd hr a
 ·exact absurd hm a
 ·omega
 ·exact .inr ⟨a,b,c⟩
 ·exact .inl ⟨a,b,c⟩
theorem Tape.blank {n:Nat} (h0:1≤n) (h1:n≤2048):Tape (List.replicate n 0) [] 0:=by
 have hz:lenAt (List.replicate n 0) 0=0:=by
  unfold lenAt;rw [if_pos (.inr (by simp [List.getD,List.getElem?_replicate];split <;> rfl))]
 have e:repD (List.replicate n 0)=([],0):=rep_of (k:=0) (by show ¬ 0<lenAt _ 0;rw [hz];omega);exact ⟨⟨by simpa using h0,by simpa using h1⟩,e,hz⟩
end disk
namespace ora
structure Pr where
 m:Int
 r:Int
 b:Int
 t:Int
def pr0:Pr:=⟨0,0,0,0⟩
def Pr.key (p:Pr) (m r b:Int):Prop:=p.m=m∧p.r=r∧p.b=b
structure At (l:List Pr) (m r b:Int) (i:Nat):Prop where
 lt:i<l.length
 is:(l.getD i pr0).key m r b
 first:∀ j,j<i→¬ (l.getD j pr0).key m r b
def No (l:List Pr) (m r b:Int):Prop:=∀ j,j<l.length→¬ (l.getD j pr0).key m r b
def Pr.may (p:Pr):Prop:=(0≤p.m∧p.m≤49)∧(0≤p.r∧p.r≤15)∧(0≤p.b∧p.b≤8796093022207)∧(0≤p.t∧p.t≤65535)
structure May (l:List Pr):Prop where
 few:l.length≤500
 each:∀ i,i<l.length→(l.getD i pr0).may∧At l (l.getD i pr0).m (l.getD i pr0).r (l.getD i pr0).b i
theorem find_or (l:List Pr) (m r b:Int):(∃ i,At l m r b i)∨No l m r b:=by
 have key:∀ k,k≤l.length→(∃ i,At l m r b i)∨∀ j,j<k→¬ (l.getD j pr0).key m r b:=by
  intro k
  induction k with
  | zero=>intro _;exact .inr fun j hj=>absurd hj (Nat.not_lt_zero _)
  | succ k ih=>
   intro hk;rcases ih (by omega) with h | h
   ·exact .inl h
   ·by_cases hx:(l.getD k pr0).key m r b
    ·exact .inl ⟨k,hk,hx,h⟩
    ·refine .inr fun j hj=>?_;by_cases e:j=k
     ·subst e;exact hx
     ·exact h j (by omega)
 rcases key l.length (Nat.le_refl _) with h | h
 ·exact .inl h
 ·exact .inr h
def IssueIs (l:List Pr) (m r b d:Int) (ls:List Pr) (x c:Int):Prop:=
 (¬ May l∧ls=[]∧x=0∧c=5)∨(May l∧¬ (Pr.mk m r b d).may∧ls=[]∧x=0∧c=2) ∨
  (May l∧(Pr.mk m r b d).may∧(∃ i,At l m r b i∧x=(l.getD i pr0).t)∧ls=l∧c=0) ∨
  (May l∧(Pr.mk m r b d).may∧No l m r b∧l.length=500∧ls=[]∧x=0∧c=16) ∨
  (May l∧(Pr.mk m r b d).may∧No l m r b∧l.length<500∧ls=l++[⟨m,r,b,d⟩]∧x=d∧c=0)
end ora
namespace words
structure W3 where
 a:Int
 b:Int
 c:Int
def W3.ok (w:W3):Prop:=(0≤w.a∧w.a<4294967296)∧(0≤w.b∧w.b<4294967296)∧(0≤w.c∧w.c<4294967296)
def W3.val (w:W3):Int:=w.a+w.b*4294967296+w.c*18446744073709551616
def top:Int:=79228162514264337593543950336
theorem W3.bd {w:W3} (h:w.ok):0≤w.val∧w.val<top:=by
 obtain ⟨h1,h2,h3⟩:=h;unfold W3.val top;omega
def carry3 (p q r:Int):W3:=⟨p % 4294967296,(p / 4294967296+q) % 4294967296,((p / 4294967296+q) / 4294967296+r) % 4294967296⟩
def carry3o (p q r:Int):Int:=((p / 4294967296+q) / 4294967296+r) / 4294967296
theorem carry3_ok (p q r:Int):(carry3 p q r).ok:=by
 unfold carry3 W3.ok;simp only;omega
theorem carry3_val (p q r:Int):(carry3 p q r).val+carry3o p q r*top=p+q*4294967296+r*18446744073709551616:=by
 unfold carry3 carry3o W3.val top;simp only;omega
def timesW (w:W3) (m:Int):W3:=carry3 (w.a*m) (w.b*m) (w.c*m)
def timesO (w:W3) (m:Int):Int:=carry3o (w.a*m) (w.b*m) (w.c*m)
theorem times_val (w:W3) (m:Int):(timesW w m).val+timesO w m*top=w.val*m:=by
 have:=carry3_val (w.a*m) (w.b*m) (w.c*m);unfold timesW timesO;rw [this];unfold W3.val;rw [Int.add_mul,Int.add_mul,Int.mul_right_comm w.b,Int.mul_right_comm w.c]
theorem prod_bd {x m:Int} (x0:0≤x) (x1:x<4294967296) (m0:0≤m) (m1:m<4294967296):0≤x*m∧x*m≤4294967295*4294967295:=
 ⟨Int.mul_nonneg x0 m0,Int.mul_le_mul (by omega) (by omega) m0 (by omega)⟩
theorem times_mod {w:W3} (m:Int):(timesW w m).val=w.val*m % top:=by
 have h:=times_val w m;have b:=W3.bd (carry3_ok (w.a*m) (w.b*m) (w.c*m));have e:(timesW w m).val=(carry3 (w.a*m) (w.b*m) (w.c*m)).val:=rfl;rw [← h,Int.add_mul_emod_self_right,Int.emod_eq_of_lt (by omega) (by omega)]
def over2 (w:W3) (d:Int):Int:=w.c % d
def over1 (w:W3) (d:Int):Int:=(over2 w d*4294967296+w.b) % d
def overR (w:W3) (d:Int):Int:=(over1 w d*4294967296+w.a) % d
def overW (w:W3) (d:Int):W3:=⟨(over1 w d*4294967296+w.a) / d,(over2 w d*4294967296+w.b) / d,w.c / d⟩
theorem word_div {r x d:Int} (h0:0<d) (r0:0≤r) (r1:r<d) (x0:0≤x) (x1:x<4294967296):0≤(r*4294967296+x) / d∧(r*4294967296+x) / d<4294967296:=by
 refine ⟨Int.ediv_nonneg (by omega) (by omega),?_⟩;rw [Int.ediv_lt_iff_lt_mul h0];omega
theorem over_left {w:W3} (d:Int) (h:0<d):0≤overR w d∧overR w d<d:=⟨Int.emod_nonneg _ (by omega),Int.emod_lt_of_pos _ h⟩
theorem over_ok {w:W3} (hw:w.ok) {d:Int} (h:0<d):(overW w d).ok:=by
 obtain ⟨⟨a1,a2⟩,⟨b1,b2⟩,c1,c2⟩:=hw;have r2:0≤over2 w d∧over2 w d<d:=⟨Int.emod_nonneg _ (by omega),Int.emod_lt_of_pos _ h⟩
 have r1:0≤over1 w d∧over1 w d<d:=⟨Int.emod_nonneg _ (by omega),Int.emod_lt_of_pos _ h⟩
 refine ⟨word_div h r1.1 r1.2 a1 a2,word_div h r2.1 r2.2 b1 b2,?_⟩;have:=word_div h (r:=0) (by omega) h c1 c2;simpa [overW] using this
theorem over_val (w:W3) (d:Int):(overW w d).val*d+overR w d=w.val:=by
 have e2:=Int.emod_add_mul_ediv w.c d;have e1:=Int.emod_add_mul_ediv (over2 w d*4294967296+w.b) d;have e0:=Int.emod_add_mul_ediv (over1 w d*4294967296+w.a) d;have f2:over2 w d=w.c % d:=rfl;have f1:over1 w d=(over2 w d*4294967296+w.b) % d:=rfl;have f0:overR w d=(over1 w d*4294967296+w.a) % d:=rfl;rw [← f2] at e2;rw [← f1] at e1;rw [← f0] at e0;unfold W3.val overW;simp only;rw [Int.add_mul,Int.add_mul,Int.mul_right_comm _ 4294967296,Int.mul_right_comm _ 18446744073709551616,Int.mul_comm _ d,Int.mul_comm _ d,Int.mul_comm _ d];generalize d*((over1 w d*4294967296+w.a) / d)=P0 at *;generalize d*((over2 w d*4294967296+w.b) / d)=P1 at *;generalize d*(w.c / d)=P2 at *;omega
end words
namespace cell
open Go.RowKit
def RowU (w:World) (a:Option Addr) (len:Nat) (zs:List Int):Prop:=
 zs.length=len∧(len=0∨∃ b off,a=some ⟨b,off,none⟩∧∀ i,i<len→w.cell? ⟨b,off+i,none⟩=some (.int .u32 (zs.getD i 0)))
theorem RowU.below {w w':World} {a:Option Addr} {n:Nat} {zs:List Int} (h:RowU w a n zs) (hb:Below w.heap.size w w'):RowU w' a n zs:=by
 refine ⟨h.1,?_⟩;rcases h.2 with h0 | ⟨b,off,rfl,hc⟩
 ·exact .inl h0
 ·refine .inr ⟨b,off,rfl,fun i hi=>?_⟩;have h1:=hc i hi;rw [hb.cell (p:=⟨b,off+i,none⟩) (World.block_lt_of_cell? w _ h1)];exact h1
theorem RowU.nil (w:World) (a:Option Addr):RowU w a 0 []:=⟨rfl,.inl rfl⟩
theorem RowU.at {w:World} {a:Option Addr} {n:Nat} {zs:List Int} (h:RowU w a n zs) (h0:0<n):∃ b off,a=some ⟨b,off,none⟩∧b<w.heap.size∧∀ i,i<n→w.cell? ⟨b,off+i,none⟩=some (.int .u32 (zs.getD i 0)):=by
 rcases h.2 with h1 | ⟨b,off,rfl,hc⟩
 ·omega
 ·exact ⟨b,off,rfl,World.block_lt_of_cell? w _ (hc 0 h0),hc⟩
def Ws (w:World) (base:Nat) (v:Value) (zs:List Int):Prop:=w.ownsRow base 99 1 v zs.length (zs.map (.int .u32))
theorem Ws.alloc {w:World} {base:Nat} {v:Value} {l:List Int} (h:Ws w base v l) (o:Obj):Ws (w.alloc o) base v l:=World.ownsRow.alloc h o
theorem Ws.next {w w':World} {base:Nat} {v:Value} {l:List Int} (h:Ws w base v l) (hb:Below w.heap.size w w'):Ws w' base v l:=by
 refine ⟨h.1,?_⟩;rcases h.2 with hn | ⟨g,cap,cur,hv,hg,hc,rest⟩
 ·exact .inl hn
 ·exact .inr ⟨g,cap,cur,hv,hg,Blk.next hc hb,rest⟩
theorem Ws.row {w:World} {base:Nat} {v:Value} {l:List Int} (h:Ws w base v l):∃ a cap,v = .slice a l.length cap∧RowU w a l.length l∧(a=none→cap=0)∧l.length≤cap:=by
 rcases h.2 with ⟨hv,hn⟩ | ⟨g,cap,cur,hv,_,_,h1,_⟩
 ·exact ⟨none,0,by rw [hn];exact hv,⟨rfl,.inl hn⟩,fun _=>rfl,by omega⟩
 ·subst hv;refine ⟨_,cap,rfl,⟨rfl,.inr ⟨g,0,rfl,fun i hi=>?_⟩⟩,(fun h=>by cases h),h1⟩;have:=World.ownsRow.cellAt h i (by omega);rw [Nat.zero_add,this];simp [List.getD,hi]
theorem own_far {w:World} {base n k:Nat} {t:TypeId} {v:Value} {l:List Value} (h:w.ownsRow base t n v k l) {G:Nat} (hG:G<base):some G≠v.ownBlock:=by
 intro e;have:=(World.ownsRow.lt h G e.symm).1;omega
theorem own_bel {w0 w w':World} {base B n k:Nat} {t:TypeId} {v:Value} {l:List Value} (h:w.ownsRow base t n v k l) (hg:w.grownBy w' v.ownBlock) (hb:Below B w0 w) (hB:B≤base) (hw:B≤w.heap.size):Below B w0 w':=by
 refine ⟨hg.os.trans hb.os,hg.tape.trans hb.tape,hg.output.trans hb.output,Nat.le_trans hb.size hg.size,fun k hk=>?_⟩;rw [← hb.block k hk];exact hg.block k (by omega) (own_far h (by omega))
theorem alloc_le {w:World} {B:Nat} (h:B≤w.heap.size) (o:Obj):B≤(w.alloc o).heap.size:=by simp;omega
theorem info_u32:(Tryz.prog.info? 99).map (fun i=>(i.zero,i.size,i.bytes))=some (some (.int .u32 0),1,4):=by kernel_rfl
theorem wp_word {w:World} {ops:Array Oper} {rest:List Oper} {o:Oper} {a:Act} {Q:Exit→Act→World→Prop} (hgd:o.guard=none) (s x:Operand)
  (ho:o.op = .call { callee:= .builtin .append,args:=#[s,x],argTypes:=#[25,25] })
  (base G:Nat) (v:Value) (l:List Int) (r:Int) (hs:a.eval s=v) (hx:a.eval x = .slice (some ⟨G,0,none⟩) 1 1) (hv:Ws w base v l) (hu:w.cell? ⟨G,0,none⟩=some (.int .u32 r)) (hn:l.length≤1000000) (hbase:base≤w.heap.size)
  (h:∀ v' w',Ws w' base v' (l++[r])→w.grownBy w' v.ownBlock→wpList Tryz.prog ops Q rest (a.put o.dst v') w'):wpList Tryz.prog ops Q (o :: rest) a w:=by
 obtain ⟨i0,hi,hz0,hz1,hz2⟩:=info_parts info_u32;refine wpList_append_own w hgd s x 25 ho base 99 i0 (.int .u32 0) 1 4 Tryz.underlying25 hi hz0 hz1 hz2 rfl (by decide) v l.length (l.map (.int .u32)) hs hv ⟨G,0,none⟩ 1 1 [.int .u32 r] hx rfl ?_ ?_ (by unfold maxLen;omega) (by omega) hbase ?_
 ·intro j u hj
  match j,hj with
  | 0,hj=>simp at hj;subst hj;simpa [Addr.add] using hu
 ·intro u hu;simp at hu;subst hu;rfl
 intro v' w' h1 h2 _;refine h v' w' ?_ h2;unfold Ws;rw [List.length_append,List.map_append];exact h1
end cell
namespace cents
open Go.RowKit
def Row (w:World) (a:Option Addr) (len:Nat) (zs:List Int):Prop:=
 zs.length=len∧(len=0∨∃ b off,a=some ⟨b,off,none⟩∧∀ i,i<len→w.cell? ⟨b,off+i,none⟩=some (zI (zs.getD i 0)))
def okAll (lo hi:Int) (l:List Int):Bool:=l.all fun n=>decide (lo≤n) && decide (n≤hi)
theorem okAll_step (lo hi:Int) (zs:List Int) (k:Nat) (hk:k<zs.length) (h:okAll lo hi (zs.take k)=true) (h1:lo≤zs.getD k 0) (h2:zs.getD k 0≤hi):okAll lo hi (zs.take (k+1))=true:=by
 unfold okAll at *;rw [List.take_add_one,List.all_append,h];simp only [List.getD,List.getElem?_eq_getElem hk,Option.getD] at h1 h2 ⊢;simp [h1,h2]
theorem okAll_no (lo hi:Int) (zs:List Int) (k:Nat) (hk:k<zs.length) (h:zs.getD k 0<lo∨hi<zs.getD k 0):okAll lo hi zs=false:=by
 unfold okAll;rw [List.all_eq_false];refine ⟨zs[k],List.getElem_mem hk,?_⟩;simp only [List.getD,List.getElem?_eq_getElem hk,Option.getD] at h;simp;omega
theorem ret_bool {a b:Bool} (h:a=b):Ending.returned (.bool a) = .returned (.bool b):=by rw [h]
theorem within_any (lo hi:Int) (a:Option Addr) (len cap:Nat) (zs:List Int) (w:World) (hr:Row w a len zs) (hl:len≤maxLen) :
  Calls Tryz.prog 192 #[zI lo,zI hi,.slice a len cap] w fun e w'=>e = .returned (.bool (okAll lo hi zs))∧w'=w:=by
 unfold maxLen at hl;obtain ⟨hz,hr⟩:=hr;go_enter Tryz.func192,Tryz.ntmps192;go_wp2;go_loop [11] (fun i=>∃ k:Nat,k≤len∧i=zI k∧okAll lo hi (zs.take k)=true) (fun i=>len - (intOf i).toNat)
 case atStart=>exact ⟨0,Nat.zero_le _,rfl,rfl⟩
 case round=>
  obtain ⟨k,hk,rfl,hok⟩:=hrel;have HK:Hid (okAll lo hi (zs.take k)=true):=hok;clear hok;by_cases hlt:k<len
  ·rcases hr with h0 | ⟨b,off,rfl,hc⟩
   ·omega
   have hcell:=hc k hlt;clear hc;generalize hzk:zs.getD k 0=z at hcell;have HZ:Hid (zs.getD k 0=z):=hzk;clear hzk;by_cases h1:z<lo
   ·go_wp2;go_ret;exact ⟨ret_bool (okAll_no lo hi zs k (by omega) (.inl (by rw [HZ.o];exact h1))).symm,rfl⟩
   ·by_cases h2:hi<z
    ·go_wp2;go_ret;exact ⟨ret_bool (okAll_no lo hi zs k (by omega) (.inr (by rw [HZ.o];exact h2))).symm,rfl⟩
    ·go_wp2;go_round
     case rel=>exact ⟨k+1,by omega,by go_num,okAll_step lo hi zs k (by omega) HK.o (by rw [HZ.o];omega) (by rw [HZ.o];omega)⟩
     case measure=>simp [intOf];omega
  ·go_wp2;go_ret;refine ⟨ret_bool ?_,rfl⟩;have:=HK.o;rw [List.take_of_length_le (by omega)] at this;exact this.symm
end cents
end Go.Proofs.YtnpblpbohcegoaaGreatDoor
