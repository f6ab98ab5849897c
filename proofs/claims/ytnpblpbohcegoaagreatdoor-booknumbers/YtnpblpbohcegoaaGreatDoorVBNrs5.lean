import Derived.Test.YtnpblpbohcegoaaGreatDoorVBNrs1
import Derived.Test.YtnpblpbohcegoaaGreatDoorVBNrs3
set_option linter.unusedVariables false
set_option linter.unusedSimpArgs false
set_option maxHeartbeats 4000000
set_option maxRecDepth 100000
namespace Go.Proofs.YtnpblpbohcegoaaGreatDoor
namespace deb
open tar
def Ok1 (d:Du):Prop:=(0≤d.a∧d.a≤1000000000)∧0≤d.b∧d.b≤10000
def DFits (l:List Du):Prop:=∀ i,i<l.length→Ok1 (l.getD i du0)
def Mays (l:List Du):Prop:=l.length≤8∧DFits l
def FaultIs (l:List Du) (e:Int):Prop:=(¬ l.length≤8∧e=1)∨(l.length≤8∧¬ DFits l∧e=2)∨(Mays l∧e=0)
theorem FaultIs.ok {l:List Du} {e:Int} (h:FaultIs l e):e=0↔Mays l:=by
 rcases h with ⟨a,rfl⟩ | ⟨a,b,rfl⟩ | ⟨h,rfl⟩
 ·exact ⟨fun h=>absurd h (by decide),fun h=>absurd h.1 a⟩
 ·exact ⟨fun h=>absurd h (by decide),fun h=>absurd h.2 b⟩
 ·exact ⟨fun _=>h,fun _=>rfl⟩
theorem fits_mem {l:List Du} (h:∀ d∈l,Ok1 d):DFits l:=fun i hi=>by
 have e:l.getD i du0=l[i]:=by simp [List.getD,List.getElem?_eq_getElem hi]
 rw [e];exact h _ (List.getElem_mem hi)
theorem mem_fits {l:List Du} (h:DFits l):∀ d∈l,Ok1 d:=fun d hd=>by
 obtain ⟨i,hi,rfl⟩:=List.getElem_of_mem hd;have e:l.getD i du0=l[i]:=by simp [List.getD,List.getElem?_eq_getElem hi]
 rw [← e];exact h i hi
def sumK (l:List Du):Nat→Int
 | 0=>0
 | k+1=>sumK l k+(l.getD k du0).a
theorem sumK_next (l:List Du) (k:Nat):sumK l (k+1)=sumK l k+(l.getD k du0).a:=rfl
def sumD:List Du→Int
 | []=>0
 | d :: l=>d.a+sumD l
theorem sumD_app (l m:List Du):sumD (l++m)=sumD l+sumD m:=by
 induction l with
 | nil=>simp [sumD]
 | cons t l ih=>simp only [List.cons_append,sumD,ih];omega
theorem sumK_take (l:List Du) (k:Nat) (hk:k≤l.length):sumK l k=sumD (l.take k):=by
 induction k with
 | zero=>simp [sumK,sumD]
 | succ k ih=>rw [sumK_next,take_one l k (by omega),sumD_app,ih (by omega)];simp [sumD]
theorem sumK_all (l:List Du):sumK l l.length=sumD l:=by rw [sumK_take l _ (Nat.le_refl _),List.take_length]
theorem sumD_pos {l:List Du} (h:∀ d∈l,Ok1 d):0≤sumD l∧sumD l≤(l.length:Int)*1000000000:=by
 induction l with
 | nil=>exact ⟨Int.le_refl _,Int.le_refl _⟩
 | cons t l ih=>
  have h1:=ih fun x hx=>h x (List.mem_cons_of_mem _ hx);have h2:=h t List.mem_cons_self;obtain ⟨⟨a1,a2⟩,_⟩:=h2;refine ⟨by show 0≤t.a+sumD l;omega,?_⟩;show t.a+sumD l≤((l.length+1:Nat):Int)*1000000000;omega
theorem sumK_bd {l:List Du} (h:Mays l) (k:Nat) (hk:k≤l.length):0≤sumK l k∧sumK l k≤8000000000:=by
 rw [sumK_take l k hk];have h1:=sumD_pos (l:=l.take k) fun d hd=>mem_fits h.2 d (List.mem_of_mem_take hd);have h2:(l.take k).length≤8:=by rw [List.length_take];have:=h.1;omega
 exact ⟨h1.1,by omega⟩
def OwedIs (l:List Du) (x e:Int):Prop:=FaultIs l e∧((e=0∧x=sumD l)∨(e≠0∧x=0))
def TMay (t bp:Int):Prop:=(0≤t∧t≤100000000)∧0≤bp∧bp≤10000
def ShareIs (t bp s e:Int):Prop:=(TMay t bp∧s=t*bp / 10000∧e=0)∨(¬ TMay t bp∧s=0∧e=2)
theorem share_bd {t bp:Int} (h:TMay t bp):0≤t*bp / 10000∧t*bp / 10000≤100000000:=by
 obtain ⟨⟨a1,a2⟩,b1,b2⟩:=h;have h1:=Int.mul_nonneg a1 b1;have h2:t*bp≤t*10000:=Int.mul_le_mul_of_nonneg_left b2 a1;generalize t*bp=p at *;omega
def left (a end_ s:Int):Int:=min a (end_ - s)
def recK (l:List Du) (s:Int):Nat→List Du
 | 0=>[]
 | k+1=>recK l s k++(if 0<left (l.getD k du0).a (sumK l (k+1)) s then [⟨left (l.getD k du0).a (sumK l (k+1)) s,(l.getD k du0).b⟩] else [])
theorem recK_yes (l:List Du) (s:Int) (k:Nat) (h:0<left (l.getD k du0).a (sumK l (k+1)) s):recK l s (k+1)=recK l s k++[⟨left (l.getD k du0).a (sumK l (k+1)) s,(l.getD k du0).b⟩]:=by
 show recK l s k++_=_;rw [if_pos h]
theorem recK_no (l:List Du) (s:Int) (k:Nat) (h:¬ 0<left (l.getD k du0).a (sumK l (k+1)) s):recK l s (k+1)=recK l s k:=by
 show recK l s k++_=_;rw [if_neg h,List.append_nil]
theorem recK_len (l:List Du) (s:Int) (k:Nat):(recK l s k).length≤k:=by
 induction k with
 | zero=>exact Nat.le_refl _
 | succ k ih=>
  by_cases h:0<left (l.getD k du0).a (sumK l (k+1)) s
  ·rw [recK_yes l s k h,List.length_append];simp;omega
  ·rw [recK_no l s k h];omega
theorem recK_ok {l:List Du} (h:Mays l) (s:Int) (k:Nat) (hk:k≤l.length):∀ d∈recK l s k,Ok1 d∧1≤d.a:=by
 induction k with
 | zero=>intro d hd;cases hd
 | succ k ih=>
  intro d hd;by_cases hp:0<left (l.getD k du0).a (sumK l (k+1)) s
  ·rw [recK_yes l s k hp] at hd;rcases List.mem_append.1 hd with hd | hd
   ·exact ih (by omega) d hd
   ·have e:=List.mem_singleton.1 hd;subst e;have h1:=h.2 k (by omega);have h2:left (l.getD k du0).a (sumK l (k+1)) s≤(l.getD k du0).a:=by unfold left;omega
    have h3:=h1.1.2;exact ⟨⟨⟨by show 0≤left _ _ _;omega,by show left _ _ _≤_;omega⟩,h1.2⟩,by show 1≤left _ _ _;omega⟩
  ·rw [recK_no l s k hp] at hd;exact ih (by omega) d hd
def RecIs (l:List Du) (t bp:Int) (z:List Du) (p e:Int):Prop:=
 (¬ Mays l∧FaultIs l e∧z=[]∧p=0)∨(Mays l∧¬ TMay t bp∧e=2∧z=[]∧p=0)∨(Mays l∧TMay t bp∧e=0∧z=recK l (t*bp / 10000) l.length∧p=min (t*bp / 10000) (sumD l))
theorem RecIs.got {l:List Du} {t bp p e:Int} {z:List Du} (h:RecIs l t bp z p e) (hm:Mays l) (ht:TMay t bp):e=0∧z=recK l (t*bp / 10000) l.length∧p=min (t*bp / 10000) (sumD l):=by
 rcases h with ⟨a,_⟩ | ⟨_,b,_⟩ | ⟨_,_,c⟩
 ·exact absurd hm a
 ·exact absurd ht b
 ·exact c
def grow (b x:Int):Int:=min 1000000000 (x+x*b / 10000)
def growN (b:Int):Nat→Int→Int
 | 0,x=>x
 | k+1,x=>grow b (growN b k x)
theorem grow_bd {b x:Int} (hb:0≤b) (hb2:b≤10000) (hx:0≤x) (hx2:x≤1000000000):x≤grow b x∧grow b x≤1000000000:=by
 have h1:=Int.mul_nonneg hx hb;unfold grow;generalize x*b=p at *;omega
theorem growN_bd {b x:Int} (hb:0≤b) (hb2:b≤10000) (hx:0≤x) (hx2:x≤1000000000) (k:Nat):x≤growN b k x∧growN b k x≤1000000000:=by
 induction k with
 | zero=>exact ⟨Int.le_refl _,hx2⟩
 | succ k ih=>
  have:=grow_bd hb hb2 (show 0≤growN b k x by omega) ih.2;exact ⟨by show x≤grow b _;omega,this.2⟩
theorem growN_add (b:Int) (j k:Nat) (x:Int):growN b k (growN b j x)=growN b (j+k) x:=by
 induction k with
 | zero=>rfl
 | succ k ih=>show grow b _=grow b _;rw [ih];rfl
theorem growN_still {b x:Int} (h:grow b x=x) (k:Nat):growN b k x=x:=by
 induction k with
 | zero=>rfl
 | succ k ih=>show grow b (growN b k x)=x;rw [ih,h]
def ageAll (l:List Du) (m:Nat):List Du:=l.map fun d=>⟨growN d.b m d.a,d.b⟩
theorem ageAll_len (l:List Du) (m:Nat):(ageAll l m).length=l.length:=List.length_map _
theorem ageAll_at (l:List Du) (m:Nat) (i:Nat) (hi:i<l.length):(ageAll l m).getD i du0=⟨growN (l.getD i du0).b m (l.getD i du0).a,(l.getD i du0).b⟩:=by
 unfold ageAll;simp [List.getD,List.getElem?_eq_getElem hi]
theorem ageAll_mays {l:List Du} (h:Mays l) (m:Nat):Mays (ageAll l m):=by
 refine ⟨by rw [ageAll_len];exact h.1,fun i hi=>?_⟩;rw [ageAll_len] at hi;rw [ageAll_at l m i hi];obtain ⟨⟨a1,a2⟩,b1,b2⟩:=h.2 i hi;have:=growN_bd b1 b2 a1 a2 m;exact ⟨⟨by show 0≤growN _ _ _;omega,this.2⟩,b1,b2⟩
theorem ageAll_take (l:List Du) (m k:Nat) (hk:k<l.length):ageAll (l.take (k+1)) m=ageAll (l.take k) m++[⟨growN (l.getD k du0).b m (l.getD k du0).a,(l.getD k du0).b⟩]:=by
 rw [take_one l k hk];unfold ageAll;rw [List.map_append];rfl
def AgeIs (l:List Du) (m:Int) (z:List Du) (e:Int):Prop:=(¬ Mays l∧FaultIs l e∧z=[])∨(Mays l∧¬ (0≤m∧m≤2400)∧e=2∧z=[])∨(Mays l∧(0≤m∧m≤2400)∧e=0∧z=ageAll l m.toNat)
theorem AgeIs.got {l:List Du} {m e:Int} {z:List Du} (h:AgeIs l m z e) (hm:Mays l) (ht:0≤m∧m≤2400):e=0∧z=ageAll l m.toNat:=by
 rcases h with ⟨a,_⟩ | ⟨_,b,_⟩ | ⟨_,_,c⟩
 ·exact absurd hm a
 ·exact absurd ht b
 ·exact c
end deb
namespace words
def decF:Nat→Nat→List Int
 | 0,u=>[48+(u:Int)]
 | k+1,u=>if u<10 then [48+(u:Int)] else decF k (u / 10)++[48+((u % 10:Nat):Int)]
def decL (u:Nat):List Int:=decF u u
theorem decF_same:∀ (k j u:Nat),u≤k→u≤j→decF k u=decF j u:=by
 intro k
 induction k with
 | zero=>
  intro j u h1 h2;have:u=0:=by omega
  subst this;cases j with
  | zero=>rfl
  | succ j=>simp [decF]
 | succ k ih=>
  intro j u h1 h2;by_cases h0:u<10
  ·cases j with
   | zero=>
    have:u=0:=by omega
    subst this;simp [decF]
   | succ j=>rw [decF,decF,if_pos h0,if_pos h0]
  ·obtain ⟨j',rfl⟩:∃ j',j=j'+1:=⟨j - 1,by omega⟩
   rw [decF,decF,if_neg h0,if_neg h0,ih j' (u / 10) (by omega) (by omega)]
theorem decL_one {u:Nat} (h:u<10):decL u=[48+(u:Int)]:=by
 unfold decL;cases u with
 | zero=>rfl
 | succ k=>rw [decF,if_pos h]
theorem decL_more {u:Nat} (h:¬ u<10):decL u=decL (u / 10)++[48+((u % 10:Nat):Int)]:=by
 obtain ⟨k,rfl⟩:∃ k,u=k+1:=⟨u - 1,by omega⟩
 unfold decL;rw [decF,if_neg h,decF_same k _ _ (by omega) (Nat.le_refl _)]
theorem decL_len (k:Nat):∀ u:Nat,u<10 ^ (k+1)→1≤(decL u).length∧(decL u).length≤k+1:=by
 induction k with
 | zero=>intro u h;rw [decL_one (by omega)];simp
 | succ k ih=>
  intro u h;by_cases h1:u<10
  ·rw [decL_one h1];simp
  ·rw [decL_more h1];have:=ih (u / 10) (by rw [Nat.pow_succ] at h;omega);simp;omega
theorem decL_len29 (u:Nat) (h:(u:Int)<top):1≤(decL u).length∧(decL u).length≤29:=decL_len 28 u (by unfold top at h;omega)
open Go.RowKit
structure Acc (w0 w:World) (B:Nat) (v:Value):Prop where
 os:w.os=w0.os
 tape:w.tape=w0.tape
 output:w.output=w0.output
 size:w0.heap.size≤w.heap.size
 block:∀ k,k<w0.heap.size→k≠B→w.heap[k]?=w0.heap[k]?
 old:B<w0.heap.size
 cell:w.cell? ⟨B,0,none⟩=some v
 free:w.frozen? ⟨B,0,none⟩=false
theorem Acc.trans {w0 w1 w2:World} {B:Nat} {v v':Value} (h:Acc w0 w1 B v) (h':Acc w1 w2 B v'):Acc w0 w2 B v':=
 ⟨h'.os.trans h.os,h'.tape.trans h.tape,h'.output.trans h.output,Nat.le_trans h.size h'.size,fun k hk hB=>(h'.block k (Nat.lt_of_lt_of_le hk h.size) hB).trans (h.block k hk hB),h.old,h'.cell,h'.free⟩
theorem Acc.refl {w:World} {B:Nat} {v:Value} (hc:w.cell? ⟨B,0,none⟩=some v) (hf:w.frozen? ⟨B,0,none⟩=false):Acc w w B v:=by
 refine ⟨rfl,rfl,rfl,Nat.le_refl _,fun _ _ _=>rfl,?_,hc,hf⟩;by_cases hh:B<w.heap.size
 ·exact hh
 ·simp [World.cell?,Array.getElem?_eq_none (show w.heap.size≤B by omega)] at hc
theorem Acc.set {w0 w:World} {B:Nat} {v:Value} (h:Acc w0 w B v) (u:Value):Acc w0 (w.setCell ⟨B,0,none⟩ u) B u:=by
 refine ⟨h.os,h.tape,h.output,by simp [World.setCell];exact h.size,fun k hk hB=>?_,h.old,?_,?_⟩
 ·simp only [World.setCell,Array.getElem?_modify];rw [if_neg (fun e=>hB e.symm)];exact h.block k hk hB
 ·apply World.cell?_setCell_same;exact h.cell
 ·rw [World.frozen?_setCell];exact h.free
theorem Acc.drewN {w0 w:World} {B:Nat} {v:Value} (h:Acc w0 w B v) (n:Nat):Acc w0 (w.drewN n) B v:=⟨h.os,h.tape,h.output,h.size,h.block,h.old,h.cell,h.free⟩
def Trio (w:World) (G:Nat) (y0 y1 y2:Value):Prop:=w.heap[G]?=some (.cells #[y0,y1,y2] 131 (0,0))
theorem Trio.c0 {w:World} {G:Nat} {y0 y1 y2:Value} (h:Trio w G y0 y1 y2):w.cell? ⟨G,0,none⟩=some y0:=by unfold Trio at h;simp [World.cell?,h]
theorem Trio.c1 {w:World} {G:Nat} {y0 y1 y2:Value} (h:Trio w G y0 y1 y2):w.cell? ⟨G,1,none⟩=some y1:=by unfold Trio at h;simp [World.cell?,h]
theorem Trio.c2 {w:World} {G:Nat} {y0 y1 y2:Value} (h:Trio w G y0 y1 y2):w.cell? ⟨G,2,none⟩=some y2:=by unfold Trio at h;simp [World.cell?,h]
theorem Trio.free {w:World} {G:Nat} {y0 y1 y2:Value} (h:Trio w G y0 y1 y2) (i:Nat):w.frozen? ⟨G,i,none⟩=false:=by unfold Trio at h;simp [World.frozen?,h]
theorem Trio.acc {w w':World} {G B:Nat} {y0 y1 y2 v:Value} (h:Trio w G y0 y1 y2) (ha:Acc w w' B v) (hG:G≠B):Trio w' G y0 y1 y2:=by
 have hlt:G<w.heap.size:=by
  by_cases hh:G<w.heap.size
  ·exact hh
  ·unfold Trio at h;rw [Array.getElem?_eq_none (by omega)] at h;cases h
 unfold Trio at *;rw [ha.block G hlt hG];exact h
theorem Trio.set0 {w:World} {G:Nat} {y0 y1 y2:Value} (h:Trio w G y0 y1 y2) (u:Value):Trio (w.setCell ⟨G,0,none⟩ u) G u y1 y2:=by
 unfold Trio at *;simp [World.setCell,Array.getElem?_modify,h]
theorem Trio.set1 {w:World} {G:Nat} {y0 y1 y2:Value} (h:Trio w G y0 y1 y2) (u:Value):Trio (w.setCell ⟨G,1,none⟩ u) G y0 u y2:=by
 unfold Trio at *;simp [World.setCell,Array.getElem?_modify,h]
theorem Trio.set2 {w:World} {G:Nat} {y0 y1 y2:Value} (h:Trio w G y0 y1 y2) (u:Value):Trio (w.setCell ⟨G,2,none⟩ u) G y0 y1 u:=by
 unfold Trio at *;simp [World.setCell,Array.getElem?_modify,h]
theorem Trio.other {w:World} {G G':Nat} {y0 y1 y2:Value} (h:Trio w G y0 y1 y2) (i:Nat) (u:Value) (hne:G'≠G):Trio (w.setCell ⟨G',i,none⟩ u) G y0 y1 y2:=by
 unfold Trio at *;simp only [World.setCell,Array.getElem?_modify];rw [if_neg hne];exact h
theorem Acc.setNew {w0 w:World} {B:Nat} {v:Value} (h:Acc w0 w B v) (G i:Nat) (u:Value) (hG:w0.heap.size≤G):Acc w0 (w.setCell ⟨G,i,none⟩ u) B v:=by
 have hne:G≠B:=by have:=h.old;omega
 refine ⟨h.os,h.tape,h.output,by simp [World.setCell];exact h.size,fun k hk hB=>?_,h.old,?_,?_⟩
 ·simp only [World.setCell,Array.getElem?_modify];rw [if_neg (by omega)];exact h.block k hk hB
 ·rw [World.cell?_setCell_other]
  ·exact h.cell
  ·intro e;exact hne (congrArg Addr.block e)
 ·rw [World.frozen?_setCell];exact h.free
theorem Acc.alloc {w0 w:World} {B:Nat} {v:Value} (h:Acc w0 w B v) (o:Obj):Acc w0 (w.alloc o) B v:=by
 have hlt:∀ k,k<w.heap.size→(w.alloc o).heap[k]?=w.heap[k]?:=fun k hk=>by
  show (w.heap.push o)[k]?=_;rw [Array.getElem?_push,if_neg (by omega)]
 have hB:=Nat.lt_of_lt_of_le h.old h.size;refine ⟨h.os,h.tape,h.output,?_,fun k hk hB=>?_,h.old,?_,?_⟩
 ·show _≤(w.heap.push o).size;have:=h.size;simp;omega
 ·rw [hlt k (Nat.lt_of_lt_of_le hk h.size)];exact h.block k hk hB
 ·rw [← h.cell];exact World.cell?_of_block (w:=w) (a:=⟨B,0,none⟩) (hlt B hB)
 ·have:((w.alloc o).frozen? ⟨B,0,none⟩)=w.frozen? ⟨B,0,none⟩:=by simp only [World.frozen?,hlt B hB]
  rw [this];exact h.free
theorem trio_a (w:World) (x y z:Value) (o:Obj):Trio ((w.alloc (.cells #[x,y,z] 131)).alloc o) w.heap.size x y z:=by
 show ((w.heap.push _).push o)[w.heap.size]?=_;rw [Array.getElem?_push,if_neg (by simp),Array.getElem?_push_size]
theorem trio_b (w:World) (o:Obj) (x y z:Value):Trio ((w.alloc o).alloc (.cells #[x,y,z] 131)) (w.heap.size+1) x y z:=by
 show ((w.heap.push o).push _)[w.heap.size+1]?=_;have:w.heap.size+1=(w.heap.push o).size:=by simp
 rw [this,Array.getElem?_push_size]
theorem upward_any (K:Nat) (caps:Array Value) (B:Nat) (v0 v1 v2 v3:Value) (x0 x1 x2 y0 y1 y2:Int) (w:World) (h:Acc w w B v0) (hK:∀ args w,(callFunc K args).run Tryz.prog w = .ok (.enter K args) w)
  (s0:∀ w',Acc w w' B v0→Calls Tryz.prog K (#[.int .u32 x0]++caps) w' fun e w''=>e = .returned (.int .u32 y0)∧Acc w' w'' B v1)
  (s1:∀ w',Acc w w' B v1→Calls Tryz.prog K (#[.int .u32 x1]++caps) w' fun e w''=>e = .returned (.int .u32 y1)∧Acc w' w'' B v2)
  (s2:∀ w',Acc w w' B v2→Calls Tryz.prog K (#[.int .u32 x2]++caps) w' fun e w''=>e = .returned (.int .u32 y2)∧Acc w' w'' B v3) :
  Calls Tryz.prog 129 #[.agg #[.int .u32 x0,.int .u32 x1,.int .u32 x2],.func (.func K) #[] caps] w fun e w'=>e = .returned (.agg #[.int .u32 y0,.int .u32 y1,.int .u32 y2])∧Acc w w' B v3:=by
 have HS0:Hid (∀ w',Acc w w' B v0→Calls Tryz.prog K (#[.int .u32 x0]++caps) w' fun e w''=>e = .returned (.int .u32 y0)∧Acc w' w'' B v1):=s0;have HS1:Hid (∀ w',Acc w w' B v1→Calls Tryz.prog K (#[.int .u32 x1]++caps) w' fun e w''=>e = .returned (.int .u32 y1)∧Acc w' w'' B v2):=s1;have HS2:Hid (∀ w',Acc w w' B v2→Calls Tryz.prog K (#[.int .u32 x2]++caps) w' fun e w''=>e = .returned (.int .u32 y2)∧Acc w' w'' B v3):=s2;have HA:Hid (Acc w w B v0):=h;clear s0 s1 s2 h;go_enter Tryz.func129,Tryz.ntmps129;go_wp2_with fail;refine wp_loop_rounds 4 ?_;rw [rounds_succ];go_wp2_with fail;refine (HS0.o _ ((HA.o.alloc _).alloc _)).mono ?_;rintro e w1 ⟨rfl,h1⟩;have hB:=HA.o.old;have T1:Trio w1 w.heap.size (.int .u32 x0) (.int .u32 x1) (.int .u32 x2):=(trio_a _ _ _ _ _).acc h1 (by omega);have R1:Trio w1 (w.heap.size+1) (.int .u32 0) (.int .u32 0) (.int .u32 0):=(trio_b _ _ _ _ _).acc h1 (by omega);have A1:=((HA.o.alloc _).alloc _).trans h1;have c0:=T1.c0;have f0:=T1.free 0;have T1':=T1.set0 (.int .u32 y0);have d1:=T1'.c1;have HT:Hid (Trio (w1.setCell ⟨w.heap.size,0,none⟩ (.int .u32 y0)) w.heap.size (.int .u32 y0) (.int .u32 x1) (.int .u32 x2)):=T1';have HR:Hid (Trio (w1.setCell ⟨w.heap.size,0,none⟩ (.int .u32 y0)) (w.heap.size+1) (.int .u32 0) (.int .u32 0) (.int .u32 0)):=R1.other _ _ (by omega);have HA1:Hid (Acc w (w1.setCell ⟨w.heap.size,0,none⟩ (.int .u32 y0)) B v1):=A1.setNew _ _ _ (Nat.le_refl _);clear h1 T1 R1 A1 T1' HA HS0;go_wp2_with fail;rw [rounds_succ];go_wp2_with fail;refine (HS1.o _ HA1.o).mono ?_;rintro e w2 ⟨rfl,h2⟩;have T2:=HT.o.acc h2 (by omega);have R2:=HR.o.acc h2 (by omega);have A2:=HA1.o.trans h2;clear c0 f0 d1 HT HR HA1 HS1 h2;have c1:=T2.c1;have f1:=T2.free 1;have T2':=T2.set1 (.int .u32 y1);have d2:=T2'.c2;have HT:Hid (Trio (w2.setCell ⟨w.heap.size,1,none⟩ (.int .u32 y1)) w.heap.size (.int .u32 y0) (.int .u32 y1) (.int .u32 x2)):=T2';have HR:Hid (Trio (w2.setCell ⟨w.heap.size,1,none⟩ (.int .u32 y1)) (w.heap.size+1) (.int .u32 0) (.int .u32 0) (.int .u32 0)):=R2.other _ _ (by omega)
 have HA2:Hid (Acc w (w2.setCell ⟨w.heap.size,1,none⟩ (.int .u32 y1)) B v2):=A2.setNew _ _ _ (Nat.le_refl _);clear T2 R2 A2 T2';go_wp2_with fail;rw [rounds_succ];go_wp2_with fail;refine (HS2.o _ HA2.o).mono ?_;rintro e w3 ⟨rfl,h3⟩;have T3:=HT.o.acc h3 (by omega);have R3:=HR.o.acc h3 (by omega);have A3:=HA2.o.trans h3;clear c1 f1 d2 HT HR HA2 HS2 h3;have c2:=T3.c2;have f2:=T3.free 2;have T3':=T3.set2 (.int .u32 y2);have R3':=R3.other (G':=w.heap.size) 2 (.int .u32 y2) (by omega);have e0:=T3'.c0;have e1:=T3'.c1;have e2:=T3'.c2;have r0:=R3'.c0;have r1:=R3'.c1;have r2:=R3'.c2;have g0:=R3'.free 0;have g1:=R3'.free 1;have g2:=R3'.free 2;have HR3:Hid (Trio (w3.setCell ⟨w.heap.size,2,none⟩ (.int .u32 y2)) (w.heap.size+1) (.int .u32 0) (.int .u32 0) (.int .u32 0)):=R3';have HA3:Hid (Acc w (w3.setCell ⟨w.heap.size,2,none⟩ (.int .u32 y2)) B v3):=A3.setNew _ _ _ (Nat.le_refl _);clear T3 R3 A3 T3' R3';go_wp2_with fail;rw [rounds_succ];go_wp2_with fail;have RR:=((HR3.o.set0 (.int .u32 y0)).set1 (.int .u32 y1)).set2 (.int .u32 y2);have AA:=((HA3.o.setNew (w.heap.size+1) 0 (.int .u32 y0) (by omega)).setNew (w.heap.size+1) 1 (.int .u32 y1) (by omega)).setNew (w.heap.size+1) 2 (.int .u32 y2) (by omega);refine bodyPost_ret (v:= .agg #[.int .u32 y0,.int .u32 y1,.int .u32 y2]) (by simp [results,Tryz.results129,RR.c0,RR.c1,RR.c2,go_sem]) rfl ⟨rfl,AA⟩
theorem below_set {B:Nat} {w w':World} (h:Below B w w') (G i:Nat) (u:Value) (hG:B≤G):Below B w (w'.setCell ⟨G,i,none⟩ u):=by
 refine ⟨h.os,h.tape,h.output,by simp [World.setCell];exact h.size,fun k hk=>?_⟩;rw [← h.block k hk];simp only [World.setCell,Array.getElem?_modify];rw [if_neg (by omega)]
theorem Acc.below {w0 w1 w:World} {B:Nat} {v:Value} (hb:Below w0.heap.size w0 w1) (h:Acc w1 w B v) (hB:w0.heap.size≤B):Below w0.heap.size w0 w:=
 hb.trans ⟨h.os,h.tape,h.output,h.size,fun k hk=>h.block k (Nat.lt_of_lt_of_le hk hb.size) (by omega)⟩
theorem Trio.alloc {w:World} {G:Nat} {y0 y1 y2:Value} (h:Trio w G y0 y1 y2) (o:Obj):Trio (w.alloc o) G y0 y1 y2:=by
 have hlt:G<w.heap.size:=by
  by_cases hh:G<w.heap.size
  ·exact hh
  ·unfold Trio at h;rw [Array.getElem?_eq_none (by omega)] at h;cases h
 unfold Trio at *;show (w.heap.push o)[G]?=_;rw [Array.getElem?_push,if_neg (by omega)];exact h
theorem below_put {B:Nat} {w w':World} (h:Below B w w') (G i j k:Nat) (u v x:Value) (hG:B≤G):Below B w (((w'.setCell ⟨G,i,none⟩ u).setCell ⟨G,j,none⟩ v).setCell ⟨G,k,none⟩ x).drew:=
 (below_set (below_set (below_set h G i u hG) G j v hG) G k x hG).drew
theorem bel2 (w:World) (o1 o2:Obj):Below w.heap.size w ((w.alloc o1).alloc o2):=((Below.refl _ _).alloc (Nat.le_refl _) o1).alloc (by simp) o2
theorem bel3 (w:World) (o1 o2 o3:Obj):Below w.heap.size w (((w.alloc o1).alloc o2).alloc o3):=(bel2 w o1 o2).alloc (by simp;omega) _
theorem Acc.keep {w0 w:World} {B M:Nat} {v u:Value} (h:Acc w0 w B v) (hc:w0.cell? ⟨M,0,none⟩=some u) (hM:M≠B):w.cell? ⟨M,0,none⟩=some u:=by
 have hlt:M<w0.heap.size:=by
  by_cases hh:M<w0.heap.size
  ·exact hh
  ·simp [World.cell?,Array.getElem?_eq_none (show w0.heap.size≤M by omega)] at hc
 rw [← hc];exact World.cell?_of_block (w:=w0) (a:=⟨M,0,none⟩) (h.block M hlt hM)
theorem bel4 (w:World) (o1 o2 o3 o4:Obj):Below w.heap.size w ((((w.alloc o1).alloc o2).alloc o3).alloc o4):=(bel3 w o1 o2 o3).alloc (by simp;omega) _
theorem trio_d (w:World) (cs:Array Value) (m:Value) (T:TypeId) (x y z u:Value) (U:TypeId) :
  (((((w.alloc (.cells cs 131)).alloc (.cells #[m] T)).alloc (.cells #[x,y,z] 131)).alloc (.cells #[u] U)).cell? ⟨w.heap.size+1+1+1,0,none⟩=some u) ∧
  (((((w.alloc (.cells cs 131)).alloc (.cells #[m] T)).alloc (.cells #[x,y,z] 131)).alloc (.cells #[u] U)).frozen? ⟨w.heap.size+1+1+1,0,none⟩=false) ∧
  Trio ((((w.alloc (.cells cs 131)).alloc (.cells #[m] T)).alloc (.cells #[x,y,z] 131)).alloc (.cells #[u] U)) (w.heap.size+1+1) x y z ∧
  ((((w.alloc (.cells cs 131)).alloc (.cells #[m] T)).alloc (.cells #[x,y,z] 131)).alloc (.cells #[u] U)).cell? ⟨w.heap.size+1,0,none⟩=some m:=by
 have s1:w.heap.size+1=(w.heap.push (.cells cs 131)).size:=by simp
 have s2:w.heap.size+1+1=((w.heap.push (.cells cs 131)).push (.cells #[m] T)).size:=by simp
 have s3:w.heap.size+1+1+1=(((w.heap.push (.cells cs 131)).push (.cells #[m] T)).push (.cells #[x,y,z] 131)).size:=by simp
 have e:((((w.heap.push (.cells cs 131)).push (.cells #[m] T)).push (.cells #[x,y,z] 131)).push (.cells #[u] U))[w.heap.size+1+1+1]?=some (.cells #[u] U):=by
  rw [s3,Array.getElem?_push_size]
 have em:((((w.heap.push (.cells cs 131)).push (.cells #[m] T)).push (.cells #[x,y,z] 131)).push (.cells #[u] U))[w.heap.size+1]?=some (.cells #[m] T):=by
  rw [Array.getElem?_push,if_neg (by simp),Array.getElem?_push,if_neg (by simp),s1,Array.getElem?_push_size]
 refine ⟨?_,?_,?_,?_⟩
 ·simp only [World.cell?,World.alloc,e];rfl
 ·simp only [World.frozen?,World.alloc,e];rfl
 ·show ((((w.heap.push _).push _).push _).push _)[w.heap.size+1+1]?=_;rw [Array.getElem?_push,if_neg (by simp),s2,Array.getElem?_push_size]
 ·simp only [World.cell?,World.alloc,em];rfl
end words
namespace disk
open cell
theorem it_short (c:List Int) (k:Nat):∀ z∈(itD c k).1,z.length≤64:=by
 induction k with
 | zero=>intro z hz;cases hz
 | succ k ih=>
  intro z hz;by_cases h:0<lenAt c (itD c k).2
  ·rw [it_live h] at hz;rcases List.mem_append.1 hz with hz | hz
   ·exact ih z hz
   ·obtain rfl:=List.mem_singleton.1 hz;obtain ⟨_,_,p1,_⟩:=len_pos h;unfold recAt;rw [List.length_take];omega
  ·rw [it_dead h 1] at hz;exact ih z hz
theorem it_count (c:List Int) (k:Nat):(itD c k).1.length≤(itD c k).2:=by
 induction k with
 | zero=>exact Nat.le_refl _
 | succ k ih=>
  by_cases h:0<lenAt c (itD c k).2
  ·rw [it_live h];show ((itD c k).1++[_]).length≤(itD c k).2+_+1;rw [List.length_append];simp only [List.length_cons,List.length_nil];omega
  ·rw [it_dead h 1];exact ih
theorem rep_few {c:List Int} {o:List (List Int)} {x f:Int} (h:RepIs c o x f):o.length≤2048∧∀ z∈o,z.length≤64:=by
 rcases h with ⟨_,rfl,_⟩ | ⟨_,_,rfl,_⟩ | ⟨hm,_,rfl,_⟩
 ·exact ⟨Nat.zero_le _,fun z hz=>by cases hz⟩
 ·exact ⟨Nat.zero_le _,fun z hz=>by cases hz⟩
 ·exact ⟨Nat.le_trans (it_count c _) (Nat.le_trans (it_bound c _).1 hm.2),it_short c _⟩
theorem app_few {c r:List Int} {l:List Wr} {f:Int} (h:AppIs c r l f):l.length≤66:=by
 rcases h with ⟨_,rfl,_⟩ | ⟨_,_,rfl,_⟩ | ⟨_,_,_,rfl,_⟩ | ⟨_,_,_,_,rfl,_⟩ | ⟨hr,_,_,_,rfl,_⟩
 ·exact Nat.zero_le _
 ·exact Nat.zero_le _
 ·exact Nat.zero_le _
 ·exact Nat.zero_le _
 ·rw [app_len];have:=hr.2;split <;> omega
end disk
namespace bki
open Go.RowKit
def Row (w:World) (a:Option Addr) (len:Nat) (zs:List Int):Prop:=
 zs.length=len∧(len=0∨∃ b off,a=some ⟨b,off,none⟩∧∀ i,i<len→w.cell? ⟨b,off+i,none⟩=some (zI (zs.getD i 0)))
def okAll (lo hi:Int) (l:List Int):Bool:=l.all fun n=>decide (lo≤n) && decide (n≤hi)
theorem okAll_step (lo hi:Int) (zs:List Int) (k:Nat) (hk:k<zs.length) (h:okAll lo hi (zs.take k)=true) (h1:lo≤zs.getD k 0) (h2:zs.getD k 0≤hi):okAll lo hi (zs.take (k+1))=true:=by
 unfold okAll at *;rw [List.take_add_one,List.all_append,h];simp only [List.getD,List.getElem?_eq_getElem hk,Option.getD] at h1 h2 ⊢;simp [h1,h2]
theorem okAll_no (lo hi:Int) (zs:List Int) (k:Nat) (hk:k<zs.length) (h:zs.getD k 0<lo∨hi<zs.getD k 0):okAll lo hi zs=false:=by
 unfold okAll;rw [List.all_eq_false];refine ⟨zs[k],List.getElem_mem hk,?_⟩;simp only [List.getD,List.getElem?_eq_getElem hk,Option.getD] at h;simp;omega
theorem ret_bool {a b:Bool} (h:a=b):Ending.returned (.bool a) = .returned (.bool b):=by rw [h]
theorem within_any (lo hi:Int) (a:Option Addr) (len cap:Nat) (zs:List Int) (w:World) (hr:Row w a len zs) (hl:len≤maxLen) :
  Calls Tryz.prog 109 #[zI lo,zI hi,.slice a len cap] w fun e w'=>e = .returned (.bool (okAll lo hi zs))∧w'=w:=by
 unfold maxLen at hl;obtain ⟨hz,hr⟩:=hr;go_enter Tryz.func109,Tryz.ntmps109;go_wp2;go_loop [11] (fun i=>∃ k:Nat,k≤len∧i=zI k∧okAll lo hi (zs.take k)=true) (fun i=>len - (intOf i).toNat)
 case atStart=>exact ⟨0,Nat.zero_le _,rfl,rfl⟩
 case round=>
  obtain ⟨k,hk,rfl,hok⟩:=hrel;have HK:Hid (okAll lo hi (zs.take k)=true):=hok;clear hok;by_cases hlt:k<len
  ·rcases hr with h0 | ⟨b,off,rfl,hc⟩
   ·omega
   have hcell:=hc k hlt;clear hc;generalize hzk:zs.getD k 0=z at hcell;have HZ:Hid (zs.getD k 0=z):=hzk;clear hzk;by_cases h1:z<lo
   ·go_wp2;go_ret;exact ⟨ret_bool (okAll_no lo hi zs k (by omega) (.inl (by rw [HZ.o];exact h1))).symm,rfl⟩
   ·by_cases h2:hi<z
    ·go_wp2;go_ret;exact ⟨ret_bool (okAll_no lo hi zs k (by omega) (.inr (by rw [HZ.o];exact h2))).symm,rfl⟩
    ·go_wp2;go_round
     case rel=>exact ⟨k+1,by omega,by go_num,okAll_step lo hi zs k (by omega) HK.o (by rw [HZ.o];omega) (by rw [HZ.o];omega)⟩
     case measure=>simp [intOf];omega
  ·go_wp2;go_ret;refine ⟨ret_bool ?_,rfl⟩;have:=HK.o;rw [List.take_of_length_le (by omega)] at this;exact this.symm
theorem row_one (w:World) (z:Int) (t:TypeId):Row (w.alloc (.cells #[zI z] t)) (some ⟨w.heap.size,0,none⟩) 1 [z]:=by
 refine ⟨rfl,.inr ⟨_,_,rfl,fun i hi=>?_⟩⟩;obtain rfl:i=0:=by omega
 simp
theorem bel1 (w:World) (o:Obj):Below w.heap.size w (w.alloc o):=(Below.refl _ _).alloc (Nat.le_refl _) _
theorem bel2 (w:World) (o o':Obj):Below w.heap.size w ((w.alloc o).alloc o'):=(bel1 w o).alloc (by simp) _
theorem within_one (lo hi z:Int) (w:World) (b:Nat) (hb:b=w.heap.size) :
  Calls Tryz.prog 109 #[zI lo,zI hi,.slice (some ⟨b,0,none⟩) 1 1] (w.alloc (.cells #[zI z] 3)) fun e w'=>e = .returned (.bool (decide (lo≤z∧z≤hi)))∧w'=w.alloc (.cells #[zI z] 3):=by
 have h:=within_any lo hi _ 1 1 [z] _ (row_one w z 3) (by decide);have e:okAll lo hi [z]=decide (lo≤z∧z≤hi):=by simp [okAll]
 rw [e] at h;rw [hb];exact h
theorem row_four (w:World) (a b c d:Int) (t:TypeId):Row (w.alloc (.cells #[zI a,zI b,zI c,zI d] t)) (some ⟨w.heap.size,0,none⟩) 4 [a,b,c,d]:=by
 refine ⟨rfl,.inr ⟨_,_,rfl,fun i hi=>?_⟩⟩
 match i,hi with
 | 0,_=>simp
 | 1,_=>simp
 | 2,_=>simp
 | 3,_=>simp
end bki
end Go.Proofs.YtnpblpbohcegoaaGreatDoor
