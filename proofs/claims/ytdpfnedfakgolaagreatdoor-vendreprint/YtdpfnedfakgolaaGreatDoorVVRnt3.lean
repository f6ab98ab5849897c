import Derived.Test.YtdpfnedfakgolaaGreatDoorVVRnt1
set_option linter.unusedVariables false
set_option linter.unusedSimpArgs false
set_option maxHeartbeats 4000000
set_option maxRecDepth 100000
namespace Go.Proofs.YtdpfnedfakgolaaGreatDoor
namespace book
open Go.RowKit
structure Ev where
 kd:Int
 me:Int
 mo:Int
 id:Int
 te:Int
 de:Int
 fe:Int
 pr:Int
 ch:Int
 un:Int
 tg:Int
 ow:Int
 bp:Int
def ev0:Ev:=⟨0,0,0,0,0,0,0,0,0,0,0,0,0⟩
def EMay (v:Ev):Prop:=(0≤v.me∧v.me≤49)∧((v.kd=1∧v.mo=0∧v.id=0∧v.te=0∧v.de=0∧v.fe=0∧v.pr=0∧v.ch=0∧v.un=0∧v.tg=0∧v.ow=0∧v.bp=0)∨(v.kd=5∧v.mo=0∧v.id=0∧v.te=0∧v.de=0∧v.fe=0∧v.pr=0∧v.ch=0∧v.un=0∧v.tg=0∧(1≤v.ow∧v.ow≤1000000000)∧0≤v.bp∧v.bp≤10000) ∨
 ((2≤v.kd∧v.kd≤4)∧(1≤v.id∧v.id≤1048575)∧(0≤v.tg∧v.tg≤65535)∧(v.ow=0∧v.bp=0)∧((v.kd=4∧v.mo=0∧v.te=0∧v.de=0∧v.fe=0∧v.pr=0∧v.ch=0∧v.un=0)∨(v.kd≠4∧(0≤v.mo∧v.mo≤2399)∧(1≤v.un∧v.un≤2097151) ∧
   ((v.kd=3∧v.te=0∧v.de=0∧v.fe=0∧v.pr=0∧v.ch=0)∨(v.kd≠3∧(1≤v.te∧v.te≤100000000)∧(0≤v.de∧v.de≤v.te)∧(0≤v.fe∧v.fe≤v.te)∧(0≤v.pr∧v.pr≤v.te)∧(0≤v.ch∧v.ch≤v.te)∧v.de+v.fe+v.pr+v.ch=v.te))))))
def evL (v:Ev):List Int:=[v.kd,v.me,v.mo,v.id,v.te,v.de,v.fe,v.pr,v.ch,v.un,v.tg,v.ow,v.bp]
theorem evL_len (v:Ev):(evL v).length=13:=rfl
theorem may_word {v:Ev} (h:EMay v):∀ x∈evL v,0≤x∧x<4294967296:=by
 intro x hx;unfold EMay at h;simp only [evL,List.mem_cons,List.not_mem_nil,or_false] at hx;rcases hx with rfl | rfl | rfl | rfl | rfl | rfl | rfl | rfl | rfl | rfl | rfl | rfl | rfl <;> omega
def evOf (l:List Int):Ev:=⟨l.getD 0 0,l.getD 1 0,l.getD 2 0,l.getD 3 0,l.getD 4 0,l.getD 5 0,l.getD 6 0,l.getD 7 0,l.getD 8 0,l.getD 9 0,l.getD 10 0,l.getD 11 0,l.getD 12 0⟩
theorem evOf_L (v:Ev):evOf (evL v)=v:=rfl
def EncIs (v:Ev) (ws:List Int) (e:Int):Prop:=(EMay v∧ws=evL v∧e=0)∨(¬ EMay v∧ws=[]∧e=5)
theorem EncIs.one {v:Ev} {a b:List Int} {e f:Int} (h:EncIs v a e) (h':EncIs v b f):a=b∧e=f:=by
 rcases h with ⟨q,rfl,rfl⟩ | ⟨q,rfl,rfl⟩ <;> rcases h' with ⟨q',rfl,rfl⟩ | ⟨q',rfl,rfl⟩ <;> first | exact ⟨rfl,rfl⟩ | contradiction
def DecIs (l:List Int) (v:Ev) (e:Int):Prop:=(l.length≠13∧v=ev0∧e=1)∨(l.length=13∧¬ EMay (evOf l)∧v=ev0∧e=5)∨(l.length=13∧EMay (evOf l)∧v=evOf l∧e=0)
theorem DecIs.one {l:List Int} {a b:Ev} {e f:Int} (h:DecIs l a e) (h':DecIs l b f):a=b∧e=f:=by
 rcases h with ⟨q,rfl,rfl⟩ | ⟨q,r,rfl,rfl⟩ | ⟨q,r,rfl,rfl⟩ <;> rcases h' with ⟨q',rfl,rfl⟩ | ⟨q',r',rfl,rfl⟩ | ⟨q',r',rfl,rfl⟩ <;> first | exact ⟨rfl,rfl⟩ | contradiction
end book
namespace deb
open tar
def Ok1 (d:Du):Prop:=(0≤d.a∧d.a≤1000000000)∧0≤d.b∧d.b≤10000
def DFits (l:List Du):Prop:=∀ i,i<l.length→Ok1 (l.getD i du0)
def Mays (l:List Du):Prop:=l.length≤8∧DFits l
def FaultIs (l:List Du) (e:Int):Prop:=(¬ l.length≤8∧e=1)∨(l.length≤8∧¬ DFits l∧e=2)∨(Mays l∧e=0)
theorem FaultIs.ok {l:List Du} {e:Int} (h:FaultIs l e):e=0↔Mays l:=by
 rcases h with ⟨a,rfl⟩ | ⟨a,b,rfl⟩ | ⟨h,rfl⟩
 ·exact ⟨fun h=>absurd h (by decide),fun h=>absurd h.1 a⟩
 ·exact ⟨fun h=>absurd h (by decide),fun h=>absurd h.2 b⟩
 ·exact ⟨fun _=>h,fun _=>rfl⟩
theorem fits_mem {l:List Du} (h:∀ d∈l,Ok1 d):DFits l:=fun i hi=>by
 have e:l.getD i du0=l[i]:=by simp [List.getD,List.getElem?_eq_getElem hi]
 rw [e];exact h _ (List.getElem_mem hi)
theorem mem_fits {l:List Du} (h:DFits l):∀ d∈l,Ok1 d:=fun d hd=>by
 obtain ⟨i,hi,rfl⟩:=List.getElem_of_mem hd;have e:l.getD i du0=l[i]:=by simp [List.getD,List.getElem?_eq_getElem hi]
 rw [← e];exact h i hi
def sumK (l:List Du):Nat→Int
 | 0=>0
 | k+1=>sumK l k+(l.getD k du0).a
theorem sumK_next (l:List Du) (k:Nat):sumK l (k+1)=sumK l k+(l.getD k du0).a:=rfl
def sumD:List Du→Int
 | []=>0
 | d :: l=>d.a+sumD l
theorem sumD_app (l m:List Du):sumD (l++m)=sumD l+sumD m:=by
 induction l with
 | nil=>simp [sumD]
 | cons t l ih=>simp only [List.cons_append,sumD,ih];omega
theorem sumK_take (l:List Du) (k:Nat) (hk:k≤l.length):sumK l k=sumD (l.take k):=by
 induction k with
 | zero=>simp [sumK,sumD]
 | succ k ih=>rw [sumK_next,take_one l k (by omega),sumD_app,ih (by omega)];simp [sumD]
theorem sumK_all (l:List Du):sumK l l.length=sumD l:=by rw [sumK_take l _ (Nat.le_refl _),List.take_length]
theorem sumD_pos {l:List Du} (h:∀ d∈l,Ok1 d):0≤sumD l∧sumD l≤(l.length:Int)*1000000000:=by
 induction l with
 | nil=>exact ⟨Int.le_refl _,Int.le_refl _⟩
 | cons t l ih=>
  have h1:=ih fun x hx=>h x (List.mem_cons_of_mem _ hx);have h2:=h t List.mem_cons_self;obtain ⟨⟨a1,a2⟩,_⟩:=h2;refine ⟨by show 0≤t.a+sumD l;omega,?_⟩;show t.a+sumD l≤((l.length+1:Nat):Int)*1000000000;omega
theorem sumK_bd {l:List Du} (h:Mays l) (k:Nat) (hk:k≤l.length):0≤sumK l k∧sumK l k≤8000000000:=by
 rw [sumK_take l k hk];have h1:=sumD_pos (l:=l.take k) fun d hd=>mem_fits h.2 d (List.mem_of_mem_take hd);have h2:(l.take k).length≤8:=by rw [List.length_take];have:=h.1;omega
 exact ⟨h1.1,by omega⟩
def OwedIs (l:List Du) (x e:Int):Prop:=FaultIs l e∧((e=0∧x=sumD l)∨(e≠0∧x=0))
def TMay (t bp:Int):Prop:=(0≤t∧t≤100000000)∧0≤bp∧bp≤10000
def ShareIs (t bp s e:Int):Prop:=(TMay t bp∧s=t*bp / 10000∧e=0)∨(¬ TMay t bp∧s=0∧e=2)
theorem share_bd {t bp:Int} (h:TMay t bp):0≤t*bp / 10000∧t*bp / 10000≤100000000:=by
 obtain ⟨⟨a1,a2⟩,b1,b2⟩:=h;have h1:=Int.mul_nonneg a1 b1;have h2:t*bp≤t*10000:=Int.mul_le_mul_of_nonneg_left b2 a1;generalize t*bp=p at *;omega
def left (a end_ s:Int):Int:=min a (end_ - s)
def recK (l:List Du) (s:Int):Nat→List Du
 | 0=>[]
 | k+1=>recK l s k++(if 0<left (l.getD k du0).a (sumK l (k+1)) s then [⟨left (l.getD k du0).a (sumK l (k+1)) s,(l.getD k du0).b⟩] else [])
theorem recK_yes (l:List Du) (s:Int) (k:Nat) (h:0<left (l.getD k du0).a (sumK l (k+1)) s):recK l s (k+1)=recK l s k++[⟨left (l.getD k du0).a (sumK l (k+1)) s,(l.getD k du0).b⟩]:=by
 show recK l s k++_=_;rw [if_pos h]
theorem recK_no (l:List Du) (s:Int) (k:Nat) (h:¬ 0<left (l.getD k du0).a (sumK l (k+1)) s):recK l s (k+1)=recK l s k:=by
 show recK l s k++_=_;rw [if_neg h,List.append_nil]
theorem recK_len (l:List Du) (s:Int) (k:Nat):(recK l s k).length≤k:=by
 induction k with
 | zero=>exact Nat.le_refl _
 | succ k ih=>
  by_cases h:0<left (l.getD k du0).a (sumK l (k+1)) s
  ·rw [recK_yes l s k h,List.length_append];simp;omega
  ·rw [recK_no l s k h];omega
theorem recK_ok {l:List Du} (h:Mays l) (s:Int) (k:Nat) (hk:k≤l.length):∀ d∈recK l s k,Ok1 d∧1≤d.a:=by
 induction k with
 | zero=>intro d hd;cases hd
 | succ k ih=>
  intro d hd;by_cases hp:0<left (l.getD k du0).a (sumK l (k+1)) s
  ·rw [recK_yes l s k hp] at hd;rcases List.mem_append.1 hd with hd | hd
   ·exact ih (by omega) d hd
   ·have e:=List.mem_singleton.1 hd;subst e;have h1:=h.2 k (by omega);have h2:left (l.getD k du0).a (sumK l (k+1)) s≤(l.getD k du0).a:=by unfold left;omega
    have h3:=h1.1.2;exact ⟨⟨⟨by show 0≤left _ _ _;omega,by show left _ _ _≤_;omega⟩,h1.2⟩,by show 1≤left _ _ _;omega⟩
  ·rw [recK_no l s k hp] at hd;exact ih (by omega) d hd
def RecIs (l:List Du) (t bp:Int) (z:List Du) (p e:Int):Prop:=
 (¬ Mays l∧FaultIs l e∧z=[]∧p=0)∨(Mays l∧¬ TMay t bp∧e=2∧z=[]∧p=0)∨(Mays l∧TMay t bp∧e=0∧z=recK l (t*bp / 10000) l.length∧p=min (t*bp / 10000) (sumD l))
theorem RecIs.got {l:List Du} {t bp p e:Int} {z:List Du} (h:RecIs l t bp z p e) (hm:Mays l) (ht:TMay t bp):e=0∧z=recK l (t*bp / 10000) l.length∧p=min (t*bp / 10000) (sumD l):=by
 rcases h with ⟨a,_⟩ | ⟨_,b,_⟩ | ⟨_,_,c⟩
 ·exact absurd hm a
 ·exact absurd ht b
 ·exact c
def grow (b x:Int):Int:=min 1000000000 (x+x*b / 10000)
def growN (b:Int):Nat→Int→Int
 | 0,x=>x
 | k+1,x=>grow b (growN b k x)
theorem grow_bd {b x:Int} (hb:0≤b) (hb2:b≤10000) (hx:0≤x) (hx2:x≤1000000000):x≤grow b x∧grow b x≤1000000000:=by
 have h1:=Int.mul_nonneg hx hb;unfold grow;generalize x*b=p at *;omega
theorem growN_bd {b x:Int} (hb:0≤b) (hb2:b≤10000) (hx:0≤x) (hx2:x≤1000000000) (k:Nat):x≤growN b k x∧growN b k x≤1000000000:=by
 induction k with
 | zero=>exact ⟨Int.le_refl _,hx2⟩
 | succ k ih=>
  have:=grow_bd hb hb2 (show 0≤growN b k x by omega) ih.2;exact ⟨by show x≤grow b _;omega,this.2⟩
theorem growN_add (b:Int) (j k:Nat) (x:Int):growN b k (growN b j x)=growN b (j+k) x:=by
 induction k with
 | zero=>rfl
 | succ k ih=>show grow b _=grow b _;rw [ih];rfl
theorem growN_still {b x:Int} (h:grow b x=x) (k:Nat):growN b k x=x:=by
 induction k with
 | zero=>rfl
 | succ k ih=>show grow b (growN b k x)=x;rw [ih,h]
def ageAll (l:List Du) (m:Nat):List Du:=l.map fun d=>⟨growN d.b m d.a,d.b⟩
theorem ageAll_len (l:List Du) (m:Nat):(ageAll l m).length=l.length:=List.length_map _
theorem ageAll_at (l:List Du) (m:Nat) (i:Nat) (hi:i<l.length):(ageAll l m).getD i du0=⟨growN (l.getD i du0).b m (l.getD i du0).a,(l.getD i du0).b⟩:=by
 unfold ageAll;simp [List.getD,List.getElem?_eq_getElem hi]
theorem ageAll_mays {l:List Du} (h:Mays l) (m:Nat):Mays (ageAll l m):=by
 refine ⟨by rw [ageAll_len];exact h.1,fun i hi=>?_⟩;rw [ageAll_len] at hi;rw [ageAll_at l m i hi];obtain ⟨⟨a1,a2⟩,b1,b2⟩:=h.2 i hi;have:=growN_bd b1 b2 a1 a2 m;exact ⟨⟨by show 0≤growN _ _ _;omega,this.2⟩,b1,b2⟩
theorem ageAll_take (l:List Du) (m k:Nat) (hk:k<l.length):ageAll (l.take (k+1)) m=ageAll (l.take k) m++[⟨growN (l.getD k du0).b m (l.getD k du0).a,(l.getD k du0).b⟩]:=by
 rw [take_one l k hk];unfold ageAll;rw [List.map_append];rfl
def AgeIs (l:List Du) (m:Int) (z:List Du) (e:Int):Prop:=(¬ Mays l∧FaultIs l e∧z=[])∨(Mays l∧¬ (0≤m∧m≤2400)∧e=2∧z=[])∨(Mays l∧(0≤m∧m≤2400)∧e=0∧z=ageAll l m.toNat)
theorem AgeIs.got {l:List Du} {m e:Int} {z:List Du} (h:AgeIs l m z e) (hm:Mays l) (ht:0≤m∧m≤2400):e=0∧z=ageAll l m.toNat:=by
 rcases h with ⟨a,_⟩ | ⟨_,b,_⟩ | ⟨_,_,c⟩
 ·exact absurd hm a
 ·exact absurd ht b
 ·exact c
end deb
namespace tar
open Go.RowKit
def RowD (w:World) (a:Option Addr) (len:Nat) (ls:List Du):Prop:=
 ls.length=len∧(len=0∨∃ b off,a=some ⟨b,off,none⟩∧∀ i,i<len→w.cell? ⟨b,off+i*2,none⟩=some (zI (ls.getD i du0).a)∧w.cell? ⟨b,off+i*2+1,none⟩=some (zI (ls.getD i du0).b))
theorem RowD.below {w w':World} {a:Option Addr} {n:Nat} {zs:List Du} (h:RowD w a n zs) (hb:Below w.heap.size w w'):RowD w' a n zs:=by
 refine ⟨h.1,?_⟩;rcases h.2 with h0 | ⟨b,off,rfl,hc⟩
 ·exact .inl h0
 ·refine .inr ⟨b,off,rfl,fun i hi=>?_⟩;have h1:=hc i hi;rw [hb.cell (p:=⟨b,off+i*2,none⟩) (World.block_lt_of_cell? w _ h1.1),hb.cell (p:=⟨b,off+i*2+1,none⟩) (World.block_lt_of_cell? w _ h1.2)];exact h1
theorem RowD.nil (w:World) (a:Option Addr):RowD w a 0 []:=⟨rfl,.inl rfl⟩
theorem RowD.at {w:World} {a:Option Addr} {n:Nat} {zs:List Du} (h:RowD w a n zs) (h0:0<n):∃ b off,a=some ⟨b,off,none⟩∧b<w.heap.size∧∀ i,i<n→w.cell? ⟨b,off+i*2,none⟩=some (zI (zs.getD i du0).a)∧w.cell? ⟨b,off+i*2+1,none⟩=some (zI (zs.getD i du0).b):=by
 rcases h.2 with h1 | ⟨b,off,rfl,hc⟩
 ·omega
 ·exact ⟨b,off,rfl,World.block_lt_of_cell? w _ (hc 0 h0).1,hc⟩
theorem rowD_of {w:World} {a:Addr} {m len:Nat} (hl:len≤m)
  (h:∀ j,j<m→∃ z0 z1,w.cell? (a.add (j*2))=some (zI z0)∧w.cell? (a.add (j*2+1))=some (zI z1)∧(Lit.int .i64 z0).wf=true∧(Lit.int .i64 z1).wf=true) :
  ∃ zs:List Du,RowD w (some a) len zs∧∀ x∈zs,(Lit.int .i64 x.a).wf=true∧(Lit.int .i64 x.b).wf=true:=by
 have h':∀ j,∃ e:Du,j<m→w.cell? (a.add (j*2))=some (zI e.a)∧w.cell? (a.add (j*2+1))=some (zI e.b)∧(Lit.int .i64 e.a).wf=true∧(Lit.int .i64 e.b).wf=true:=fun j=>by
  by_cases hj:j<m
  ·obtain ⟨z0,z1,hz⟩:=h j hj;exact ⟨⟨z0,z1⟩,fun _=>hz⟩
  ·exact ⟨du0,fun hh=>absurd hh hj⟩
 obtain ⟨f,hf⟩:∃ f:Nat→Du,∀ j,j<m→w.cell? (a.add (j*2))=some (zI (f j).a)∧w.cell? (a.add (j*2+1))=some (zI (f j).b)∧(Lit.int .i64 (f j).a).wf=true∧(Lit.int .i64 (f j).b).wf=true:=⟨fun j=>Classical.choose (h' j),fun j hj=>Classical.choose_spec (h' j) hj⟩
 clear h' h;refine ⟨(List.range len).map f,⟨by simp,?_⟩,fun x hx=>?_⟩
 ·by_cases h0:len=0
  ·exact .inl h0
  ·obtain ⟨b,off,spot⟩:=a;have hs:spot=none:=by simpa [Addr.add] using World.cell?_spot (hf 0 (by omega)).1
   subst hs;refine .inr ⟨b,off,rfl,fun i hi=>?_⟩;have h1:=hf i (by omega);rw [Addr.add_lit,Addr.add_lit,← Nat.add_assoc] at h1;have e:((List.range len).map f).getD i du0=f i:=by simp [List.getD,hi]
   rw [e];exact ⟨h1.1,h1.2.1⟩
 ·obtain ⟨j,hj,rfl⟩:=List.mem_map.1 hx;exact (hf j (by have:=List.mem_range.1 hj;omega)).2.2
def cellsD:List Du→List Value
 | []=>[]
 | e :: l=>zI e.a :: zI e.b :: cellsD l
theorem cellsD_len (l:List Du):(cellsD l).length=l.length*2:=by
 induction l with
 | nil=>rfl
 | cons e l ih=>simp [cellsD,ih];omega
theorem cellsD_app (l m:List Du):cellsD (l++m)=cellsD l++cellsD m:=by
 induction l with
 | nil=>rfl
 | cons e l ih=>simp [cellsD,ih]
theorem oneD (l:List Du):∀ u∈cellsD l,u.oneCell'=true:=by
 induction l with
 | nil=>intro u hu;cases hu
 | cons e l ih=>
  intro u hu;simp only [cellsD,List.mem_cons] at hu;rcases hu with rfl | rfl | hu
  ·rfl
  ·rfl
  ·exact ih u hu
theorem cellsD_at (l:List Du) (k:Nat) (hk:k<l.length):(cellsD l)[k*2]?=some (zI (l.getD k du0).a)∧(cellsD l)[k*2+1]?=some (zI (l.getD k du0).b):=by
 induction l generalizing k with
 | nil=>simp at hk
 | cons x l ih=>
  cases k with
  | zero=>exact ⟨rfl,rfl⟩
  | succ k=>
   rw [show (k+1)*2=k*2+1+1 by omega];have:=ih k (by simpa using hk);simpa [cellsD] using this
theorem cellsD_get {w:World} {b off len:Nat} {zs:List Du} (hz:zs.length=len) (hc:∀ i,i<len→w.cell? ⟨b,off+i*2,none⟩=some (zI (zs.getD i du0).a)∧w.cell? ⟨b,off+i*2+1,none⟩=some (zI (zs.getD i du0).b)) (j:Nat) (u:Value) (hu:(cellsD zs)[j]?=some u):w.cell? ⟨b,off+j,none⟩=some u:=by
 have hj:j<(cellsD zs).length:=by
  by_cases h:j<(cellsD zs).length
  ·exact h
  ·rw [List.getElem?_eq_none (by omega)] at hu;cases hu
 rw [cellsD_len] at hj;have h1:=cellsD_at zs (j / 2) (by omega);have h2:=hc (j / 2) (by omega);rcases Nat.mod_two_eq_zero_or_one j with e | e
 ·have e2:j / 2*2=j:=by omega
  rw [e2] at h1 h2;rw [h1.1] at hu;rw [h2.1];exact hu
 ·have e2:j / 2*2+1=j:=by omega
  rw [Nat.add_assoc,e2] at h2;rw [e2] at h1;rw [h1.2] at hu;rw [h2.2];exact hu
def Ld (T:TypeId) (w:World) (base:Nat) (v:Value) (l:List Du):Prop:=w.ownsRow base T 2 v l.length (cellsD l)
theorem Ld.zero (T:TypeId) (w:World) (base:Nat):Ld T w base (zS) []:=World.ownsRow_nil _ _ _ _
theorem Ld.alloc {T:TypeId} {w:World} {base:Nat} {v:Value} {l:List Du} (h:Ld T w base v l) (o:Obj):Ld T (w.alloc o) base v l:=World.ownsRow.alloc h o
theorem Ld.next {T:TypeId} {w w':World} {base:Nat} {v:Value} {l:List Du} (h:Ld T w base v l) (hb:Below w.heap.size w w'):Ld T w' base v l:=by
 refine ⟨h.1,?_⟩;rcases h.2 with hn | ⟨g,cap,cur,hv,hg,hc,rest⟩
 ·exact .inl hn
 ·exact .inr ⟨g,cap,cur,hv,hg,Blk.next hc hb,rest⟩
theorem Ld.row {T:TypeId} {w:World} {base:Nat} {v:Value} {l:List Du} (h:Ld T w base v l):∃ a cap,v = .slice a l.length cap∧RowD w a l.length l∧(a=none→cap=0)∧l.length≤cap∧(∀ x,a=some x→x.off=0∧x.spot=none):=by
 rcases h.2 with ⟨hv,hn⟩ | ⟨g,cap,cur,hv,_,_,h1,_⟩
 ·exact ⟨none,0,by rw [hn];exact hv,⟨rfl,.inl hn⟩,fun _=>rfl,by omega,fun x h=>by cases h⟩
 ·subst hv;refine ⟨_,cap,rfl,⟨rfl,.inr ⟨g,0,rfl,fun i hi=>?_⟩⟩,(fun h=>by cases h),h1,fun x h=>by cases h;exact ⟨rfl,rfl⟩⟩;have e1:=World.ownsRow.cellAt h (i*2) (by omega);have e2:=World.ownsRow.cellAt h (i*2+1) (by omega);rw [Nat.zero_add,e1,e2];exact cellsD_at l i hi
theorem own_far {w:World} {base n k:Nat} {t:TypeId} {v:Value} {l:List Value} (h:w.ownsRow base t n v k l) {G:Nat} (hG:G<base):some G≠v.ownBlock:=by
 intro e;have:=(World.ownsRow.lt h G e.symm).1;omega
theorem own_bel {w0 w w':World} {base B n k:Nat} {t:TypeId} {v:Value} {l:List Value} (h:w.ownsRow base t n v k l) (hg:w.grownBy w' v.ownBlock) (hb:Below B w0 w) (hB:B≤base) (hw:B≤w.heap.size):Below B w0 w':=by
 refine ⟨hg.os.trans hb.os,hg.tape.trans hb.tape,hg.output.trans hb.output,Nat.le_trans hb.size hg.size,fun k hk=>?_⟩;rw [← hb.block k hk];exact hg.block k (by omega) (own_far h (by omega))
theorem bel_drewN {B:Nat} {w w':World} (h:Below B w w') (n:Nat):Below B w (w'.drewN n):=⟨h.os,h.tape,h.output,h.size,h.block⟩
structure PairT (P:Program) (T S:TypeId):Prop where
 info:(P.info? T).map (fun i=>(i.zero,i.size,i.bytes))=some (some (.agg #[zI 0,zI 0]),2,16)
 under:P.underlying S=some (.slice T)
theorem wp_pair {P:Program} {T S:TypeId} (hP:PairT P T S) {w:World} {ops:Array Oper} {rest:List Oper} {o:Oper} {a:Act} {Q:Exit→Act→World→Prop} (hgd:o.guard=none) (s x:Operand)
  (ho:o.op = .call { callee:= .builtin .append,args:=#[s,x],argTypes:=#[S,S] })
  (base G:Nat) (v:Value) (l:List Du) (r:Du) (hs:a.eval s=v) (hx:a.eval x = .slice (some ⟨G,0,none⟩) 1 1) (hv:Ld T w base v l) (hu:w.cell? ⟨G,0,none⟩=some (zI r.a)∧w.cell? ⟨G,1,none⟩=some (zI r.b)) (hn:l.length≤1000000) (hbase:base≤w.heap.size)
  (h:∀ v' w',Ld T w' base v' (l++[r])→w.grownBy w' v.ownBlock→wpList P ops Q rest (a.put o.dst v') w'):wpList P ops Q (o :: rest) a w:=by
 obtain ⟨i0,hi,hz0,hz1,hz2⟩:=info_parts hP.info;refine wpList_append_own w hgd s x S ho base T i0 (.agg #[zI 0,zI 0]) 2 16 hP.under hi hz0 hz1 hz2 rfl (by decide) v l.length (cellsD l) hs hv ⟨G,0,none⟩ 1 1 (cellsD [r]) hx rfl ?_ (oneD [r]) (by unfold maxLen;omega) (by omega) hbase ?_
 ·intro j u hj
  match j,hj with
  | 0,hj=>simp [cellsD] at hj;subst hj;simpa [Addr.add] using hu.1
  | 1,hj=>simp [cellsD] at hj;subst hj;simpa [Addr.add] using hu.2
  | j+2,hj=>simp [cellsD] at hj
 intro v' w' h1 h2 _;refine h v' w' ?_ h2;unfold Ld;rw [List.length_append,cellsD_app];exact h1
theorem step_pair {P:Program} {T S:TypeId} (hP:PairT P T S) {w:World} {ops:Array Oper} {o:Oper} {a:Act} {K:Act→World→Prop} {Q:Exit→Act→World→Prop} {E:Prop} (hgd:o.guard=none) (s x:Operand)
  (ho:o.op = .call { callee:= .builtin .append,args:=#[s,x],argTypes:=#[S,S] })
  (base G:Nat) (v:Value) (l:List Du) (r:Du) (hs:a.eval s=v) (hx:a.eval x = .slice (some ⟨G,0,none⟩) 1 1) (hv:Ld T w base v l) (hu:w.cell? ⟨G,0,none⟩=some (zI r.a)∧w.cell? ⟨G,1,none⟩=some (zI r.b)) (hn:l.length≤1000000) (hbase:base≤w.heap.size)
  (h:∀ v' w',Ld T w' base v' (l++[r])→w.grownBy w' v.ownBlock→K (a.put o.dst v') w'):if Region.wanted o (yielded ops a.tmps)=true then Oper.wp P o a w K Q else E:=by
 have hw:Region.wanted o (yielded ops a.tmps)=true:=by simp [Region.wanted,hgd]
 rw [if_pos hw];obtain ⟨i0,hi,hz0,hz1,hz2⟩:=info_parts hP.info
 obtain ⟨v',w',hr,h2,h3,_⟩:=run_append_own (P:=P) w base S o.type T i0 (.agg #[zI 0,zI 0]) 2 16 hP.under hi hz0 hz1 hz2 rfl (by decide) v l.length (cellsD l) hv ⟨G,0,none⟩ 1 1 (cellsD [r]) rfl (by
  intro j u hj
  match j,hj with
  | 0,hj=>simp [cellsD] at hj;subst hj;simpa [Addr.add] using hu.1
  | 1,hj=>simp [cellsD] at hj;subst hj;simpa [Addr.add] using hu.2
  | j+2,hj=>simp [cellsD] at hj) (oneD [r]) (by unfold maxLen;omega) (by omega) hbase
 unfold Oper.wp execOp;simp only [ho,resolve,invoke,builtin,Sem.run_bind,Sem.run_pure,Result.andThen_ok,List.map_toArray,List.map_cons,List.map_nil,hs,hx,hr];refine h v' w' ?_ h3;unfold Ld;rw [List.length_append,cellsD_app];exact h2
theorem wp_pairs {P:Program} {T S:TypeId} (hP:PairT P T S) {w:World} {ops:Array Oper} {rest:List Oper} {o:Oper} {a:Act} {Q:Exit→Act→World→Prop} (hgd:o.guard=none) (s x:Operand)
  (ho:o.op = .call { callee:= .builtin .append,args:=#[s,x],argTypes:=#[S,S] })
  (base:Nat) (A:Addr) (len cap:Nat) (zs:List Du) (hs:a.eval s=zS) (hx:a.eval x = .slice (some A) len cap) (hr:RowD w (some A) len zs) (hl:len*16≤140737488351232) (hbase:base≤w.heap.size)
  (h:∀ v' w',Ld T w' base v' zs→w.grownBy w' none→wpList P ops Q rest (a.put o.dst v') w'):wpList P ops Q (o :: rest) a w:=by
 obtain ⟨i0,hi,hz0,hz1,hz2⟩:=info_parts hP.info;obtain ⟨hz,hr⟩:=hr;refine wpList_append_own w hgd s x S ho base T i0 (.agg #[zI 0,zI 0]) 2 16 hP.under hi hz0 hz1 hz2 rfl (by decide) _ _ _ hs (World.ownsRow_nil _ _ _ _) A len cap (cellsD zs) hx ?_ ?_ (oneD zs) (by unfold maxLen;omega) (by omega) hbase ?_
 ·rw [cellsD_len,hz]
 ·intro j u hu;rcases hr with h | ⟨b,off,h,hc⟩
  ·rw [List.getElem?_eq_none (by rw [cellsD_len];omega)] at hu;cases hu
  ·obtain rfl:=Option.some.inj h;rw [Addr.add_lit];exact cellsD_get hz hc j u hu
 ·intro v' w' h1 h2 _;refine h v' w' ?_ (by simpa [Value.ownBlock] using h2);show w'.ownsRow _ _ _ _ _ _;rw [hz];simpa using h1
end tar
namespace ora
structure Pr where
 m:Int
 r:Int
 b:Int
 t:Int
def pr0:Pr:=⟨0,0,0,0⟩
def Pr.key (p:Pr) (m r b:Int):Prop:=p.m=m∧p.r=r∧p.b=b
structure At (l:List Pr) (m r b:Int) (i:Nat):Prop where
 lt:i<l.length
 is:(l.getD i pr0).key m r b
 first:∀ j,j<i→¬ (l.getD j pr0).key m r b
def No (l:List Pr) (m r b:Int):Prop:=∀ j,j<l.length→¬ (l.getD j pr0).key m r b
def Pr.may (p:Pr):Prop:=(0≤p.m∧p.m≤49)∧(0≤p.r∧p.r≤15)∧(0≤p.b∧p.b≤8796093022207)∧(0≤p.t∧p.t≤65535)
structure May (l:List Pr):Prop where
 few:l.length≤500
 each:∀ i,i<l.length→(l.getD i pr0).may∧At l (l.getD i pr0).m (l.getD i pr0).r (l.getD i pr0).b i
theorem find_or (l:List Pr) (m r b:Int):(∃ i,At l m r b i)∨No l m r b:=by
 have key:∀ k,k≤l.length→(∃ i,At l m r b i)∨∀ j,j<k→¬ (l.getD j pr0).key m r b:=by
  intro k
  induction k with
  | zero=>intro _;exact .inr fun j hj=>absurd hj (Nat.not_lt_zero _)
  | succ k ih=>
   intro hk;rcases ih (by omega) with h | h
   ·exact .inl h
   ·by_cases hx:(l.getD k pr0).key m r b
    ·exact .inl ⟨k,hk,hx,h⟩
    ·refine .inr fun j hj=>?_;by_cases e:j=k
     ·subst e;exact hx
     ·exact h j (by omega)
 rcases key l.length (Nat.le_refl _) with h | h
 ·exact .inl h
 ·exact .inr h
def IssueIs (l:List Pr) (m r b d:Int) (ls:List Pr) (x c:Int):Prop:=
 (¬ May l∧ls=[]∧x=0∧c=5)∨(May l∧¬ (Pr.mk m r b d).may∧ls=[]∧x=0∧c=2) ∨
  (May l∧(Pr.mk m r b d).may∧(∃ i,At l m r b i∧x=(l.getD i pr0).t)∧ls=l∧c=0) ∨
  (May l∧(Pr.mk m r b d).may∧No l m r b∧l.length=500∧ls=[]∧x=0∧c=16) ∨
  (May l∧(Pr.mk m r b d).may∧No l m r b∧l.length<500∧ls=l++[⟨m,r,b,d⟩]∧x=d∧c=0)
end ora
namespace book
open Go.RowKit
structure Cu where
 me:Int
 rv:Int
 nx:Int
 mo:Int
 bo:Int
 fr:Int
 dp:Option Addr
 dn:Nat
 dc:Nat
 sp:Option Addr
 sn:Nat
 sc:Nat
def cu0:Cu:=⟨0,0,0,0,0,0,none,0,0,none,0,0⟩
def Cu.cs (x:Cu):List Value:=[zI x.me,zI x.rv,zI x.nx,zI x.mo,zI x.bo,zI x.fr,.slice x.dp x.dn x.dc,.slice x.sp x.sn x.sc]
def cellsC:List Cu→List Value
 | []=>[]
 | x :: l=>x.cs++cellsC l
theorem cellsC_len (l:List Cu):(cellsC l).length=l.length*8:=by
 induction l with
 | nil=>rfl
 | cons e l ih=>rw [cellsC,List.length_append,ih,List.length_cons];show 8+_=_;omega
theorem cellsC_app (l m:List Cu):cellsC (l++m)=cellsC l++cellsC m:=by
 induction l with
 | nil=>rfl
 | cons e l ih=>rw [List.cons_append,cellsC,cellsC,ih,List.append_assoc]
theorem oneC (l:List Cu):∀ u∈cellsC l,u.oneCell'=true:=by
 induction l with
 | nil=>intro u hu;cases hu
 | cons e l ih=>
  intro u hu;rw [cellsC] at hu;rcases List.mem_append.1 hu with hu | hu
  ·simp only [Cu.cs,List.mem_cons,List.not_mem_nil,or_false] at hu;rcases hu with rfl | rfl | rfl | rfl | rfl | rfl | rfl | rfl <;> rfl
  ·exact ih u hu
theorem cellsC_at (l:List Cu) (k j:Nat) (hk:k<l.length) (hj:j<8):(cellsC l)[k*8+j]?=(l.getD k cu0).cs[j]?:=by
 induction l generalizing k with
 | nil=>simp at hk
 | cons x l ih=>
  have h8:x.cs.length=8:=rfl;cases k with
  | zero=>rw [Nat.zero_mul,Nat.zero_add,cellsC,List.getElem?_append_left (by omega)];rfl
  | succ k=>
   rw [show (k+1)*8+j=x.cs.length+(k*8+j) by omega,cellsC,List.getElem?_append_right (by omega),Nat.add_sub_cancel_left];exact ih k (by simpa using hk)
def RowC (w:World) (a:Option Addr) (n:Nat) (l:List Cu):Prop:=l.length=n∧(n=0∨∃ b off,a=some ⟨b,off,none⟩∧b<w.heap.size∧∀ i j,i<n→j<8→w.cell? ⟨b,off+i*8+j,none⟩=(l.getD i cu0).cs[j]?)
theorem RowC.below {w w':World} {a:Option Addr} {n:Nat} {l:List Cu} (h:RowC w a n l) (hb:Below w.heap.size w w'):RowC w' a n l:=by
 refine ⟨h.1,?_⟩;rcases h.2 with h0 | ⟨b,off,rfl,lb,hc⟩
 ·exact .inl h0
 ·exact .inr ⟨b,off,rfl,Nat.lt_of_lt_of_le lb hb.size,fun i j hi hj=>(hb.cell (p:=⟨b,off+i*8+j,none⟩) lb).trans (hc i j hi hj)⟩
def Lc (w:World) (base:Nat) (v:Value) (l:List Cu):Prop:=w.ownsRow base 64 8 v l.length (cellsC l)
theorem Lc.zero (w:World) (base:Nat):Lc w base (zS) []:=World.ownsRow_nil _ _ _ _
theorem Lc.next {w w':World} {base:Nat} {v:Value} {l:List Cu} (h:Lc w base v l) (hb:Below w.heap.size w w'):Lc w' base v l:=by
 refine ⟨h.1,?_⟩;rcases h.2 with hn | ⟨g,cap,cur,hv,hg,hc,rest⟩
 ·exact .inl hn
 ·exact .inr ⟨g,cap,cur,hv,hg,Blk.next hc hb,rest⟩
theorem Lc.row {w:World} {base:Nat} {v:Value} {l:List Cu} (h:Lc w base v l):∃ a cap,v = .slice a l.length cap∧RowC w a l.length l∧(a=none→cap=0)∧l.length≤cap:=by
 rcases h.2 with ⟨hv,hn⟩ | ⟨g,cap,cur,hv,_,hc,h1,_⟩
 ·exact ⟨none,0,by rw [hn];exact hv,⟨rfl,.inl hn⟩,fun _=>rfl,by omega⟩
 ·subst hv;refine ⟨_,cap,rfl,⟨rfl,.inr ⟨g,0,rfl,Blk.lt hc,fun i j hi hj=>?_⟩⟩,(fun h=>by cases h),h1⟩;have e1:=World.ownsRow.cellAt h (i*8+j) (by omega);rw [Nat.zero_add,e1];exact cellsC_at l i j hi hj
theorem custI:(Tryz.prog.info? 64).map (fun i=>(i.zero,i.size,i.bytes))=some (some (.agg cu0.cs.toArray),8,96):=by kernel_rfl
theorem step_cust {w:World} {o:Oper} {a:Act} {K:Act→World→Prop} {Q:Exit→Act→World→Prop} (s x:Operand)
  (ho:o.op = .call { callee:= .builtin .append,args:=#[s,x],argTypes:=#[39,39] })
  (base G:Nat) (v:Value) (l:List Cu) (r:Cu) (hs:a.eval s=v) (hx:a.eval x = .slice (some ⟨G,0,none⟩) 1 1) (hv:Lc w base v l) (hu:Blk w G r.cs.toArray 64) (hn:l.length≤2000000) (hbase:base≤w.heap.size)
  (h:∀ v' w',Lc w' base v' (l++[r])→w.grownBy w' v.ownBlock→(v'.ownBlock=v.ownBlock∨v'.ownBlock=some w.heap.size)→K (a.put o.dst v') w'):Oper.wp Tryz.prog o a w K Q:=by
 obtain ⟨i0,hi,hz0,hz1,hz2⟩:=info_parts custI
 obtain ⟨v',w',hr,h2,h3,_,h5⟩:=run_append_own_at (P:=Tryz.prog) w base 39 o.type 64 i0 (.agg cu0.cs.toArray) 8 96 Tryz.underlying39 hi hz0 hz1 hz2 rfl (by decide) v l.length (cellsC l) hv ⟨G,0,none⟩ 1 1 (cellsC [r]) (by rw [cellsC_len];rfl) (by
  intro j u hj;rw [Addr.add_lit,Nat.zero_add,hu.cell j];rw [cellsC,cellsC,List.append_nil] at hj
  simpa using hj) (oneC [r]) (by unfold maxLen;omega) (by omega) hbase
 unfold Oper.wp execOp;simp only [ho,resolve,invoke,builtin,Sem.run_bind,Sem.run_pure,Result.andThen_ok,List.map_toArray,List.map_cons,List.map_nil,hs,hx,hr];refine h v' w' ?_ h3 h5;unfold Lc;rw [List.length_append,cellsC_app];exact h2
def FindIs (l:List Cu) (me at_ f:Int):Prop:=(∃ k,k<l.length∧(l.getD k cu0).me=me∧(∀ j,j<k→(l.getD j cu0).me≠me)∧at_=(k:Int)∧f=0)∨((∀ j,j<l.length→(l.getD j cu0).me≠me)∧at_=0∧f=18)
def FoundIs (l:List Cu) (me at_:Int):Prop:=(∃ k,k<l.length∧(l.getD k cu0).me=me∧(∀ j,j<k→(l.getD j cu0).me≠me)∧at_=(k:Int))∨((∀ j,j<l.length→(l.getD j cu0).me≠me)∧at_=-1)
end book
namespace cell
open Go.RowKit
def RowW (w:World) (a:Option Addr) (len:Nat) (ls:List Wr):Prop:=
 ls.length=len∧(len=0∨∃ b off,a=some ⟨b,off,none⟩∧∀ i,i<len→w.cell? ⟨b,off+i*2,none⟩=some (zI (ls.getD i wr0).p)∧w.cell? ⟨b,off+i*2+1,none⟩=some (.int .u32 (ls.getD i wr0).d))
theorem RowW.below {w w':World} {a:Option Addr} {n:Nat} {zs:List Wr} (h:RowW w a n zs) (hb:Below w.heap.size w w'):RowW w' a n zs:=by
 refine ⟨h.1,?_⟩;rcases h.2 with h0 | ⟨b,off,rfl,hc⟩
 ·exact .inl h0
 ·refine .inr ⟨b,off,rfl,fun i hi=>?_⟩;have h1:=hc i hi;rw [hb.cell (p:=⟨b,off+i*2,none⟩) (World.block_lt_of_cell? w _ h1.1),hb.cell (p:=⟨b,off+i*2+1,none⟩) (World.block_lt_of_cell? w _ h1.2)];exact h1
theorem RowW.nil (w:World) (a:Option Addr):RowW w a 0 []:=⟨rfl,.inl rfl⟩
theorem RowW.cut {w:World} {a:Option Addr} {n k:Nat} {zs:List Wr} (h:RowW w a n zs) (hk:k≤n):RowW w a k (zs.take k):=by
 refine ⟨by rw [List.length_take,h.1];omega,?_⟩;rcases h.2 with h0 | ⟨b,off,rfl,hc⟩
 ·exact .inl (by omega)
 ·refine .inr ⟨b,off,rfl,fun i hi=>?_⟩;have e:(zs.take k).getD i wr0=zs.getD i wr0:=by simp [List.getD,hi]
  rw [e];exact hc i (by omega)
theorem RowW.at {w:World} {a:Option Addr} {n:Nat} {zs:List Wr} (h:RowW w a n zs) (h0:0<n):∃ b off,a=some ⟨b,off,none⟩∧b<w.heap.size∧∀ i,i<n→w.cell? ⟨b,off+i*2,none⟩=some (zI (zs.getD i wr0).p)∧w.cell? ⟨b,off+i*2+1,none⟩=some (.int .u32 (zs.getD i wr0).d):=by
 rcases h.2 with h1 | ⟨b,off,rfl,hc⟩
 ·omega
 ·exact ⟨b,off,rfl,World.block_lt_of_cell? w _ (hc 0 h0).1,hc⟩
def cellsW:List Wr→List Value
 | []=>[]
 | e :: l=>zI e.p :: .int .u32 e.d :: cellsW l
theorem cellsW_app (l m:List Wr):cellsW (l++m)=cellsW l++cellsW m:=by
 induction l with
 | nil=>rfl
 | cons e l ih=>simp [cellsW,ih]
theorem oneW (l:List Wr):∀ u∈cellsW l,u.oneCell'=true:=by
 induction l with
 | nil=>intro u hu;cases hu
 | cons e l ih=>
  intro u hu;simp only [cellsW,List.mem_cons] at hu;rcases hu with rfl | rfl | hu
  ·rfl
  ·rfl
  ·exact ih u hu
theorem cellsW_at (l:List Wr) (k:Nat) (hk:k<l.length):(cellsW l)[k*2]?=some (zI (l.getD k wr0).p)∧(cellsW l)[k*2+1]?=some (.int .u32 (l.getD k wr0).d):=by
 induction l generalizing k with
 | nil=>simp at hk
 | cons x l ih=>
  cases k with
  | zero=>exact ⟨rfl,rfl⟩
  | succ k=>
   rw [show (k+1)*2=k*2+1+1 by omega];have:=ih k (by simpa using hk);simpa [cellsW] using this
def Lw (w:World) (base:Nat) (v:Value) (l:List Wr):Prop:=w.ownsRow base 118 2 v l.length (cellsW l)
theorem Lw.alloc {w:World} {base:Nat} {v:Value} {l:List Wr} (h:Lw w base v l) (o:Obj):Lw (w.alloc o) base v l:=World.ownsRow.alloc h o
theorem Lw.row {w:World} {base:Nat} {v:Value} {l:List Wr} (h:Lw w base v l):∃ a cap,v = .slice a l.length cap∧RowW w a l.length l∧(a=none→cap=0)∧l.length≤cap∧(∀ x,a=some x→x.off=0∧x.spot=none):=by
 rcases h.2 with ⟨hv,hn⟩ | ⟨g,cap,cur,hv,_,_,h1,_⟩
 ·exact ⟨none,0,by rw [hn];exact hv,⟨rfl,.inl hn⟩,fun _=>rfl,by omega,fun x h=>by cases h⟩
 ·subst hv;refine ⟨_,cap,rfl,⟨rfl,.inr ⟨g,0,rfl,fun i hi=>?_⟩⟩,(fun h=>by cases h),h1,fun x h=>by cases h;exact ⟨rfl,rfl⟩⟩;have e1:=World.ownsRow.cellAt h (i*2) (by omega);have e2:=World.ownsRow.cellAt h (i*2+1) (by omega);rw [Nat.zero_add,e1,e2];exact cellsW_at l i hi
theorem info_wr:(Tryz.prog.info? 118).map (fun i=>(i.zero,i.size,i.bytes))=some (some (.agg #[zI 0,.int .u32 0]),2,16):=by kernel_rfl
theorem wp_write {w:World} {ops:Array Oper} {rest:List Oper} {o:Oper} {a:Act} {Q:Exit→Act→World→Prop} (hgd:o.guard=none) (s x:Operand)
  (ho:o.op = .call { callee:= .builtin .append,args:=#[s,x],argTypes:=#[46,46] })
  (base G:Nat) (v:Value) (l:List Wr) (r:Wr) (hs:a.eval s=v) (hx:a.eval x = .slice (some ⟨G,0,none⟩) 1 1) (hv:Lw w base v l) (hu:w.cell? ⟨G,0,none⟩=some (zI r.p)∧w.cell? ⟨G,1,none⟩=some (.int .u32 r.d)) (hn:l.length≤1000000) (hbase:base≤w.heap.size)
  (h:∀ v' w',Lw w' base v' (l++[r])→w.grownBy w' v.ownBlock→wpList Tryz.prog ops Q rest (a.put o.dst v') w'):wpList Tryz.prog ops Q (o :: rest) a w:=by
 obtain ⟨i0,hi,hz0,hz1,hz2⟩:=info_parts info_wr;refine wpList_append_own w hgd s x 46 ho base 118 i0 (.agg #[zI 0,.int .u32 0]) 2 16 Tryz.underlying46 hi hz0 hz1 hz2 rfl (by decide) v l.length (cellsW l) hs hv ⟨G,0,none⟩ 1 1 (cellsW [r]) hx rfl ?_ (oneW [r]) (by unfold maxLen;omega) (by omega) hbase ?_
 ·intro j u hj
  match j,hj with
  | 0,hj=>simp [cellsW] at hj;subst hj;simpa [Addr.add] using hu.1
  | 1,hj=>simp [cellsW] at hj;subst hj;simpa [Addr.add] using hu.2
  | j+2,hj=>simp [cellsW] at hj
 intro v' w' h1 h2 _;refine h v' w' ?_ h2;unfold Lw;rw [List.length_append,cellsW_app];exact h1
end cell
namespace cents
open Go.RowKit
def Row (w:World) (a:Option Addr) (len:Nat) (zs:List Int):Prop:=
 zs.length=len∧(len=0∨∃ b off,a=some ⟨b,off,none⟩∧∀ i,i<len→w.cell? ⟨b,off+i,none⟩=some (zI (zs.getD i 0)))
def okAll (lo hi:Int) (l:List Int):Bool:=l.all fun n=>decide (lo≤n) && decide (n≤hi)
theorem okAll_step (lo hi:Int) (zs:List Int) (k:Nat) (hk:k<zs.length) (h:okAll lo hi (zs.take k)=true) (h1:lo≤zs.getD k 0) (h2:zs.getD k 0≤hi):okAll lo hi (zs.take (k+1))=true:=by
 unfold okAll at *;rw [List.take_add_one,List.all_append,h];simp only [List.getD,List.getElem?_eq_getElem hk,Option.getD] at h1 h2 ⊢;simp [h1,h2]
theorem okAll_no (lo hi:Int) (zs:List Int) (k:Nat) (hk:k<zs.length) (h:zs.getD k 0<lo∨hi<zs.getD k 0):okAll lo hi zs=false:=by
 unfold okAll;rw [List.all_eq_false];refine ⟨zs[k],List.getElem_mem hk,?_⟩;simp only [List.getD,List.getElem?_eq_getElem hk,Option.getD] at h;simp;omega
theorem ret_bool {a b:Bool} (h:a=b):Ending.returned (.bool a) = .returned (.bool b):=by rw [h]
theorem within_any (lo hi:Int) (a:Option Addr) (len cap:Nat) (zs:List Int) (w:World) (hr:Row w a len zs) (hl:len≤maxLen) :
  Calls Tryz.prog 143 #[zI lo,zI hi,.slice a len cap] w fun e w'=>e = .returned (.bool (okAll lo hi zs))∧w'=w:=by
 unfold maxLen at hl;obtain ⟨hz,hr⟩:=hr;go_enter Tryz.func143,Tryz.ntmps143;go_wp2;go_loop [11] (fun i=>∃ k:Nat,k≤len∧i=zI k∧okAll lo hi (zs.take k)=true) (fun i=>len - (intOf i).toNat)
 case atStart=>exact ⟨0,Nat.zero_le _,rfl,rfl⟩
 case round=>
  obtain ⟨k,hk,rfl,hok⟩:=hrel;have HK:Hid (okAll lo hi (zs.take k)=true):=hok;clear hok;by_cases hlt:k<len
  ·rcases hr with h0 | ⟨b,off,rfl,hc⟩
   ·omega
   have hcell:=hc k hlt;clear hc;generalize hzk:zs.getD k 0=z at hcell;have HZ:Hid (zs.getD k 0=z):=hzk;clear hzk;by_cases h1:z<lo
   ·go_wp2;go_ret;exact ⟨ret_bool (okAll_no lo hi zs k (by omega) (.inl (by rw [HZ.o];exact h1))).symm,rfl⟩
   ·by_cases h2:hi<z
    ·go_wp2;go_ret;exact ⟨ret_bool (okAll_no lo hi zs k (by omega) (.inr (by rw [HZ.o];exact h2))).symm,rfl⟩
    ·go_wp2;go_round
     case rel=>exact ⟨k+1,by omega,by go_num,okAll_step lo hi zs k (by omega) HK.o (by rw [HZ.o];omega) (by rw [HZ.o];omega)⟩
     case measure=>simp [intOf];omega
  ·go_wp2;go_ret;refine ⟨ret_bool ?_,rfl⟩;have:=HK.o;rw [List.take_of_length_le (by omega)] at this;exact this.symm
theorem row_one (w:World) (z:Int) (t:TypeId):Row (w.alloc (.cells #[zI z] t)) (some ⟨w.heap.size,0,none⟩) 1 [z]:=by
 refine ⟨rfl,.inr ⟨_,_,rfl,fun i hi=>?_⟩⟩;obtain rfl:i=0:=by omega
 simp
theorem okAll_yes {lo hi z:Int} (h1:lo≤z) (h2:z≤hi):okAll lo hi [z]=true:=by simp [okAll,h1,h2]
theorem okAll_not {lo hi z:Int} (h:z<lo∨hi<z):okAll lo hi [z]=false:=by simp [okAll];omega
theorem within_one_yes (lo hi z:Int) (w:World) (b:Nat) (hb:b=w.heap.size) (h1:lo≤z) (h2:z≤hi) :
  Calls Tryz.prog 143 #[zI lo,zI hi,.slice (some ⟨b,0,none⟩) 1 1] (w.alloc (.cells #[zI z] 3)) fun e w'=>e = .returned (.bool true)∧w'=w.alloc (.cells #[zI z] 3):=by
 have h:=within_any lo hi _ 1 1 [z] _ (row_one w z 3) (by decide);rw [okAll_yes h1 h2] at h;rw [hb];exact h
theorem within_one_no (lo hi z:Int) (w:World) (b:Nat) (hb:b=w.heap.size) (h0:z<lo∨hi<z) :
  Calls Tryz.prog 143 #[zI lo,zI hi,.slice (some ⟨b,0,none⟩) 1 1] (w.alloc (.cells #[zI z] 3)) fun e w'=>e = .returned (.bool false)∧w'=w.alloc (.cells #[zI z] 3):=by
 have h:=within_any lo hi _ 1 1 [z] _ (row_one w z 3) (by decide);rw [okAll_not h0] at h;rw [hb];exact h
theorem prod_bd (a b A B:Int) (h1:0≤a) (h2:a≤A) (h3:0≤b) (h4:b≤B):0≤a*b∧a*b≤A*B:=
 ⟨Int.mul_nonneg h1 h3,Int.mul_le_mul h2 h4 h3 (by omega)⟩
theorem bel1 (w:World) (o:Obj):Below w.heap.size w (w.alloc o):=(Below.refl _ _).alloc (Nat.le_refl _) _
theorem bel2 (w:World) (o o':Obj):Below w.heap.size w ((w.alloc o).alloc o'):=(bel1 w o).alloc (by simp) _
end cents
end Go.Proofs.YtdpfnedfakgolaaGreatDoor
namespace Go.Proofs
open Go.Shelf
def Tryz.lays105_ren : Go.Shelf.Ren := ⟨fun | 105 => 68 | 212 => 97 | 99 => 98 | 165 => 99 | 166 => 100 | 170 => 101 | 169 => 102 | 263 => 126 | 264 => 127 | 206 => 128 | 240 => 129 | 241 => 130 | 276 => 145 | 277 => 146 | n => n, fun | 9 => 9 | 3 => 3 | 4 => 4 | 20 => 20 | 0 => 0 | 46 => 144 | 109 => 202 | 5 => 5 | 72 => 207 | 76 => 211 | 51 => 87 | 146 => 241 | 53 => 97 | 148 => 243 | 70 => 205 | 37 => 201 | 75 => 210 | 127 => 245 | 164 => 264 | 80 => 214 | n => n, fun | n => n⟩
theorem Tryz.lays105 : Go.Proofs.Lays.n105 Tryz.prog Tryz.lays105_ren := {
 mixed := by kernel_rfl
 f99 := Tryz.func98.trans (congrArg some (by kernel_rfl))
 f105 := Tryz.func68.trans (congrArg some (by kernel_rfl))
 f165 := Tryz.func99.trans (congrArg some (by kernel_rfl))
 f166 := Tryz.func100.trans (congrArg some (by kernel_rfl))
 f169 := Tryz.func102.trans (congrArg some (by kernel_rfl))
 f170 := Tryz.func101.trans (congrArg some (by kernel_rfl))
 f206 := Tryz.func128.trans (congrArg some (by kernel_rfl))
 f212 := Tryz.func97.trans (congrArg some (by kernel_rfl))
 f240 := Tryz.func129.trans (congrArg some (by kernel_rfl))
 f241 := Tryz.func130.trans (congrArg some (by kernel_rfl))
 f263 := Tryz.func126.trans (congrArg some (by kernel_rfl))
 f264 := Tryz.func127.trans (congrArg some (by kernel_rfl))
 f276 := Tryz.func145.trans (congrArg some (by kernel_rfl))
 f277 := Tryz.func146.trans (congrArg some (by kernel_rfl))
 t0 := Tryz.underlying0
 a0 := Tryz.isAgg0
 z0 := Tryz.sizeOf0
 v0 := Tryz.zeroValue0
 t3 := Tryz.underlying3
 a3 := Tryz.isAgg3
 z3 := Tryz.sizeOf3
 v3 := Tryz.zeroValue3
 t4 := Tryz.underlying4
 a4 := Tryz.isAgg4
 z4 := Tryz.sizeOf4
 v4 := Tryz.zeroValue4
 t5 := Tryz.underlying5
 a5 := Tryz.isAgg5
 z5 := Tryz.sizeOf5
 v5 := Tryz.zeroValue5
 t9 := Tryz.underlying9
 a9 := Tryz.isAgg9
 z9 := Tryz.sizeOf9
 v9 := Tryz.zeroValue9
 t20 := Tryz.underlying20
 a20 := Tryz.isAgg20
 z20 := Tryz.sizeOf20
 v20 := Tryz.zeroValue20
 t37 := Tryz.underlying201
 a37 := Tryz.isAgg201
 z37 := Tryz.sizeOf201
 v37 := Tryz.zeroValue201
 t46 := Tryz.underlying144
 a46 := Tryz.isAgg144
 z46 := Tryz.sizeOf144
 v46 := Tryz.zeroValue144
 t51 := Tryz.underlying87
 a51 := Tryz.isAgg87
 z51 := Tryz.sizeOf87
 v51 := Tryz.zeroValue87
 t53 := Tryz.underlying97
 a53 := Tryz.isAgg97
 z53 := Tryz.sizeOf97
 v53 := Tryz.zeroValue97
 t70 := Tryz.underlying205
 a70 := Tryz.isAgg205
 z70 := Tryz.sizeOf205
 v70 := Tryz.zeroValue205
 t72 := Tryz.underlying207
 a72 := Tryz.isAgg207
 z72 := Tryz.sizeOf207
 v72 := Tryz.zeroValue207
 t75 := Tryz.underlying210
 a75 := Tryz.isAgg210
 z75 := Tryz.sizeOf210
 v75 := Tryz.zeroValue210
 t76 := Tryz.underlying211
 a76 := Tryz.isAgg211
 z76 := Tryz.sizeOf211
 v76 := Tryz.zeroValue211
 t109 := Tryz.underlying202
 a109 := Tryz.isAgg202
 z109 := Tryz.sizeOf202
 v109 := Tryz.zeroValue202
 t127 := Tryz.underlying245
 a127 := Tryz.isAgg245
 z127 := Tryz.sizeOf245
 v127 := Tryz.zeroValue245
 t146 := Tryz.underlying241
 a146 := Tryz.isAgg241
 z146 := Tryz.sizeOf241
 v146 := Tryz.zeroValue241
 t148 := Tryz.underlying243
 a148 := Tryz.isAgg243
 z148 := Tryz.sizeOf243
 v148 := Tryz.zeroValue243
 t164 := Tryz.underlying264
 a164 := Tryz.isAgg264
 z164 := Tryz.sizeOf264
 v164 := Tryz.zeroValue264 }
theorem Tryz.Builder_Extra_105 : Builder.Extra Tryz.prog Tryz.lays105_ren := {
 sizeBuilder := by kernel_rfl
 liesBuilder := by kernel_rfl
 t5 := Tryz.underlying5
 a5 := Tryz.isAgg5
 z5 := Tryz.sizeOf5
 v5 := Tryz.zeroValue5
 infoByte := by kernel_rfl
 cellsByte := by kernel_rfl
 sizeByte := by kernel_rfl
 neB5 := by decide }
open Go.RowKit Go.Lib in
theorem Tryz.strings_Repeat (s : ByteArray) (c : Nat) (w : World) (hc : c ≤ 9223372036854775807) (hlen : s.size * c ≤ 140737488355328) :
  Calls Tryz.prog 68 #[.string s, .int .i64 c] w fun e w' => e = .returned (.string ⟨(Lib.repeatL s.data.toList c).toArray⟩) ∧ Below w.heap.size w w' := Any.strings_Repeat Tryz.lays105 Tryz.Builder_Extra_105 s c w hc hlen
end Go.Proofs
namespace Go.Proofs.YtdpfnedfakgolaaGreatDoor
end Go.Proofs.YtdpfnedfakgolaaGreatDoor
