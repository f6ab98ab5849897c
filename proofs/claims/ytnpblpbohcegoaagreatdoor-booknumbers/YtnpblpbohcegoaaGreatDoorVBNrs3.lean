import Derived.Test.YtnpblpbohcegoaaGreatDoorVBNrs0
set_option linter.unusedVariables false
set_option linter.unusedSimpArgs false
set_option maxHeartbeats 4000000
set_option maxRecDepth 100000
namespace Go.Proofs.YtnpblpbohcegoaaGreatDoor
namespace cell
structure Wr where
 p:Int
 d:Int
def wr0:Wr:=⟨0,0⟩
def wrt:List Int→List Wr→List Int
 | c,[]=>c
 | c,e :: l=>wrt (c.set e.p.toNat e.d) l
theorem wrt_app (c:List Int) (l m:List Wr):wrt c (l++m)=wrt (wrt c l) m:=by
 induction l generalizing c with
 | nil=>rfl
 | cons e l ih=>exact ih _
theorem wrt_one (c:List Int) (e:Wr):wrt c [e]=c.set e.p.toNat e.d:=rfl
theorem wrt_len (c:List Int) (l:List Wr):(wrt c l).length=c.length:=by
 induction l generalizing c with
 | nil=>rfl
 | cons e l ih=>rw [wrt,ih,List.length_set]
theorem take_one (l:List Wr) (k:Nat) (h:k<l.length):l.take (k+1)=l.take k++[l.getD k wr0]:=by
 rw [List.take_succ_eq_append_getElem h];simp [List.getD,List.getElem?_eq_getElem h]
theorem wrt_step (c:List Int) (l:List Wr) (k:Nat) (h:k<l.length):wrt c (l.take (k+1))=(wrt c (l.take k)).set (l.getD k wr0).p.toNat (l.getD k wr0).d:=by
 rw [take_one l k h,wrt_app,wrt_one]
theorem set_at (c:List Int) (i j:Nat) (v:Int):(c.set i v).getD j 0=if j=i∧i<c.length then v else c.getD j 0:=by
 simp only [List.getD,List.getElem?_set];by_cases h:i=j
 ·subst h;by_cases h2:i<c.length
  ·simp [h2]
  ·simp [h2]
 ·rw [if_neg h,if_neg (by omega)]
def inN (n:Nat) (e:Wr):Bool:=decide (0≤e.p) && decide (e.p<n)
theorem inN_iff {n:Nat} {e:Wr}:inN n e=true↔0≤e.p∧e.p<n:=by simp [inN]
def allN (n:Nat) (l:List Wr):Bool:=l.all (inN n)
theorem allN_at {n:Nat} {l:List Wr} (h:allN n l=true) (k:Nat) (hk:k<l.length):0≤(l.getD k wr0).p∧(l.getD k wr0).p<n:=by
 have:=List.all_eq_true.1 h l[k] (List.getElem_mem hk);rw [inN_iff] at this;simpa [List.getD,List.getElem?_eq_getElem hk] using this
theorem allN_take {n:Nat} {l:List Wr} (h:allN n l=true) (k:Nat):allN n (l.take k)=true:=by
 refine List.all_eq_true.2 fun e he=>?_;exact List.all_eq_true.1 h e (List.mem_of_mem_take he)
theorem allN_step (n:Nat) (l:List Wr) (k:Nat) (hk:k<l.length):allN n (l.take (k+1))=(allN n (l.take k) && inN n (l.getD k wr0)):=by
 rw [take_one l k hk];simp [allN]
theorem allN_of_false {n:Nat} {l:List Wr} {k:Nat} (hk:k<l.length) (h:inN n (l.getD k wr0)=false):allN n l=false:=by
 refine Bool.eq_false_iff.2 fun ha=>?_;have:=allN_at ha k hk;rw [← inN_iff] at this;rw [h] at this;cases this
theorem allN_snoc {n:Nat} {l:List Wr} {e:Wr} (h:allN n l=true) (he:0≤e.p∧e.p<n):allN n (l++[e])=true:=by
 unfold allN at *;rw [List.all_append,h];simp [inN,he]
theorem list_ext {a b:List Int} (hl:a.length=b.length) (h:∀ j,j<a.length→a.getD j 0=b.getD j 0):a=b:=by
 apply List.ext_getElem hl;intro j h1 h2;have:=h j h1;simpa [List.getD,List.getElem?_eq_getElem h1,List.getElem?_eq_getElem h2] using this
end cell
namespace disk
open cell (Wr wr0 wrt wrt_app wrt_one wrt_len wrt_step set_at list_ext)
def lenAt (c:List Int) (a:Nat):Int:=if a=c.length∨c.getD a 0=0 then 0 else if 64<c.getD a 0 then -1 else if (c.length:Int)≤a+c.getD a 0 then -1 else c.getD a 0
def recAt (c:List Int) (a:Nat):List Int:=(c.drop (a+1)).take (c.getD a 0).toNat
theorem len_pos {c:List Int} {a:Nat} (h:0<lenAt c a):lenAt c a=c.getD a 0∧0<c.getD a 0∧c.getD a 0≤64∧a+c.getD a 0<c.length:=by
 unfold lenAt at h ⊢;by_cases h1:a=c.length∨c.getD a 0=0
 ·rw [if_pos h1] at h;omega
 ·by_cases h2:64<c.getD a 0
  ·rw [if_neg h1,if_pos h2] at h;omega
  ·by_cases h3:(c.length:Int)≤a+c.getD a 0
   ·rw [if_neg h1,if_neg h2,if_pos h3] at h;omega
   ·rw [if_neg h1,if_neg h2,if_neg h3] at h ⊢;exact ⟨rfl,h,by omega,by omega⟩
theorem len_of {c:List Int} {a:Nat} (h0:0<c.getD a 0) (h1:c.getD a 0≤64) (h2:a+c.getD a 0<c.length):lenAt c a=c.getD a 0:=by
 unfold lenAt;rw [if_neg (by omega),if_neg (by omega),if_neg (by omega)]
def stepD (c:List Int) (s:List (List Int) × Nat):List (List Int) × Nat:=if 0<lenAt c s.2 then (s.1++[recAt c s.2],s.2+(lenAt c s.2).toNat+1) else s
def itD (c:List Int):Nat→List (List Int) × Nat
 | 0=>([],0)
 | k+1=>stepD c (itD c k)
theorem it_live {c:List Int} {k:Nat} (h:0<lenAt c (itD c k).2):itD c (k+1)=((itD c k).1++[recAt c (itD c k).2],(itD c k).2+(lenAt c (itD c k).2).toNat+1):=by
 show stepD c (itD c k)=_;unfold stepD;rw [if_pos h]
theorem it_dead {c:List Int} {k:Nat} (h:¬ 0<lenAt c (itD c k).2):∀ m,itD c (k+m)=itD c k
 | 0=>rfl
 | m+1=>by
  show stepD c (itD c (k+m))=_;rw [it_dead h m];unfold stepD;rw [if_neg h]
theorem it_bound (c:List Int) (k:Nat):(itD c k).2≤c.length∧((∀ i,i<k→0<lenAt c (itD c i).2)→k≤(itD c k).2):=by
 induction k with
 | zero=>exact ⟨Nat.zero_le _,fun _=>Nat.le_refl _⟩
 | succ k ih=>
  by_cases h:0<lenAt c (itD c k).2
  ·rw [it_live h];obtain ⟨e,p0,p1,p2⟩:=len_pos h;refine ⟨by show (itD c k).2+_+1≤_;omega,fun hl=>?_⟩;have:=ih.2 fun i hi=>hl i (by omega);show k+1≤(itD c k).2+_+1;omega
  ·rw [it_dead h 1];exact ⟨ih.1,fun hl=>absurd (hl k (by omega)) h⟩
theorem it_mono (c:List Int) (k m:Nat):(itD c k).2≤(itD c (k+m)).2:=by
 induction m with
 | zero=>exact Nat.le_refl _
 | succ m ih=>
  refine Nat.le_trans ih ?_;show _≤(stepD c (itD c (k+m))).2;unfold stepD;by_cases h:0<lenAt c (itD c (k+m)).2
  ·rw [if_pos h];show _≤(itD c (k+m)).2+_+1;omega
  ·rw [if_neg h];exact Nat.le_refl _
def repD (c:List Int):List (List Int) × Nat:=itD c (c.length+1)
theorem rep_dead (c:List Int):¬ 0<lenAt c (repD c).2:=fun h=>by
 have all:∀ i,i<c.length+1→0<lenAt c (itD c i).2:=fun i hi=>by
  refine Classical.byContradiction fun hn=>?_;have e:=it_dead hn (c.length+1 - i);rw [show i+(c.length+1 - i)=c.length+1 by omega] at e;unfold repD at h;rw [e] at h;exact hn h
 have:=(it_bound c (c.length+1)).2 all;have:=(it_bound c (c.length+1)).1;omega
theorem rep_of {c:List Int} {k:Nat} (h:¬ 0<lenAt c (itD c k).2):repD c=itD c k:=by
 by_cases hk:k≤c.length+1
 ·have e:=it_dead h (c.length+1 - k);rw [show k+(c.length+1 - k)=c.length+1 by omega] at e;exact e
 ·have e:=it_dead (rep_dead c) (k - (c.length+1));rw [show c.length+1+(k - (c.length+1))=k by omega] at e;exact e.symm
def May (c:List Int):Prop:=1≤c.length∧c.length≤2048
def RepIs (c:List Int) (out:List (List Int)) (e:Int) (f:Int):Prop:=
 (¬ May c∧out=[]∧e=0∧f=1)∨(May c∧lenAt c (repD c).2<0∧out=[]∧e=0∧f=3)∨(May c∧lenAt c (repD c).2=0∧out=(repD c).1∧e=((repD c).2:Int)∧f=0)
theorem RepIs.one {c:List Int} {o o':List (List Int)} {e e' f f':Int} (h:RepIs c o e f) (h':RepIs c o' e' f'):o=o'∧e=e'∧f=f':=by
 rcases h with ⟨a,rfl,rfl,rfl⟩ | ⟨a,b,rfl,rfl,rfl⟩ | ⟨a,b,rfl,rfl,rfl⟩ <;> rcases h' with ⟨a',rfl,rfl,rfl⟩ | ⟨a',b',rfl,rfl,rfl⟩ | ⟨a',b',rfl,rfl,rfl⟩ <;> first | exact ⟨rfl,rfl,rfl⟩ | contradiction | omega
def putW (at_:Nat) (rec:List Int):Nat→List Wr
 | 0=>[]
 | k+1=>putW at_ rec k++[⟨((at_+k+1:Nat):Int),rec.getD k 0⟩]
def zeroW (c:List Int) (p:Nat):List Wr:=if p<c.length then [⟨(p:Int),0⟩] else []
def appW (c:List Int) (a:Nat) (rec:List Int):List Wr:=putW a rec rec.length++(zeroW c (a+rec.length+1)++[⟨(a:Int),(rec.length:Int)⟩])
def RMay (r:List Int):Prop:=1≤r.length∧r.length≤64
def AppIs (c rec:List Int) (ls:List Wr) (f:Int):Prop:=
 (¬ RMay rec∧ls=[]∧f=1)∨(RMay rec∧¬ May c∧ls=[]∧f=1)∨(RMay rec∧May c∧lenAt c (repD c).2<0∧ls=[]∧f=3) ∨
 (RMay rec∧May c∧lenAt c (repD c).2=0∧c.length≤(repD c).2+rec.length∧ls=[]∧f=16)∨(RMay rec∧May c∧lenAt c (repD c).2=0∧(repD c).2+rec.length<c.length∧ls=appW c (repD c).2 rec∧f=0)
theorem rec_same {c d:List Int} (hl:c.length=d.length) {a e:Nat} (h:∀ j,j<e→c.getD j 0=d.getD j 0) (ha:a<e) (hb:a+(c.getD a 0).toNat+1≤e):recAt c a=recAt d a:=by
 unfold recAt;rw [← h a ha];generalize (c.getD a 0).toNat=n at hb ⊢;refine list_ext (by simp [hl]) fun j hj=>?_;have hj':j<n:=by simp at hj;omega
 have:=h (a+1+j) (by omega);simpa [List.getD,List.getElem?_take,List.getElem?_drop,hj'] using this
theorem len_same {c d:List Int} (hl:c.length=d.length) {a:Nat} (h:c.getD a 0=d.getD a 0):lenAt c a=lenAt d a:=by
 unfold lenAt;rw [h,hl]
theorem it_same {c d:List Int} (hl:c.length=d.length) {K:Nat} (h:∀ j,j<(itD c K).2→c.getD j 0=d.getD j 0):∀ k,k≤K→(∀ i,i<k→0<lenAt c (itD c i).2)→itD d k=itD c k
 | 0,_,_=>rfl
 | k+1,hk,hv=>by
  have ih:=it_same hl h k (by omega) fun i hi=>hv i (by omega);have hp:=hv k (by omega);obtain ⟨e,p0,p1,p2⟩:=len_pos hp;have hm:=it_mono c (k+1) (K - (k+1));rw [show k+1+(K - (k+1))=K by omega,it_live hp] at hm;have hm':(itD c k).2+(lenAt c (itD c k).2).toNat+1≤(itD c K).2:=hm;have hlt:(itD c k).2<(itD c K).2:=by omega
  have e1:=len_same hl (h _ hlt);have e2:=rec_same hl h hlt (by rw [e] at hm';exact hm');have hq:0<lenAt d (itD d k).2:=by rw [ih,← e1];exact hp
  rw [it_live hp,it_live hq,ih,← e1,← e2]
theorem first_dead (c:List Int):∃ K,(∀ i,i<K→0<lenAt c (itD c i).2)∧¬ 0<lenAt c (itD c K).2:=by
 have h0:∃ K,¬ 0<lenAt c (itD c K).2:=⟨c.length+1,rep_dead c⟩
 have step:∀ n,(∃ K,K≤n∧(∀ i,i<K→0<lenAt c (itD c i).2)∧¬ 0<lenAt c (itD c K).2)∨(∀ i,i≤n→0<lenAt c (itD c i).2):=fun n=>by
  induction n with
  | zero=>
   by_cases h:0<lenAt c (itD c 0).2
   ·exact .inr fun i hi=>by
     obtain rfl:i=0:=by omega
     exact h
   ·exact .inl ⟨0,Nat.le_refl _,fun i hi=>by omega,h⟩
  | succ n ih=>
   rcases ih with ⟨K,hk,ha,hb⟩ | ha
   ·exact .inl ⟨K,by omega,ha,hb⟩
   ·by_cases h:0<lenAt c (itD c (n+1)).2
    ·exact .inr fun i hi=>by
      by_cases hi':i=n+1
      ·rw [hi'];exact h
      ·exact ha i (by omega)
    ·exact .inl ⟨n+1,Nat.le_refl _,fun i hi=>ha i (by omega),h⟩
 obtain ⟨K,hK⟩:=h0;rcases step K with ⟨K',_,ha,hb⟩ | ha
 ·exact ⟨K',ha,hb⟩
 ·exact absurd (ha K (Nat.le_refl _)) hK
theorem rep_bound (c:List Int):(repD c).2≤c.length:=(it_bound c _).1
theorem rep_keep {c d:List Int} (hl:c.length=d.length) (h:∀ j,j≤(repD c).2→c.getD j 0=d.getD j 0):repD d=repD c∧lenAt d (repD c).2=lenAt c (repD c).2:=by
 obtain ⟨K,ha,hb⟩:=first_dead c;have e:=rep_of hb;rw [e] at h ⊢;have e1:=it_same hl (K:=K) (fun j hj=>h j (by omega)) K (Nat.le_refl _) ha;have e2:=(len_same hl (h _ (Nat.le_refl _))).symm;refine ⟨?_,e2⟩;rw [rep_of (k:=K) (by rw [e1,e2];exact hb),e1]
theorem rep_more {c d:List Int} (hl:c.length=d.length) (h:∀ j,j<(repD c).2→c.getD j 0=d.getD j 0) {r:List Int} (hr:RMay r) (h1:d.getD (repD c).2 0=(r.length:Int)) (h2:recAt d (repD c).2=r) (hf:(repD c).2+r.length<c.length) (h3:lenAt d ((repD c).2+r.length+1)=0) :
  repD d=((repD c).1++[r],(repD c).2+r.length+1):=by
 obtain ⟨K,ha,hb⟩:=first_dead c;have e:=rep_of hb;rw [e] at h h1 h2 hf h3 ⊢;have e1:=it_same hl (K:=K) h K (Nat.le_refl _) ha;have hp:lenAt d (itD c K).2=(r.length:Int):=by rw [len_of (by rw [h1];have:=hr.1;omega) (by rw [h1];have:=hr.2;omega) (by rw [h1];omega),h1]
 have hq:itD d (K+1)=((itD c K).1++[r],(itD c K).2+r.length+1):=by
  rw [it_live (by rw [e1,hp];have:=hr.1;omega),e1,h2,hp];rfl
 rw [rep_of (k:=K+1) (by rw [hq];show ¬ 0<lenAt d _;rw [h3];omega),hq]
theorem put_at (c rec:List Int) (a k:Nat) (hk:a+k<c.length):∀ j,(wrt c (putW a rec k)).getD j 0=if a<j∧j≤a+k then rec.getD (j - a - 1) 0 else c.getD j 0:=by
 induction k with
 | zero=>intro j;rw [if_neg (by omega)];rfl
 | succ k ih=>
  intro j;rw [putW,wrt_app,wrt_one,set_at,wrt_len];show (if j=((a+k+1:Nat):Int).toNat∧((a+k+1:Nat):Int).toNat<c.length then rec.getD k 0 else _)=_;rw [Int.toNat_natCast];by_cases hj:j=a+k+1
  ·rw [if_pos ⟨hj,by omega⟩,if_pos ⟨by omega,by omega⟩,show j - a - 1=k by omega]
  ·rw [if_neg (by omega),ih (by omega)];by_cases h2:a<j∧j≤a+k
   ·rw [if_pos h2,if_pos ⟨h2.1,by omega⟩]
   ·rw [if_neg h2,if_neg (by omega)]
theorem put_len (a:Nat) (rec:List Int) (k:Nat):(putW a rec k).length=k:=by
 induction k with
 | zero=>rfl
 | succ k ih=>rw [putW,List.length_append,ih];rfl
theorem put_take (a:Nat) (rec:List Int) {k n:Nat} (h:k≤n):(putW a rec n).take k=putW a rec k:=by
 induction n with
 | zero=>
  obtain rfl:k=0:=by omega
  rfl
 | succ n ih=>
  by_cases hk:k=n+1
  ·rw [hk,List.take_of_length_le (by rw [put_len];omega)]
  ·rw [putW,List.take_append_of_le_length (by rw [put_len];omega),ih (by omega)]
theorem zero_at (c d:List Int) (hl:c.length=d.length) (p:Nat) (j:Nat):(wrt d (zeroW c p)).getD j 0=if j=p∧p<c.length then 0 else d.getD j 0:=by
 unfold zeroW;by_cases h:p<c.length
 ·rw [if_pos h,wrt_one,set_at,Int.toNat_natCast,← hl]
 ·rw [if_neg h,if_neg (by omega)];rfl
theorem app_len (c:List Int) (a:Nat) (r:List Int):(appW c a r).length=r.length+(if a+r.length+1<c.length then 2 else 1):=by
 unfold appW zeroW;rw [List.length_append,put_len];split <;> rfl
theorem app_cut (c r:List Int) (a k:Nat) (hf:a+r.length<c.length) (hk:k<(appW c a r).length) (j:Nat) (hj:j≤a):(wrt c ((appW c a r).take k)).getD j 0=c.getD j 0:=by
 have hk':k<r.length+((zeroW c (a+r.length+1)).length+1):=by unfold appW at hk;rw [List.length_append,List.length_append,put_len] at hk;exact hk
 have e:(appW c a r).take k=(putW a r r.length++zeroW c (a+r.length+1)).take k:=by
  unfold appW;rw [← List.append_assoc,List.take_append_of_le_length (by rw [List.length_append,put_len];omega)]
 rw [e];by_cases h1:k≤r.length
 ·rw [List.take_append_of_le_length (by rw [put_len];exact h1),put_take a r h1,put_at c r a k (by omega),if_neg (by omega)]
 ·rw [List.take_of_length_le (by rw [List.length_append,put_len];unfold zeroW at hk' ⊢;split <;> simp_all <;> omega),wrt_app,zero_at c _ (by rw [wrt_len]),if_neg (by omega),put_at c r a _ hf,if_neg (by omega)]
theorem app_all (c r:List Int) (a:Nat) (hf:a+r.length<c.length) (j:Nat):(wrt c (appW c a r)).getD j 0=if j=a then (r.length:Int) else if a<j∧j≤a+r.length then r.getD (j - a - 1) 0 else if j=a+r.length+1∧a+r.length+1<c.length then 0 else c.getD j 0:=by
 unfold appW;rw [wrt_app,wrt_app,wrt_one,set_at,wrt_len,wrt_len];show (if j=(a:Int).toNat∧(a:Int).toNat<c.length then _ else _)=_;rw [Int.toNat_natCast];by_cases h:j=a
 ·rw [if_pos ⟨h,by omega⟩,if_pos h]
 ·rw [if_neg (by omega),if_neg h,zero_at c _ (by rw [wrt_len])];by_cases h1:j=a+r.length+1∧a+r.length+1<c.length
  ·rw [if_pos h1,if_neg (by omega),if_pos h1]
  ·rw [if_neg h1,put_at c r a _ hf];by_cases h2:a<j∧j≤a+r.length
   ·rw [if_pos h2,if_pos h2]
   ·rw [if_neg h2,if_neg h2,if_neg h1]
def Tape (c:List Int) (l:List (List Int)) (e:Nat):Prop:=May c∧repD c=(l,e)∧lenAt c e=0
theorem Tape.cut {c:List Int} {l:List (List Int)} {e:Nat} (h:Tape c l e) {r:List Int} (hf:e+r.length<c.length) {k:Nat} (hk:k<(appW c e r).length):Tape (wrt c ((appW c e r).take k)) l e:=by
 obtain ⟨hm,hr,hl⟩:=h;have e2:(repD c).2=e:=by rw [hr]
 obtain ⟨a,b⟩:=rep_keep (c:=c) (d:=wrt c ((appW c e r).take k)) (by rw [wrt_len]) (fun j hj=>(app_cut c r e k hf hk j (by omega)).symm);exact ⟨by unfold May;rw [wrt_len];exact hm,by rw [a,hr],by rw [e2] at b;rw [b];exact hl⟩
theorem Tape.all {c:List Int} {l:List (List Int)} {e:Nat} (h:Tape c l e) {r:List Int} (hr:RMay r) (hf:e+r.length<c.length):Tape (wrt c (appW c e r)) (l++[r]) (e+r.length+1):=by
 obtain ⟨hm,hrep,hl⟩:=h;have e2:(repD c).2=e:=by rw [hrep]
 have e1:(repD c).1=l:=by rw [hrep]
 have at0:=app_all c r e hf;have hlen:(wrt c (appW c e r)).length=c.length:=wrt_len _ _;have h0:(wrt c (appW c e r)).getD e 0=(r.length:Int):=by rw [at0,if_pos rfl]
 have h3:lenAt (wrt c (appW c e r)) (e+r.length+1)=0:=by
  unfold lenAt;rw [hlen];by_cases hz:e+r.length+1=c.length
  ·rw [if_pos (.inl hz)]
  ·rw [if_pos (.inr (by rw [at0,if_neg (by omega),if_neg (by omega),if_pos ⟨rfl,by omega⟩]))]
 have h2:recAt (wrt c (appW c e r)) e=r:=by
  unfold recAt;rw [h0,Int.toNat_natCast];refine list_ext (by rw [List.length_take,List.length_drop,hlen];omega) fun j hj=>?_;have hj':j<r.length:=by rw [List.length_take] at hj;omega
  have q:=at0 (e+1+j);rw [if_neg (by omega),if_pos ⟨by omega,by omega⟩,show e+1+j - e - 1=j by omega] at q;rw [← q];simp [List.getD,List.getElem?_drop,hj']
 have:=rep_more (c:=c) (d:=wrt c (appW c e r)) hlen.symm (fun j hj=>by rw [at0,if_neg (by omega),if_neg (by omega),if_neg (by omega)]) hr (by rw [e2];exact h0) (by rw [e2];exact h2) (by rw [e2];exact hf) (by rw [e2];exact h3);rw [e1,e2] at this;exact ⟨by unfold May;rw [hlen];exact hm,this,h3⟩
theorem Tape.app {c:List Int} {l:List (List Int)} {e:Nat} (h:Tape c l e) {r:List Int} {ls:List Wr} {f:Int} (ha:AppIs c r ls f) (hr:RMay r):(e+r.length<c.length∧ls=appW c e r∧f=0)∨(c.length≤e+r.length∧ls=[]∧f=16):=by
 obtain ⟨hm,hrep,hl⟩:=h;have e2:(repD c).2=e:=by rw [hrep]
 unfold AppIs at ha;rw [e2,hl] at ha;rcases ha with ⟨a,_⟩ | ⟨_,a,_⟩ | ⟨_,_,a,_⟩ | ⟨_,_,_,a,b,c⟩ | ⟨_,_,_,a,b,c⟩
 ·exact absurd hr a
 ·exact absurd hm a
 ·omega
 ·exact .inr ⟨a,b,c⟩
 ·exact .inl ⟨a,b,c⟩
theorem Tape.blank {n:Nat} (h0:1≤n) (h1:n≤2048):Tape (List.replicate n 0) [] 0:=by
 have hz:lenAt (List.replicate n 0) 0=0:=by
  unfold lenAt;rw [if_pos (.inr (by simp [List.getD,List.getElem?_replicate];split <;> rfl))]
 have e:repD (List.replicate n 0)=([],0):=rep_of (k:=0) (by show ¬ 0<lenAt _ 0;rw [hz];omega);exact ⟨⟨by simpa using h0,by simpa using h1⟩,e,hz⟩
end disk
namespace tar
structure Du where
 a:Int
 b:Int
def du0:Du:=⟨0,0⟩
structure Tr where
 a:Int
 b:Int
 c:Int
def tr0:Tr:=⟨0,0,0⟩
theorem take_one (l:List Du) (k:Nat) (h:k<l.length):l.take (k+1)=l.take k++[l.getD k du0]:=by
 rw [List.take_succ_eq_append_getElem h];simp [List.getD,List.getElem?_eq_getElem h]
def low (l:List Du) (k:Nat):Int:=if k=0 then 0 else (l.getD (k - 1) du0).a
theorem low_next (l:List Du) (k:Nat):low l (k+1)=(l.getD k du0).a:=rfl
theorem low_zero (l:List Du):low l 0=0:=rfl
def Fits (l:List Du):Prop:=∀ i,i<l.length→(1≤(l.getD i du0).a∧(l.getD i du0).a≤10000000)∧1≤(l.getD i du0).b∧(l.getD i du0).b≤100000
def Rises (l:List Du):Prop:=∀ i,1≤i→i<l.length→(l.getD (i - 1) du0).a<(l.getD i du0).a
def Sized (l:List Du):Prop:=1≤l.length∧l.length≤8
def Ends (l:List Du):Prop:=(l.getD (l.length - 1) du0).a=10000000
def Right (l:List Du):Prop:=Sized l∧Fits l∧Rises l∧Ends l
def FaultIs (l:List Du) (e:Int):Prop:=(¬ Sized l∧e=1)∨(Sized l∧¬ Fits l∧e=2)∨(Sized l∧Fits l∧¬ (Rises l∧Ends l)∧e=3)∨(Right l∧e=0)
theorem FaultIs.one {l:List Du} {e f:Int} (h:FaultIs l e) (h':FaultIs l f):e=f:=by
 rcases h with ⟨a,rfl⟩ | ⟨a,b,rfl⟩ | ⟨a,b,c,rfl⟩ | ⟨⟨a,b,c⟩,rfl⟩ <;> rcases h' with ⟨a',rfl⟩ | ⟨a',b',rfl⟩ | ⟨a',b',c',rfl⟩ | ⟨⟨a',b',c'⟩,rfl⟩ <;> first | rfl | contradiction
theorem FaultIs.ok {l:List Du} {e:Int} (h:FaultIs l e):e=0↔Right l:=by
 rcases h with ⟨a,rfl⟩ | ⟨a,b,rfl⟩ | ⟨a,b,c,rfl⟩ | ⟨h,rfl⟩
 ·exact ⟨fun h=>absurd h (by decide),fun h=>absurd h.1 a⟩
 ·exact ⟨fun h=>absurd h (by decide),fun h=>absurd h.2.1 b⟩
 ·exact ⟨fun h=>absurd h (by decide),fun h=>absurd h.2.2 c⟩
 ·exact ⟨fun _=>h,fun _=>rfl⟩
def ov (lo hi x y:Int):Int:=max 0 (min hi y - max lo x)
theorem ov_pos (lo hi x y:Int):0≤ov lo hi x y:=by unfold ov;omega
def costK (l:List Du) (x y:Int):Nat→Int
 | 0=>0
 | k+1=>costK l x y k+ov (low l k) (l.getD k du0).a x y*(l.getD k du0).b
def cost (l:List Du) (x y:Int):Int:=costK l x y l.length
theorem costK_next (l:List Du) (x y:Int) (k:Nat):costK l x y (k+1)=costK l x y k+ov (low l k) (l.getD k du0).a x y*(l.getD k du0).b:=rfl
def manyK (l:List Du) (x y:Int):Nat→Int
 | 0=>0
 | k+1=>manyK l x y k+ov (low l k) (l.getD k du0).a x y
theorem Right.price {l:List Du} (h:Right l) (k:Nat) (hk:k<l.length):1≤(l.getD k du0).b∧(l.getD k du0).b≤100000:=(h.2.1 k hk).2
theorem Right.upto {l:List Du} (h:Right l) (k:Nat) (hk:k<l.length):1≤(l.getD k du0).a∧(l.getD k du0).a≤10000000:=(h.2.1 k hk).1
theorem Right.rise {l:List Du} (h:Right l) (k:Nat) (hk:k<l.length):low l k<(l.getD k du0).a:=by
 by_cases e:k=0
 ·subst e;rw [low_zero];have:=(h.upto 0 hk).1;omega
 ·unfold low;rw [if_neg e];exact h.2.2.1 k (by omega) hk
theorem Right.low_pos {l:List Du} (h:Right l) (k:Nat) (hk:k≤l.length):0≤low l k:=by
 unfold low;by_cases e:k=0
 ·rw [if_pos e];omega
 ·rw [if_neg e];have:=(h.upto (k - 1) (by omega)).1;omega
theorem Right.low_end {l:List Du} (h:Right l):low l l.length=10000000:=by
 unfold low;rw [if_neg (by have:=h.1.1;omega)];exact h.2.2.2
theorem many_eq {l:List Du} (h:Right l) (x y:Int) (hx:0≤x) (hxy:x≤y) (k:Nat) (hk:k≤l.length):manyK l x y k=max 0 (min (low l k) y - x):=by
 induction k with
 | zero=>unfold manyK;rw [low_zero];omega
 | succ k ih=>
  have h1:=ih (by omega);have h2:=h.rise k (by omega);have h3:=h.low_pos k (by omega);unfold manyK;rw [h1,low_next];unfold ov;omega
theorem many_all {l:List Du} (h:Right l) (x y:Int) (hx:0≤x) (hxy:x≤y) (hy:y≤10000000):manyK l x y l.length=y - x:=by
 rw [many_eq h x y hx hxy _ (Nat.le_refl _),h.low_end];omega
theorem costK_pos {l:List Du} (h:Right l) (x y:Int) (k:Nat) (hk:k≤l.length):0≤costK l x y k:=by
 induction k with
 | zero=>exact Int.le_refl _
 | succ k ih=>
  have h1:=ih (by omega);have h2:=Int.mul_nonneg (ov_pos (low l k) (l.getD k du0).a x y) (show 0≤(l.getD k du0).b by have:=(h.price k (by omega)).1;omega);unfold costK;omega
theorem cost_many {l:List Du} (h:Right l) (x y:Int) (k:Nat) (hk:k≤l.length):manyK l x y k≤costK l x y k∧costK l x y k≤manyK l x y k*100000:=by
 induction k with
 | zero=>exact ⟨Int.le_refl _,Int.le_refl _⟩
 | succ k ih=>
  have h1:=ih (by omega);have h0:=ov_pos (low l k) (l.getD k du0).a x y;have hp:=h.price k (by omega);have h2:ov (low l k) (l.getD k du0).a x y*1≤ov (low l k) (l.getD k du0).a x y*(l.getD k du0).b:=Int.mul_le_mul_of_nonneg_left hp.1 h0;have h3:ov (low l k) (l.getD k du0).a x y*(l.getD k du0).b≤ov (low l k) (l.getD k du0).a x y*100000:=Int.mul_le_mul_of_nonneg_left hp.2 h0;unfold costK manyK;rw [Int.mul_one] at h2;constructor
  ·omega
  ·rw [Int.add_mul];omega
theorem cost_bd {l:List Du} (h:Right l) (x y:Int) (hx:0≤x) (hxy:x≤y) (hy:y≤10000000):y - x≤cost l x y∧cost l x y≤(y - x)*100000:=by
 have:=cost_many h x y l.length (Nat.le_refl _);rw [many_all h x y hx hxy hy] at this;exact this
theorem ov_adds (lo hi x y z:Int) (h:lo≤hi) (h1:x≤y) (h2:y≤z):ov lo hi x z=ov lo hi x y+ov lo hi y z:=by unfold ov;omega
theorem costK_adds {l:List Du} (h:Right l) (x y z:Int) (h1:x≤y) (h2:y≤z) (k:Nat) (hk:k≤l.length):costK l x z k=costK l x y k+costK l y z k:=by
 induction k with
 | zero=>rfl
 | succ k ih=>
  have h3:=ih (by omega);have h4:=h.rise k (by omega);unfold costK;rw [h3,ov_adds _ _ x y z (by omega) h1 h2,Int.add_mul];omega
theorem cost_adds {l:List Du} (h:Right l) (x y z:Int) (h1:x≤y) (h2:y≤z):cost l x z=cost l x y+cost l y z:=costK_adds h x y z h1 h2 _ (Nat.le_refl _)
theorem costK_mono {l:List Du} (h:Right l) (x y:Int) (j k:Nat) (hjk:j≤k) (hk:k≤l.length):costK l x y j≤costK l x y k:=by
 induction k with
 | zero=>
  have:j=0:=by omega
  subst this;exact Int.le_refl _
 | succ k ih=>
  by_cases e:j=k+1
  ·subst e;exact Int.le_refl _
  ·have h1:=ih (by omega) (by omega);have h2:=Int.mul_nonneg (ov_pos (low l k) (l.getD k du0).a x y) (show 0≤(l.getD k du0).b by have:=(h.price k (by omega)).1;omega);rw [costK_next];omega
theorem low_mono {l:List Du} (h:Right l) (j k:Nat) (hjk:j≤k) (hk:k≤l.length):low l j≤low l k:=by
 induction k with
 | zero=>
  have:j=0:=by omega
  subst this;exact Int.le_refl _
 | succ k ih=>
  by_cases e:j=k+1
  ·subst e;exact Int.le_refl _
  ·have h1:=ih (by omega) (by omega);have h2:=h.rise k (by omega);rw [low_next];omega
def billK (l:List Du) (x y:Int):Nat→List Tr
 | 0=>[]
 | k+1=>billK l x y k++(if 0<ov (low l k) (l.getD k du0).a x y then [⟨ov (low l k) (l.getD k du0).a x y,(l.getD k du0).b,ov (low l k) (l.getD k du0).a x y*(l.getD k du0).b⟩] else [])
theorem bill_len (l:List Du) (x y:Int) (k:Nat):(billK l x y k).length≤k:=by
 induction k with
 | zero=>exact Nat.le_refl _
 | succ k ih=>unfold billK;rw [List.length_append];split <;> simp <;> omega
def sumA:List Tr→Int
 | []=>0
 | t :: l=>t.a+sumA l
def sumC:List Tr→Int
 | []=>0
 | t :: l=>t.c+sumC l
theorem sumA_app (l m:List Tr):sumA (l++m)=sumA l+sumA m:=by
 induction l with
 | nil=>simp [sumA]
 | cons t l ih=>simp only [List.cons_append,sumA,ih];omega
theorem sumC_app (l m:List Tr):sumC (l++m)=sumC l+sumC m:=by
 induction l with
 | nil=>simp [sumC]
 | cons t l ih=>simp only [List.cons_append,sumC,ih];omega
theorem bill_sums (l:List Du) (x y:Int) (k:Nat):sumA (billK l x y k)=manyK l x y k∧sumC (billK l x y k)=costK l x y k:=by
 induction k with
 | zero=>exact ⟨rfl,rfl⟩
 | succ k ih=>
  have h0:=ov_pos (low l k) (l.getD k du0).a x y;unfold billK manyK costK;rw [sumA_app,sumC_app,ih.1,ih.2];by_cases h:0<ov (low l k) (l.getD k du0).a x y
  ·rw [if_pos h];simp [sumA,sumC]
  ·have e:ov (low l k) (l.getD k du0).a x y=0:=by omega
   rw [if_neg h,e];simp [sumA,sumC]
def LineOk (t:Tr):Prop:=1≤t.a∧t.a≤10000000∧1≤t.b∧t.b≤100000∧t.c=t.a*t.b
def Top (x:Int):Int:=min 2097151 (10000000 - x)
def MostOf (l:List Du) (x m u:Int):Prop:=(0≤u∧u≤Top x)∧cost l x (x+u)≤m∧(u=Top x∨m<cost l x (x+(u+1)))
theorem MostOf.one {l:List Du} {x m u v:Int} (h:Right l) (hx:0≤x) (a:MostOf l x m u) (b:MostOf l x m v):u=v:=by
 obtain ⟨⟨a1,a2⟩,a3,a4⟩:=a;obtain ⟨⟨b1,b2⟩,b3,b4⟩:=b;rcases Int.lt_trichotomy u v with c | c | c
 ·rcases a4 with a4 | a4
  ·omega
  ·have h1:=cost_adds h x (x+(u+1)) (x+v) (by omega) (by omega);have h2:=cost_bd h (x+(u+1)) (x+v) (by omega) (by omega) (by unfold Top at b2;omega);omega
 ·exact c
 ·rcases b4 with b4 | b4
  ·omega
  ·have h1:=cost_adds h x (x+(v+1)) (x+u) (by omega) (by omega);have h2:=cost_bd h (x+(v+1)) (x+u) (by omega) (by omega) (by unfold Top at a2;omega);omega
def MayMost (x m:Int):Prop:=(0≤x∧x≤10000000)∧0≤m∧m≤1000000000000
def MostIs (l:List Du) (x m:Int) (u p e:Int):Prop:=(¬ Right l∧FaultIs l e∧u=0∧p=0)∨(Right l∧¬ MayMost x m∧e=2∧u=0∧p=0)∨(Right l∧MayMost x m∧e=0∧MostOf l x m u∧p=cost l x (x+u))
theorem prod_bd {o p:Int} (h0:0≤o) (h1:o≤10000000) (h2:1≤p) (h3:p≤100000):0≤o*p∧o*p≤1000000000000:=by
 have a:=Int.mul_nonneg h0 (show 0≤p by omega);have b:o*p≤10000000*100000:=Int.le_trans (Int.mul_le_mul_of_nonneg_left h3 h0) (Int.mul_le_mul_of_nonneg_right h1 (by decide));exact ⟨a,by omega⟩
theorem ov_le (lo hi x y:Int) (h0:0≤lo) (h1:hi≤10000000):ov lo hi x y≤10000000:=by unfold ov;omega
theorem billK_yes (l:List Du) (x y:Int) (k:Nat) (h:0<ov (low l k) (l.getD k du0).a x y):billK l x y (k+1)=billK l x y k++[⟨ov (low l k) (l.getD k du0).a x y,(l.getD k du0).b,ov (low l k) (l.getD k du0).a x y*(l.getD k du0).b⟩]:=by
 unfold billK;rw [if_pos h];cases k <;> rfl
theorem billK_no (l:List Du) (x y:Int) (k:Nat) (h:¬ 0<ov (low l k) (l.getD k du0).a x y):billK l x y (k+1)=billK l x y k:=by
 conv=>lhs;unfold billK
 rw [if_neg h,List.append_nil]
end tar
end Go.Proofs.YtnpblpbohcegoaaGreatDoor
