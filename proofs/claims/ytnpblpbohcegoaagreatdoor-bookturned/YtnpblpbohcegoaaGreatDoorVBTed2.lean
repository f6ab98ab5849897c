import Derived.Test.YtnpblpbohcegoaaGreatDoorVBTed1
set_option linter.unusedVariables false
set_option linter.unusedSimpArgs false
set_option maxHeartbeats 4000000
set_option maxRecDepth 100000
namespace Go.Proofs.YtnpblpbohcegoaaGreatDoor
namespace disk
open cell (Wr wr0 wrt wrt_app wrt_one wrt_len wrt_step set_at list_ext)
def lenAt (c:List Int) (a:Nat):Int:=if a=c.length∨c.getD a 0=0 then 0 else if 64<c.getD a 0 then -1 else if (c.length:Int)≤a+c.getD a 0 then -1 else c.getD a 0
def recAt (c:List Int) (a:Nat):List Int:=(c.drop (a+1)).take (c.getD a 0).toNat
theorem len_pos {c:List Int} {a:Nat} (h:0<lenAt c a):lenAt c a=c.getD a 0∧0<c.getD a 0∧c.getD a 0≤64∧a+c.getD a 0<c.length:=by
 unfold lenAt at h ⊢;by_cases h1:a=c.length∨c.getD a 0=0
 ·rw [if_pos h1] at h;omega
 ·by_cases h2:64<c.getD a 0
  ·rw [if_neg h1,if_pos h2] at h;omega
  ·by_cases h3:(c.length:Int)≤a+c.getD a 0
   ·rw [if_neg h1,if_neg h2,if_pos h3] at h;omega
   ·rw [if_neg h1,if_neg h2,if_neg h3] at h ⊢;exact ⟨rfl,h,by omega,by omega⟩
theorem len_of {c:List Int} {a:Nat} (h0:0<c.getD a 0) (h1:c.getD a 0≤64) (h2:a+c.getD a 0<c.length):lenAt c a=c.getD a 0:=by
 unfold lenAt;rw [if_neg (by omega),if_neg (by omega),if_neg (by omega)]
def stepD (c:List Int) (s:List (List Int) × Nat):List (List Int) × Nat:=if 0<lenAt c s.2 then (s.1++[recAt c s.2],s.2+(lenAt c s.2).toNat+1) else s
def itD (c:List Int):Nat→List (List Int) × Nat
 | 0=>([],0)
 | k+1=>stepD c (itD c k)
theorem it_live {c:List Int} {k:Nat} (h:0<lenAt c (itD c k).2):itD c (k+1)=((itD c k).1++[recAt c (itD c k).2],(itD c k).2+(lenAt c (itD c k).2).toNat+1):=by
 show stepD c (itD c k)=_;unfold stepD;rw [if_pos h]
theorem it_dead {c:List Int} {k:Nat} (h:¬ 0<lenAt c (itD c k).2):∀ m,itD c (k+m)=itD c k
 | 0=>rfl
 | m+1=>by
  show stepD c (itD c (k+m))=_;rw [it_dead h m];unfold stepD;rw [if_neg h]
theorem it_bound (c:List Int) (k:Nat):(itD c k).2≤c.length∧((∀ i,i<k→0<lenAt c (itD c i).2)→k≤(itD c k).2):=by
 induction k with
 | zero=>exact ⟨Nat.zero_le _,fun _=>Nat.le_refl _⟩
 | succ k ih=>
  by_cases h:0<lenAt c (itD c k).2
  ·rw [it_live h];obtain ⟨e,p0,p1,p2⟩:=len_pos h;refine ⟨by show (itD c k).2+_+1≤_;omega,fun hl=>?_⟩;have:=ih.2 fun i hi=>hl i (by omega);show k+1≤(itD c k).2+_+1;omega
  ·rw [it_dead h 1];exact ⟨ih.1,fun hl=>absurd (hl k (by omega)) h⟩
theorem it_mono (c:List Int) (k m:Nat):(itD c k).2≤(itD c (k+m)).2:=by
 induction m with
 | zero=>exact Nat.le_refl _
 | succ m ih=>
  refine Nat.le_trans ih ?_;show _≤(stepD c (itD c (k+m))).2;unfold stepD;by_cases h:0<lenAt c (itD c (k+m)).2
  ·rw [if_pos h];show _≤(itD c (k+m)).2+_+1;omega
  ·rw [if_neg h];exact Nat.le_refl _
def repD (c:List Int):List (List Int) × Nat:=itD c (c.length+1)
theorem rep_dead (c:List Int):¬ 0<lenAt c (repD c).2:=fun h=>by
 have all:∀ i,i<c.length+1→0<lenAt c (itD c i).2:=fun i hi=>by
  refine Classical.byContradiction fun hn=>?_;have e:=it_dead hn (c.length+1 - i);rw [show i+(c.length+1 - i)=c.length+1 by omega] at e;unfold repD at h;rw [e] at h;exact hn h
 have:=(it_bound c (c.length+1)).2 all;have:=(it_bound c (c.length+1)).1;omega
theorem rep_of {c:List Int} {k:Nat} (h:¬ 0<lenAt c (itD c k).2):repD c=itD c k:=by
 by_cases hk:k≤c.length+1
 ·have e:=it_dead h (c.length+1 - k);rw [show k+(c.length+1 - k)=c.length+1 by omega] at e;exact e
 ·have e:=it_dead (rep_dead c) (k - (c.length+1));rw [show c.length+1+(k - (c.length+1))=k by omega] at e;exact e.symm
def May (c:List Int):Prop:=1≤c.length∧c.length≤2048
def RepIs (c:List Int) (out:List (List Int)) (e:Int) (f:Int):Prop:=
 (¬ May c∧out=[]∧e=0∧f=1)∨(May c∧lenAt c (repD c).2<0∧out=[]∧e=0∧f=3)∨(May c∧lenAt c (repD c).2=0∧out=(repD c).1∧e=((repD c).2:Int)∧f=0)
theorem RepIs.one {c:List Int} {o o':List (List Int)} {e e' f f':Int} (h:RepIs c o e f) (h':RepIs c o' e' f'):o=o'∧e=e'∧f=f':=by
 rcases h with ⟨a,rfl,rfl,rfl⟩ | ⟨a,b,rfl,rfl,rfl⟩ | ⟨a,b,rfl,rfl,rfl⟩ <;> rcases h' with ⟨a',rfl,rfl,rfl⟩ | ⟨a',b',rfl,rfl,rfl⟩ | ⟨a',b',rfl,rfl,rfl⟩ <;> first | exact ⟨rfl,rfl,rfl⟩ | contradiction | omega
def putW (at_:Nat) (rec:List Int):Nat→List Wr
 | 0=>[]
 | k+1=>putW at_ rec k++[⟨((at_+k+1:Nat):Int),rec.getD k 0⟩]
def zeroW (c:List Int) (p:Nat):List Wr:=if p<c.length then [⟨(p:Int),0⟩] else []
def appW (c:List Int) (a:Nat) (rec:List Int):List Wr:=putW a rec rec.length++(zeroW c (a+rec.length+1)++[⟨(a:Int),(rec.length:Int)⟩])
def RMay (r:List Int):Prop:=1≤r.length∧r.length≤64
def AppIs (c rec:List Int) (ls:List Wr) (f:Int):Prop:=
 (¬ RMay rec∧ls=[]∧f=1)∨(RMay rec∧¬ May c∧ls=[]∧f=1)∨(RMay rec∧May c∧lenAt c (repD c).2<0∧ls=[]∧f=3) ∨
 (RMay rec∧May c∧lenAt c (repD c).2=0∧c.length≤(repD c).2+rec.length∧ls=[]∧f=16)∨(RMay rec∧May c∧lenAt c (repD c).2=0∧(repD c).2+rec.length<c.length∧ls=appW c (repD c).2 rec∧f=0)
theorem rec_same {c d:List Int} (hl:c.length=d.length) {a e:Nat} (h:∀ j,j<e→c.getD j 0=d.getD j 0) (ha:a<e) (hb:a+(c.getD a 0).toNat+1≤e):recAt c a=recAt d a:=by
 unfold recAt;rw [← h a ha];generalize (c.getD a 0).toNat=n at hb ⊢;refine list_ext (by simp [hl]) fun j hj=>?_;have hj':j<n:=by simp at hj;omega
 have:=h (a+1+j) (by omega);simpa [List.getD,List.getElem?_take,List.getElem?_drop,hj'] using this
theorem len_same {c d:List Int} (hl:c.length=d.length) {a:Nat} (h:c.getD a 0=d.getD a 0):lenAt c a=lenAt d a:=by
 unfold lenAt;rw [h,hl]
theorem it_same {c d:List Int} (hl:c.length=d.length) {K:Nat} (h:∀ j,j<(itD c K).2→c.getD j 0=d.getD j 0):∀ k,k≤K→(∀ i,i<k→0<lenAt c (itD c i).2)→itD d k=itD c k
 | 0,_,_=>rfl
 | k+1,hk,hv=>by
  have ih:=it_same hl h k (by omega) fun i hi=>hv i (by omega);have hp:=hv k (by omega);obtain ⟨e,p0,p1,p2⟩:=len_pos hp;have hm:=it_mono c (k+1) (K - (k+1));rw [show k+1+(K - (k+1))=K by omega,it_live hp] at hm;have hm':(itD c k).2+(lenAt c (itD c k).2).toNat+1≤(itD c K).2:=hm;have hlt:(itD c k).2<(itD c K).2:=by omega
  have e1:=len_same hl (h _ hlt);have e2:=rec_same hl h hlt (by rw [e] at hm';exact hm');have hq:0<lenAt d (itD d k).2:=by rw [ih,← e1];exact hp
  rw [it_live hp,it_live hq,ih,← e1,← e2]
theorem first_dead (c:List Int):∃ K,(∀ i,i<K→0<lenAt c (itD c i).2)∧¬ 0<lenAt c (itD c K).2:=by
 have h0:∃ K,¬ 0<lenAt c (itD c K).2:=⟨c.length+1,rep_dead c⟩
 have step:∀ n,(∃ K,K≤n∧(∀ i,i<K→0<lenAt c (itD c i).2)∧¬ 0<lenAt c (itD c K).2)∨(∀ i,i≤n→0<lenAt c (itD c i).2):=fun n=>by
  induction n with
  | zero=>
   by_cases h:0<lenAt c (itD c 0).2
   ·exact .inr fun i hi=>by
     obtain rfl:i=0:=by omega
     exact h
   ·exact .inl ⟨0,Nat.le_refl _,fun i hi=>by omega,h⟩
  | succ n ih=>
   rcases ih with ⟨K,hk,ha,hb⟩ | ha
   ·exact .inl ⟨K,by omega,ha,hb⟩
   ·by_cases h:0<lenAt c (itD c (n+1)).2
    ·exact .inr fun i hi=>by
      by_cases hi':i=n+1
      ·rw [hi'];exact h
      ·exact ha i (by omega)
    ·exact .inl ⟨n+1,Nat.le_refl _,fun i hi=>ha i (by omega),h⟩
 obtain ⟨K,hK⟩:=h0;rcases step K with ⟨K',_,ha,hb⟩ | ha
 ·exact ⟨K',ha,hb⟩
 ·exact absurd (ha K (Nat.le_refl _)) hK
theorem rep_bound (c:List Int):(repD c).2≤c.length:=(it_bound c _).1
theorem rep_keep {c d:List Int} (hl:c.length=d.length) (h:∀ j,j≤(repD c).2→c.getD j 0=d.getD j 0):repD d=repD c∧lenAt d (repD c).2=lenAt c (repD c).2:=by
 obtain ⟨K,ha,hb⟩:=first_dead c;have e:=rep_of hb;rw [e] at h ⊢;have e1:=it_same hl (K:=K) (fun j hj=>h j (by omega)) K (Nat.le_refl _) ha;have e2:=(len_same hl (h _ (Nat.le_refl _))).symm;refine ⟨?_,e2⟩;rw [rep_of (k:=K) (by rw [e1,e2];exact hb),e1]
theorem rep_more {c d:List Int} (hl:c.length=d.length) (h:∀ j,j<(repD c).2→c.getD j 0=d.getD j 0) {r:List Int} (hr:RMay r) (h1:d.getD (repD c).2 0=(r.length:Int)) (h2:recAt d (repD c).2=r) (hf:(repD c).2+r.length<c.length) (h3:lenAt d ((repD c).2+r.length+1)=0) :
  repD d=((repD c).1++[r],(repD c).2+r.length+1):=by
 obtain ⟨K,ha,hb⟩:=first_dead c;have e:=rep_of hb;rw [e] at h h1 h2 hf h3 ⊢;have e1:=it_same hl (K:=K) h K (Nat.le_refl _) ha;have hp:lenAt d (itD c K).2=(r.length:Int):=by rw [len_of (by rw [h1];have:=hr.1;omega) (by rw [h1];have:=hr.2;omega) (by rw [h1];omega),h1]
 have hq:itD d (K+1)=((itD c K).1++[r],(itD c K).2+r.length+1):=by
  rw [it_live (by rw [e1,hp];have:=hr.1;omega),e1,h2,hp];rfl
 rw [rep_of (k:=K+1) (by rw [hq];show ¬ 0<lenAt d _;rw [h3];omega),hq]
theorem put_at (c rec:List Int) (a k:Nat) (hk:a+k<c.length):∀ j,(wrt c (putW a rec k)).getD j 0=if a<j∧j≤a+k then rec.getD (j - a - 1) 0 else c.getD j 0:=by
 induction k with
 | zero=>intro j;rw [if_neg (by omega)];rfl
 | succ k ih=>
  intro j;rw [putW,wrt_app,wrt_one,set_at,wrt_len];show (if j=((a+k+1:Nat):Int).toNat∧((a+k+1:Nat):Int).toNat<c.length then rec.getD k 0 else _)=_;rw [Int.toNat_natCast];by_cases hj:j=a+k+1
  ·rw [if_pos ⟨hj,by omega⟩,if_pos ⟨by omega,by omega⟩,show j - a - 1=k by omega]
  ·rw [if_neg (by omega),ih (by omega)];by_cases h2:a<j∧j≤a+k
   ·rw [if_pos h2,if_pos ⟨h2.1,by omega⟩]
   ·rw [if_neg h2,if_neg (by omega)]
theorem put_len (a:Nat) (rec:List Int) (k:Nat):(putW a rec k).length=k:=by
 induction k with
 | zero=>rfl
 | succ k ih=>rw [putW,List.length_append,ih];rfl
theorem put_take (a:Nat) (rec:List Int) {k n:Nat} (h:k≤n):(putW a rec n).take k=putW a rec k:=by
 induction n with
 | zero=>
  obtain rfl:k=0:=by omega
  rfl
 | succ n ih=>
  by_cases hk:k=n+1
  ·rw [hk,List.take_of_length_le (by rw [put_len];omega)]
  ·rw [putW,List.take_append_of_le_length (by rw [put_len];omega),ih (by omega)]
theorem zero_at (c d:List Int) (hl:c.length=d.length) (p:Nat) (j:Nat):(wrt d (zeroW c p)).getD j 0=if j=p∧p<c.length then 0 else d.getD j 0:=by
 unfold zeroW;by_cases h:p<c.length
 ·rw [if_pos h,wrt_one,set_at,Int.toNat_natCast,← hl]
 ·rw [if_neg h,if_neg (by omega)];rfl
theorem app_len (c:List Int) (a:Nat) (r:List Int):(appW c a r).length=r.length+(if a+r.length+1<c.length then 2 else 1):=by
 unfold appW zeroW;rw [List.length_append,put_len];split <;> rfl
theorem app_cut (c r:List Int) (a k:Nat) (hf:a+r.length<c.length) (hk:k<(appW c a r).length) (j:Nat) (hj:j≤a):(wrt c ((appW c a r).take k)).getD j 0=c.getD j 0:=by
 have hk':k<r.length+((zeroW c (a+r.length+1)).length+1):=by unfold appW at hk;rw [List.length_append,List.length_append,put_len] at hk;exact hk
 have e:(appW c a r).take k=(putW a r r.length++zeroW c (a+r.length+1)).take k:=by
  unfold appW;rw [← List.append_assoc,List.take_append_of_le_length (by rw [List.length_append,put_len];omega)]
 rw [e];by_cases h1:k≤r.length
 ·rw [List.take_append_of_le_length (by rw [put_len];exact h1),put_take a r h1,put_at c r a k (by omega),if_neg (by omega)]
 ·rw [List.take_of_length_le (by rw [List.length_append,put_len];unfold zeroW at hk' ⊢;split <;> simp_all <;> omega),wrt_app,zero_at c _ (by rw [wrt_len]),if_neg (by omega),put_at c r a _ hf,if_neg (by omega)]
theorem app_all (c r:List Int) (a:Nat) (hf:a+r.length<c.length) (j:Nat):(wrt c (appW c a r)).getD j 0=if j=a then (r.length:Int) else if a<j∧j≤a+r.length then r.getD (j - a - 1) 0 else if j=a+r.length+1∧a+r.length+1<c.length then 0 else c.getD j 0:=by
 unfold appW;rw [wrt_app,wrt_app,wrt_one,set_at,wrt_len,wrt_len];show (if j=(a:Int).toNat∧(a:Int).toNat<c.length then _ else _)=_;rw [Int.toNat_natCast];by_cases h:j=a
 ·rw [if_pos ⟨h,by omega⟩,if_pos h]
 ·rw [if_neg (by omega),if_neg h,zero_at c _ (by rw [wrt_len])];by_cases h1:j=a+r.length+1∧a+r.length+1<c.length
  ·rw [if_pos h1,if_neg (by omega),if_pos h1]
  ·rw [if_neg h1,put_at c r a _ hf];by_cases h2:a<j∧j≤a+r.length
   ·rw [if_pos h2,if_pos h2]
   ·rw [if_neg h2,if_neg h2,if_neg h1]
def Tape (c:List Int) (l:List (List Int)) (e:Nat):Prop:=May c∧repD c=(l,e)∧lenAt c e=0
theorem Tape.cut {c:List Int} {l:List (List Int)} {e:Nat} (h:Tape c l e) {r:List Int} (hf:e+r.length<c.length) {k:Nat} (hk:k<(appW c e r).length):Tape (wrt c ((appW c e r).take k)) l e:=by
 obtain ⟨hm,hr,hl⟩:=h;have e2:(repD c).2=e:=by rw [hr]
 obtain ⟨a,b⟩:=rep_keep (c:=c) (d:=wrt c ((appW c e r).take k)) (by rw [wrt_len]) (fun j hj=>(app_cut c r e k hf hk j (by omega)).symm);exact ⟨by unfold May;rw [wrt_len];exact hm,by rw [a,hr],by rw [e2] at b;rw [b];exact hl⟩
theorem Tape.all {c:List Int} {l:List (List Int)} {e:Nat} (h:Tape c l e) {r:List Int} (hr:RMay r) (hf:e+r.length<c.length):Tape (wrt c (appW c e r)) (l++[r]) (e+r.length+1):=by
 obtain ⟨hm,hrep,hl⟩:=h;have e2:(repD c).2=e:=by rw [hrep]
 have e1:(repD c).1=l:=by rw [hrep]
 have at0:=app_all c r e hf;have hlen:(wrt c (appW c e r)).length=c.length:=wrt_len _ _;have h0:(wrt c (appW c e r)).getD e 0=(r.length:Int):=by rw [at0,if_pos rfl]
 have h3:lenAt (wrt c (appW c e r)) (e+r.length+1)=0:=by
  unfold lenAt;rw [hlen];by_cases hz:e+r.length+1=c.length
  ·rw [if_pos (.inl hz)]
  ·rw [if_pos (.inr (by rw [at0,if_neg (by omega),if_neg (by omega),if_pos ⟨rfl,by omega⟩]))]
 have h2:recAt (wrt c (appW c e r)) e=r:=by
  unfold recAt;rw [h0,Int.toNat_natCast];refine list_ext (by rw [List.length_take,List.length_drop,hlen];omega) fun j hj=>?_;have hj':j<r.length:=by rw [List.length_take] at hj;omega
  have q:=at0 (e+1+j);rw [if_neg (by omega),if_pos ⟨by omega,by omega⟩,show e+1+j - e - 1=j by omega] at q;rw [← q];simp [List.getD,List.getElem?_drop,hj']
 have:=rep_more (c:=c) (d:=wrt c (appW c e r)) hlen.symm (fun j hj=>by rw [at0,if_neg (by omega),if_neg (by omega),if_neg (by omega)]) hr (by rw [e2];exact h0) (by rw [e2];exact h2) (by rw [e2];exact hf) (by rw [e2];exact h3);rw [e1,e2] at this;exact ⟨by unfold May;rw [hlen];exact hm,this,h3⟩
theorem Tape.app {c:List Int} {l:List (List Int)} {e:Nat} (h:Tape c l e) {r:List Int} {ls:List Wr} {f:Int} (ha:AppIs c r ls f) (hr:RMay r):(e+r.length<c.length∧ls=appW c e r∧f=0)∨(c.length≤e+r.length∧ls=[]∧f=16):=by
 obtain ⟨hm,hrep,hl⟩:=h;have e2:(repD c).2=e:=by rw [hrep]
 unfold AppIs at ha;rw [e2,hl] at ha;rcases ha with ⟨a,_⟩ | ⟨_,a,_⟩ | ⟨_,_,a,_⟩ | ⟨_,_,_,a,b,c⟩ | ⟨_,_,_,a,b,c⟩
 ·exact absurd hr a
 ·exact absurd hm a
 ·omega
 ·exact .inr ⟨a,b,c⟩
 ·exact .inl ⟨a,b,c⟩
theorem Tape.rep {c:List Int} {l o:List (List Int)} {e:Nat} {x f:Int} (h:Tape c l e) (hr:RepIs c o x f):o=l∧x=(e:Int)∧f=0:=by
 obtain ⟨hm,hrep,hl⟩:=h;refine hr.one (.inr (.inr ⟨hm,by rw [hrep];exact hl,by rw [hrep],by rw [hrep],rfl⟩))
theorem Tape.blank {n:Nat} (h0:1≤n) (h1:n≤2048):Tape (List.replicate n 0) [] 0:=by
 have hz:lenAt (List.replicate n 0) 0=0:=by
  unfold lenAt;rw [if_pos (.inr (by simp [List.getD,List.getElem?_replicate];split <;> rfl))]
 have e:repD (List.replicate n 0)=([],0):=rep_of (k:=0) (by show ¬ 0<lenAt _ 0;rw [hz];omega);exact ⟨⟨by simpa using h0,by simpa using h1⟩,e,hz⟩
end disk
namespace tar
structure Du where
 a:Int
 b:Int
def du0:Du:=⟨0,0⟩
structure Tr where
 a:Int
 b:Int
 c:Int
def tr0:Tr:=⟨0,0,0⟩
theorem take_one (l:List Du) (k:Nat) (h:k<l.length):l.take (k+1)=l.take k++[l.getD k du0]:=by
 rw [List.take_succ_eq_append_getElem h];simp [List.getD,List.getElem?_eq_getElem h]
def low (l:List Du) (k:Nat):Int:=if k=0 then 0 else (l.getD (k - 1) du0).a
theorem low_next (l:List Du) (k:Nat):low l (k+1)=(l.getD k du0).a:=rfl
theorem low_zero (l:List Du):low l 0=0:=rfl
def Fits (l:List Du):Prop:=∀ i,i<l.length→(1≤(l.getD i du0).a∧(l.getD i du0).a≤10000000)∧1≤(l.getD i du0).b∧(l.getD i du0).b≤100000
def Rises (l:List Du):Prop:=∀ i,1≤i→i<l.length→(l.getD (i - 1) du0).a<(l.getD i du0).a
def Sized (l:List Du):Prop:=1≤l.length∧l.length≤8
def Ends (l:List Du):Prop:=(l.getD (l.length - 1) du0).a=10000000
def Right (l:List Du):Prop:=Sized l∧Fits l∧Rises l∧Ends l
def FaultIs (l:List Du) (e:Int):Prop:=(¬ Sized l∧e=1)∨(Sized l∧¬ Fits l∧e=2)∨(Sized l∧Fits l∧¬ (Rises l∧Ends l)∧e=3)∨(Right l∧e=0)
theorem FaultIs.one {l:List Du} {e f:Int} (h:FaultIs l e) (h':FaultIs l f):e=f:=by
 rcases h with ⟨a,rfl⟩ | ⟨a,b,rfl⟩ | ⟨a,b,c,rfl⟩ | ⟨⟨a,b,c⟩,rfl⟩ <;> rcases h' with ⟨a',rfl⟩ | ⟨a',b',rfl⟩ | ⟨a',b',c',rfl⟩ | ⟨⟨a',b',c'⟩,rfl⟩ <;> first | rfl | contradiction
theorem FaultIs.ok {l:List Du} {e:Int} (h:FaultIs l e):e=0↔Right l:=by
 rcases h with ⟨a,rfl⟩ | ⟨a,b,rfl⟩ | ⟨a,b,c,rfl⟩ | ⟨h,rfl⟩
 ·exact ⟨fun h=>absurd h (by decide),fun h=>absurd h.1 a⟩
 ·exact ⟨fun h=>absurd h (by decide),fun h=>absurd h.2.1 b⟩
 ·exact ⟨fun h=>absurd h (by decide),fun h=>absurd h.2.2 c⟩
 ·exact ⟨fun _=>h,fun _=>rfl⟩
def ov (lo hi x y:Int):Int:=max 0 (min hi y - max lo x)
theorem ov_pos (lo hi x y:Int):0≤ov lo hi x y:=by unfold ov;omega
def costK (l:List Du) (x y:Int):Nat→Int
 | 0=>0
 | k+1=>costK l x y k+ov (low l k) (l.getD k du0).a x y*(l.getD k du0).b
def cost (l:List Du) (x y:Int):Int:=costK l x y l.length
theorem costK_next (l:List Du) (x y:Int) (k:Nat):costK l x y (k+1)=costK l x y k+ov (low l k) (l.getD k du0).a x y*(l.getD k du0).b:=rfl
def manyK (l:List Du) (x y:Int):Nat→Int
 | 0=>0
 | k+1=>manyK l x y k+ov (low l k) (l.getD k du0).a x y
theorem Right.price {l:List Du} (h:Right l) (k:Nat) (hk:k<l.length):1≤(l.getD k du0).b∧(l.getD k du0).b≤100000:=(h.2.1 k hk).2
theorem Right.upto {l:List Du} (h:Right l) (k:Nat) (hk:k<l.length):1≤(l.getD k du0).a∧(l.getD k du0).a≤10000000:=(h.2.1 k hk).1
theorem Right.rise {l:List Du} (h:Right l) (k:Nat) (hk:k<l.length):low l k<(l.getD k du0).a:=by
 by_cases e:k=0
 ·subst e;rw [low_zero];have:=(h.upto 0 hk).1;omega
 ·unfold low;rw [if_neg e];exact h.2.2.1 k (by omega) hk
theorem Right.low_pos {l:List Du} (h:Right l) (k:Nat) (hk:k≤l.length):0≤low l k:=by
 unfold low;by_cases e:k=0
 ·rw [if_pos e];omega
 ·rw [if_neg e];have:=(h.upto (k - 1) (by omega)).1;omega
theorem Right.low_end {l:List Du} (h:Right l):low l l.length=10000000:=by
 unfold low;rw [if_neg (by have:=h.1.1;omega)];exact h.2.2.2
theorem many_eq {l:List Du} (h:Right l) (x y:Int) (hx:0≤x) (hxy:x≤y) (k:Nat) (hk:k≤l.length):manyK l x y k=max 0 (min (low l k) y - x):=by
 induction k with
 | zero=>unfold manyK;rw [low_zero];omega
 | succ k ih=>
  have h1:=ih (by omega);have h2:=h.rise k (by omega);have h3:=h.low_pos k (by omega);unfold manyK;rw [h1,low_next];unfold ov;omega
theorem many_all {l:List Du} (h:Right l) (x y:Int) (hx:0≤x) (hxy:x≤y) (hy:y≤10000000):manyK l x y l.length=y - x:=by
 rw [many_eq h x y hx hxy _ (Nat.le_refl _),h.low_end];omega
theorem costK_pos {l:List Du} (h:Right l) (x y:Int) (k:Nat) (hk:k≤l.length):0≤costK l x y k:=by
 induction k with
 | zero=>exact Int.le_refl _
 | succ k ih=>
  have h1:=ih (by omega);have h2:=Int.mul_nonneg (ov_pos (low l k) (l.getD k du0).a x y) (show 0≤(l.getD k du0).b by have:=(h.price k (by omega)).1;omega);unfold costK;omega
theorem cost_many {l:List Du} (h:Right l) (x y:Int) (k:Nat) (hk:k≤l.length):manyK l x y k≤costK l x y k∧costK l x y k≤manyK l x y k*100000:=by
 induction k with
 | zero=>exact ⟨Int.le_refl _,Int.le_refl _⟩
 | succ k ih=>
  have h1:=ih (by omega);have h0:=ov_pos (low l k) (l.getD k du0).a x y;have hp:=h.price k (by omega);have h2:ov (low l k) (l.getD k du0).a x y*1≤ov (low l k) (l.getD k du0).a x y*(l.getD k du0).b:=Int.mul_le_mul_of_nonneg_left hp.1 h0;have h3:ov (low l k) (l.getD k du0).a x y*(l.getD k du0).b≤ov (low l k) (l.getD k du0).a x y*100000:=Int.mul_le_mul_of_nonneg_left hp.2 h0;unfold costK manyK;rw [Int.mul_one] at h2;constructor
  ·omega
  ·rw [Int.add_mul];omega
theorem cost_bd {l:List Du} (h:Right l) (x y:Int) (hx:0≤x) (hxy:x≤y) (hy:y≤10000000):y - x≤cost l x y∧cost l x y≤(y - x)*100000:=by
 have:=cost_many h x y l.length (Nat.le_refl _);rw [many_all h x y hx hxy hy] at this;exact this
theorem ov_adds (lo hi x y z:Int) (h:lo≤hi) (h1:x≤y) (h2:y≤z):ov lo hi x z=ov lo hi x y+ov lo hi y z:=by unfold ov;omega
theorem costK_adds {l:List Du} (h:Right l) (x y z:Int) (h1:x≤y) (h2:y≤z) (k:Nat) (hk:k≤l.length):costK l x z k=costK l x y k+costK l y z k:=by
 induction k with
 | zero=>rfl
 | succ k ih=>
  have h3:=ih (by omega);have h4:=h.rise k (by omega);unfold costK;rw [h3,ov_adds _ _ x y z (by omega) h1 h2,Int.add_mul];omega
theorem cost_adds {l:List Du} (h:Right l) (x y z:Int) (h1:x≤y) (h2:y≤z):cost l x z=cost l x y+cost l y z:=costK_adds h x y z h1 h2 _ (Nat.le_refl _)
theorem costK_mono {l:List Du} (h:Right l) (x y:Int) (j k:Nat) (hjk:j≤k) (hk:k≤l.length):costK l x y j≤costK l x y k:=by
 induction k with
 | zero=>
  have:j=0:=by omega
  subst this;exact Int.le_refl _
 | succ k ih=>
  by_cases e:j=k+1
  ·subst e;exact Int.le_refl _
  ·have h1:=ih (by omega) (by omega);have h2:=Int.mul_nonneg (ov_pos (low l k) (l.getD k du0).a x y) (show 0≤(l.getD k du0).b by have:=(h.price k (by omega)).1;omega);rw [costK_next];omega
theorem low_mono {l:List Du} (h:Right l) (j k:Nat) (hjk:j≤k) (hk:k≤l.length):low l j≤low l k:=by
 induction k with
 | zero=>
  have:j=0:=by omega
  subst this;exact Int.le_refl _
 | succ k ih=>
  by_cases e:j=k+1
  ·subst e;exact Int.le_refl _
  ·have h1:=ih (by omega) (by omega);have h2:=h.rise k (by omega);rw [low_next];omega
def billK (l:List Du) (x y:Int):Nat→List Tr
 | 0=>[]
 | k+1=>billK l x y k++(if 0<ov (low l k) (l.getD k du0).a x y then [⟨ov (low l k) (l.getD k du0).a x y,(l.getD k du0).b,ov (low l k) (l.getD k du0).a x y*(l.getD k du0).b⟩] else [])
theorem bill_len (l:List Du) (x y:Int) (k:Nat):(billK l x y k).length≤k:=by
 induction k with
 | zero=>exact Nat.le_refl _
 | succ k ih=>unfold billK;rw [List.length_append];split <;> simp <;> omega
def sumA:List Tr→Int
 | []=>0
 | t :: l=>t.a+sumA l
def sumC:List Tr→Int
 | []=>0
 | t :: l=>t.c+sumC l
theorem sumA_app (l m:List Tr):sumA (l++m)=sumA l+sumA m:=by
 induction l with
 | nil=>simp [sumA]
 | cons t l ih=>simp only [List.cons_append,sumA,ih];omega
theorem sumC_app (l m:List Tr):sumC (l++m)=sumC l+sumC m:=by
 induction l with
 | nil=>simp [sumC]
 | cons t l ih=>simp only [List.cons_append,sumC,ih];omega
theorem bill_sums (l:List Du) (x y:Int) (k:Nat):sumA (billK l x y k)=manyK l x y k∧sumC (billK l x y k)=costK l x y k:=by
 induction k with
 | zero=>exact ⟨rfl,rfl⟩
 | succ k ih=>
  have h0:=ov_pos (low l k) (l.getD k du0).a x y;unfold billK manyK costK;rw [sumA_app,sumC_app,ih.1,ih.2];by_cases h:0<ov (low l k) (l.getD k du0).a x y
  ·rw [if_pos h];simp [sumA,sumC]
  ·have e:ov (low l k) (l.getD k du0).a x y=0:=by omega
   rw [if_neg h,e];simp [sumA,sumC]
def LineOk (t:Tr):Prop:=1≤t.a∧t.a≤10000000∧1≤t.b∧t.b≤100000∧t.c=t.a*t.b
def Top (x:Int):Int:=min 2097151 (10000000 - x)
def MostOf (l:List Du) (x m u:Int):Prop:=(0≤u∧u≤Top x)∧cost l x (x+u)≤m∧(u=Top x∨m<cost l x (x+(u+1)))
theorem MostOf.one {l:List Du} {x m u v:Int} (h:Right l) (hx:0≤x) (a:MostOf l x m u) (b:MostOf l x m v):u=v:=by
 obtain ⟨⟨a1,a2⟩,a3,a4⟩:=a;obtain ⟨⟨b1,b2⟩,b3,b4⟩:=b;rcases Int.lt_trichotomy u v with c | c | c
 ·rcases a4 with a4 | a4
  ·omega
  ·have h1:=cost_adds h x (x+(u+1)) (x+v) (by omega) (by omega);have h2:=cost_bd h (x+(u+1)) (x+v) (by omega) (by omega) (by unfold Top at b2;omega);omega
 ·exact c
 ·rcases b4 with b4 | b4
  ·omega
  ·have h1:=cost_adds h x (x+(v+1)) (x+u) (by omega) (by omega);have h2:=cost_bd h (x+(v+1)) (x+u) (by omega) (by omega) (by unfold Top at a2;omega);omega
def MayMost (x m:Int):Prop:=(0≤x∧x≤10000000)∧0≤m∧m≤1000000000000
def MostIs (l:List Du) (x m:Int) (u p e:Int):Prop:=(¬ Right l∧FaultIs l e∧u=0∧p=0)∨(Right l∧¬ MayMost x m∧e=2∧u=0∧p=0)∨(Right l∧MayMost x m∧e=0∧MostOf l x m u∧p=cost l x (x+u))
theorem prod_bd {o p:Int} (h0:0≤o) (h1:o≤10000000) (h2:1≤p) (h3:p≤100000):0≤o*p∧o*p≤1000000000000:=by
 have a:=Int.mul_nonneg h0 (show 0≤p by omega);have b:o*p≤10000000*100000:=Int.le_trans (Int.mul_le_mul_of_nonneg_left h3 h0) (Int.mul_le_mul_of_nonneg_right h1 (by decide));exact ⟨a,by omega⟩
theorem ov_le (lo hi x y:Int) (h0:0≤lo) (h1:hi≤10000000):ov lo hi x y≤10000000:=by unfold ov;omega
theorem billK_yes (l:List Du) (x y:Int) (k:Nat) (h:0<ov (low l k) (l.getD k du0).a x y):billK l x y (k+1)=billK l x y k++[⟨ov (low l k) (l.getD k du0).a x y,(l.getD k du0).b,ov (low l k) (l.getD k du0).a x y*(l.getD k du0).b⟩]:=by
 unfold billK;rw [if_pos h];cases k <;> rfl
theorem billK_no (l:List Du) (x y:Int) (k:Nat) (h:¬ 0<ov (low l k) (l.getD k du0).a x y):billK l x y (k+1)=billK l x y k:=by
 conv=>lhs;unfold billK
 rw [if_neg h,List.append_nil]
open Go.RowKit
def RowD (w:World) (a:Option Addr) (len:Nat) (ls:List Du):Prop:=
 ls.length=len∧(len=0∨∃ b off,a=some ⟨b,off,none⟩∧∀ i,i<len→w.cell? ⟨b,off+i*2,none⟩=some (zI (ls.getD i du0).a)∧w.cell? ⟨b,off+i*2+1,none⟩=some (zI (ls.getD i du0).b))
theorem RowD.below {w w':World} {a:Option Addr} {n:Nat} {zs:List Du} (h:RowD w a n zs) (hb:Below w.heap.size w w'):RowD w' a n zs:=by
 refine ⟨h.1,?_⟩;rcases h.2 with h0 | ⟨b,off,rfl,hc⟩
 ·exact .inl h0
 ·refine .inr ⟨b,off,rfl,fun i hi=>?_⟩;have h1:=hc i hi;rw [hb.cell (p:=⟨b,off+i*2,none⟩) (World.block_lt_of_cell? w _ h1.1),hb.cell (p:=⟨b,off+i*2+1,none⟩) (World.block_lt_of_cell? w _ h1.2)];exact h1
theorem RowD.nil (w:World) (a:Option Addr):RowD w a 0 []:=⟨rfl,.inl rfl⟩
theorem RowD.at {w:World} {a:Option Addr} {n:Nat} {zs:List Du} (h:RowD w a n zs) (h0:0<n):∃ b off,a=some ⟨b,off,none⟩∧b<w.heap.size∧∀ i,i<n→w.cell? ⟨b,off+i*2,none⟩=some (zI (zs.getD i du0).a)∧w.cell? ⟨b,off+i*2+1,none⟩=some (zI (zs.getD i du0).b):=by
 rcases h.2 with h1 | ⟨b,off,rfl,hc⟩
 ·omega
 ·exact ⟨b,off,rfl,World.block_lt_of_cell? w _ (hc 0 h0).1,hc⟩
theorem rowD_of {w:World} {a:Addr} {m len:Nat} (hl:len≤m)
  (h:∀ j,j<m→∃ z0 z1,w.cell? (a.add (j*2))=some (zI z0)∧w.cell? (a.add (j*2+1))=some (zI z1)∧(Lit.int .i64 z0).wf=true∧(Lit.int .i64 z1).wf=true) :
  ∃ zs:List Du,RowD w (some a) len zs∧∀ x∈zs,(Lit.int .i64 x.a).wf=true∧(Lit.int .i64 x.b).wf=true:=by
 have h':∀ j,∃ e:Du,j<m→w.cell? (a.add (j*2))=some (zI e.a)∧w.cell? (a.add (j*2+1))=some (zI e.b)∧(Lit.int .i64 e.a).wf=true∧(Lit.int .i64 e.b).wf=true:=fun j=>by
  by_cases hj:j<m
  ·obtain ⟨z0,z1,hz⟩:=h j hj;exact ⟨⟨z0,z1⟩,fun _=>hz⟩
  ·exact ⟨du0,fun hh=>absurd hh hj⟩
 obtain ⟨f,hf⟩:∃ f:Nat→Du,∀ j,j<m→w.cell? (a.add (j*2))=some (zI (f j).a)∧w.cell? (a.add (j*2+1))=some (zI (f j).b)∧(Lit.int .i64 (f j).a).wf=true∧(Lit.int .i64 (f j).b).wf=true:=⟨fun j=>Classical.choose (h' j),fun j hj=>Classical.choose_spec (h' j) hj⟩
 clear h' h;refine ⟨(List.range len).map f,⟨by simp,?_⟩,fun x hx=>?_⟩
 ·by_cases h0:len=0
  ·exact .inl h0
  ·obtain ⟨b,off,spot⟩:=a;have hs:spot=none:=by simpa [Addr.add] using World.cell?_spot (hf 0 (by omega)).1
   subst hs;refine .inr ⟨b,off,rfl,fun i hi=>?_⟩;have h1:=hf i (by omega);rw [Addr.add_lit,Addr.add_lit,← Nat.add_assoc] at h1;have e:((List.range len).map f).getD i du0=f i:=by simp [List.getD,hi]
   rw [e];exact ⟨h1.1,h1.2.1⟩
 ·obtain ⟨j,hj,rfl⟩:=List.mem_map.1 hx;exact (hf j (by have:=List.mem_range.1 hj;omega)).2.2
def cellsD:List Du→List Value
 | []=>[]
 | e :: l=>zI e.a :: zI e.b :: cellsD l
theorem cellsD_len (l:List Du):(cellsD l).length=l.length*2:=by
 induction l with
 | nil=>rfl
 | cons e l ih=>simp [cellsD,ih];omega
theorem cellsD_app (l m:List Du):cellsD (l++m)=cellsD l++cellsD m:=by
 induction l with
 | nil=>rfl
 | cons e l ih=>simp [cellsD,ih]
theorem oneD (l:List Du):∀ u∈cellsD l,u.oneCell'=true:=by
 induction l with
 | nil=>intro u hu;cases hu
 | cons e l ih=>
  intro u hu;simp only [cellsD,List.mem_cons] at hu;rcases hu with rfl | rfl | hu
  ·rfl
  ·rfl
  ·exact ih u hu
theorem cellsD_at (l:List Du) (k:Nat) (hk:k<l.length):(cellsD l)[k*2]?=some (zI (l.getD k du0).a)∧(cellsD l)[k*2+1]?=some (zI (l.getD k du0).b):=by
 induction l generalizing k with
 | nil=>simp at hk
 | cons x l ih=>
  cases k with
  | zero=>exact ⟨rfl,rfl⟩
  | succ k=>
   rw [show (k+1)*2=k*2+1+1 by omega];have:=ih k (by simpa using hk);simpa [cellsD] using this
theorem cellsD_get {w:World} {b off len:Nat} {zs:List Du} (hz:zs.length=len) (hc:∀ i,i<len→w.cell? ⟨b,off+i*2,none⟩=some (zI (zs.getD i du0).a)∧w.cell? ⟨b,off+i*2+1,none⟩=some (zI (zs.getD i du0).b)) (j:Nat) (u:Value) (hu:(cellsD zs)[j]?=some u):w.cell? ⟨b,off+j,none⟩=some u:=by
 have hj:j<(cellsD zs).length:=by
  by_cases h:j<(cellsD zs).length
  ·exact h
  ·rw [List.getElem?_eq_none (by omega)] at hu;cases hu
 rw [cellsD_len] at hj;have h1:=cellsD_at zs (j / 2) (by omega);have h2:=hc (j / 2) (by omega);rcases Nat.mod_two_eq_zero_or_one j with e | e
 ·have e2:j / 2*2=j:=by omega
  rw [e2] at h1 h2;rw [h1.1] at hu;rw [h2.1];exact hu
 ·have e2:j / 2*2+1=j:=by omega
  rw [Nat.add_assoc,e2] at h2;rw [e2] at h1;rw [h1.2] at hu;rw [h2.2];exact hu
def Ld (T:TypeId) (w:World) (base:Nat) (v:Value) (l:List Du):Prop:=w.ownsRow base T 2 v l.length (cellsD l)
theorem Ld.zero (T:TypeId) (w:World) (base:Nat):Ld T w base (zS) []:=World.ownsRow_nil _ _ _ _
theorem Ld.alloc {T:TypeId} {w:World} {base:Nat} {v:Value} {l:List Du} (h:Ld T w base v l) (o:Obj):Ld T (w.alloc o) base v l:=World.ownsRow.alloc h o
theorem Ld.next {T:TypeId} {w w':World} {base:Nat} {v:Value} {l:List Du} (h:Ld T w base v l) (hb:Below w.heap.size w w'):Ld T w' base v l:=by
 refine ⟨h.1,?_⟩;rcases h.2 with hn | ⟨g,cap,cur,hv,hg,hc,rest⟩
 ·exact .inl hn
 ·exact .inr ⟨g,cap,cur,hv,hg,Blk.next hc hb,rest⟩
theorem Ld.row {T:TypeId} {w:World} {base:Nat} {v:Value} {l:List Du} (h:Ld T w base v l):∃ a cap,v = .slice a l.length cap∧RowD w a l.length l∧(a=none→cap=0)∧l.length≤cap∧(∀ x,a=some x→x.off=0∧x.spot=none):=by
 rcases h.2 with ⟨hv,hn⟩ | ⟨g,cap,cur,hv,_,_,h1,_⟩
 ·exact ⟨none,0,by rw [hn];exact hv,⟨rfl,.inl hn⟩,fun _=>rfl,by omega,fun x h=>by cases h⟩
 ·subst hv;refine ⟨_,cap,rfl,⟨rfl,.inr ⟨g,0,rfl,fun i hi=>?_⟩⟩,(fun h=>by cases h),h1,fun x h=>by cases h;exact ⟨rfl,rfl⟩⟩;have e1:=World.ownsRow.cellAt h (i*2) (by omega);have e2:=World.ownsRow.cellAt h (i*2+1) (by omega);rw [Nat.zero_add,e1,e2];exact cellsD_at l i hi
theorem own_far {w:World} {base n k:Nat} {t:TypeId} {v:Value} {l:List Value} (h:w.ownsRow base t n v k l) {G:Nat} (hG:G<base):some G≠v.ownBlock:=by
 intro e;have:=(World.ownsRow.lt h G e.symm).1;omega
theorem own_bel {w0 w w':World} {base B n k:Nat} {t:TypeId} {v:Value} {l:List Value} (h:w.ownsRow base t n v k l) (hg:w.grownBy w' v.ownBlock) (hb:Below B w0 w) (hB:B≤base) (hw:B≤w.heap.size):Below B w0 w':=by
 refine ⟨hg.os.trans hb.os,hg.tape.trans hb.tape,hg.output.trans hb.output,Nat.le_trans hb.size hg.size,fun k hk=>?_⟩;rw [← hb.block k hk];exact hg.block k (by omega) (own_far h (by omega))
theorem bel_drewN {B:Nat} {w w':World} (h:Below B w w') (n:Nat):Below B w (w'.drewN n):=⟨h.os,h.tape,h.output,h.size,h.block⟩
structure PairT (P:Program) (T S:TypeId):Prop where
 info:(P.info? T).map (fun i=>(i.zero,i.size,i.bytes))=some (some (.agg #[zI 0,zI 0]),2,16)
 under:P.underlying S=some (.slice T)
theorem wp_pair {P:Program} {T S:TypeId} (hP:PairT P T S) {w:World} {ops:Array Oper} {rest:List Oper} {o:Oper} {a:Act} {Q:Exit→Act→World→Prop} (hgd:o.guard=none) (s x:Operand)
  (ho:o.op = .call { callee:= .builtin .append,args:=#[s,x],argTypes:=#[S,S] })
  (base G:Nat) (v:Value) (l:List Du) (r:Du) (hs:a.eval s=v) (hx:a.eval x = .slice (some ⟨G,0,none⟩) 1 1) (hv:Ld T w base v l) (hu:w.cell? ⟨G,0,none⟩=some (zI r.a)∧w.cell? ⟨G,1,none⟩=some (zI r.b)) (hn:l.length≤1000000) (hbase:base≤w.heap.size)
  (h:∀ v' w',Ld T w' base v' (l++[r])→w.grownBy w' v.ownBlock→wpList P ops Q rest (a.put o.dst v') w'):wpList P ops Q (o :: rest) a w:=by
 obtain ⟨i0,hi,hz0,hz1,hz2⟩:=info_parts hP.info;refine wpList_append_own w hgd s x S ho base T i0 (.agg #[zI 0,zI 0]) 2 16 hP.under hi hz0 hz1 hz2 rfl (by decide) v l.length (cellsD l) hs hv ⟨G,0,none⟩ 1 1 (cellsD [r]) hx rfl ?_ (oneD [r]) (by unfold maxLen;omega) (by omega) hbase ?_
 ·intro j u hj
  match j,hj with
  | 0,hj=>simp [cellsD] at hj;subst hj;simpa [Addr.add] using hu.1
  | 1,hj=>simp [cellsD] at hj;subst hj;simpa [Addr.add] using hu.2
  | j+2,hj=>simp [cellsD] at hj
 intro v' w' h1 h2 _;refine h v' w' ?_ h2;unfold Ld;rw [List.length_append,cellsD_app];exact h1
theorem step_pair {P:Program} {T S:TypeId} (hP:PairT P T S) {w:World} {ops:Array Oper} {o:Oper} {a:Act} {K:Act→World→Prop} {Q:Exit→Act→World→Prop} {E:Prop} (hgd:o.guard=none) (s x:Operand)
  (ho:o.op = .call { callee:= .builtin .append,args:=#[s,x],argTypes:=#[S,S] })
  (base G:Nat) (v:Value) (l:List Du) (r:Du) (hs:a.eval s=v) (hx:a.eval x = .slice (some ⟨G,0,none⟩) 1 1) (hv:Ld T w base v l) (hu:w.cell? ⟨G,0,none⟩=some (zI r.a)∧w.cell? ⟨G,1,none⟩=some (zI r.b)) (hn:l.length≤1000000) (hbase:base≤w.heap.size)
  (h:∀ v' w',Ld T w' base v' (l++[r])→w.grownBy w' v.ownBlock→K (a.put o.dst v') w'):if Region.wanted o (yielded ops a.tmps)=true then Oper.wp P o a w K Q else E:=by
 have hw:Region.wanted o (yielded ops a.tmps)=true:=by simp [Region.wanted,hgd]
 rw [if_pos hw];obtain ⟨i0,hi,hz0,hz1,hz2⟩:=info_parts hP.info
 obtain ⟨v',w',hr,h2,h3,_⟩:=run_append_own (P:=P) w base S o.type T i0 (.agg #[zI 0,zI 0]) 2 16 hP.under hi hz0 hz1 hz2 rfl (by decide) v l.length (cellsD l) hv ⟨G,0,none⟩ 1 1 (cellsD [r]) rfl (by
  intro j u hj
  match j,hj with
  | 0,hj=>simp [cellsD] at hj;subst hj;simpa [Addr.add] using hu.1
  | 1,hj=>simp [cellsD] at hj;subst hj;simpa [Addr.add] using hu.2
  | j+2,hj=>simp [cellsD] at hj) (oneD [r]) (by unfold maxLen;omega) (by omega) hbase
 unfold Oper.wp execOp;simp only [ho,resolve,invoke,builtin,Sem.run_bind,Sem.run_pure,Result.andThen_ok,List.map_toArray,List.map_cons,List.map_nil,hs,hx,hr];refine h v' w' ?_ h3;unfold Ld;rw [List.length_append,cellsD_app];exact h2
theorem wp_pairs {P:Program} {T S:TypeId} (hP:PairT P T S) {w:World} {ops:Array Oper} {rest:List Oper} {o:Oper} {a:Act} {Q:Exit→Act→World→Prop} (hgd:o.guard=none) (s x:Operand)
  (ho:o.op = .call { callee:= .builtin .append,args:=#[s,x],argTypes:=#[S,S] })
  (base:Nat) (A:Addr) (len cap:Nat) (zs:List Du) (hs:a.eval s=zS) (hx:a.eval x = .slice (some A) len cap) (hr:RowD w (some A) len zs) (hl:len*16≤140737488351232) (hbase:base≤w.heap.size)
  (h:∀ v' w',Ld T w' base v' zs→w.grownBy w' none→wpList P ops Q rest (a.put o.dst v') w'):wpList P ops Q (o :: rest) a w:=by
 obtain ⟨i0,hi,hz0,hz1,hz2⟩:=info_parts hP.info;obtain ⟨hz,hr⟩:=hr;refine wpList_append_own w hgd s x S ho base T i0 (.agg #[zI 0,zI 0]) 2 16 hP.under hi hz0 hz1 hz2 rfl (by decide) _ _ _ hs (World.ownsRow_nil _ _ _ _) A len cap (cellsD zs) hx ?_ ?_ (oneD zs) (by unfold maxLen;omega) (by omega) hbase ?_
 ·rw [cellsD_len,hz]
 ·intro j u hu;rcases hr with h | ⟨b,off,h,hc⟩
  ·rw [List.getElem?_eq_none (by rw [cellsD_len];omega)] at hu;cases hu
  ·obtain rfl:=Option.some.inj h;rw [Addr.add_lit];exact cellsD_get hz hc j u hu
 ·intro v' w' h1 h2 _;refine h v' w' ?_ (by simpa [Value.ownBlock] using h2);show w'.ownsRow _ _ _ _ _ _;rw [hz];simpa using h1
end tar
end Go.Proofs.YtnpblpbohcegoaaGreatDoor
