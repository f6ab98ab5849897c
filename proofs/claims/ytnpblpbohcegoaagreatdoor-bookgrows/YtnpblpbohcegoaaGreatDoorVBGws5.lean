import Derived.Test.YtnpblpbohcegoaaGreatDoorVBGws1
import Derived.Test.YtnpblpbohcegoaaGreatDoorVBGws2
set_option linter.unusedVariables false
set_option linter.unusedSimpArgs false
set_option maxHeartbeats 4000000
set_option maxRecDepth 100000
namespace Go.Proofs.YtnpblpbohcegoaaGreatDoor
namespace disk
open cell (Wr wr0 wrt wrt_app wrt_one wrt_len wrt_step set_at list_ext)
def lenAt (c:List Int) (a:Nat):Int:=if a=c.length∨c.getD a 0=0 then 0 else if 64<c.getD a 0 then -1 else if (c.length:Int)≤a+c.getD a 0 then -1 else c.getD a 0
def recAt (c:List Int) (a:Nat):List Int:=(c.drop (a+1)).take (c.getD a 0).toNat
theorem len_pos {c:List Int} {a:Nat} (h:0<lenAt c a):lenAt c a=c.getD a 0∧0<c.getD a 0∧c.getD a 0≤64∧a+c.getD a 0<c.length:=by
 unfold lenAt at h ⊢;by_cases h1:a=c.length∨c.getD a 0=0
 ·rw [if_pos h1] at h;omega
 ·by_cases h2:64<c.getD a 0
  ·rw [if_neg h1,if_pos h2] at h;omega
  ·by_cases h3:(c.length:Int)≤a+c.getD a 0
   ·rw [if_neg h1,if_neg h2,if_pos h3] at h;omega
   ·rw [if_neg h1,if_neg h2,if_neg h3] at h ⊢;exact ⟨rfl,h,by omega,by omega⟩
theorem len_of {c:List Int} {a:Nat} (h0:0<c.getD a 0) (h1:c.getD a 0≤64) (h2:a+c.getD a 0<c.length):lenAt c a=c.getD a 0:=by
 unfold lenAt;rw [if_neg (by omega),if_neg (by omega),if_neg (by omega)]
def stepD (c:List Int) (s:List (List Int) × Nat):List (List Int) × Nat:=if 0<lenAt c s.2 then (s.1++[recAt c s.2],s.2+(lenAt c s.2).toNat+1) else s
def itD (c:List Int):Nat→List (List Int) × Nat
 | 0=>([],0)
 | k+1=>stepD c (itD c k)
theorem it_live {c:List Int} {k:Nat} (h:0<lenAt c (itD c k).2):itD c (k+1)=((itD c k).1++[recAt c (itD c k).2],(itD c k).2+(lenAt c (itD c k).2).toNat+1):=by
 show stepD c (itD c k)=_;unfold stepD;rw [if_pos h]
theorem it_dead {c:List Int} {k:Nat} (h:¬ 0<lenAt c (itD c k).2):∀ m,itD c (k+m)=itD c k
 | 0=>rfl
 | m+1=>by
  show stepD c (itD c (k+m))=_;rw [it_dead h m];unfold stepD;rw [if_neg h]
theorem it_bound (c:List Int) (k:Nat):(itD c k).2≤c.length∧((∀ i,i<k→0<lenAt c (itD c i).2)→k≤(itD c k).2):=by
 induction k with
 | zero=>exact ⟨Nat.zero_le _,fun _=>Nat.le_refl _⟩
 | succ k ih=>
  by_cases h:0<lenAt c (itD c k).2
  ·rw [it_live h];obtain ⟨e,p0,p1,p2⟩:=len_pos h;refine ⟨by show (itD c k).2+_+1≤_;omega,fun hl=>?_⟩;have:=ih.2 fun i hi=>hl i (by omega);show k+1≤(itD c k).2+_+1;omega
  ·rw [it_dead h 1];exact ⟨ih.1,fun hl=>absurd (hl k (by omega)) h⟩
theorem it_mono (c:List Int) (k m:Nat):(itD c k).2≤(itD c (k+m)).2:=by
 induction m with
 | zero=>exact Nat.le_refl _
 | succ m ih=>
  refine Nat.le_trans ih ?_;show _≤(stepD c (itD c (k+m))).2;unfold stepD;by_cases h:0<lenAt c (itD c (k+m)).2
  ·rw [if_pos h];show _≤(itD c (k+m)).2+_+1;omega
  ·rw [if_neg h];exact Nat.le_refl _
def repD (c:List Int):List (List Int) × Nat:=itD c (c.length+1)
theorem rep_dead (c:List Int):¬ 0<lenAt c (repD c).2:=fun h=>by
 have all:∀ i,i<c.length+1→0<lenAt c (itD c i).2:=fun i hi=>by
  refine Classical.byContradiction fun hn=>?_;have e:=it_dead hn (c.length+1 - i);rw [show i+(c.length+1 - i)=c.length+1 by omega] at e;unfold repD at h;rw [e] at h;exact hn h
 have:=(it_bound c (c.length+1)).2 all;have:=(it_bound c (c.length+1)).1;omega
theorem rep_of {c:List Int} {k:Nat} (h:¬ 0<lenAt c (itD c k).2):repD c=itD c k:=by
 by_cases hk:k≤c.length+1
 ·have e:=it_dead h (c.length+1 - k);rw [show k+(c.length+1 - k)=c.length+1 by omega] at e;exact e
 ·have e:=it_dead (rep_dead c) (k - (c.length+1));rw [show c.length+1+(k - (c.length+1))=k by omega] at e;exact e.symm
def May (c:List Int):Prop:=1≤c.length∧c.length≤2048
def RepIs (c:List Int) (out:List (List Int)) (e:Int) (f:Int):Prop:=
 (¬ May c∧out=[]∧e=0∧f=1)∨(May c∧lenAt c (repD c).2<0∧out=[]∧e=0∧f=3)∨(May c∧lenAt c (repD c).2=0∧out=(repD c).1∧e=((repD c).2:Int)∧f=0)
theorem RepIs.one {c:List Int} {o o':List (List Int)} {e e' f f':Int} (h:RepIs c o e f) (h':RepIs c o' e' f'):o=o'∧e=e'∧f=f':=by
 rcases h with ⟨a,rfl,rfl,rfl⟩ | ⟨a,b,rfl,rfl,rfl⟩ | ⟨a,b,rfl,rfl,rfl⟩ <;> rcases h' with ⟨a',rfl,rfl,rfl⟩ | ⟨a',b',rfl,rfl,rfl⟩ | ⟨a',b',rfl,rfl,rfl⟩ <;> first | exact ⟨rfl,rfl,rfl⟩ | contradiction | omega
def putW (at_:Nat) (rec:List Int):Nat→List Wr
 | 0=>[]
 | k+1=>putW at_ rec k++[⟨((at_+k+1:Nat):Int),rec.getD k 0⟩]
def zeroW (c:List Int) (p:Nat):List Wr:=if p<c.length then [⟨(p:Int),0⟩] else []
def appW (c:List Int) (a:Nat) (rec:List Int):List Wr:=putW a rec rec.length++(zeroW c (a+rec.length+1)++[⟨(a:Int),(rec.length:Int)⟩])
def RMay (r:List Int):Prop:=1≤r.length∧r.length≤64
def AppIs (c rec:List Int) (ls:List Wr) (f:Int):Prop:=
 (¬ RMay rec∧ls=[]∧f=1)∨(RMay rec∧¬ May c∧ls=[]∧f=1)∨(RMay rec∧May c∧lenAt c (repD c).2<0∧ls=[]∧f=3) ∨
 (RMay rec∧May c∧lenAt c (repD c).2=0∧c.length≤(repD c).2+rec.length∧ls=[]∧f=16)∨(RMay rec∧May c∧lenAt c (repD c).2=0∧(repD c).2+rec.length<c.length∧ls=appW c (repD c).2 rec∧f=0)
theorem rec_same {c d:List Int} (hl:c.length=d.length) {a e:Nat} (h:∀ j,j<e→c.getD j 0=d.getD j 0) (ha:a<e) (hb:a+(c.getD a 0).toNat+1≤e):recAt c a=recAt d a:=by
 unfold recAt;rw [← h a ha];generalize (c.getD a 0).toNat=n at hb ⊢;refine list_ext (by simp [hl]) fun j hj=>?_;have hj':j<n:=by simp at hj;omega
 have:=h (a+1+j) (by omega);simpa [List.getD,List.getElem?_take,List.getElem?_drop,hj'] using this
theorem len_same {c d:List Int} (hl:c.length=d.length) {a:Nat} (h:c.getD a 0=d.getD a 0):lenAt c a=lenAt d a:=by
 unfold lenAt;rw [h,hl]
theorem it_same {c d:List Int} (hl:c.length=d.length) {K:Nat} (h:∀ j,j<(itD c K).2→c.getD j 0=d.getD j 0):∀ k,k≤K→(∀ i,i<k→0<lenAt c (itD c i).2)→itD d k=itD c k
 | 0,_,_=>rfl
 | k+1,hk,hv=>by
  have ih:=it_same hl h k (by omega) fun i hi=>hv i (by omega);have hp:=hv k (by omega);obtain ⟨e,p0,p1,p2⟩:=len_pos hp;have hm:=it_mono c (k+1) (K - (k+1));rw [show k+1+(K - (k+1))=K by omega,it_live hp] at hm;have hm':(itD c k).2+(lenAt c (itD c k).2).toNat+1≤(itD c K).2:=hm;have hlt:(itD c k).2<(itD c K).2:=by omega
  have e1:=len_same hl (h _ hlt);have e2:=rec_same hl h hlt (by rw [e] at hm';exact hm');have hq:0<lenAt d (itD d k).2:=by rw [ih,← e1];exact hp
  rw [it_live hp,it_live hq,ih,← e1,← e2]
theorem first_dead (c:List Int):∃ K,(∀ i,i<K→0<lenAt c (itD c i).2)∧¬ 0<lenAt c (itD c K).2:=by
 have h0:∃ K,¬ 0<lenAt c (itD c K).2:=⟨c.length+1,rep_dead c⟩
 have step:∀ n,(∃ K,K≤n∧(∀ i,i<K→0<lenAt c (itD c i).2)∧¬ 0<lenAt c (itD c K).2)∨(∀ i,i≤n→0<lenAt c (itD c i).2):=fun n=>by
  induction n with
  | zero=>
   by_cases h:0<lenAt c (itD c 0).2
   ·exact .inr fun i hi=>by
     obtain rfl:i=0:=by omega
     exact h
   ·exact .inl ⟨0,Nat.le_refl _,fun i hi=>by omega,h⟩
  | succ n ih=>
   rcases ih with ⟨K,hk,ha,hb⟩ | ha
   ·exact .inl ⟨K,by omega,ha,hb⟩
   ·by_cases h:0<lenAt c (itD c (n+1)).2
    ·exact .inr fun i hi=>by
      by_cases hi':i=n+1
      ·rw [hi'];exact h
      ·exact ha i (by omega)
    ·exact .inl ⟨n+1,Nat.le_refl _,fun i hi=>ha i (by omega),h⟩
 obtain ⟨K,hK⟩:=h0;rcases step K with ⟨K',_,ha,hb⟩ | ha
 ·exact ⟨K',ha,hb⟩
 ·exact absurd (ha K (Nat.le_refl _)) hK
theorem rep_bound (c:List Int):(repD c).2≤c.length:=(it_bound c _).1
theorem rep_keep {c d:List Int} (hl:c.length=d.length) (h:∀ j,j≤(repD c).2→c.getD j 0=d.getD j 0):repD d=repD c∧lenAt d (repD c).2=lenAt c (repD c).2:=by
 obtain ⟨K,ha,hb⟩:=first_dead c;have e:=rep_of hb;rw [e] at h ⊢;have e1:=it_same hl (K:=K) (fun j hj=>h j (by omega)) K (Nat.le_refl _) ha;have e2:=(len_same hl (h _ (Nat.le_refl _))).symm;refine ⟨?_,e2⟩;rw [rep_of (k:=K) (by rw [e1,e2];exact hb),e1]
theorem rep_more {c d:List Int} (hl:c.length=d.length) (h:∀ j,j<(repD c).2→c.getD j 0=d.getD j 0) {r:List Int} (hr:RMay r) (h1:d.getD (repD c).2 0=(r.length:Int)) (h2:recAt d (repD c).2=r) (hf:(repD c).2+r.length<c.length) (h3:lenAt d ((repD c).2+r.length+1)=0) :
  repD d=((repD c).1++[r],(repD c).2+r.length+1):=by
 obtain ⟨K,ha,hb⟩:=first_dead c;have e:=rep_of hb;rw [e] at h h1 h2 hf h3 ⊢;have e1:=it_same hl (K:=K) h K (Nat.le_refl _) ha;have hp:lenAt d (itD c K).2=(r.length:Int):=by rw [len_of (by rw [h1];have:=hr.1;omega) (by rw [h1];have:=hr.2;omega) (by rw [h1];omega),h1]
 have hq:itD d (K+1)=((itD c K).1++[r],(itD c K).2+r.length+1):=by
  rw [it_live (by rw [e1,hp];have:=hr.1;omega),e1,h2,hp];rfl
 rw [rep_of (k:=K+1) (by rw [hq];show ¬ 0<lenAt d _;rw [h3];omega),hq]
theorem put_at (c rec:List Int) (a k:Nat) (hk:a+k<c.length):∀ j,(wrt c (putW a rec k)).getD j 0=if a<j∧j≤a+k then rec.getD (j - a - 1) 0 else c.getD j 0:=by
 induction k with
 | zero=>intro j;rw [if_neg (by omega)];rfl
 | succ k ih=>
  intro j;rw [putW,wrt_app,wrt_one,set_at,wrt_len];show (if j=((a+k+1:Nat):Int).toNat∧((a+k+1:Nat):Int).toNat<c.length then rec.getD k 0 else _)=_;rw [Int.toNat_natCast];by_cases hj:j=a+k+1
  ·rw [if_pos ⟨hj,by omega⟩,if_pos ⟨by omega,by omega⟩,show j - a - 1=k by omega]
  ·rw [if_neg (by omega),ih (by omega)];by_cases h2:a<j∧j≤a+k
   ·rw [if_pos h2,if_pos ⟨h2.1,by omega⟩]
   ·rw [if_neg h2,if_neg (by omega)]
theorem put_len (a:Nat) (rec:List Int) (k:Nat):(putW a rec k).length=k:=by
 induction k with
 | zero=>rfl
 | succ k ih=>rw [putW,List.length_append,ih];rfl
theorem put_take (a:Nat) (rec:List Int) {k n:Nat} (h:k≤n):(putW a rec n).take k=putW a rec k:=by
 induction n with
 | zero=>
  obtain rfl:k=0:=by omega
  rfl
 | succ n ih=>
  by_cases hk:k=n+1
  ·rw [hk,List.take_of_length_le (by rw [put_len];omega)]
  ·rw [putW,List.take_append_of_le_length (by rw [put_len];omega),ih (by omega)]
theorem zero_at (c d:List Int) (hl:c.length=d.length) (p:Nat) (j:Nat):(wrt d (zeroW c p)).getD j 0=if j=p∧p<c.length then 0 else d.getD j 0:=by
 unfold zeroW;by_cases h:p<c.length
 ·rw [if_pos h,wrt_one,set_at,Int.toNat_natCast,← hl]
 ·rw [if_neg h,if_neg (by omega)];rfl
theorem app_len (c:List Int) (a:Nat) (r:List Int):(appW c a r).length=r.length+(if a+r.length+1<c.length then 2 else 1):=by
 unfold appW zeroW;rw [List.length_append,put_len];split <;> rfl
theorem app_cut (c r:List Int) (a k:Nat) (hf:a+r.length<c.length) (hk:k<(appW c a r).length) (j:Nat) (hj:j≤a):(wrt c ((appW c a r).take k)).getD j 0=c.getD j 0:=by
 have hk':k<r.length+((zeroW c (a+r.length+1)).length+1):=by unfold appW at hk;rw [List.length_append,List.length_append,put_len] at hk;exact hk
 have e:(appW c a r).take k=(putW a r r.length++zeroW c (a+r.length+1)).take k:=by
  unfold appW;rw [← List.append_assoc,List.take_append_of_le_length (by rw [List.length_append,put_len];omega)]
 rw [e];by_cases h1:k≤r.length
 ·rw [List.take_append_of_le_length (by rw [put_len];exact h1),put_take a r h1,put_at c r a k (by omega),if_neg (by omega)]
 ·rw [List.take_of_length_le (by rw [List.length_append,put_len];unfold zeroW at hk' ⊢;split <;> simp_all <;> omega),wrt_app,zero_at c _ (by rw [wrt_len]),if_neg (by omega),put_at c r a _ hf,if_neg (by omega)]
theorem app_all (c r:List Int) (a:Nat) (hf:a+r.length<c.length) (j:Nat):(wrt c (appW c a r)).getD j 0=if j=a then (r.length:Int) else if a<j∧j≤a+r.length then r.getD (j - a - 1) 0 else if j=a+r.length+1∧a+r.length+1<c.length then 0 else c.getD j 0:=by
 unfold appW;rw [wrt_app,wrt_app,wrt_one,set_at,wrt_len,wrt_len];show (if j=(a:Int).toNat∧(a:Int).toNat<c.length then _ else _)=_;rw [Int.toNat_natCast];by_cases h:j=a
 ·rw [if_pos ⟨h,by omega⟩,if_pos h]
 ·rw [if_neg (by omega),if_neg h,zero_at c _ (by rw [wrt_len])];by_cases h1:j=a+r.length+1∧a+r.length+1<c.length
  ·rw [if_pos h1,if_neg (by omega),if_pos h1]
  ·rw [if_neg h1,put_at c r a _ hf];by_cases h2:a<j∧j≤a+r.length
   ·rw [if_pos h2,if_pos h2]
   ·rw [if_neg h2,if_neg h2,if_neg h1]
def Tape (c:List Int) (l:List (List Int)) (e:Nat):Prop:=May c∧repD c=(l,e)∧lenAt c e=0
theorem Tape.cut {c:List Int} {l:List (List Int)} {e:Nat} (h:Tape c l e) {r:List Int} (hf:e+r.length<c.length) {k:Nat} (hk:k<(appW c e r).length):Tape (wrt c ((appW c e r).take k)) l e:=by
 obtain ⟨hm,hr,hl⟩:=h;have e2:(repD c).2=e:=by rw [hr]
 obtain ⟨a,b⟩:=rep_keep (c:=c) (d:=wrt c ((appW c e r).take k)) (by rw [wrt_len]) (fun j hj=>(app_cut c r e k hf hk j (by omega)).symm);exact ⟨by unfold May;rw [wrt_len];exact hm,by rw [a,hr],by rw [e2] at b;rw [b];exact hl⟩
theorem Tape.all {c:List Int} {l:List (List Int)} {e:Nat} (h:Tape c l e) {r:List Int} (hr:RMay r) (hf:e+r.length<c.length):Tape (wrt c (appW c e r)) (l++[r]) (e+r.length+1):=by
 obtain ⟨hm,hrep,hl⟩:=h;have e2:(repD c).2=e:=by rw [hrep]
 have e1:(repD c).1=l:=by rw [hrep]
 have at0:=app_all c r e hf;have hlen:(wrt c (appW c e r)).length=c.length:=wrt_len _ _;have h0:(wrt c (appW c e r)).getD e 0=(r.length:Int):=by rw [at0,if_pos rfl]
 have h3:lenAt (wrt c (appW c e r)) (e+r.length+1)=0:=by
  unfold lenAt;rw [hlen];by_cases hz:e+r.length+1=c.length
  ·rw [if_pos (.inl hz)]
  ·rw [if_pos (.inr (by rw [at0,if_neg (by omega),if_neg (by omega),if_pos ⟨rfl,by omega⟩]))]
 have h2:recAt (wrt c (appW c e r)) e=r:=by
  unfold recAt;rw [h0,Int.toNat_natCast];refine list_ext (by rw [List.length_take,List.length_drop,hlen];omega) fun j hj=>?_;have hj':j<r.length:=by rw [List.length_take] at hj;omega
  have q:=at0 (e+1+j);rw [if_neg (by omega),if_pos ⟨by omega,by omega⟩,show e+1+j - e - 1=j by omega] at q;rw [← q];simp [List.getD,List.getElem?_drop,hj']
 have:=rep_more (c:=c) (d:=wrt c (appW c e r)) hlen.symm (fun j hj=>by rw [at0,if_neg (by omega),if_neg (by omega),if_neg (by omega)]) hr (by rw [e2];exact h0) (by rw [e2];exact h2) (by rw [e2];exact hf) (by rw [e2];exact h3);rw [e1,e2] at this;exact ⟨by unfold May;rw [hlen];exact hm,this,h3⟩
theorem Tape.app {c:List Int} {l:List (List Int)} {e:Nat} (h:Tape c l e) {r:List Int} {ls:List Wr} {f:Int} (ha:AppIs c r ls f) (hr:RMay r):(e+r.length<c.length∧ls=appW c e r∧f=0)∨(c.length≤e+r.length∧ls=[]∧f=16):=by
 obtain ⟨hm,hrep,hl⟩:=h;have e2:(repD c).2=e:=by rw [hrep]
 unfold AppIs at ha;rw [e2,hl] at ha;rcases ha with ⟨a,_⟩ | ⟨_,a,_⟩ | ⟨_,_,a,_⟩ | ⟨_,_,_,a,b,c⟩ | ⟨_,_,_,a,b,c⟩
 ·exact absurd hr a
 ·exact absurd hm a
 ·omega
 ·exact .inr ⟨a,b,c⟩
 ·exact .inl ⟨a,b,c⟩
theorem Tape.rep {c:List Int} {l o:List (List Int)} {e:Nat} {x f:Int} (h:Tape c l e) (hr:RepIs c o x f):o=l∧x=(e:Int)∧f=0:=by
 obtain ⟨hm,hrep,hl⟩:=h;refine hr.one (.inr (.inr ⟨hm,by rw [hrep];exact hl,by rw [hrep],by rw [hrep],rfl⟩))
theorem Tape.blank {n:Nat} (h0:1≤n) (h1:n≤2048):Tape (List.replicate n 0) [] 0:=by
 have hz:lenAt (List.replicate n 0) 0=0:=by
  unfold lenAt;rw [if_pos (.inr (by simp [List.getD,List.getElem?_replicate];split <;> rfl))]
 have e:repD (List.replicate n 0)=([],0):=rep_of (k:=0) (by show ¬ 0<lenAt _ 0;rw [hz];omega);exact ⟨⟨by simpa using h0,by simpa using h1⟩,e,hz⟩
end disk
namespace words
def decF:Nat→Nat→List Int
 | 0,u=>[48+(u:Int)]
 | k+1,u=>if u<10 then [48+(u:Int)] else decF k (u / 10)++[48+((u % 10:Nat):Int)]
def decL (u:Nat):List Int:=decF u u
theorem decF_same:∀ (k j u:Nat),u≤k→u≤j→decF k u=decF j u:=by
 intro k
 induction k with
 | zero=>
  intro j u h1 h2;have:u=0:=by omega
  subst this;cases j with
  | zero=>rfl
  | succ j=>simp [decF]
 | succ k ih=>
  intro j u h1 h2;by_cases h0:u<10
  ·cases j with
   | zero=>
    have:u=0:=by omega
    subst this;simp [decF]
   | succ j=>rw [decF,decF,if_pos h0,if_pos h0]
  ·obtain ⟨j',rfl⟩:∃ j',j=j'+1:=⟨j - 1,by omega⟩
   rw [decF,decF,if_neg h0,if_neg h0,ih j' (u / 10) (by omega) (by omega)]
theorem decL_one {u:Nat} (h:u<10):decL u=[48+(u:Int)]:=by
 unfold decL;cases u with
 | zero=>rfl
 | succ k=>rw [decF,if_pos h]
theorem decL_more {u:Nat} (h:¬ u<10):decL u=decL (u / 10)++[48+((u % 10:Nat):Int)]:=by
 obtain ⟨k,rfl⟩:∃ k,u=k+1:=⟨u - 1,by omega⟩
 unfold decL;rw [decF,if_neg h,decF_same k _ _ (by omega) (Nat.le_refl _)]
theorem decL_len (k:Nat):∀ u:Nat,u<10 ^ (k+1)→1≤(decL u).length∧(decL u).length≤k+1:=by
 induction k with
 | zero=>intro u h;rw [decL_one (by omega)];simp
 | succ k ih=>
  intro u h;by_cases h1:u<10
  ·rw [decL_one h1];simp
  ·rw [decL_more h1];have:=ih (u / 10) (by rw [Nat.pow_succ] at h;omega);simp;omega
theorem decL_len29 (u:Nat) (h:(u:Int)<top):1≤(decL u).length∧(decL u).length≤29:=decL_len 28 u (by unfold top at h;omega)
end words
namespace cell
open Go.RowKit
def arr (zs:List Int):Array Value:=(zs.map (Value.int .u32)).toArray
theorem arr_set (zs:List Int) (i:Nat) (v:Int):(arr zs).setIfInBounds i (.int .u32 v)=arr (zs.set i v):=by
 unfold arr;apply Array.ext';simp [List.map_set]
theorem Blk.rowU {w:World} {G n:Nat} {zs:List Int} {t:TypeId} (h:Blk w G (arr zs) t) (hn:zs.length=n):RowU w (some ⟨G,0,none⟩) n zs:=by
 refine ⟨hn,.inr ⟨G,0,rfl,fun i hi=>?_⟩⟩;rw [Nat.zero_add,h.cell i];unfold arr;simp [List.getD,show i<zs.length by omega]
theorem Blk.word {w:World} {G:Nat} {zs:List Int} {t:TypeId} (h:Blk w G (arr zs) t) (i:Nat) (hi:i<zs.length):w.cell? ⟨G,i,none⟩=some (.int .u32 (zs.getD i 0)):=by
 rw [h.cell i];unfold arr;simp [List.getD,hi]
theorem made_zero (n:Nat):madeCells (Value.int .u32 0).cells (n*1)=arr (List.replicate n 0):=by
 unfold madeCells arr;apply Array.ext';simp [Value.cells];apply List.ext_getElem
 ·simp
 ·intro i h1 h2;simp [Nat.mod_one]
theorem make_u32 (n:Nat) (h:n≤100000) (w:World):(Instr.makeSlice 25 (zI (n:Int)) (zI (n:Int))).run Tryz.prog w = .ok (.slice (some ⟨w.heap.size,0,none⟩) n n) (w.alloc (.cells (arr (List.replicate n 0)) 99)):=by
 obtain ⟨i0,hi,hz0,hz1,hz2⟩:=info_parts info_u32;have:=run_make (P:=Tryz.prog) w 25 99 i0 (.int .u32 0) Tryz.underlying25 hi hz0 .i64 .i64 n n (by omega) (by omega) (by rw [hz2];omega) (by omega);rw [hz1] at this;simp only [Int.toNat_natCast] at this;rw [made_zero] at this;exact this
end cell
namespace disk
open cell
theorem it_short (c:List Int) (k:Nat):∀ z∈(itD c k).1,z.length≤64:=by
 induction k with
 | zero=>intro z hz;cases hz
 | succ k ih=>
  intro z hz;by_cases h:0<lenAt c (itD c k).2
  ·rw [it_live h] at hz;rcases List.mem_append.1 hz with hz | hz
   ·exact ih z hz
   ·obtain rfl:=List.mem_singleton.1 hz;obtain ⟨_,_,p1,_⟩:=len_pos h;unfold recAt;rw [List.length_take];omega
  ·rw [it_dead h 1] at hz;exact ih z hz
theorem it_count (c:List Int) (k:Nat):(itD c k).1.length≤(itD c k).2:=by
 induction k with
 | zero=>exact Nat.le_refl _
 | succ k ih=>
  by_cases h:0<lenAt c (itD c k).2
  ·rw [it_live h];show ((itD c k).1++[_]).length≤(itD c k).2+_+1;rw [List.length_append];simp only [List.length_cons,List.length_nil];omega
  ·rw [it_dead h 1];exact ih
theorem rep_few {c:List Int} {o:List (List Int)} {x f:Int} (h:RepIs c o x f):o.length≤2048∧∀ z∈o,z.length≤64:=by
 rcases h with ⟨_,rfl,_⟩ | ⟨_,_,rfl,_⟩ | ⟨hm,_,rfl,_⟩
 ·exact ⟨Nat.zero_le _,fun z hz=>by cases hz⟩
 ·exact ⟨Nat.zero_le _,fun z hz=>by cases hz⟩
 ·exact ⟨Nat.le_trans (it_count c _) (Nat.le_trans (it_bound c _).1 hm.2),it_short c _⟩
theorem app_few {c r:List Int} {l:List Wr} {f:Int} (h:AppIs c r l f):l.length≤66:=by
 rcases h with ⟨_,rfl,_⟩ | ⟨_,_,rfl,_⟩ | ⟨_,_,_,rfl,_⟩ | ⟨_,_,_,_,rfl,_⟩ | ⟨hr,_,_,_,rfl,_⟩
 ·exact Nat.zero_le _
 ·exact Nat.zero_le _
 ·exact Nat.zero_le _
 ·exact Nat.zero_le _
 ·rw [app_len];have:=hr.2;split <;> omega
end disk
namespace cents
open Go.RowKit
theorem row_one (w:World) (z:Int) (t:TypeId):Row (w.alloc (.cells #[zI z] t)) (some ⟨w.heap.size,0,none⟩) 1 [z]:=by
 refine ⟨rfl,.inr ⟨_,_,rfl,fun i hi=>?_⟩⟩;obtain rfl:i=0:=by omega
 simp
theorem okAll_yes {lo hi z:Int} (h1:lo≤z) (h2:z≤hi):okAll lo hi [z]=true:=by simp [okAll,h1,h2]
theorem okAll_not {lo hi z:Int} (h:z<lo∨hi<z):okAll lo hi [z]=false:=by simp [okAll];omega
theorem within_one_yes (lo hi z:Int) (w:World) (b:Nat) (hb:b=w.heap.size) (h1:lo≤z) (h2:z≤hi) :
  Calls Tryz.prog 192 #[zI lo,zI hi,.slice (some ⟨b,0,none⟩) 1 1] (w.alloc (.cells #[zI z] 3)) fun e w'=>e = .returned (.bool true)∧w'=w.alloc (.cells #[zI z] 3):=by
 have h:=within_any lo hi _ 1 1 [z] _ (row_one w z 3) (by decide);rw [okAll_yes h1 h2] at h;rw [hb];exact h
theorem within_one_no (lo hi z:Int) (w:World) (b:Nat) (hb:b=w.heap.size) (h0:z<lo∨hi<z) :
  Calls Tryz.prog 192 #[zI lo,zI hi,.slice (some ⟨b,0,none⟩) 1 1] (w.alloc (.cells #[zI z] 3)) fun e w'=>e = .returned (.bool false)∧w'=w.alloc (.cells #[zI z] 3):=by
 have h:=within_any lo hi _ 1 1 [z] _ (row_one w z 3) (by decide);rw [okAll_not h0] at h;rw [hb];exact h
theorem prod_bd (a b A B:Int) (h1:0≤a) (h2:a≤A) (h3:0≤b) (h4:b≤B):0≤a*b∧a*b≤A*B:=
 ⟨Int.mul_nonneg h1 h3,Int.mul_le_mul h2 h4 h3 (by omega)⟩
theorem bel1 (w:World) (o:Obj):Below w.heap.size w (w.alloc o):=(Below.refl _ _).alloc (Nat.le_refl _) _
theorem bel2 (w:World) (o o':Obj):Below w.heap.size w ((w.alloc o).alloc o'):=(bel1 w o).alloc (by simp) _
end cents
end Go.Proofs.YtnpblpbohcegoaaGreatDoor
