import Derived.Test.YtnpblpbohcegoaaGreatDoorVVRry5
import Derived.Test.YtnpblpbohcegoaaGreatDoorVVRry6
set_option linter.unusedVariables false
set_option linter.unusedSimpArgs false
set_option maxHeartbeats 4000000
set_option maxRecDepth 100000
namespace Go.Proofs.YtnpblpbohcegoaaGreatDoor
namespace book
structure So where
 id:Int
 cl:Int
 am:Int
 tg:Int
 rv:Int
def so0:So:=⟨0,0,0,0,0⟩
open acc (Ac Tm Bi TFault TRight OweIs SellIs GrantIs RekeyIs)
structure Cm where
 a:Ac
 so:List So
def cm0:Cm:=⟨acc.ac0,[]⟩
def billOf (v:Ev):Bi:=⟨v.id,v.te,v.de,v.fe,v.pr,v.ch,v.un⟩
def soldOf (c:Cm) (v:Ev):So:=if v.kd=4 then ⟨v.id,2,c.a.rv+1,v.tg,c.a.rv⟩ else ⟨v.id,0,v.un,v.tg,c.a.rv⟩
def Tells (t:Tm) (c:Cm) (v:Ev) (b:Ac) (l:Bi) (e:Int):Prop:=(v.kd=2∧SellIs c.a t v.te v.mo b l e)∨(v.kd=3∧GrantIs c.a t v.mo b l e)∨(v.kd=4∧RekeyIs c.a b l e)
theorem Tells.one {t:Tm} {c:Cm} {v:Ev} {b b':Ac} {l l':Bi} {e e':Int} (h:Tells t c v b l e) (h':Tells t c v b' l' e'):b=b'∧l=l'∧e=e':=by
 rcases h with ⟨p,q⟩ | ⟨p,q⟩ | ⟨p,q⟩ <;> rcases h' with ⟨p',q'⟩ | ⟨p',q'⟩ | ⟨p',q'⟩ <;> first | exact q.one q' | omega
def HapIs (t:Tm) (c:Cm) (v:Ev) (c':Cm) (f:Int):Prop:=
 (v.kd=5∧∃ b,OweIs c.a ⟨v.ow,v.bp⟩ b f∧(f=0→c'=⟨b,c.so⟩)) ∨
 (v.kd≠5∧∃ b l e,Tells t c v b l e∧((e≠0∧f=e)∨(e=0∧l≠billOf v∧f=8)∨(e=0∧l=billOf v∧f=0∧c'=⟨b,c.so++[soldOf c v]⟩)))
theorem HapIs.one {t:Tm} {c c' d':Cm} {v:Ev} {f g:Int} (h:HapIs t c v c' f) (h':HapIs t c v d' g):f=g∧(f=0→c'=d'):=by
 rcases h with ⟨p,b,q,r⟩ | ⟨p,b,l,e,q,r⟩ <;> rcases h' with ⟨p',b',q',r'⟩ | ⟨p',b',l',e',q',r'⟩
 ·obtain ⟨rfl,rfl⟩:=q.one q';exact ⟨rfl,fun h=>(r h).trans (r' h).symm⟩
 ·exact absurd p p'
 ·exact absurd p' p
 ·obtain ⟨rfl,rfl,rfl⟩:=q.one q';rcases r with ⟨x,rfl⟩ | ⟨x,y,rfl⟩ | ⟨x,y,rfl,z⟩ <;> rcases r' with ⟨x',rfl⟩ | ⟨x',y',rfl⟩ | ⟨x',y',rfl,z'⟩ <;> first | exact ⟨rfl,fun h=>absurd h x⟩ | exact ⟨rfl,fun h=>absurd h (by decide)⟩ | exact ⟨rfl,fun _=>z.trans z'.symm⟩ | contradiction
def FirstAt (bk:List Cm) (me:Int) (k:Nat):Prop:=k<bk.length∧(bk.getD k cm0).a.me=me∧∀ j,j<k→(bk.getD j cm0).a.me≠me
def NoneAt (bk:List Cm) (me:Int):Prop:=∀ j,j<bk.length→(bk.getD j cm0).a.me≠me
theorem FirstAt.one {bk:List Cm} {me:Int} {k k':Nat} (h:FirstAt bk me k) (h':FirstAt bk me k'):k=k':=by
 rcases Nat.lt_trichotomy k k' with c | c | c
 ·exact absurd h.2.1 (h'.2.2 k c)
 ·exact c
 ·exact absurd h'.2.1 (h.2.2 k' c)
theorem FirstAt.some {bk:List Cm} {me:Int} {k:Nat} (h:FirstAt bk me k):¬ NoneAt bk me:=fun hn=>hn k h.1 h.2.1
def StepIs (t:Tm) (bk:List Cm) (v:Ev) (bk':List Cm) (f:Int):Prop:=
 (¬ EMay v∧f=5)∨(EMay v∧v.kd=1∧¬ NoneAt bk v.me∧f=21)∨(EMay v∧v.kd=1∧NoneAt bk v.me∧f=0∧bk'=bk++[⟨⟨v.me,0,1,0,0,-1,[]⟩,[]⟩]) ∨
 (EMay v∧v.kd≠1∧NoneAt bk v.me∧f=18)∨(EMay v∧v.kd≠1∧∃ k c',FirstAt bk v.me k∧HapIs t (bk.getD k cm0) v c' f∧(f=0→bk'=bk.set k c'))
theorem StepIs.one {t:Tm} {bk b b':List Cm} {v:Ev} {f f':Int} (h:StepIs t bk v b f) (h':StepIs t bk v b' f'):f=f'∧(f=0→b=b'):=by
 rcases h with ⟨p,rfl⟩ | ⟨p,q,r,rfl⟩ | ⟨p,q,r,rfl,s⟩ | ⟨p,q,r,rfl⟩ | ⟨p,q,k,c,hk,hh,hs⟩ <;> rcases h' with ⟨p',rfl⟩ | ⟨p',q',r',rfl⟩ | ⟨p',q',r',rfl,s'⟩ | ⟨p',q',r',rfl⟩ | ⟨p',q',k',c',hk',hh',hs'⟩ <;> first | contradiction | exact ⟨rfl,fun h=>absurd h (by decide)⟩ | exact ⟨rfl,fun _=>s.trans s'.symm⟩ | exact absurd r hk'.some | exact absurd r' hk.some | skip
 obtain rfl:=hk.one hk';obtain ⟨rfl,e⟩:=hh.one hh';exact ⟨rfl,fun h=>by rw [hs h,hs' h,e h]⟩
def BookIs (t:Tm) (l:List Ev) (bk:List Cm) (at_ f:Int):Prop:=
 (TFault t f∧f≠0∧bk=[]∧at_=0)∨(TRight t∧120<l.length∧bk=[]∧at_=0∧f=1) ∨
 (TRight t∧l.length≤120∧∃ (k:Nat) (st:Nat→List Cm),st 0=[]∧(∀ i,i<k→StepIs t (st i) (l.getD i ev0) (st (i+1)) 0) ∧
  ((k=l.length∧bk=st k∧at_=0∧f=0)∨(k<l.length∧(∃ x,StepIs t (st k) (l.getD k ev0) x f)∧f≠0∧bk=[]∧at_=(k:Int))))
theorem states_one {t:Tm} {l:List Ev} {k k':Nat} {st st':Nat→List Cm} (h0:st 0=[]) (h0':st' 0=[]) (h:∀ i,i<k→StepIs t (st i) (l.getD i ev0) (st (i+1)) 0) (h':∀ i,i<k'→StepIs t (st' i) (l.getD i ev0) (st' (i+1)) 0):∀ i,i≤k→i≤k'→st i=st' i
 | 0,_,_=>h0.trans h0'.symm
 | i+1,hk,hk'=>by
  have ih:=states_one h0 h0' h h' i (by omega) (by omega);have q:=h i (by omega);have q':=h' i (by omega);rw [ih] at q;exact (q.one q').2 rfl
theorem BookIs.one {t:Tm} {l:List Ev} {b b':List Cm} {a a' f f':Int} (h:BookIs t l b a f) (h':BookIs t l b' a' f'):b=b'∧a=a'∧f=f':=by
 rcases h with ⟨p,q,rfl,rfl⟩ | ⟨p,q,rfl,rfl,rfl⟩ | ⟨p,q,k,st,s0,s1,s2⟩ <;> rcases h' with ⟨p',q',rfl,rfl⟩ | ⟨p',q',rfl,rfl,rfl⟩ | ⟨p',q',k',st',s0',s1',s2'⟩
 ·exact ⟨rfl,rfl,p.one p'⟩
 ·exact absurd (p.ok.2 p') q
 ·exact absurd (p.ok.2 p') q
 ·exact absurd (p'.ok.2 p) q'
 ·exact ⟨rfl,rfl,rfl⟩
 ·omega
 ·exact absurd (p'.ok.2 p) q'
 ·omega
 ·have same:=states_one s0 s0' s1 s1';rcases s2 with ⟨e,rfl,rfl,rfl⟩ | ⟨e,⟨x,hx⟩,hf,rfl,rfl⟩ <;> rcases s2' with ⟨e',rfl,rfl,rfl⟩ | ⟨e',⟨x',hx'⟩,hf',rfl,rfl⟩
  ·have:k=k':=by omega
   subst this;exact ⟨same k (Nat.le_refl _) (Nat.le_refl _),rfl,rfl⟩
  ·have q:=s1 k' (by omega);rw [same k' (by omega) (Nat.le_refl _)] at q;exact absurd ((q.one hx').1.symm) hf'
  ·have q:=s1' k (by omega);rw [← same k (Nat.le_refl _) (by omega)] at q;exact absurd ((q.one hx).1.symm) hf
  ·rcases Nat.lt_trichotomy k k' with c | c | c
   ·have q:=s1' k c;rw [← same k (Nat.le_refl _) (by omega)] at q;exact absurd ((q.one hx).1.symm) hf
   ·subst c;rw [same k (Nat.le_refl _) (Nat.le_refl _)] at hx;exact ⟨rfl,rfl,(hx.one hx').1⟩
   ·have q:=s1 k' c;rw [same k' (by omega) (Nat.le_refl _)] at q;exact absurd ((q.one hx').1.symm) hf'
theorem run_more {t:Tm} {l:List Ev} {k:Nat} {st:Nat→List Cm} {bk:List Cm} (h:∀ i,i<k→StepIs t (st i) (l.getD i ev0) (st (i+1)) 0) (hs:StepIs t (st k) (l.getD k ev0) bk 0):∃ st':Nat→List Cm,st' 0=st 0∧st' (k+1)=bk∧(∀ i,i<k+1→StepIs t (st' i) (l.getD i ev0) (st' (i+1)) 0):=by
 refine ⟨fun i=>if i≤k then st i else bk,if_pos (Nat.zero_le _),if_neg (by omega),fun i hi=>?_⟩;show StepIs t (if i≤k then st i else bk) _ (if i+1≤k then st (i+1) else bk) 0;by_cases e:i=k
 ·subst e;rw [if_pos (Nat.le_refl _),if_neg (by omega)];exact hs
 ·rw [if_pos (by omega),if_pos (by omega)];exact h i (by omega)
end book
namespace acc
open tar (Du du0 Came)
open Go.RowKit
def Ac.cs (x:Ac) (p:Option Addr) (len cap:Nat):Array Value:=#[zI x.me,zI x.rv,zI x.nx,zI x.mo,zI x.bo,zI x.fr,.slice p len cap]
def Ac.v (x:Ac) (p:Option Addr) (len cap:Nat):Value:= .agg (x.cs p len cap)
def Tm.v (t:Tm) (p:Option Addr) (len cap:Nat):Value:= .agg #[.slice p len cap,zI t.ff,zI t.fb,zI t.db,zI t.al]
def Bi.v (b:Bi):Value:= .agg #[zI b.id,zI b.te,zI b.de,zI b.fe,zI b.pr,zI b.ch,zI b.un]
def wf6 (x:Ac):Prop:=(Lit.int .i64 x.me).wf=true∧(Lit.int .i64 x.rv).wf=true∧(Lit.int .i64 x.nx).wf=true∧(Lit.int .i64 x.mo).wf=true∧(Lit.int .i64 x.bo).wf=true∧(Lit.int .i64 x.fr).wf=true
def wf4 (t:Tm):Prop:=(Lit.int .i64 t.ff).wf=true∧(Lit.int .i64 t.fb).wf=true∧(Lit.int .i64 t.db).wf=true∧(Lit.int .i64 t.al).wf=true
structure ACame (w:World) (x:Ac) (p:Option Addr) (len cap:Nat):Prop where
 ds:Came w p len cap x.ds
 wf:wf6 x
structure TCame (w:World) (t:Tm) (p:Option Addr) (len cap:Nat):Prop where
 ts:Came w p len cap t.ts
 wf:wf4 t
theorem ACame.below {w w':World} {x:Ac} {p:Option Addr} {len cap:Nat} (h:ACame w x p len cap) (hb:Below w.heap.size w w'):ACame w' x p len cap:=⟨h.ds.below hb,h.wf⟩
theorem TCame.below {w w':World} {t:Tm} {p:Option Addr} {len cap:Nat} (h:TCame w t p len cap) (hb:Below w.heap.size w w'):TCame w' t p len cap:=⟨h.ts.below hb,h.wf⟩
def APost (w:World) (R:Ac→Int→Prop) (e:Ending) (w':World):Prop:=∃ b p len cap f,e = .returned (.tuple #[Ac.v b p len cap,zI f])∧R b f∧deb.Fresh w' w.heap.size p len cap b.ds∧Below w.heap.size w w'
def BPost (w:World) (R:Ac→Bi→Int→Prop) (e:Ending) (w':World):Prop:=∃ b l p len cap f,e = .returned (.tuple #[Ac.v b p len cap,Bi.v l,zI f])∧R b l f∧deb.Fresh w' w.heap.size p len cap b.ds∧Below w.heap.size w w'
end acc
namespace check
open Go.RowKit
theorem len_eq (s:ByteArray):s.data.toList.length=s.size:=Array.length_toList
end check
namespace token
open words check
open Go.RowKit
structure Tok where
 c:Nat
 i:Nat
 a:Nat
 t:Nat
def okB (k:Tok):Bool:=decide (k.c≤3) && decide (1≤k.i) && decide (k.i≤1048575) && decide (k.t≤65535) &&
 (if k.c=0 then decide (1≤k.a) && decide (k.a≤2097151) else if k.c=2 then decide (1≤k.a) && decide (k.a≤15) else decide (k.a=0))
structure Tok.ok (k:Tok):Prop where
 c3:k.c≤3
 i1:1≤k.i
 i2:k.i≤1048575
 t2:k.t≤65535
 a2:k.a≤2097151
 a0:k.c=0→1≤k.a
 ac:k.c=2→1≤k.a∧k.a≤15
 az:k.c=1∨k.c=3→k.a=0
theorem okB_ok {k:Tok}:okB k=true↔k.ok:=by
 unfold okB;by_cases h0:k.c=0
 ·rw [if_pos h0];simp only [Bool.and_eq_true,decide_eq_true_eq];exact ⟨fun h=>⟨by omega,by omega,by omega,by omega,by omega,by omega,by omega,by omega⟩,fun h=>⟨⟨⟨⟨h.c3,h.i1⟩,h.i2⟩,h.t2⟩,h.a0 h0,h.a2⟩⟩
 ·rw [if_neg h0];by_cases h2:k.c=2
  ·rw [if_pos h2];simp only [Bool.and_eq_true,decide_eq_true_eq];exact ⟨fun h=>⟨by omega,by omega,by omega,by omega,by omega,by omega,by omega,by omega⟩,fun h=>⟨⟨⟨⟨h.c3,h.i1⟩,h.i2⟩,h.t2⟩,h.ac h2⟩⟩
  ·rw [if_neg h2];simp only [Bool.and_eq_true,decide_eq_true_eq];exact ⟨fun h=>⟨by omega,by omega,by omega,by omega,by omega,by omega,by omega,by omega⟩,fun h=>⟨⟨⟨⟨h.c3,h.i1⟩,h.i2⟩,h.t2⟩,h.az (by have:=h.c3;omega)⟩⟩
def Tok.num (k:Tok):Nat:=k.c*144115188075855872+k.i*137438953472+k.a*65536+k.t
def Tok.body (k:Tok):Nat:=k.c*2199023255552+k.i*2097152+k.a
def Tok.v (k:Tok):Value:= .agg #[zI (k.c:Int),zI (k.i:Int),zI (k.a:Int),zI (k.t:Int)]
theorem num_lt {k:Tok} (h:k.ok):k.num<576460752303423488:=by
 have:=h.c3;have:=h.i2;have:=h.t2;have:=h.a2;unfold Tok.num;omega
theorem num_bd {k:Tok} (h:k.ok):97*k.num<73786976294838206464:=by have:=num_lt h;omega
theorem body_num {k:Tok} (h:k.ok):k.num / 65536 % 8796093022208=k.body:=by
 have:=h.c3;have:=h.i2;have:=h.t2;have:=h.a2;unfold Tok.num Tok.body;omega
theorem body_bd {k:Tok} (h:k.ok):k.body≤8796093022207:=by
 have:=h.c3;have:=h.i2;have:=h.t2;have:=h.a2;unfold Tok.body;omega
def byt (z:Int):UInt8:=UInt8.ofNat z.toNat
def fmtL (V:Nat):List UInt8:=List.replicate (20 - (decL V).length) 48++(decL V).map byt
def fmtB (V:Nat):ByteArray:=⟨(fmtL V).toArray⟩
theorem fmtB_list (V:Nat):(fmtB V).data.toList=fmtL V:=by simp [fmtB]
theorem dec_len20 {V:Nat} (h:V<100000000000000000000):1≤(decL V).length∧(decL V).length≤20:=decL_len 19 V (by omega)
def bigV (a b c:Nat):Nat:=a+b*4294967296+c*18446744073709551616
theorem bigV_bit {a b c:Nat} (ha:a<2 ^ 32) (hb:b<2 ^ 32) (m:Nat):(bigV a b c).testBit m=bit3 a b c m:=by
 have e:bigV a b c=2 ^ 32*(2 ^ 32*c+b)+a:=by unfold bigV;omega
 rw [e,Nat.testBit_two_pow_mul_add _ ha,Nat.testBit_two_pow_mul_add _ hb];unfold bit3;by_cases h1:m<32
 ·rw [if_pos h1,if_pos h1]
 ·rw [if_neg h1,if_neg h1];by_cases h2:m<64
  ·rw [if_pos h2,if_pos (by omega)]
  ·rw [if_neg h2,if_neg (by omega)]
   congr 1
theorem bits_num {a b c lo n:Nat} (ha:a<2 ^ 32) (hb:b<2 ^ 32) (hc:c<2 ^ 32) (hn:n≤64):bitsN a b c lo n=bigV a b c / 2 ^ lo % 2 ^ n:=by
 apply Nat.eq_of_testBit_eq;intro j;rw [bits_bit ha hb hc hn,Nat.testBit_mod_two_pow,Nat.testBit_div_two_pow,bigV_bit ha hb,Nat.add_comm]
theorem bigV_top {a b c:Nat} (ha:a<2 ^ 32) (hb:b<2 ^ 32) (hc:c<2 ^ 32):bigV a b c<2 ^ 96:=by
 unfold bigV;omega
theorem put_num {a b c v lo n:Nat} (ha:a<2 ^ 32) (hb:b<2 ^ 32) (hc:c<2 ^ 32) (hv:v<2 ^ n) (hn:n≤64) (hl:lo+n≤96) (h0:bigV a b c / 2 ^ lo % 2 ^ n=0) :
  bigV (putN a v n lo) (putN b v n ((lo:Int) - 32)) (putN c v n ((lo:Int) - 64))=bigV a b c+v*2 ^ lo:=by
 have pa:=put_lt a v n lo ha;have pb:=put_lt b v n ((lo:Int) - 32) hb;have pc:=put_lt c v n ((lo:Int) - 64) hc
 have hbit:∀ m,m<96→(bigV (putN a v n lo) (putN b v n ((lo:Int) - 32)) (putN c v n ((lo:Int) - 64))).testBit m=if lo≤m∧m<lo+n then v.testBit (m - lo) else (bigV a b c).testBit m:=fun m hm=>by
  rw [bigV_bit pa pb,put_bits hv m hm,bigV_bit ha hb]
 have hfv:bigV (putN a v n lo) (putN b v n ((lo:Int) - 32)) (putN c v n ((lo:Int) - 64)) / 2 ^ lo % 2 ^ n=v:=by
  rw [← bits_num pa pb pc hn,bits_put ha hb hc hv hn hl]
 have hVt:=bigV_top ha hb hc;have hWt:=bigV_top pa pb pc;generalize bigV (putN a v n lo) (putN b v n ((lo:Int) - 32)) (putN c v n ((lo:Int) - 64))=W at *;generalize bigV a b c=V at *
 have hlow:W % 2 ^ lo=V % 2 ^ lo:=by
  apply Nat.eq_of_testBit_eq;intro j;rw [Nat.testBit_mod_two_pow,Nat.testBit_mod_two_pow];by_cases hj:j<lo
  ·rw [hbit j (by omega),if_neg (by omega)]
  ·rw [decide_eq_false hj,Bool.false_and,Bool.false_and]
 have hhigh:W / 2 ^ lo / 2 ^ n=V / 2 ^ lo / 2 ^ n:=by
  rw [Nat.div_div_eq_div_mul,Nat.div_div_eq_div_mul,← Nat.pow_add];apply Nat.eq_of_testBit_eq;intro j;rw [Nat.testBit_div_two_pow,Nat.testBit_div_two_pow];by_cases hj:lo+n+j<96
  ·rw [Nat.add_comm j,hbit _ hj,if_neg (by omega)]
  ·rw [bit_hi hVt (by omega),bit_hi hWt (by omega)]
 have eV:=Nat.div_add_mod V (2 ^ lo);have eW:=Nat.div_add_mod W (2 ^ lo);have eV2:=Nat.div_add_mod (V / 2 ^ lo) (2 ^ n);have eW2:=Nat.div_add_mod (W / 2 ^ lo) (2 ^ n);rw [hhigh,hfv] at eW2;rw [hlow] at eW;rw [h0] at eV2;generalize V / 2 ^ lo / 2 ^ n=H at *;generalize V % 2 ^ lo=L at *;rw [← eV2,Nat.mul_add] at eV;rw [← eW2,Nat.mul_add] at eW;rw [Nat.mul_comm v];generalize 2 ^ lo*(2 ^ n*H)=p at *;generalize 2 ^ lo*v=r at *;omega
end token
namespace acc
open tar (Du du0 Came RowD Ld PairT)
open Go.RowKit
theorem row_upd {w W:World} {g:Nat} {new:Array Value} {t:TypeId} {p:Option Addr} {len:Nat} {l:List Du} (h:RowD w p len l) (hU:Upd w W g new t) (hg:0<len→∀ x,p=some x→x.block≠g):RowD W p len l:=by
 refine ⟨h.1,?_⟩;rcases h.2 with h0 | ⟨b,off,rfl,hc⟩
 ·exact .inl h0
 ·refine .inr ⟨b,off,rfl,fun i hi=>?_⟩;have hne:b≠g:=hg (by omega) _ rfl;rw [hU.cell ⟨b,off+i*2,none⟩ hne rfl,hU.cell ⟨b,off+i*2+1,none⟩ hne rfl];exact hc i hi
theorem came_upd {w W:World} {g:Nat} {new:Array Value} {t:TypeId} {p:Option Addr} {len cap:Nat} {l:List Du} (h:Came w p len cap l) (hU:Upd w W g new t) (hg:0<len→∀ x,p=some x→x.block≠g):Came W p len cap l:=⟨row_upd h.row hU hg,h.nil,h.room,h.bytes,h.wf⟩
theorem fresh_updN {w W:World} {g base:Nat} {new:Array Value} {t:TypeId} {p:Option Addr} {len cap:Nat} {l:List Du} (h:deb.Fresh w base p len cap l) (hU:Upd w W g new t) (hg:0<len→∀ x,p=some x→x.block≠g):deb.Fresh W base p len cap l:=⟨came_upd h.came hU hg,h.new⟩
theorem fresh_drew {w:World} {base:Nat} {p:Option Addr} {len cap:Nat} {l:List Du} (h:deb.Fresh w base p len cap l):deb.Fresh w.drew base p len cap l:=⟨⟨h.came.row,h.came.nil,h.came.room,h.came.bytes,h.came.wf⟩,h.new⟩
theorem ld_upd {T:TypeId} {w W:World} {g base:Nat} {new:Array Value} {t:TypeId} {v:Value} {l:List Du} (h:Ld T w base v l) (hU:Upd w W g new t) (hg:g<base):Ld T W base v l:=by
 refine ⟨h.1,?_⟩;rcases h.2 with hn | ⟨q,cap,cur,hv,hq,hc,rest⟩
 ·exact .inl hn
 ·exact .inr ⟨q,cap,cur,hv,hq,hU.keep hc (by omega),rest⟩
theorem came_lt {w:World} {p:Option Addr} {len cap:Nat} {l:List Du} (h:Came w p len cap l):0<len→∀ x,p=some x→x.block<w.heap.size:=fun hn x hx=>by
 obtain ⟨b,off,hp,hb,_⟩:=h.row.at hn;rw [hp] at hx;cases hx;exact hb
end acc
namespace irow
open Go.RowKit
def RowN (w:World) (a:Option Addr) (len:Nat) (zs:List Int):Prop:=
 zs.length=len∧(len=0∨∃ b off,a=some ⟨b,off,none⟩∧∀ i,i<len→w.cell? ⟨b,off+i,none⟩=some (zI (zs.getD i 0)))
theorem RowN.at {w:World} {a:Option Addr} {n:Nat} {zs:List Int} (h:RowN w a n zs) (h0:0<n):∃ b off,a=some ⟨b,off,none⟩∧b<w.heap.size∧∀ i,i<n→w.cell? ⟨b,off+i,none⟩=some (zI (zs.getD i 0)):=by
 rcases h.2 with h1 | ⟨b,off,rfl,hc⟩
 ·omega
 ·exact ⟨b,off,rfl,World.block_lt_of_cell? w _ (hc 0 h0),hc⟩
def Iw (w:World) (base:Nat) (v:Value) (zs:List Int):Prop:=w.ownsRow base 3 1 v zs.length (zs.map (.int .i64))
theorem Iw.put {w:World} {base:Nat} {v:Value} {l:List Int} (h:Iw w base v l) (G i:Nat) (u:Value) (hG:G<base):Iw (w.setCell ⟨G,i,none⟩ u) base v l:=by
 refine ⟨h.1,?_⟩;rcases h.2 with hn | ⟨g,cap,cur,hv,hg,hc,rest⟩
 ·exact .inl hn
 ·exact .inr ⟨g,cap,cur,hv,hg,Blk.other hc i u (by omega),rest⟩
def RowF (w:World) (a:Option Addr) (len:Nat) (zs:List Int):Prop:=
 ∀ i,i<len→∃ b off,a=some ⟨b,off,none⟩∧w.cell? ⟨b,off+i,none⟩=some (zI (zs.getD i 0))∧(Lit.int .i64 (zs.getD i 0)).wf=true
theorem RowF.below {w w':World} {a:Option Addr} {len:Nat} {zs:List Int} (h:RowF w a len zs) (hb:Below w.heap.size w w'):RowF w' a len zs:=fun i hi=>by
 obtain ⟨b,off,h1,h2,h3⟩:=h i hi;exact ⟨b,off,h1,(hb.cell (p:=⟨b,off+i,none⟩) (World.block_lt_of_cell? w _ h2)).trans h2,h3⟩
theorem rowF_of {w:World} {x:Addr} {len cap:Nat} {zs:List Int} (hl:len≤cap) (hz:zs.length=cap) (hc:∀ i,i<zs.length→w.cell? (x.add i)=some (zI (zs.getD i 0))) (hw:∀ n∈zs,(Lit.int .i64 n).wf=true):RowF w (some x) len zs:=by
 intro i hi;have h1:=hc i (by omega);have hx0:=hc 0 (by omega);obtain ⟨b,off,spot⟩:=x;have hs:spot=none:=by simpa [Addr.add] using World.cell?_spot hx0
 subst hs;rw [Addr.add_lit] at h1;refine ⟨b,off,rfl,h1,hw _ ?_⟩;have:i<zs.length:=by omega
 simp [List.getD,List.getElem?_eq_getElem this]
end irow
namespace disk
open Go.RowKit cell
theorem sliT:SliT Tryz.prog 25 104:=⟨by kernel_rfl,Tryz.underlying104⟩
def RepNew (w:World) (c:List Int) (e:Ending) (w':World):Prop:=
 ∃ a n cap out x f,e = .returned (.tuple #[.slice a n cap,zI x,zI f])∧ReadsF w' w.heap.size a n out∧n≤100000∧RepIs c out x f∧Below w.heap.size w w'
def AppGot (w:World) (c r:List Int) (e:Ending) (w':World):Prop:=
 ∃ a n cap ls f,e = .returned (.tuple #[.slice a n cap,zI f])∧RowW w' a n ls∧(∀ x,a=some x→w.heap.size≤x.block)∧n≤cap∧n≤100000∧AppIs c r ls f∧Below w.heap.size w w'
end disk
namespace deb
open tar (Du du0 Came RowD Ld ErrPost TwoPost PairT)
open Go.RowKit
theorem dwithin (lo hi n:Int) (w:World):Calls Tryz.prog 202 #[zI lo,zI hi,zI n] w fun e w'=>e = .returned (.bool (decide (lo≤n∧n≤hi)))∧w'=w:=by
 by_cases h1:lo≤n
 ·by_cases h2:n≤hi
  ·have h3:decide (lo≤n∧n≤hi)=true:=by simp;omega
   rw [h3];clear h3;go_enter Tryz.func202,Tryz.ntmps202;go_wp2;go_ret;exact ⟨rfl,rfl⟩
  ·have h3:decide (lo≤n∧n≤hi)=false:=by simp;omega
   have h4:decide (n≤hi)=false:=by simp;omega
   rw [h3];clear h3 h2;go_enter Tryz.func202,Tryz.ntmps202;go_wp2;go_ret;exact ⟨rfl,rfl⟩
 ·have h3:decide (lo≤n∧n≤hi)=false:=by simp;omega
  have h4:decide (lo≤n)=false:=by simp;omega
  rw [h3];clear h3 h1;go_enter Tryz.func202,Tryz.ntmps202;go_wp2;go_ret;exact ⟨rfl,rfl⟩
end deb
namespace tar
open Go.RowKit
def KtCheck:Prop:=∀ (W:World) (a:Option Addr) (len cap:Nat) (ls:List Du),Came W a len cap ls→Calls Tryz.prog 68 #[.slice a len cap] W fun e w'=>ErrPost W (FaultIs ls) e w'
end tar
namespace book
open Go.RowKit
def FindPost (w:World) (l:List Cu) (me:Int) (e:Ending) (w':World):Prop:=∃ x f,e = .returned (.tuple #[zI x,zI f])∧FindIs l me x f∧Below w.heap.size w w'
end book
namespace words
open Go.RowKit
theorem cutWord_any (B:Nat) (n:Int) (w:World) (hc:w.cell? ⟨B,0,none⟩=some (.int .u64 n)) (hf:w.frozen? ⟨B,0,none⟩=false) :
  Calls Tryz.prog 131 #[.pointer (some ⟨B,0,none⟩)] w fun e w'=>e = .returned (.int .u32 (n % 4294967296))∧w'=w.setCell ⟨B,0,none⟩ (.int .u64 (n / 4294967296)):=by
 go_enter Tryz.func131,Tryz.ntmps131;go_wp2;go_ret;exact ⟨rfl,rfl⟩
abbrev wv (w:W3):Value:= .agg #[.int .u32 w.a,.int .u32 w.b,.int .u32 w.c]
end words
end Go.Proofs.YtnpblpbohcegoaaGreatDoor
