import Derived.Test.YtnpblpbohcegoaaGreatDoorVBNrs4
import Derived.Test.YtnpblpbohcegoaaGreatDoorVBNrs7
set_option linter.unusedVariables false
set_option linter.unusedSimpArgs false
set_option maxHeartbeats 4000000
set_option maxRecDepth 100000
namespace Go.Proofs.YtnpblpbohcegoaaGreatDoor
namespace book
open acc (Ac Tm Bi TFault TRight OweIs SellIs GrantIs RekeyIs)
structure Cm where
 a:Ac
 so:List So
def cm0:Cm:=⟨acc.ac0,[]⟩
def billOf (v:Ev):Bi:=⟨v.id,v.te,v.de,v.fe,v.pr,v.ch,v.un⟩
def soldOf (c:Cm) (v:Ev):So:=if v.kd=4 then ⟨v.id,2,c.a.rv+1,v.tg,c.a.rv⟩ else ⟨v.id,0,v.un,v.tg,c.a.rv⟩
def Tells (t:Tm) (c:Cm) (v:Ev) (b:Ac) (l:Bi) (e:Int):Prop:=(v.kd=2∧SellIs c.a t v.te v.mo b l e)∨(v.kd=3∧GrantIs c.a t v.mo b l e)∨(v.kd=4∧RekeyIs c.a b l e)
theorem Tells.one {t:Tm} {c:Cm} {v:Ev} {b b':Ac} {l l':Bi} {e e':Int} (h:Tells t c v b l e) (h':Tells t c v b' l' e'):b=b'∧l=l'∧e=e':=by
 rcases h with ⟨p,q⟩ | ⟨p,q⟩ | ⟨p,q⟩ <;> rcases h' with ⟨p',q'⟩ | ⟨p',q'⟩ | ⟨p',q'⟩ <;> first | exact q.one q' | omega
def HapIs (t:Tm) (c:Cm) (v:Ev) (c':Cm) (f:Int):Prop:=
 (v.kd=5∧∃ b,OweIs c.a ⟨v.ow,v.bp⟩ b f∧(f=0→c'=⟨b,c.so⟩)) ∨
 (v.kd≠5∧∃ b l e,Tells t c v b l e∧((e≠0∧f=e)∨(e=0∧l≠billOf v∧f=8)∨(e=0∧l=billOf v∧f=0∧c'=⟨b,c.so++[soldOf c v]⟩)))
theorem HapIs.one {t:Tm} {c c' d':Cm} {v:Ev} {f g:Int} (h:HapIs t c v c' f) (h':HapIs t c v d' g):f=g∧(f=0→c'=d'):=by
 rcases h with ⟨p,b,q,r⟩ | ⟨p,b,l,e,q,r⟩ <;> rcases h' with ⟨p',b',q',r'⟩ | ⟨p',b',l',e',q',r'⟩
 ·obtain ⟨rfl,rfl⟩:=q.one q';exact ⟨rfl,fun h=>(r h).trans (r' h).symm⟩
 ·exact absurd p p'
 ·exact absurd p' p
 ·obtain ⟨rfl,rfl,rfl⟩:=q.one q';rcases r with ⟨x,rfl⟩ | ⟨x,y,rfl⟩ | ⟨x,y,rfl,z⟩ <;> rcases r' with ⟨x',rfl⟩ | ⟨x',y',rfl⟩ | ⟨x',y',rfl,z'⟩ <;> first | exact ⟨rfl,fun h=>absurd h x⟩ | exact ⟨rfl,fun h=>absurd h (by decide)⟩ | exact ⟨rfl,fun _=>z.trans z'.symm⟩ | contradiction
def FirstAt (bk:List Cm) (me:Int) (k:Nat):Prop:=k<bk.length∧(bk.getD k cm0).a.me=me∧∀ j,j<k→(bk.getD j cm0).a.me≠me
def NoneAt (bk:List Cm) (me:Int):Prop:=∀ j,j<bk.length→(bk.getD j cm0).a.me≠me
theorem FirstAt.one {bk:List Cm} {me:Int} {k k':Nat} (h:FirstAt bk me k) (h':FirstAt bk me k'):k=k':=by
 rcases Nat.lt_trichotomy k k' with c | c | c
 ·exact absurd h.2.1 (h'.2.2 k c)
 ·exact c
 ·exact absurd h'.2.1 (h.2.2 k' c)
theorem FirstAt.some {bk:List Cm} {me:Int} {k:Nat} (h:FirstAt bk me k):¬ NoneAt bk me:=fun hn=>hn k h.1 h.2.1
def StepIs (t:Tm) (bk:List Cm) (v:Ev) (bk':List Cm) (f:Int):Prop:=
 (¬ EMay v∧f=5)∨(EMay v∧v.kd=1∧¬ NoneAt bk v.me∧f=21)∨(EMay v∧v.kd=1∧NoneAt bk v.me∧f=0∧bk'=bk++[⟨⟨v.me,0,1,0,0,-1,[]⟩,[]⟩]) ∨
 (EMay v∧v.kd≠1∧NoneAt bk v.me∧f=18)∨(EMay v∧v.kd≠1∧∃ k c',FirstAt bk v.me k∧HapIs t (bk.getD k cm0) v c' f∧(f=0→bk'=bk.set k c'))
theorem StepIs.one {t:Tm} {bk b b':List Cm} {v:Ev} {f f':Int} (h:StepIs t bk v b f) (h':StepIs t bk v b' f'):f=f'∧(f=0→b=b'):=by
 rcases h with ⟨p,rfl⟩ | ⟨p,q,r,rfl⟩ | ⟨p,q,r,rfl,s⟩ | ⟨p,q,r,rfl⟩ | ⟨p,q,k,c,hk,hh,hs⟩ <;> rcases h' with ⟨p',rfl⟩ | ⟨p',q',r',rfl⟩ | ⟨p',q',r',rfl,s'⟩ | ⟨p',q',r',rfl⟩ | ⟨p',q',k',c',hk',hh',hs'⟩ <;> first | contradiction | exact ⟨rfl,fun h=>absurd h (by decide)⟩ | exact ⟨rfl,fun _=>s.trans s'.symm⟩ | exact absurd r hk'.some | exact absurd r' hk.some | skip
 obtain rfl:=hk.one hk';obtain ⟨rfl,e⟩:=hh.one hh';exact ⟨rfl,fun h=>by rw [hs h,hs' h,e h]⟩
def BookIs (t:Tm) (l:List Ev) (bk:List Cm) (at_ f:Int):Prop:=
 (TFault t f∧f≠0∧bk=[]∧at_=0)∨(TRight t∧120<l.length∧bk=[]∧at_=0∧f=1) ∨
 (TRight t∧l.length≤120∧∃ (k:Nat) (st:Nat→List Cm),st 0=[]∧(∀ i,i<k→StepIs t (st i) (l.getD i ev0) (st (i+1)) 0) ∧
  ((k=l.length∧bk=st k∧at_=0∧f=0)∨(k<l.length∧(∃ x,StepIs t (st k) (l.getD k ev0) x f)∧f≠0∧bk=[]∧at_=(k:Int))))
theorem states_one {t:Tm} {l:List Ev} {k k':Nat} {st st':Nat→List Cm} (h0:st 0=[]) (h0':st' 0=[]) (h:∀ i,i<k→StepIs t (st i) (l.getD i ev0) (st (i+1)) 0) (h':∀ i,i<k'→StepIs t (st' i) (l.getD i ev0) (st' (i+1)) 0):∀ i,i≤k→i≤k'→st i=st' i
 | 0,_,_=>h0.trans h0'.symm
 | i+1,hk,hk'=>by
  have ih:=states_one h0 h0' h h' i (by omega) (by omega);have q:=h i (by omega);have q':=h' i (by omega);rw [ih] at q;exact (q.one q').2 rfl
theorem BookIs.one {t:Tm} {l:List Ev} {b b':List Cm} {a a' f f':Int} (h:BookIs t l b a f) (h':BookIs t l b' a' f'):b=b'∧a=a'∧f=f':=by
 rcases h with ⟨p,q,rfl,rfl⟩ | ⟨p,q,rfl,rfl,rfl⟩ | ⟨p,q,k,st,s0,s1,s2⟩ <;> rcases h' with ⟨p',q',rfl,rfl⟩ | ⟨p',q',rfl,rfl,rfl⟩ | ⟨p',q',k',st',s0',s1',s2'⟩
 ·exact ⟨rfl,rfl,p.one p'⟩
 ·exact absurd (p.ok.2 p') q
 ·exact absurd (p.ok.2 p') q
 ·exact absurd (p'.ok.2 p) q'
 ·exact ⟨rfl,rfl,rfl⟩
 ·omega
 ·exact absurd (p'.ok.2 p) q'
 ·omega
 ·have same:=states_one s0 s0' s1 s1';rcases s2 with ⟨e,rfl,rfl,rfl⟩ | ⟨e,⟨x,hx⟩,hf,rfl,rfl⟩ <;> rcases s2' with ⟨e',rfl,rfl,rfl⟩ | ⟨e',⟨x',hx'⟩,hf',rfl,rfl⟩
  ·have:k=k':=by omega
   subst this;exact ⟨same k (Nat.le_refl _) (Nat.le_refl _),rfl,rfl⟩
  ·have q:=s1 k' (by omega);rw [same k' (by omega) (Nat.le_refl _)] at q;exact absurd ((q.one hx').1.symm) hf'
  ·have q:=s1' k (by omega);rw [← same k (Nat.le_refl _) (by omega)] at q;exact absurd ((q.one hx).1.symm) hf
  ·rcases Nat.lt_trichotomy k k' with c | c | c
   ·have q:=s1' k c;rw [← same k (Nat.le_refl _) (by omega)] at q;exact absurd ((q.one hx).1.symm) hf
   ·subst c;rw [same k (Nat.le_refl _) (Nat.le_refl _)] at hx;exact ⟨rfl,rfl,(hx.one hx').1⟩
   ·have q:=s1 k' c;rw [same k' (by omega) (Nat.le_refl _)] at q;exact absurd ((q.one hx').1.symm) hf'
theorem run_more {t:Tm} {l:List Ev} {k:Nat} {st:Nat→List Cm} {bk:List Cm} (h:∀ i,i<k→StepIs t (st i) (l.getD i ev0) (st (i+1)) 0) (hs:StepIs t (st k) (l.getD k ev0) bk 0):∃ st':Nat→List Cm,st' 0=st 0∧st' (k+1)=bk∧(∀ i,i<k+1→StepIs t (st' i) (l.getD i ev0) (st' (i+1)) 0):=by
 refine ⟨fun i=>if i≤k then st i else bk,if_pos (Nat.zero_le _),if_neg (by omega),fun i hi=>?_⟩;show StepIs t (if i≤k then st i else bk) _ (if i+1≤k then st (i+1) else bk) 0;by_cases e:i=k
 ·subst e;rw [if_pos (Nat.le_refl _),if_neg (by omega)];exact hs
 ·rw [if_pos (by omega),if_pos (by omega)];exact h i (by omega)
end book
namespace acc
open tar (Du du0 Came)
open Go.RowKit
def Ac.cs (x:Ac) (p:Option Addr) (len cap:Nat):Array Value:=#[zI x.me,zI x.rv,zI x.nx,zI x.mo,zI x.bo,zI x.fr,.slice p len cap]
def Ac.v (x:Ac) (p:Option Addr) (len cap:Nat):Value:= .agg (x.cs p len cap)
def Tm.v (t:Tm) (p:Option Addr) (len cap:Nat):Value:= .agg #[.slice p len cap,zI t.ff,zI t.fb,zI t.db,zI t.al]
def Bi.v (b:Bi):Value:= .agg #[zI b.id,zI b.te,zI b.de,zI b.fe,zI b.pr,zI b.ch,zI b.un]
def wf6 (x:Ac):Prop:=(Lit.int .i64 x.me).wf=true∧(Lit.int .i64 x.rv).wf=true∧(Lit.int .i64 x.nx).wf=true∧(Lit.int .i64 x.mo).wf=true∧(Lit.int .i64 x.bo).wf=true∧(Lit.int .i64 x.fr).wf=true
def wf4 (t:Tm):Prop:=(Lit.int .i64 t.ff).wf=true∧(Lit.int .i64 t.fb).wf=true∧(Lit.int .i64 t.db).wf=true∧(Lit.int .i64 t.al).wf=true
structure ACame (w:World) (x:Ac) (p:Option Addr) (len cap:Nat):Prop where
 ds:Came w p len cap x.ds
 wf:wf6 x
structure TCame (w:World) (t:Tm) (p:Option Addr) (len cap:Nat):Prop where
 ts:Came w p len cap t.ts
 wf:wf4 t
theorem ACame.below {w w':World} {x:Ac} {p:Option Addr} {len cap:Nat} (h:ACame w x p len cap) (hb:Below w.heap.size w w'):ACame w' x p len cap:=⟨h.ds.below hb,h.wf⟩
theorem TCame.below {w w':World} {t:Tm} {p:Option Addr} {len cap:Nat} (h:TCame w t p len cap) (hb:Below w.heap.size w w'):TCame w' t p len cap:=⟨h.ts.below hb,h.wf⟩
def APost (w:World) (R:Ac→Int→Prop) (e:Ending) (w':World):Prop:=∃ b p len cap f,e = .returned (.tuple #[Ac.v b p len cap,zI f])∧R b f∧deb.Fresh w' w.heap.size p len cap b.ds∧Below w.heap.size w w'
def BPost (w:World) (R:Ac→Bi→Int→Prop) (e:Ending) (w':World):Prop:=∃ b l p len cap f,e = .returned (.tuple #[Ac.v b p len cap,Bi.v l,zI f])∧R b l f∧deb.Fresh w' w.heap.size p len cap b.ds∧Below w.heap.size w w'
end acc
namespace token
open words check
open Go.RowKit
structure Tok where
 c:Nat
 i:Nat
 a:Nat
 t:Nat
def okB (k:Tok):Bool:=decide (k.c≤3) && decide (1≤k.i) && decide (k.i≤1048575) && decide (k.t≤65535) &&
 (if k.c=0 then decide (1≤k.a) && decide (k.a≤2097151) else if k.c=2 then decide (1≤k.a) && decide (k.a≤15) else decide (k.a=0))
structure Tok.ok (k:Tok):Prop where
 c3:k.c≤3
 i1:1≤k.i
 i2:k.i≤1048575
 t2:k.t≤65535
 a2:k.a≤2097151
 a0:k.c=0→1≤k.a
 ac:k.c=2→1≤k.a∧k.a≤15
 az:k.c=1∨k.c=3→k.a=0
theorem okB_ok {k:Tok}:okB k=true↔k.ok:=by
 unfold okB;by_cases h0:k.c=0
 ·rw [if_pos h0];simp only [Bool.and_eq_true,decide_eq_true_eq];exact ⟨fun h=>⟨by omega,by omega,by omega,by omega,by omega,by omega,by omega,by omega⟩,fun h=>⟨⟨⟨⟨h.c3,h.i1⟩,h.i2⟩,h.t2⟩,h.a0 h0,h.a2⟩⟩
 ·rw [if_neg h0];by_cases h2:k.c=2
  ·rw [if_pos h2];simp only [Bool.and_eq_true,decide_eq_true_eq];exact ⟨fun h=>⟨by omega,by omega,by omega,by omega,by omega,by omega,by omega,by omega⟩,fun h=>⟨⟨⟨⟨h.c3,h.i1⟩,h.i2⟩,h.t2⟩,h.ac h2⟩⟩
  ·rw [if_neg h2];simp only [Bool.and_eq_true,decide_eq_true_eq];exact ⟨fun h=>⟨by omega,by omega,by omega,by omega,by omega,by omega,by omega,by omega⟩,fun h=>⟨⟨⟨⟨h.c3,h.i1⟩,h.i2⟩,h.t2⟩,h.az (by have:=h.c3;omega)⟩⟩
def Tok.num (k:Tok):Nat:=k.c*144115188075855872+k.i*137438953472+k.a*65536+k.t
def Tok.body (k:Tok):Nat:=k.c*2199023255552+k.i*2097152+k.a
def Tok.v (k:Tok):Value:= .agg #[zI (k.c:Int),zI (k.i:Int),zI (k.a:Int),zI (k.t:Int)]
theorem num_lt {k:Tok} (h:k.ok):k.num<576460752303423488:=by
 have:=h.c3;have:=h.i2;have:=h.t2;have:=h.a2;unfold Tok.num;omega
theorem num_bd {k:Tok} (h:k.ok):97*k.num<73786976294838206464:=by have:=num_lt h;omega
theorem body_num {k:Tok} (h:k.ok):k.num / 65536 % 8796093022208=k.body:=by
 have:=h.c3;have:=h.i2;have:=h.t2;have:=h.a2;unfold Tok.num Tok.body;omega
theorem body_bd {k:Tok} (h:k.ok):k.body≤8796093022207:=by
 have:=h.c3;have:=h.i2;have:=h.t2;have:=h.a2;unfold Tok.body;omega
def byt (z:Int):UInt8:=UInt8.ofNat z.toNat
def fmtL (V:Nat):List UInt8:=List.replicate (20 - (decL V).length) 48++(decL V).map byt
def fmtB (V:Nat):ByteArray:=⟨(fmtL V).toArray⟩
theorem fmtB_list (V:Nat):(fmtB V).data.toList=fmtL V:=by simp [fmtB]
theorem dec_len20 {V:Nat} (h:V<100000000000000000000):1≤(decL V).length∧(decL V).length≤20:=decL_len 19 V (by omega)
def bigV (a b c:Nat):Nat:=a+b*4294967296+c*18446744073709551616
theorem bigV_bit {a b c:Nat} (ha:a<2 ^ 32) (hb:b<2 ^ 32) (m:Nat):(bigV a b c).testBit m=bit3 a b c m:=by
 have e:bigV a b c=2 ^ 32*(2 ^ 32*c+b)+a:=by unfold bigV;omega
 rw [e,Nat.testBit_two_pow_mul_add _ ha,Nat.testBit_two_pow_mul_add _ hb];unfold bit3;by_cases h1:m<32
 ·rw [if_pos h1,if_pos h1]
 ·rw [if_neg h1,if_neg h1];by_cases h2:m<64
  ·rw [if_pos h2,if_pos (by omega)]
  ·rw [if_neg h2,if_neg (by omega)]
   congr 1
theorem bits_num {a b c lo n:Nat} (ha:a<2 ^ 32) (hb:b<2 ^ 32) (hc:c<2 ^ 32) (hn:n≤64):bitsN a b c lo n=bigV a b c / 2 ^ lo % 2 ^ n:=by
 apply Nat.eq_of_testBit_eq;intro j;rw [bits_bit ha hb hc hn,Nat.testBit_mod_two_pow,Nat.testBit_div_two_pow,bigV_bit ha hb,Nat.add_comm]
theorem bigV_top {a b c:Nat} (ha:a<2 ^ 32) (hb:b<2 ^ 32) (hc:c<2 ^ 32):bigV a b c<2 ^ 96:=by
 unfold bigV;omega
theorem put_num {a b c v lo n:Nat} (ha:a<2 ^ 32) (hb:b<2 ^ 32) (hc:c<2 ^ 32) (hv:v<2 ^ n) (hn:n≤64) (hl:lo+n≤96) (h0:bigV a b c / 2 ^ lo % 2 ^ n=0) :
  bigV (putN a v n lo) (putN b v n ((lo:Int) - 32)) (putN c v n ((lo:Int) - 64))=bigV a b c+v*2 ^ lo:=by
 have pa:=put_lt a v n lo ha;have pb:=put_lt b v n ((lo:Int) - 32) hb;have pc:=put_lt c v n ((lo:Int) - 64) hc
 have hbit:∀ m,m<96→(bigV (putN a v n lo) (putN b v n ((lo:Int) - 32)) (putN c v n ((lo:Int) - 64))).testBit m=if lo≤m∧m<lo+n then v.testBit (m - lo) else (bigV a b c).testBit m:=fun m hm=>by
  rw [bigV_bit pa pb,put_bits hv m hm,bigV_bit ha hb]
 have hfv:bigV (putN a v n lo) (putN b v n ((lo:Int) - 32)) (putN c v n ((lo:Int) - 64)) / 2 ^ lo % 2 ^ n=v:=by
  rw [← bits_num pa pb pc hn,bits_put ha hb hc hv hn hl]
 have hVt:=bigV_top ha hb hc;have hWt:=bigV_top pa pb pc;generalize bigV (putN a v n lo) (putN b v n ((lo:Int) - 32)) (putN c v n ((lo:Int) - 64))=W at *;generalize bigV a b c=V at *
 have hlow:W % 2 ^ lo=V % 2 ^ lo:=by
  apply Nat.eq_of_testBit_eq;intro j;rw [Nat.testBit_mod_two_pow,Nat.testBit_mod_two_pow];by_cases hj:j<lo
  ·rw [hbit j (by omega),if_neg (by omega)]
  ·rw [decide_eq_false hj,Bool.false_and,Bool.false_and]
 have hhigh:W / 2 ^ lo / 2 ^ n=V / 2 ^ lo / 2 ^ n:=by
  rw [Nat.div_div_eq_div_mul,Nat.div_div_eq_div_mul,← Nat.pow_add];apply Nat.eq_of_testBit_eq;intro j;rw [Nat.testBit_div_two_pow,Nat.testBit_div_two_pow];by_cases hj:lo+n+j<96
  ·rw [Nat.add_comm j,hbit _ hj,if_neg (by omega)]
  ·rw [bit_hi hVt (by omega),bit_hi hWt (by omega)]
 have eV:=Nat.div_add_mod V (2 ^ lo);have eW:=Nat.div_add_mod W (2 ^ lo);have eV2:=Nat.div_add_mod (V / 2 ^ lo) (2 ^ n);have eW2:=Nat.div_add_mod (W / 2 ^ lo) (2 ^ n);rw [hhigh,hfv] at eW2;rw [hlow] at eW;rw [h0] at eV2;generalize V / 2 ^ lo / 2 ^ n=H at *;generalize V % 2 ^ lo=L at *;rw [← eV2,Nat.mul_add] at eV;rw [← eW2,Nat.mul_add] at eW;rw [Nat.mul_comm v];generalize 2 ^ lo*(2 ^ n*H)=p at *;generalize 2 ^ lo*v=r at *;omega
end token
namespace book
open Go.RowKit
def So.cs (x:So):List Value:=[zI x.id,zI x.cl,zI x.am,zI x.tg,zI x.rv]
def So.v (x:So):Value:= .agg #[zI x.id,zI x.cl,zI x.am,zI x.tg,zI x.rv]
def cellsS:List So→List Value
 | []=>[]
 | x :: l=>x.cs++cellsS l
theorem cellsS_len (l:List So):(cellsS l).length=l.length*5:=by
 induction l with
 | nil=>rfl
 | cons e l ih=>rw [cellsS,List.length_append,ih,List.length_cons];show 5+_=_;omega
theorem cellsS_app (l m:List So):cellsS (l++m)=cellsS l++cellsS m:=by
 induction l with
 | nil=>rfl
 | cons e l ih=>rw [List.cons_append,cellsS,cellsS,ih,List.append_assoc]
theorem oneS (l:List So):∀ u∈cellsS l,u.oneCell'=true:=by
 induction l with
 | nil=>intro u hu;cases hu
 | cons e l ih=>
  intro u hu;rw [cellsS] at hu;rcases List.mem_append.1 hu with hu | hu
  ·simp only [So.cs,List.mem_cons,List.not_mem_nil,or_false] at hu;rcases hu with rfl | rfl | rfl | rfl | rfl <;> rfl
  ·exact ih u hu
theorem cellsS_at (l:List So) (k j:Nat) (hk:k<l.length) (hj:j<5):(cellsS l)[k*5+j]?=(l.getD k so0).cs[j]?:=by
 induction l generalizing k with
 | nil=>simp at hk
 | cons x l ih=>
  have h8:x.cs.length=5:=rfl;cases k with
  | zero=>rw [Nat.zero_mul,Nat.zero_add,cellsS,List.getElem?_append_left (by omega)];rfl
  | succ k=>
   rw [show (k+1)*5+j=x.cs.length+(k*5+j) by omega,cellsS,List.getElem?_append_right (by omega),Nat.add_sub_cancel_left];exact ih k (by simpa using hk)
def RowS (w:World) (a:Option Addr) (n:Nat) (l:List So):Prop:=l.length=n∧(n=0∨∃ b off,a=some ⟨b,off,none⟩∧b<w.heap.size∧∀ i j,i<n→j<5→w.cell? ⟨b,off+i*5+j,none⟩=(l.getD i so0).cs[j]?)
theorem RowS.below {w w':World} {a:Option Addr} {n:Nat} {l:List So} (h:RowS w a n l) (hb:Below w.heap.size w w'):RowS w' a n l:=by
 refine ⟨h.1,?_⟩;rcases h.2 with h0 | ⟨b,off,rfl,lb,hc⟩
 ·exact .inl h0
 ·exact .inr ⟨b,off,rfl,Nat.lt_of_lt_of_le lb hb.size,fun i j hi hj=>(hb.cell (p:=⟨b,off+i*5+j,none⟩) lb).trans (hc i j hi hj)⟩
def Lo (w:World) (base:Nat) (v:Value) (l:List So):Prop:=w.ownsRow base 56 5 v l.length (cellsS l)
theorem Lo.zero (w:World) (base:Nat):Lo w base (zS) []:=World.ownsRow_nil _ _ _ _
theorem Lo.alloc {w:World} {base:Nat} {v:Value} {l:List So} (h:Lo w base v l) (o:Obj):Lo (w.alloc o) base v l:=World.ownsRow.alloc h o
theorem Lo.next {w w':World} {base:Nat} {v:Value} {l:List So} (h:Lo w base v l) (hb:Below w.heap.size w w'):Lo w' base v l:=by
 refine ⟨h.1,?_⟩;rcases h.2 with hn | ⟨g,cap,cur,hv,hg,hc,rest⟩
 ·exact .inl hn
 ·exact .inr ⟨g,cap,cur,hv,hg,Blk.next hc hb,rest⟩
theorem Lo.kept {w w':World} {base:Nat} {own:Option Nat} {v:Value} {l:List So} (h:Lo w base v l) (hg:w.grownBy w' own) (hne:∀ g,v.ownBlock=some g→own≠some g):Lo w' base v l:=by
 refine World.ownsRow.kept h hg ?_;cases e:v.ownBlock with
 | none=>exact .inl rfl
 | some g=>exact .inr (fun q=>hne g e q.symm)
theorem Lo.row {w:World} {base:Nat} {v:Value} {l:List So} (h:Lo w base v l):∃ a cap,v = .slice a l.length cap∧RowS w a l.length l∧(a=none→cap=0)∧l.length≤cap:=by
 rcases h.2 with ⟨hv,hn⟩ | ⟨g,cap,cur,hv,_,hc,h1,_⟩
 ·exact ⟨none,0,by rw [hn];exact hv,⟨rfl,.inl hn⟩,fun _=>rfl,by omega⟩
 ·subst hv;refine ⟨_,cap,rfl,⟨rfl,.inr ⟨g,0,rfl,Blk.lt hc,fun i j hi hj=>?_⟩⟩,(fun h=>by cases h),h1⟩;have e1:=World.ownsRow.cellAt h (i*5+j) (by omega);rw [Nat.zero_add,e1];exact cellsS_at l i j hi hj
theorem soldI:(Tryz.prog.info? 56).map (fun i=>(i.zero,i.size,i.bytes))=some (some (.agg so0.cs.toArray),5,40):=by kernel_rfl
theorem step_sold {w:World} {o:Oper} {a:Act} {K:Act→World→Prop} {Q:Exit→Act→World→Prop} (d:Nat) (hd:o.dst=some d) (s x:Operand)
  (ho:o.op = .call { callee:= .builtin .append,args:=#[s,x],argTypes:=#[52,52] })
  (base G:Nat) (v:Value) (l:List So) (r:So) (hs:a.eval s=v) (hx:a.eval x = .slice (some ⟨G,0,none⟩) 1 1) (hv:Lo w base v l) (hu:Blk w G r.cs.toArray 56) (hn:l.length≤2000000) (hbase:base≤w.heap.size)
  (h:∀ v' w',Lo w' base v' (l++[r])→w.grownBy w' v.ownBlock→(v'.ownBlock=v.ownBlock∨v'.ownBlock=some w.heap.size)→K (a.put (some d) v') w'):Oper.wp Tryz.prog o a w K Q:=by
 rw [← hd] at h;obtain ⟨i0,hi,hz0,hz1,hz2⟩:=info_parts soldI
 obtain ⟨v',w',hr,h2,h3,_,h5⟩:=run_append_own_at (P:=Tryz.prog) w base 52 o.type 56 i0 (.agg so0.cs.toArray) 5 40 Tryz.underlying52 hi hz0 hz1 hz2 rfl (by decide) v l.length (cellsS l) hv ⟨G,0,none⟩ 1 1 (cellsS [r]) (by rw [cellsS_len];rfl) (by
  intro j u hj;rw [Addr.add_lit,Nat.zero_add,hu.cell j];rw [cellsS,cellsS,List.append_nil] at hj
  simpa using hj) (oneS [r]) (by unfold maxLen;omega) (by omega) hbase
 unfold Oper.wp execOp;simp only [ho,resolve,invoke,builtin,Sem.run_bind,Sem.run_pure,Result.andThen_ok,List.map_toArray,List.map_cons,List.map_nil,hs,hx,hr];refine h v' w' ?_ h3 h5;unfold Lo;rw [List.length_append,cellsS_app];exact h2
end book
namespace check
open Go.RowKit
def pick (n many:Int):Int:=(if n<0 then -(n+1) else n) % many
theorem pick_nonneg (n many:Int) (h:0<many):0≤pick n many:=Int.emod_nonneg _ (by omega)
theorem pick_lt (n many:Int) (h:0<many):pick n many<many:=Int.emod_lt_of_pos _ h
theorem picked_any (n many:Int) (w:World) (hn:(Lit.int .i64 n).wf=true) (hm:0<many) (hm':many≤4000000000000) :
  Calls Tryz.prog 18 #[zI n,zI many] w fun e w'=>e = .returned (zI (pick n many))∧w'=w:=by
 have hb:-9223372036854775808≤n∧n≤9223372036854775807:=bounds_i64 hn;obtain ⟨hb1,hb2⟩:=hb;by_cases h:n<0
 ·have e0:pick n many=(-(n+1)) % many:=by unfold pick;rw [if_pos h]
  rw [e0];go_enter Tryz.func18,Tryz.ntmps18;go_wp2;go_ret;exact ⟨by rw [← Int.neg_tmod,Int.tmod_eq_emod_of_nonneg (by omega)];rfl,rfl⟩
 ·have e0:pick n many=n % many:=by unfold pick;rw [if_neg h]
  rw [e0];go_enter Tryz.func18,Tryz.ntmps18;go_wp2;go_ret;exact ⟨rfl,rfl⟩
end check
namespace cell
open Go.RowKit
def GaveC (w:World) (zs:List Int) (c:Int) (e:Ending) (w':World):Prop:=
 ∃ a cap,e = .returned (.tuple #[.slice a zs.length cap,zI c])∧RowU w' a zs.length zs∧(a=none→cap=0)∧zs.length≤cap∧Below w.heap.size w w'
theorem GaveC.mk {w w':World} {zs:List Int} {c:Int} {a:Option Addr} {n cap:Nat} (hr:RowU w' a n zs) (hn:a=none→cap=0) (hc:n≤cap) (hb:Below w.heap.size w w'):GaveC w zs c (.returned (.tuple #[.slice a n cap,zI c])) w':=by
 obtain ⟨h1,h2⟩:=hr;subst h1;exact ⟨a,cap,rfl,⟨rfl,h2⟩,hn,hc,hb⟩
end cell
namespace acc
open tar (Du du0 Came RowD Ld PairT)
open Go.RowKit
theorem row_upd {w W:World} {g:Nat} {new:Array Value} {t:TypeId} {p:Option Addr} {len:Nat} {l:List Du} (h:RowD w p len l) (hU:Upd w W g new t) (hg:0<len→∀ x,p=some x→x.block≠g):RowD W p len l:=by
 refine ⟨h.1,?_⟩;rcases h.2 with h0 | ⟨b,off,rfl,hc⟩
 ·exact .inl h0
 ·refine .inr ⟨b,off,rfl,fun i hi=>?_⟩;have hne:b≠g:=hg (by omega) _ rfl;rw [hU.cell ⟨b,off+i*2,none⟩ hne rfl,hU.cell ⟨b,off+i*2+1,none⟩ hne rfl];exact hc i hi
theorem came_upd {w W:World} {g:Nat} {new:Array Value} {t:TypeId} {p:Option Addr} {len cap:Nat} {l:List Du} (h:Came w p len cap l) (hU:Upd w W g new t) (hg:0<len→∀ x,p=some x→x.block≠g):Came W p len cap l:=⟨row_upd h.row hU hg,h.nil,h.room,h.bytes,h.wf⟩
theorem fresh_updN {w W:World} {g base:Nat} {new:Array Value} {t:TypeId} {p:Option Addr} {len cap:Nat} {l:List Du} (h:deb.Fresh w base p len cap l) (hU:Upd w W g new t) (hg:0<len→∀ x,p=some x→x.block≠g):deb.Fresh W base p len cap l:=⟨came_upd h.came hU hg,h.new⟩
theorem fresh_drew {w:World} {base:Nat} {p:Option Addr} {len cap:Nat} {l:List Du} (h:deb.Fresh w base p len cap l):deb.Fresh w.drew base p len cap l:=⟨⟨h.came.row,h.came.nil,h.came.room,h.came.bytes,h.came.wf⟩,h.new⟩
theorem ld_upd {T:TypeId} {w W:World} {g base:Nat} {new:Array Value} {t:TypeId} {v:Value} {l:List Du} (h:Ld T w base v l) (hU:Upd w W g new t) (hg:g<base):Ld T W base v l:=by
 refine ⟨h.1,?_⟩;rcases h.2 with hn | ⟨q,cap,cur,hv,hq,hc,rest⟩
 ·exact .inl hn
 ·exact .inr ⟨q,cap,cur,hv,hq,hU.keep hc (by omega),rest⟩
theorem came_lt {w:World} {p:Option Addr} {len cap:Nat} {l:List Du} (h:Came w p len cap l):0<len→∀ x,p=some x→x.block<w.heap.size:=fun hn x hx=>by
 obtain ⟨b,off,hp,hb,_⟩:=h.row.at hn;rw [hp] at hx;cases hx;exact hb
end acc
namespace words
open Go.RowKit
theorem pow_min {j:Nat} (hj:¬ j≤64):∃ d,2 ^ j=2 ^ 64*2 ^ d:=⟨j - 64,by rw [← Nat.pow_add];congr 1;omega⟩
theorem sh_down (v j:Nat) (hj:0<j) (hv:v<2 ^ 64):((sh v (-(j:Int)):Nat):Int)=(v:Int) / 2 ^ min j 64:=by
 unfold sh;rw [if_pos (by omega),show (-(-(j:Int))).toNat=j by omega];by_cases h:j≤64
 ·rw [Nat.min_eq_left h];simp
 ·rw [Nat.min_eq_right (by omega)];have h1:v / 2 ^ j=0:=Nat.div_eq_of_lt (Nat.lt_of_lt_of_le hv (Nat.pow_le_pow_right (by decide) (by omega)));rw [h1];omega
theorem sh_up (v:Nat) (k:Int) (hk:0≤k):((sh v k:Nat):Int)=IntKind.u64.wrap ((v:Int)*2 ^ min k.toNat 64):=by
 unfold sh;rw [if_neg (by omega),IntKind.wrap_u64];by_cases h:k.toNat≤64
 ·rw [Nat.min_eq_left h];simp
 ·rw [Nat.min_eq_right (by omega)];obtain ⟨d,hd⟩:=pow_min h;rw [hd,Nat.mul_left_comm,Nat.mul_mod_right];omega
theorem ones_shift (n:Nat) (h0:1≤n) (h1:n≤64):((onesN n:Nat):Int)=18446744073709551615 / 2 ^ (64 - n):=by
 have e:(18446744073709551615:Int) / 2 ^ (64 - n)=((18446744073709551615 / 2 ^ (64 - n):Nat):Int):=by simp
 rw [e]
 congr 1
 unfold onesN;have hp:2 ^ 64=2 ^ n*2 ^ (64 - n):=by rw [← Nat.pow_add];congr 1;omega
 have h2:0<2 ^ (64 - n):=Nat.two_pow_pos _;have h3:0<2 ^ n:=Nat.two_pow_pos _;symm;apply Nat.div_eq_of_lt_le
 ·have:(2 ^ n - 1)*2 ^ (64 - n)=2 ^ 64 - 2 ^ (64 - n):=by rw [hp,Nat.sub_mul,Nat.one_mul]
  omega
 ·have:(2 ^ n - 1+1)*2 ^ (64 - n)=2 ^ 64:=by rw [hp,Nat.sub_add_cancel h3]
  omega
theorem shift_any (v:Nat) (k:Int) (w:World) (hv:v<2 ^ 64) (k0:-96≤k) (k1:k≤96) :
  Calls Tryz.prog 170 #[.int .u64 (v:Int),zI k] w fun e w'=>e = .returned (.int .u64 (sh v k:Nat))∧w'=w:=by
 by_cases h:k<0
 ·obtain ⟨j,rfl⟩:∃ j:Nat,k=-(j:Int):=⟨(-k).toNat,by omega⟩
  have hj:0<j:=by omega
  have e:=sh_down v j hj hv;have e2:-(-(j:Int))=(j:Int):=by omega
  rw [e];clear e;go_enter Tryz.func170,Tryz.ntmps170;go_wp2;go_ret;exact ⟨rfl,rfl⟩
 ·have e:=sh_up v k (by omega);rw [e];clear e;go_enter Tryz.func170,Tryz.ntmps170;go_wp2;go_ret;exact ⟨rfl,rfl⟩
theorem ones_any (n:Nat) (w:World) (h0:1≤n) (h1:n≤64) :
  Calls Tryz.prog 168 #[zI (n:Int)] w fun e w'=>e = .returned (.int .u64 (onesN n:Nat))∧w'=w:=by
 rw [ones_shift n h0 h1];go_enter Tryz.func168,Tryz.ntmps168;go_wp2;go_ret;exact ⟨rfl,rfl⟩
theorem isField_yes (lo n:Int) (w:World) (h0:0≤lo) (h1:1≤n) (h2:n≤64) (h3:lo≤96 - n) :
  Calls Tryz.prog 167 #[zI lo,zI n] w fun e w'=>e = .returned (.bool true)∧w'=w:=by
 go_enter Tryz.func167,Tryz.ntmps167;go_wp2;go_ret;exact ⟨rfl,rfl⟩
theorem cutWord_any (B:Nat) (n:Int) (w:World) (hc:w.cell? ⟨B,0,none⟩=some (.int .u64 n)) (hf:w.frozen? ⟨B,0,none⟩=false) :
  Calls Tryz.prog 131 #[.pointer (some ⟨B,0,none⟩)] w fun e w'=>e = .returned (.int .u32 (n % 4294967296))∧w'=w.setCell ⟨B,0,none⟩ (.int .u64 (n / 4294967296)):=by
 go_enter Tryz.func131,Tryz.ntmps131;go_wp2;go_ret;exact ⟨rfl,rfl⟩
theorem timesStep_any (B M:Nat) (n x m:Int) (w:World) (hc:w.cell? ⟨B,0,none⟩=some (.int .u64 n)) (hf:w.frozen? ⟨B,0,none⟩=false) (hm:w.cell? ⟨M,0,none⟩=some (.int .u32 m)) (h0:0≤n) (h1:n<4294967296) (x0:0≤x) (x1:x<4294967296) (m0:0≤m) (m1:m<4294967296) :
  Calls Tryz.prog 130 #[.int .u32 x,.pointer (some ⟨B,0,none⟩),.pointer (some ⟨M,0,none⟩)] w fun e w'=>e = .returned (.int .u32 ((n+x*m) % 4294967296))∧Acc w w' B (.int .u64 ((n+x*m) / 4294967296)):=by
 have hA:Acc w w B (.int .u64 n):=Acc.refl hc hf;have HA:Hid (Acc w w B (.int .u64 n)):=hA;obtain ⟨p1,p2⟩:=prod_bd x0 x1 m0 m1;clear hA;go_enter Tryz.func130,Tryz.ntmps130;go_wp2_with fail;refine (cutWord_any B (n+x*m) _ (by apply World.cell?_setCell_same;exact hc) (by rw [World.frozen?_setCell];exact hf)).mono ?_;rintro e w' ⟨rfl,rfl⟩;go_wp2_with fail;go_ret;exact ⟨rfl,(HA.o.set _).set _⟩
end words
namespace disk
open Go.RowKit cell
def KReplay:Prop:=∀ (W:World) (a:Option Addr) (n cap:Nat) (c:List Int),RowU W a n c→(a=none→cap=0)→n≤cap→n*4≤140737488351232→(∀ x∈c,0≤x∧x<4294967296)→Calls Tryz.prog 35 #[.slice a n cap] W fun e w'=>RepNew W c e w'
end disk
section
open Go.RowKit
theorem run_neOp {P:Program} {o:Oper} {a:Act} {w:World} (ty rt:TypeId) (x y:Operand) (ho:o.op = .binOp .neq ty x y rt) (ca cb:Array Value) (hx:a.eval x = .agg ca) (hy:a.eval y = .agg cb) (hg:P.eqGuardType P.depth ty=false) (b:Bool)
  (hr:(Op.equalIn 10000 ty (.agg ca) (.agg cb)).run P w = .ok b w):(execOp a.eval o).run P w = .ok (.value (.bool (!b))) w:=by
 have hr':(Op.equal ty (.agg ca) (.agg cb)).run P w = .ok b w:=hr;unfold execOp;simp only [ho,hx,hy];have hp:∀ w':World,(program:Sem Program).run P w' = .ok P w':=fun _=>rfl;simp [eqGuard,hg,binOp,hr',hp,Sem.run_bind]
theorem wp_neE {P:Program} {ops:Array Oper} {rest:List Oper} {o:Oper} {a:Act} {w:World} {Q:Exit→Act→World→Prop} (hw:Region.wanted o (yielded ops a.tmps)=true) (ty rt:TypeId) (x y:Operand) (ho:o.op = .binOp .neq ty x y rt) (ca cb:Array Value) (hx:a.eval x = .agg ca) (hy:a.eval y = .agg cb) (hg:P.eqGuardType P.depth ty=false) (b:Bool)
  (hr:(Op.equalIn 10000 ty (.agg ca) (.agg cb)).run P w = .ok b w) (d:Nat) (hd:o.dst=some d) (h:wpList P ops Q rest (a.put (some d) (.bool (!b))) w):wpList P ops Q (o :: rest) a w:=
 wpList_step fun K hK=>by
  rw [if_pos hw];exact wp_runOp d hd (run_neOp ty rt x y ho ca cb hx hy hg b hr) (hK _ _ h)
end
namespace deb
open tar (Du du0 Came TwoPost)
open Go.RowKit
def KdAge:Prop:=∀ (W:World) (a:Option Addr) (len cap:Nat) (ls:List Du) (m:Int),Came W a len cap ls→(Lit.int .i64 m).wf=true→Calls Tryz.prog 201 #[.slice a len cap,zI m] W fun e w'=>AgePost W ls m e w'
open tar (RowD Ld ErrPost PairT)
theorem dwithin (lo hi n:Int) (w:World):Calls Tryz.prog 202 #[zI lo,zI hi,zI n] w fun e w'=>e = .returned (.bool (decide (lo≤n∧n≤hi)))∧w'=w:=by
 by_cases h1:lo≤n
 ·by_cases h2:n≤hi
  ·have h3:decide (lo≤n∧n≤hi)=true:=by simp;omega
   rw [h3];clear h3;go_enter Tryz.func202,Tryz.ntmps202;go_wp2;go_ret;exact ⟨rfl,rfl⟩
  ·have h3:decide (lo≤n∧n≤hi)=false:=by simp;omega
   have h4:decide (n≤hi)=false:=by simp;omega
   rw [h3];clear h3 h2;go_enter Tryz.func202,Tryz.ntmps202;go_wp2;go_ret;exact ⟨rfl,rfl⟩
 ·have h3:decide (lo≤n∧n≤hi)=false:=by simp;omega
  have h4:decide (lo≤n)=false:=by simp;omega
  rw [h3];clear h3 h1;go_enter Tryz.func202,Tryz.ntmps202;go_wp2;go_ret;exact ⟨rfl,rfl⟩
end deb
namespace tar
open Go.RowKit
def KtCheck:Prop:=∀ (W:World) (a:Option Addr) (len cap:Nat) (ls:List Du),Came W a len cap ls→Calls Tryz.prog 68 #[.slice a len cap] W fun e w'=>ErrPost W (FaultIs ls) e w'
open Classical in
theorem prises (b off k cap:Nat) (ls:List Du) (w1:World) (hs1:1≤k) (hs2:k≤8) (hlen:ls.length=k) (hbl:b<w1.heap.size) (hc:∀ i,i<k→w1.cell? ⟨b,off+i*2,none⟩=some (zI (ls.getD i du0).a)∧w1.cell? ⟨b,off+i*2+1,none⟩=some (zI (ls.getD i du0).b)):Calls Tryz.prog 114 #[.slice (some ⟨b,off,none⟩) k cap] w1 fun e w'=>e = .returned (.bool (decide (Rises ls)))∧Below w1.heap.size w1 w':=by
 have HC:Hid (∀ i,i<k→w1.cell? ⟨b,off+i*2,none⟩=some (zI (ls.getD i du0).a)∧w1.cell? ⟨b,off+i*2+1,none⟩=some (zI (ls.getD i du0).b)):=hc;have HLEN:Hid (ls.length=k):=hlen;have hnm:k≤9223372036854775807:=by omega
 clear hc hlen;go_enter Tryz.func114,Tryz.ntmps114;go_wp2_with fail;go_loopw [3] (fun x wr2=>∃ j:Nat,1≤j∧j≤k∧x=zI (j:Int)∧(∀ i,1≤i→i<j→(ls.getD (i - 1) du0).a<(ls.getD i du0).a)∧Below w1.heap.size w1 wr2) (fun x _=>k - (intOf x).toNat)
 case atStart=>exact ⟨1,Nat.le_refl _,hs1,rfl,fun i h1 h2=>absurd h2 (by omega),Below.refl _ _⟩
 case round=>
  obtain ⟨j,hj1,hj,rfl,hf,hb⟩:=hrel;have HF:Hid (∀ i,1≤i→i<j→(ls.getD (i - 1) du0).a<(ls.getD i du0).a):=hf;have HB:Hid (Below w1.heap.size w1 wr):=hb;by_cases hlt2:j<k
  ·have hdl2:decide ((j:Int)<(k:Int))=true:=by simp;omega
   have c0:wr.cell? ⟨b,off+j*2,none⟩=some (zI (ls.getD j du0).a):=(hb.cell (p:=⟨b,off+j*2,none⟩) hbl).trans (HC.o j hlt2).1;have c1:wr.cell? ⟨b,off+(j - 1)*2,none⟩=some (zI (ls.getD (j - 1) du0).a):=(hb.cell (p:=⟨b,off+(j - 1)*2,none⟩) hbl).trans (HC.o (j - 1) (by omega)).1;have hs2':wr.drew.cell? ⟨b,off+j*2,none⟩=some (zI (ls.getD j du0).a):=c0;have HBD:Hid (Below w1.heap.size w1 wr.drew):=hb.drew;have hsub:((j:Int) - 1)=((j - 1:Nat):Int):=by omega
   have hjm:j - 1<k:=by omega
   clear hb hf;by_cases hle:(ls.getD j du0).a≤(ls.getD (j - 1) du0).a
   ·have hde:decide ((ls.getD j du0).a≤(ls.getD (j - 1) du0).a)=true:=decide_eq_true hle
    have HN:Hid (decide (Rises ls)=false):=decide_eq_false fun h=>by
     have:=h j hj1 (by rw [HLEN.o];exact hlt2);omega
    clear hle;generalize (ls.getD j du0).a=x at *;generalize (ls.getD (j - 1) du0).a=y at *;generalize j - 1=j1 at *;go_wp2_with fail;go_region
    all_goals go_wp2_with fail
    go_ret;exact ⟨by rw [HN.o];rfl,HBD.o⟩
   ·have hde:decide ((ls.getD j du0).a≤(ls.getD (j - 1) du0).a)=false:=decide_eq_false hle
    have HF2:Hid (∀ i,1≤i→i<j+1→(ls.getD (i - 1) du0).a<(ls.getD i du0).a):=fun i h1 h2=>by
     by_cases e:i=j
     ·subst e;omega
     ·exact HF.o i h1 (by omega)
    clear hle;generalize (ls.getD j du0).a=x at *;generalize (ls.getD (j - 1) du0).a=y at *;generalize j - 1=j1 at *;go_wp2_with fail;go_region
    all_goals go_wp2_with fail
    go_roundw
    case rel=>exact ⟨j+1,by omega,by omega,by go_num,HF2.o,HBD.o⟩
    case measure=>simp [intOf];omega
  ·obtain rfl:j=k:=by omega
   have hdl2:decide ((j:Int)<(j:Int))=false:=by simp
   have HR:Hid (decide (Rises ls)=true):=decide_eq_true fun i h1 h2=>HF.o i h1 (by rw [HLEN.o] at h2;exact h2);clear hb hf;go_wp2_with fail;go_ret;exact ⟨by rw [HR.o];rfl,HB.o⟩
end tar
namespace book
open Go.RowKit
theorem of_caught (ge gn ga:Nat) (f0 m0 a0 f:Int) (hf:f≠0) (w:World) (he:Blk w ge #[zI f0] 27) (hn:Blk w gn #[zI m0] 3) (ha:Blk w ga #[zI a0] 3) (h1:gn≠ge) (h2:ga≠ge) :
  CallsD Tryz.prog 38 #[.pointer (some ⟨ge,0,none⟩),.pointer (some ⟨gn,0,none⟩),.pointer (some ⟨ga,0,none⟩)] (.panicking (thrown f)) w fun e u' w'=>e = .returned (.tuple #[])∧settle u' = .returning∧∃ W W2,Below w.heap.size w W∧Upd W W2 ge #[zI f] 27∧Upd W2 w' ga #[zI m0] 3:=by
 refine callsD_of_wpS Tryz.func38 rfl fun c₀ cs hu=>?_;apply wpS_seq;apply wpS_region;simp only [thrown] at hu;simp [wpOpsS,go_sem,recoverD,hu,Tryz.ntmps38,Exit.thenS];refine (reason_is f w).mono ?_;rintro e w1 ⟨rfl,hb1⟩;have hE:=he.next hb1;have hN:=hn.next hb1;have hA:=ha.next hb1;have hc:w1.cell? ⟨ge,0,none⟩=some (zI f0):=hE.cell 0;have hz:w1.frozen? ⟨ge,0,none⟩=false:=hE.free 0;have hU:Upd w1 (w1.setCell ⟨ge,0,none⟩ (zI f)) ge #[zI f] 27:=upd_cells ge _ [zI f] 0 w1 _ hE;simp [go_sem,hc,hz,Exit.thenS];generalize w1.setCell ⟨ge,0,none⟩ (zI f)=W2 at *;have hE2:=hU.blk;have hN2:=hU.keep hN h1;have hA2:=hU.keep hA h2;have q0:W2.cell? ⟨ge,0,none⟩=some (zI f):=hE2.cell 0;have q1:W2.cell? ⟨gn,0,none⟩=some (zI m0):=hN2.cell 0;have nf:(f != 0)=true:=by simpa using hf
 change Code.wpS _ _ _ { tmps:=#[.pointer (some ⟨ge,0,none⟩),.pointer (some ⟨gn,0,none⟩),.pointer (some ⟨ga,0,none⟩),refV f,zI f,undef,undef,undef],defers:=[] } _ _;apply wpS_of_wp;have HA2:Hid (Blk W2 ga #[zI a0] 3):=hA2;have HU:Hid (Upd w1 W2 ge #[zI f] 27):=hU;have HB:Hid (Below w.heap.size w w1):=hb1;clear hf he hn ha hE hN hA hc hz hU hE2 hN2 hA2 hb1 hu;go_wp2_with (first | (refine wp_let1 rfl 3 _ _ rfl ga 0 rfl .i64 m0 rfl (by kernel_rfl) #[zI a0] 3 HA2.o (by simp) ?_) | fail)
 intro W3 hU3;have HU3:Hid (Upd W2 W3 ga #[zI m0] 3):=hU3;clear hU3;go_wp2_with fail;simp [bodyPostS,results,Tryz.results38,settle];exact ⟨w1,HB.o,W2,HU.o,HU3.o⟩
theorem of_idle (ge gn ga:Nat) (f0:Int) (w:World) (he:Blk w ge #[zI f0] 27) :
  CallsD Tryz.prog 38 #[.pointer (some ⟨ge,0,none⟩),.pointer (some ⟨gn,0,none⟩),.pointer (some ⟨ga,0,none⟩)] .returning w fun e u' w'=>e = .returned (.tuple #[])∧settle u' = .returning∧∃ W,Below w.heap.size w W∧Upd W w' ge #[zI 0] 27:=by
 refine callsD_of_wpS Tryz.func38 rfl fun c₀ cs hu=>?_;apply wpS_seq;apply wpS_region;simp [wpOpsS,go_sem,recoverD,hu,Tryz.ntmps38,Exit.thenS];refine (reason_nil w).mono ?_;rintro e w1 ⟨rfl,rfl⟩;have hc:w1.cell? ⟨ge,0,none⟩=some (zI f0):=he.cell 0;have hz:w1.frozen? ⟨ge,0,none⟩=false:=he.free 0;have hU:Upd w1 (w1.setCell ⟨ge,0,none⟩ (zI 0)) ge #[zI 0] 27:=upd_cells ge _ [zI 0] 0 w1 _ he;simp [go_sem,hc,hz,Exit.thenS];generalize w1.setCell ⟨ge,0,none⟩ (zI 0)=W2 at *;have q0:W2.cell? ⟨ge,0,none⟩=some (zI 0):=hU.blk.cell 0;change Code.wpS _ _ _ { tmps:=#[.pointer (some ⟨ge,0,none⟩),.pointer (some ⟨gn,0,none⟩),.pointer (some ⟨ga,0,none⟩),.nilIface,zI 0,undef,undef,undef],defers:=[] } _ _;apply wpS_of_wp;have HU:Hid (Upd w1 W2 ge #[zI 0] 27):=hU;have HH:Hid (c₀.mode = .returning):=hu;clear he hc hz hU hu;go_wp2_with fail;have hu:=HH.o;have hU:=HU.o;simp [bodyPostS,results,Tryz.results38,hu,settle];exact ⟨.returning,(by cases c₀;simp_all),rfl,w1,Below.refl _ _,hU⟩
def FindPost (w:World) (l:List Cu) (me:Int) (e:Ending) (w':World):Prop:=∃ x f,e = .returned (.tuple #[zI x,zI f])∧FindIs l me x f∧Below w.heap.size w w'
end book
end Go.Proofs.YtnpblpbohcegoaaGreatDoor
