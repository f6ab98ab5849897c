import Derived.Test.YtnpblpbohcegoaaGreatDoorVBGws7
set_option linter.unusedVariables false
set_option linter.unusedSimpArgs false
set_option maxHeartbeats 4000000
set_option maxRecDepth 100000
namespace Go.Proofs.YtnpblpbohcegoaaGreatDoor
namespace book
open acc (Ac Tm Bi TFault TRight OweIs SellIs GrantIs RekeyIs)
structure Cm where
 a:Ac
 so:List So
def cm0:Cm:=⟨acc.ac0,[]⟩
def billOf (v:Ev):Bi:=⟨v.id,v.te,v.de,v.fe,v.pr,v.ch,v.un⟩
def soldOf (c:Cm) (v:Ev):So:=if v.kd=4 then ⟨v.id,2,c.a.rv+1,v.tg,c.a.rv⟩ else ⟨v.id,0,v.un,v.tg,c.a.rv⟩
def Tells (t:Tm) (c:Cm) (v:Ev) (b:Ac) (l:Bi) (e:Int):Prop:=(v.kd=2∧SellIs c.a t v.te v.mo b l e)∨(v.kd=3∧GrantIs c.a t v.mo b l e)∨(v.kd=4∧RekeyIs c.a b l e)
theorem Tells.one {t:Tm} {c:Cm} {v:Ev} {b b':Ac} {l l':Bi} {e e':Int} (h:Tells t c v b l e) (h':Tells t c v b' l' e'):b=b'∧l=l'∧e=e':=by
 rcases h with ⟨p,q⟩ | ⟨p,q⟩ | ⟨p,q⟩ <;> rcases h' with ⟨p',q'⟩ | ⟨p',q'⟩ | ⟨p',q'⟩ <;> first | exact q.one q' | omega
def HapIs (t:Tm) (c:Cm) (v:Ev) (c':Cm) (f:Int):Prop:=
 (v.kd=5∧∃ b,OweIs c.a ⟨v.ow,v.bp⟩ b f∧(f=0→c'=⟨b,c.so⟩)) ∨
 (v.kd≠5∧∃ b l e,Tells t c v b l e∧((e≠0∧f=e)∨(e=0∧l≠billOf v∧f=8)∨(e=0∧l=billOf v∧f=0∧c'=⟨b,c.so++[soldOf c v]⟩)))
theorem HapIs.one {t:Tm} {c c' d':Cm} {v:Ev} {f g:Int} (h:HapIs t c v c' f) (h':HapIs t c v d' g):f=g∧(f=0→c'=d'):=by
 rcases h with ⟨p,b,q,r⟩ | ⟨p,b,l,e,q,r⟩ <;> rcases h' with ⟨p',b',q',r'⟩ | ⟨p',b',l',e',q',r'⟩
 ·obtain ⟨rfl,rfl⟩:=q.one q';exact ⟨rfl,fun h=>(r h).trans (r' h).symm⟩
 ·exact absurd p p'
 ·exact absurd p' p
 ·obtain ⟨rfl,rfl,rfl⟩:=q.one q';rcases r with ⟨x,rfl⟩ | ⟨x,y,rfl⟩ | ⟨x,y,rfl,z⟩ <;> rcases r' with ⟨x',rfl⟩ | ⟨x',y',rfl⟩ | ⟨x',y',rfl,z'⟩ <;> first | exact ⟨rfl,fun h=>absurd h x⟩ | exact ⟨rfl,fun h=>absurd h (by decide)⟩ | exact ⟨rfl,fun _=>z.trans z'.symm⟩ | contradiction
def FirstAt (bk:List Cm) (me:Int) (k:Nat):Prop:=k<bk.length∧(bk.getD k cm0).a.me=me∧∀ j,j<k→(bk.getD j cm0).a.me≠me
def NoneAt (bk:List Cm) (me:Int):Prop:=∀ j,j<bk.length→(bk.getD j cm0).a.me≠me
theorem FirstAt.one {bk:List Cm} {me:Int} {k k':Nat} (h:FirstAt bk me k) (h':FirstAt bk me k'):k=k':=by
 rcases Nat.lt_trichotomy k k' with c | c | c
 ·exact absurd h.2.1 (h'.2.2 k c)
 ·exact c
 ·exact absurd h'.2.1 (h.2.2 k' c)
theorem FirstAt.some {bk:List Cm} {me:Int} {k:Nat} (h:FirstAt bk me k):¬ NoneAt bk me:=fun hn=>hn k h.1 h.2.1
def StepIs (t:Tm) (bk:List Cm) (v:Ev) (bk':List Cm) (f:Int):Prop:=
 (¬ EMay v∧f=5)∨(EMay v∧v.kd=1∧¬ NoneAt bk v.me∧f=21)∨(EMay v∧v.kd=1∧NoneAt bk v.me∧f=0∧bk'=bk++[⟨⟨v.me,0,1,0,0,-1,[]⟩,[]⟩]) ∨
 (EMay v∧v.kd≠1∧NoneAt bk v.me∧f=18)∨(EMay v∧v.kd≠1∧∃ k c',FirstAt bk v.me k∧HapIs t (bk.getD k cm0) v c' f∧(f=0→bk'=bk.set k c'))
theorem StepIs.one {t:Tm} {bk b b':List Cm} {v:Ev} {f f':Int} (h:StepIs t bk v b f) (h':StepIs t bk v b' f'):f=f'∧(f=0→b=b'):=by
 rcases h with ⟨p,rfl⟩ | ⟨p,q,r,rfl⟩ | ⟨p,q,r,rfl,s⟩ | ⟨p,q,r,rfl⟩ | ⟨p,q,k,c,hk,hh,hs⟩ <;> rcases h' with ⟨p',rfl⟩ | ⟨p',q',r',rfl⟩ | ⟨p',q',r',rfl,s'⟩ | ⟨p',q',r',rfl⟩ | ⟨p',q',k',c',hk',hh',hs'⟩ <;> first | contradiction | exact ⟨rfl,fun h=>absurd h (by decide)⟩ | exact ⟨rfl,fun _=>s.trans s'.symm⟩ | exact absurd r hk'.some | exact absurd r' hk.some | skip
 obtain rfl:=hk.one hk';obtain ⟨rfl,e⟩:=hh.one hh';exact ⟨rfl,fun h=>by rw [hs h,hs' h,e h]⟩
def BookIs (t:Tm) (l:List Ev) (bk:List Cm) (at_ f:Int):Prop:=
 (TFault t f∧f≠0∧bk=[]∧at_=0)∨(TRight t∧120<l.length∧bk=[]∧at_=0∧f=1) ∨
 (TRight t∧l.length≤120∧∃ (k:Nat) (st:Nat→List Cm),st 0=[]∧(∀ i,i<k→StepIs t (st i) (l.getD i ev0) (st (i+1)) 0) ∧
  ((k=l.length∧bk=st k∧at_=0∧f=0)∨(k<l.length∧(∃ x,StepIs t (st k) (l.getD k ev0) x f)∧f≠0∧bk=[]∧at_=(k:Int))))
theorem states_one {t:Tm} {l:List Ev} {k k':Nat} {st st':Nat→List Cm} (h0:st 0=[]) (h0':st' 0=[]) (h:∀ i,i<k→StepIs t (st i) (l.getD i ev0) (st (i+1)) 0) (h':∀ i,i<k'→StepIs t (st' i) (l.getD i ev0) (st' (i+1)) 0):∀ i,i≤k→i≤k'→st i=st' i
 | 0,_,_=>h0.trans h0'.symm
 | i+1,hk,hk'=>by
  have ih:=states_one h0 h0' h h' i (by omega) (by omega);have q:=h i (by omega);have q':=h' i (by omega);rw [ih] at q;exact (q.one q').2 rfl
theorem BookIs.one {t:Tm} {l:List Ev} {b b':List Cm} {a a' f f':Int} (h:BookIs t l b a f) (h':BookIs t l b' a' f'):b=b'∧a=a'∧f=f':=by
 rcases h with ⟨p,q,rfl,rfl⟩ | ⟨p,q,rfl,rfl,rfl⟩ | ⟨p,q,k,st,s0,s1,s2⟩ <;> rcases h' with ⟨p',q',rfl,rfl⟩ | ⟨p',q',rfl,rfl,rfl⟩ | ⟨p',q',k',st',s0',s1',s2'⟩
 ·exact ⟨rfl,rfl,p.one p'⟩
 ·exact absurd (p.ok.2 p') q
 ·exact absurd (p.ok.2 p') q
 ·exact absurd (p'.ok.2 p) q'
 ·exact ⟨rfl,rfl,rfl⟩
 ·omega
 ·exact absurd (p'.ok.2 p) q'
 ·omega
 ·have same:=states_one s0 s0' s1 s1';rcases s2 with ⟨e,rfl,rfl,rfl⟩ | ⟨e,⟨x,hx⟩,hf,rfl,rfl⟩ <;> rcases s2' with ⟨e',rfl,rfl,rfl⟩ | ⟨e',⟨x',hx'⟩,hf',rfl,rfl⟩
  ·have:k=k':=by omega
   subst this;exact ⟨same k (Nat.le_refl _) (Nat.le_refl _),rfl,rfl⟩
  ·have q:=s1 k' (by omega);rw [same k' (by omega) (Nat.le_refl _)] at q;exact absurd ((q.one hx').1.symm) hf'
  ·have q:=s1' k (by omega);rw [← same k (Nat.le_refl _) (by omega)] at q;exact absurd ((q.one hx).1.symm) hf
  ·rcases Nat.lt_trichotomy k k' with c | c | c
   ·have q:=s1' k c;rw [← same k (Nat.le_refl _) (by omega)] at q;exact absurd ((q.one hx).1.symm) hf
   ·subst c;rw [same k (Nat.le_refl _) (Nat.le_refl _)] at hx;exact ⟨rfl,rfl,(hx.one hx').1⟩
   ·have q:=s1 k' c;rw [same k' (by omega) (Nat.le_refl _)] at q;exact absurd ((q.one hx').1.symm) hf'
theorem run_more {t:Tm} {l:List Ev} {k:Nat} {st:Nat→List Cm} {bk:List Cm} (h:∀ i,i<k→StepIs t (st i) (l.getD i ev0) (st (i+1)) 0) (hs:StepIs t (st k) (l.getD k ev0) bk 0):∃ st':Nat→List Cm,st' 0=st 0∧st' (k+1)=bk∧(∀ i,i<k+1→StepIs t (st' i) (l.getD i ev0) (st' (i+1)) 0):=by
 refine ⟨fun i=>if i≤k then st i else bk,if_pos (Nat.zero_le _),if_neg (by omega),fun i hi=>?_⟩;show StepIs t (if i≤k then st i else bk) _ (if i+1≤k then st (i+1) else bk) 0;by_cases e:i=k
 ·subst e;rw [if_pos (Nat.le_refl _),if_neg (by omega)];exact hs
 ·rw [if_pos (by omega),if_pos (by omega)];exact h i (by omega)
end book
namespace token
open words check
open Go.RowKit
structure Tok where
 c:Nat
 i:Nat
 a:Nat
 t:Nat
def okB (k:Tok):Bool:=decide (k.c≤3) && decide (1≤k.i) && decide (k.i≤1048575) && decide (k.t≤65535) &&
 (if k.c=0 then decide (1≤k.a) && decide (k.a≤2097151) else if k.c=2 then decide (1≤k.a) && decide (k.a≤15) else decide (k.a=0))
structure Tok.ok (k:Tok):Prop where
 c3:k.c≤3
 i1:1≤k.i
 i2:k.i≤1048575
 t2:k.t≤65535
 a2:k.a≤2097151
 a0:k.c=0→1≤k.a
 ac:k.c=2→1≤k.a∧k.a≤15
 az:k.c=1∨k.c=3→k.a=0
theorem okB_ok {k:Tok}:okB k=true↔k.ok:=by
 unfold okB;by_cases h0:k.c=0
 ·rw [if_pos h0];simp only [Bool.and_eq_true,decide_eq_true_eq];exact ⟨fun h=>⟨by omega,by omega,by omega,by omega,by omega,by omega,by omega,by omega⟩,fun h=>⟨⟨⟨⟨h.c3,h.i1⟩,h.i2⟩,h.t2⟩,h.a0 h0,h.a2⟩⟩
 ·rw [if_neg h0];by_cases h2:k.c=2
  ·rw [if_pos h2];simp only [Bool.and_eq_true,decide_eq_true_eq];exact ⟨fun h=>⟨by omega,by omega,by omega,by omega,by omega,by omega,by omega,by omega⟩,fun h=>⟨⟨⟨⟨h.c3,h.i1⟩,h.i2⟩,h.t2⟩,h.ac h2⟩⟩
  ·rw [if_neg h2];simp only [Bool.and_eq_true,decide_eq_true_eq];exact ⟨fun h=>⟨by omega,by omega,by omega,by omega,by omega,by omega,by omega,by omega⟩,fun h=>⟨⟨⟨⟨h.c3,h.i1⟩,h.i2⟩,h.t2⟩,h.az (by have:=h.c3;omega)⟩⟩
def Tok.num (k:Tok):Nat:=k.c*144115188075855872+k.i*137438953472+k.a*65536+k.t
def Tok.body (k:Tok):Nat:=k.c*2199023255552+k.i*2097152+k.a
def Tok.v (k:Tok):Value:= .agg #[zI (k.c:Int),zI (k.i:Int),zI (k.a:Int),zI (k.t:Int)]
theorem num_lt {k:Tok} (h:k.ok):k.num<576460752303423488:=by
 have:=h.c3;have:=h.i2;have:=h.t2;have:=h.a2;unfold Tok.num;omega
theorem num_bd {k:Tok} (h:k.ok):97*k.num<73786976294838206464:=by have:=num_lt h;omega
theorem body_num {k:Tok} (h:k.ok):k.num / 65536 % 8796093022208=k.body:=by
 have:=h.c3;have:=h.i2;have:=h.t2;have:=h.a2;unfold Tok.num Tok.body;omega
theorem body_bd {k:Tok} (h:k.ok):k.body≤8796093022207:=by
 have:=h.c3;have:=h.i2;have:=h.t2;have:=h.a2;unfold Tok.body;omega
def byt (z:Int):UInt8:=UInt8.ofNat z.toNat
def fmtL (V:Nat):List UInt8:=List.replicate (20 - (decL V).length) 48++(decL V).map byt
def fmtB (V:Nat):ByteArray:=⟨(fmtL V).toArray⟩
theorem fmtB_list (V:Nat):(fmtB V).data.toList=fmtL V:=by simp [fmtB]
theorem dec_len20 {V:Nat} (h:V<100000000000000000000):1≤(decL V).length∧(decL V).length≤20:=decL_len 19 V (by omega)
def bigV (a b c:Nat):Nat:=a+b*4294967296+c*18446744073709551616
theorem bigV_bit {a b c:Nat} (ha:a<2 ^ 32) (hb:b<2 ^ 32) (m:Nat):(bigV a b c).testBit m=bit3 a b c m:=by
 have e:bigV a b c=2 ^ 32*(2 ^ 32*c+b)+a:=by unfold bigV;omega
 rw [e,Nat.testBit_two_pow_mul_add _ ha,Nat.testBit_two_pow_mul_add _ hb];unfold bit3;by_cases h1:m<32
 ·rw [if_pos h1,if_pos h1]
 ·rw [if_neg h1,if_neg h1];by_cases h2:m<64
  ·rw [if_pos h2,if_pos (by omega)]
  ·rw [if_neg h2,if_neg (by omega)]
   congr 1
theorem bits_num {a b c lo n:Nat} (ha:a<2 ^ 32) (hb:b<2 ^ 32) (hc:c<2 ^ 32) (hn:n≤64):bitsN a b c lo n=bigV a b c / 2 ^ lo % 2 ^ n:=by
 apply Nat.eq_of_testBit_eq;intro j;rw [bits_bit ha hb hc hn,Nat.testBit_mod_two_pow,Nat.testBit_div_two_pow,bigV_bit ha hb,Nat.add_comm]
theorem bigV_top {a b c:Nat} (ha:a<2 ^ 32) (hb:b<2 ^ 32) (hc:c<2 ^ 32):bigV a b c<2 ^ 96:=by
 unfold bigV;omega
theorem put_num {a b c v lo n:Nat} (ha:a<2 ^ 32) (hb:b<2 ^ 32) (hc:c<2 ^ 32) (hv:v<2 ^ n) (hn:n≤64) (hl:lo+n≤96) (h0:bigV a b c / 2 ^ lo % 2 ^ n=0) :
  bigV (putN a v n lo) (putN b v n ((lo:Int) - 32)) (putN c v n ((lo:Int) - 64))=bigV a b c+v*2 ^ lo:=by
 have pa:=put_lt a v n lo ha;have pb:=put_lt b v n ((lo:Int) - 32) hb;have pc:=put_lt c v n ((lo:Int) - 64) hc
 have hbit:∀ m,m<96→(bigV (putN a v n lo) (putN b v n ((lo:Int) - 32)) (putN c v n ((lo:Int) - 64))).testBit m=if lo≤m∧m<lo+n then v.testBit (m - lo) else (bigV a b c).testBit m:=fun m hm=>by
  rw [bigV_bit pa pb,put_bits hv m hm,bigV_bit ha hb]
 have hfv:bigV (putN a v n lo) (putN b v n ((lo:Int) - 32)) (putN c v n ((lo:Int) - 64)) / 2 ^ lo % 2 ^ n=v:=by
  rw [← bits_num pa pb pc hn,bits_put ha hb hc hv hn hl]
 have hVt:=bigV_top ha hb hc;have hWt:=bigV_top pa pb pc;generalize bigV (putN a v n lo) (putN b v n ((lo:Int) - 32)) (putN c v n ((lo:Int) - 64))=W at *;generalize bigV a b c=V at *
 have hlow:W % 2 ^ lo=V % 2 ^ lo:=by
  apply Nat.eq_of_testBit_eq;intro j;rw [Nat.testBit_mod_two_pow,Nat.testBit_mod_two_pow];by_cases hj:j<lo
  ·rw [hbit j (by omega),if_neg (by omega)]
  ·rw [decide_eq_false hj,Bool.false_and,Bool.false_and]
 have hhigh:W / 2 ^ lo / 2 ^ n=V / 2 ^ lo / 2 ^ n:=by
  rw [Nat.div_div_eq_div_mul,Nat.div_div_eq_div_mul,← Nat.pow_add];apply Nat.eq_of_testBit_eq;intro j;rw [Nat.testBit_div_two_pow,Nat.testBit_div_two_pow];by_cases hj:lo+n+j<96
  ·rw [Nat.add_comm j,hbit _ hj,if_neg (by omega)]
  ·rw [bit_hi hVt (by omega),bit_hi hWt (by omega)]
 have eV:=Nat.div_add_mod V (2 ^ lo);have eW:=Nat.div_add_mod W (2 ^ lo);have eV2:=Nat.div_add_mod (V / 2 ^ lo) (2 ^ n);have eW2:=Nat.div_add_mod (W / 2 ^ lo) (2 ^ n);rw [hhigh,hfv] at eW2;rw [hlow] at eW;rw [h0] at eV2;generalize V / 2 ^ lo / 2 ^ n=H at *;generalize V % 2 ^ lo=L at *;rw [← eV2,Nat.mul_add] at eV;rw [← eW2,Nat.mul_add] at eW;rw [Nat.mul_comm v];generalize 2 ^ lo*(2 ^ n*H)=p at *;generalize 2 ^ lo*v=r at *;omega
end token
namespace rcp
structure Rc where
 me:Int
 id:Int
 te:Int
 de:Int
 fe:Int
 pr:Int
 ch:Int
 un:Int
 tk:List UInt8
def rc0:Rc:=⟨0,0,0,0,0,0,0,0,[]⟩
end rcp
section
open Go.RowKit
theorem wp_letS {P:Program} {ops:Array Oper} {rest:List Oper} {o:Oper} {a:Act} {w:World} {Q:Exit→Act→World→Prop} (hgd:o.guard=none) (ty:TypeId) (x y:Operand) (ho:o.op = .store ty x y)
  (g off:Nat) (hx:a.eval x = .pointer (some ⟨g,off,none⟩)) (p:Option Addr) (n c:Nat) (hy:a.eval y = .slice p n c) (hi:(P.info? ty).map (·.size)=some 1)
  (cs:Array Value) (t:TypeId) (hB:Blk w g cs t) (hin:off<cs.size)
  (h:∀ W,Upd w W g (cs.setIfInBounds off (.slice p n c)) t→wpList P ops Q rest (a.put o.dst undef) W):wpList P ops Q (o :: rest) a w:=
 wp_let hgd ty x y ho g off hx _ hy #[.slice p n c] rfl hi (by simp [Value.oneCell']) cs t hB (by simp;omega) _ rfl h
end
namespace deb
open tar (Du du0 Came RowD Ld ErrPost TwoPost PairT)
open Go.RowKit
theorem dwithin (lo hi n:Int) (w:World):Calls Tryz.prog 202 #[zI lo,zI hi,zI n] w fun e w'=>e = .returned (.bool (decide (lo≤n∧n≤hi)))∧w'=w:=by
 by_cases h1:lo≤n
 ·by_cases h2:n≤hi
  ·have h3:decide (lo≤n∧n≤hi)=true:=by simp;omega
   rw [h3];clear h3;go_enter Tryz.func202,Tryz.ntmps202;go_wp2;go_ret;exact ⟨rfl,rfl⟩
  ·have h3:decide (lo≤n∧n≤hi)=false:=by simp;omega
   have h4:decide (n≤hi)=false:=by simp;omega
   rw [h3];clear h3 h2;go_enter Tryz.func202,Tryz.ntmps202;go_wp2;go_ret;exact ⟨rfl,rfl⟩
 ·have h3:decide (lo≤n∧n≤hi)=false:=by simp;omega
  have h4:decide (lo≤n)=false:=by simp;omega
  rw [h3];clear h3 h1;go_enter Tryz.func202,Tryz.ntmps202;go_wp2;go_ret;exact ⟨rfl,rfl⟩
theorem pcheck (a:Option Addr) (n cap:Nat) (ls:List Du) (w:World) (hr:RowD w a n ls) (hn:n≤maxLen):Calls Tryz.prog 199 #[.slice a n cap] w fun e w'=>∃ f,e = .returned (zI f)∧FaultIs ls f∧Below w.heap.size w w':=by
 have hlen:=hr.1;have HIU:Hid (∀ x W,Calls Tryz.prog 202 #[zI 0,zI 1000000000,zI x] W fun e w'=>e = .returned (.bool (decide (0≤x∧x≤1000000000)))∧w'=W):=fun x W=>dwithin 0 1000000000 x W;have HIP:Hid (∀ x W,Calls Tryz.prog 202 #[zI 0,zI 10000,zI x] W fun e w'=>e = .returned (.bool (decide (0≤x∧x≤10000)))∧w'=W):=fun x W=>dwithin 0 10000 x W;have hnm:n≤9223372036854775807:=by unfold maxLen at hn;omega
 by_cases hs:n≤8
 ·have HS:Hid (ls.length≤8):=by show _≤_;rw [hlen];exact hs
  have hd8:decide (8<(n:Int))=false:=decide_eq_false (by omega);have HROW:Hid (RowD w a n ls):=hr;have HLEN:Hid (ls.length=n):=hlen;clear hr hn hlen;go_enter Tryz.func199,Tryz.ntmps199;go_wp2_with fail;go_loopw [10] (fun x wr=>∃ k:Nat,k≤n∧x=zI (k:Int)∧(∀ i,i<k→Ok1 (ls.getD i du0))∧Below w.heap.size w wr) (fun x _=>n - (intOf x).toNat)
  case atStart=>exact ⟨0,Nat.zero_le _,rfl,fun i hi=>absurd hi (Nat.not_lt_zero _),Below.refl _ _⟩
  case round=>
   obtain ⟨k,hk,rfl,hf,hb⟩:=hrel;have HF:Hid (∀ i,i<k→Ok1 (ls.getD i du0)):=hf;have HB:Hid (Below w.heap.size w wr):=hb;clear hf;by_cases hlt:k<n
   ·have hdl:decide ((k:Int)<(n:Int))=true:=by simp;omega
    obtain ⟨b,off,rfl,hbl,hc⟩:=HROW.o.at (by omega);have c0:wr.cell? ⟨b,off+k*2,none⟩=some (zI (ls.getD k du0).a):=(hb.cell (p:=⟨b,off+k*2,none⟩) hbl).trans (hc k hlt).1;have c1:wr.cell? ⟨b,off+k*2+1,none⟩=some (zI (ls.getD k du0).b):=(hb.cell (p:=⟨b,off+k*2+1,none⟩) hbl).trans (hc k hlt).2;have HBA:Hid (∀ o,Below w.heap.size w (wr.alloc o)):=fun o=>hb.alloc hb.size o;clear hb hc;have HU:=HIU.o (ls.getD k du0).a;have HP:=HIP.o (ls.getD k du0).b;by_cases hu:0≤(ls.getD k du0).a∧(ls.getD k du0).a≤1000000000
    ·rw [decide_eq_true hu] at HU;by_cases hp:0≤(ls.getD k du0).b∧(ls.getD k du0).b≤10000
     ·
      rw [decide_eq_true hp] at HP
      have HF2:Hid (∀ i,i<k+1→Ok1 (ls.getD i du0)):=fun i hi=>by
       by_cases e:i=k
       ·subst e;exact ⟨hu,hp⟩
       ·exact HF.o i (by omega)
      have HU2:Hid (∀ W,Calls Tryz.prog 202 #[zI 0,zI 1000000000,zI (ls.getD k du0).a] W fun e w'=>e = .returned (.bool true)∧w'=W):=HU;have HP2:Hid (∀ W,Calls Tryz.prog 202 #[zI 0,zI 10000,zI (ls.getD k du0).b] W fun e w'=>e = .returned (.bool true)∧w'=W):=HP;clear HU HP hu hp HF;generalize (ls.getD k du0).a=x at *;generalize (ls.getD k du0).b=y at *;go_wp2_with fail;refine (HU2.o _).mono ?_;rintro e w2 ⟨rfl,hw2⟩;subst w2;go_wp2_with fail;refine (HP2.o _).mono ?_;rintro e w2 ⟨rfl,hw2⟩;subst w2;go_wp2_with fail;go_roundw
      case rel=>exact ⟨k+1,by omega,by go_num,HF2.o,HBA.o _⟩
      case measure=>simp [intOf];omega
     ·
      rw [decide_eq_false hp] at HP;have HN:Hid (¬ DFits ls):=fun h=>hp (h k (by rw [HLEN.o];exact hlt)).2;have HU2:Hid (∀ W,Calls Tryz.prog 202 #[zI 0,zI 1000000000,zI (ls.getD k du0).a] W fun e w'=>e = .returned (.bool true)∧w'=W):=HU;have HP2:Hid (∀ W,Calls Tryz.prog 202 #[zI 0,zI 10000,zI (ls.getD k du0).b] W fun e w'=>e = .returned (.bool false)∧w'=W):=HP;clear HU HP hu hp HF;generalize (ls.getD k du0).a=x at *;generalize (ls.getD k du0).b=y at *;go_wp2_with fail;refine (HU2.o _).mono ?_;rintro e w2 ⟨rfl,hw2⟩;subst w2;go_wp2_with fail;refine (HP2.o _).mono ?_;rintro e w2 ⟨rfl,hw2⟩;subst w2;go_wp2_with fail;go_ret;exact ⟨_,rfl,.inr (.inl ⟨HS.o,HN.o,rfl⟩),HBA.o _⟩
    ·
     rw [decide_eq_false hu] at HU;have HN:Hid (¬ DFits ls):=fun h=>hu (h k (by rw [HLEN.o];exact hlt)).1;have HU2:Hid (∀ W,Calls Tryz.prog 202 #[zI 0,zI 1000000000,zI (ls.getD k du0).a] W fun e w'=>e = .returned (.bool false)∧w'=W):=HU;clear HU HP hu HF;generalize (ls.getD k du0).a=x at *;generalize (ls.getD k du0).b=y at *;go_wp2_with fail;refine (HU2.o _).mono ?_;rintro e w2 ⟨rfl,hw2⟩;subst w2;go_wp2_with fail;go_ret;exact ⟨_,rfl,.inr (.inl ⟨HS.o,HN.o,rfl⟩),HBA.o _⟩
   ·obtain rfl:k=n:=by omega
    have hdl:decide ((k:Int)<(k:Int))=false:=by simp
    have HFT:Hid (DFits ls):=fun i hi=>HF.o i (by rw [HLEN.o] at hi;exact hi);clear HF HIU HIP hb;go_wp2_with fail;go_ret;exact ⟨_,rfl,.inr (.inr ⟨⟨HS.o,HFT.o⟩,rfl⟩),HB.o⟩
 ·have HS:Hid (¬ ls.length≤8):=by show ¬ _≤_;rw [hlen];exact hs
  have hd8:decide (8<(n:Int))=true:=decide_eq_true (by omega);clear hs hr hlen hn;go_enter Tryz.func199,Tryz.ntmps199;go_wp2_with fail;go_ret;exact ⟨_,rfl,.inl ⟨HS.o,rfl⟩,Below.refl _ _⟩
end deb
namespace cents
open Go.RowKit
theorem part_yes (a b:Int) (w:World) (h1:0≤a) (h2:a≤1000000000000) (h3:0≤b) (h4:b≤10000) :
  Calls Tryz.prog 165 #[zI a,zI b] w fun e w'=>e = .returned (.tuple #[zI (a*b / 10000),zI 0])∧Below w.heap.size w w':=by
 obtain ⟨hp1,hp2⟩:=prod_bd a b _ _ h1 h2 h3 h4;go_enter Tryz.func165,Tryz.ntmps165;go_wp2_with fail;refine (within_one_yes _ _ _ _ _ rfl h1 h2).mono ?_;rintro e w' ⟨rfl,rfl⟩;go_wp2_with fail;refine (within_one_yes _ _ _ _ _ (by simp) h3 h4).mono ?_;rintro e w' ⟨rfl,rfl⟩;go_wp2;go_ret2;exact ⟨rfl,bel2 _ _ _⟩
theorem part_no (a b:Int) (w:World) (h:(a<0∨1000000000000<a)∨(b<0∨10000<b)) :
  Calls Tryz.prog 165 #[zI a,zI b] w fun e w'=>e = .returned (.tuple #[zI 0,zI 2])∧Below w.heap.size w w':=by
 by_cases h0:a<0∨1000000000000<a
 ·clear h;go_enter Tryz.func165,Tryz.ntmps165;go_wp2_with fail;refine (within_one_no _ _ _ _ _ rfl h0).mono ?_;rintro e w' ⟨rfl,rfl⟩;go_wp2;go_ret2;exact ⟨rfl,bel1 _ _⟩
 ·have h5:b<0∨10000<b:=by omega
  have h1:0≤a:=by omega
  have h2:a≤1000000000000:=by omega
  clear h h0;go_enter Tryz.func165,Tryz.ntmps165;go_wp2_with fail;refine (within_one_yes _ _ _ _ _ rfl h1 h2).mono ?_;rintro e w' ⟨rfl,rfl⟩;go_wp2_with fail;refine (within_one_no _ _ _ _ _ (by simp) h5).mono ?_;rintro e w' ⟨rfl,rfl⟩;go_wp2;go_ret2;exact ⟨rfl,bel2 _ _ _⟩
end cents
namespace deb
open tar (Du du0 Came RowD Ld ErrPost TwoPost PairT)
open Go.RowKit
theorem grow_more {b x:Int} (hx:0≤x) (hx1:x≤1000000000) (hb:0≤b):grow b x=x+min (x*b / 10000) (1000000000 - x):=by
 unfold grow;have:=Int.mul_nonneg hx hb;generalize x*b=p at *;omega
theorem pgrowth (x b:Int) (w:World) (hx:0≤x∧x≤1000000000) (hb:0≤b∧b≤10000):Calls Tryz.prog 206 #[.agg #[zI x,zI b]] w fun e w'=>e = .returned (zI (min (x*b / 10000) (1000000000 - x)))∧Below w.heap.size w w':=by
 have HPA:Hid (∀ W,Calls Tryz.prog 165 #[zI x,zI b] W fun e w'=>e = .returned (.tuple #[zI (x*b / 10000),zI 0])∧Below W.heap.size W w'):=fun W=>cents.part_yes x b W hx.1 (by omega) hb.1 hb.2;have HBX:Hid (Blk (w.alloc (.cells #[zI x,zI b] 70)) w.heap.size #[zI x,zI b] 70):=Blk.new w _ _;have HBW:Hid (Below w.heap.size w (w.alloc (.cells #[zI x,zI b] 70))):=(Below.refl _ _).alloc (Nat.le_refl _) _;obtain ⟨hx0,hx1⟩:=hx;clear hb;have hmin:=tar.run_min (x*b / 10000) (1000000000 - x) _ rfl;generalize x*b / 10000=q at *;generalize min q (1000000000 - x)=m at *;go_enter Tryz.func206,Tryz.ntmps206;go_wp2_with fail;refine (HPA.o _).mono ?_;rintro e w1 ⟨rfl,hb1⟩;have HB1:=shB HBW hb1;have c0:w1.cell? ⟨w.heap.size,0,none⟩=some (zI x):=(HBX.o.next hb1).cell 0;have c1:w1.cell? ⟨w.heap.size,1,none⟩=some (zI b):=(HBX.o.next hb1).cell 1;clear hb1 HPA HBX HBW;go_wp2_with fail;go_ret;exact ⟨rfl,HB1.o⟩
theorem debtT:PairT Tryz.prog 70 49:=⟨by kernel_rfl,Tryz.underlying49⟩
end deb
namespace tar
open Go.RowKit
def KtCheck:Prop:=∀ (W:World) (a:Option Addr) (len cap:Nat) (ls:List Du),Came W a len cap ls→Calls Tryz.prog 68 #[.slice a len cap] W fun e w'=>ErrPost W (FaultIs ls) e w'
open Classical in
theorem prises (b off k cap:Nat) (ls:List Du) (w1:World) (hs1:1≤k) (hs2:k≤8) (hlen:ls.length=k) (hbl:b<w1.heap.size) (hc:∀ i,i<k→w1.cell? ⟨b,off+i*2,none⟩=some (zI (ls.getD i du0).a)∧w1.cell? ⟨b,off+i*2+1,none⟩=some (zI (ls.getD i du0).b)):Calls Tryz.prog 114 #[.slice (some ⟨b,off,none⟩) k cap] w1 fun e w'=>e = .returned (.bool (decide (Rises ls)))∧Below w1.heap.size w1 w':=by
 have HC:Hid (∀ i,i<k→w1.cell? ⟨b,off+i*2,none⟩=some (zI (ls.getD i du0).a)∧w1.cell? ⟨b,off+i*2+1,none⟩=some (zI (ls.getD i du0).b)):=hc;have HLEN:Hid (ls.length=k):=hlen;have hnm:k≤9223372036854775807:=by omega
 clear hc hlen;go_enter Tryz.func114,Tryz.ntmps114;go_wp2_with fail;go_loopw [3] (fun x wr2=>∃ j:Nat,1≤j∧j≤k∧x=zI (j:Int)∧(∀ i,1≤i→i<j→(ls.getD (i - 1) du0).a<(ls.getD i du0).a)∧Below w1.heap.size w1 wr2) (fun x _=>k - (intOf x).toNat)
 case atStart=>exact ⟨1,Nat.le_refl _,hs1,rfl,fun i h1 h2=>absurd h2 (by omega),Below.refl _ _⟩
 case round=>
  obtain ⟨j,hj1,hj,rfl,hf,hb⟩:=hrel;have HF:Hid (∀ i,1≤i→i<j→(ls.getD (i - 1) du0).a<(ls.getD i du0).a):=hf;have HB:Hid (Below w1.heap.size w1 wr):=hb;by_cases hlt2:j<k
  ·have hdl2:decide ((j:Int)<(k:Int))=true:=by simp;omega
   have c0:wr.cell? ⟨b,off+j*2,none⟩=some (zI (ls.getD j du0).a):=(hb.cell (p:=⟨b,off+j*2,none⟩) hbl).trans (HC.o j hlt2).1;have c1:wr.cell? ⟨b,off+(j - 1)*2,none⟩=some (zI (ls.getD (j - 1) du0).a):=(hb.cell (p:=⟨b,off+(j - 1)*2,none⟩) hbl).trans (HC.o (j - 1) (by omega)).1;have hs2':wr.drew.cell? ⟨b,off+j*2,none⟩=some (zI (ls.getD j du0).a):=c0;have HBD:Hid (Below w1.heap.size w1 wr.drew):=hb.drew;have hsub:((j:Int) - 1)=((j - 1:Nat):Int):=by omega
   have hjm:j - 1<k:=by omega
   clear hb hf;by_cases hle:(ls.getD j du0).a≤(ls.getD (j - 1) du0).a
   ·have hde:decide ((ls.getD j du0).a≤(ls.getD (j - 1) du0).a)=true:=decide_eq_true hle
    have HN:Hid (decide (Rises ls)=false):=decide_eq_false fun h=>by
     have:=h j hj1 (by rw [HLEN.o];exact hlt2);omega
    clear hle;generalize (ls.getD j du0).a=x at *;generalize (ls.getD (j - 1) du0).a=y at *;generalize j - 1=j1 at *;go_wp2_with fail;go_region
    all_goals go_wp2_with fail
    go_ret;exact ⟨by rw [HN.o];rfl,HBD.o⟩
   ·have hde:decide ((ls.getD j du0).a≤(ls.getD (j - 1) du0).a)=false:=decide_eq_false hle
    have HF2:Hid (∀ i,1≤i→i<j+1→(ls.getD (i - 1) du0).a<(ls.getD i du0).a):=fun i h1 h2=>by
     by_cases e:i=j
     ·subst e;omega
     ·exact HF.o i h1 (by omega)
    clear hle;generalize (ls.getD j du0).a=x at *;generalize (ls.getD (j - 1) du0).a=y at *;generalize j - 1=j1 at *;go_wp2_with fail;go_region
    all_goals go_wp2_with fail
    go_roundw
    case rel=>exact ⟨j+1,by omega,by omega,by go_num,HF2.o,HBD.o⟩
    case measure=>simp [intOf];omega
  ·obtain rfl:j=k:=by omega
   have hdl2:decide ((j:Int)<(j:Int))=false:=by simp
   have HR:Hid (decide (Rises ls)=true):=decide_eq_true fun i h1 h2=>HF.o i h1 (by rw [HLEN.o] at h2;exact h2);clear hb hf;go_wp2_with fail;go_ret;exact ⟨by rw [HR.o];rfl,HB.o⟩
end tar
namespace acc
open tar (Du)
open Go.RowKit
def KcGrant:Prop:=∀ (W:World) (x:Ac) (p:Option Addr) (len cap:Nat) (t:Tm) (pt:Option Addr) (lt ct:Nat) (m:Int),ACame W x p len cap→TCame W t pt lt ct→(Lit.int .i64 m).wf=true→Calls Tryz.prog 77 #[x.v p len cap,t.v pt lt ct,zI m] W fun e w'=>BPost W (GrantIs x t m) e w'
end acc
namespace disk
open Go.RowKit cell
theorem rec_at {c:List Int} {p m x:Nat} (hm:(c.getD p 0).toNat=m) (hx:x<m):(recAt c p).getD x 0=c.getD (p+1+x) 0:=by
 unfold recAt;rw [hm];simp [List.getD,List.getElem?_drop,hx]
theorem rec_len {c:List Int} {p m:Nat} (hm:(c.getD p 0).toNat=m) (hf:p+m<c.length):(recAt c p).length=m:=by
 unfold recAt;rw [hm,List.length_take,List.length_drop];omega
end disk
namespace book
open Go.RowKit
def FindPost (w:World) (l:List Cu) (me:Int) (e:Ending) (w':World):Prop:=∃ x f,e = .returned (.tuple #[zI x,zI f])∧FindIs l me x f∧Below w.heap.size w w'
end book
end Go.Proofs.YtnpblpbohcegoaaGreatDoor
