import Derived.Test.YtoepgdhiepedeaaGreatDoorVVGts2
import Derived.Test.YtoepgdhiepedeaaGreatDoorVVGts6
set_option linter.unusedVariables false
set_option linter.unusedSimpArgs false
set_option maxHeartbeats 4000000
set_option maxRecDepth 100000
namespace Go.Proofs.YtoepgdhiepedeaaGreatDoor
namespace book
open acc (Ac Tm Bi TFault TRight OweIs SellIs GrantIs RekeyIs)
structure Cm where
 a:Ac
 so:List So
def cm0:Cm:=⟨acc.ac0,[]⟩
def billOf(v:Ev):Bi:=⟨v.id,v.te,v.de,v.fe,v.pr,v.ch,v.un⟩
def soldOf(c:Cm)(v:Ev):So:=if v.kd=4 then ⟨v.id,2,c.a.rv+1,v.tg,c.a.rv⟩ else ⟨v.id,0,v.un,v.tg,c.a.rv⟩
def Tells(t:Tm)(c:Cm)(v:Ev)(b:Ac)(l:Bi)(e:Int):Prop:=(v.kd=2∧SellIs c.a t v.te v.mo b l e)∨(v.kd=3∧GrantIs c.a t v.mo b l e)∨(v.kd=4∧RekeyIs c.a b l e)
variable{t:Tm}{bk:List Cm}{l:List Ev}{v:Ev}
theorem Tells.one{c:Cm}{b b':Ac}{l l':Bi}{e e':Int}(h:Tells t c v b l e)(h':Tells t c v b' l' e'):b=b'∧l=l'∧e=e':=by
 rcases h with⟨p,q⟩|⟨p,q⟩|⟨p,q⟩<;>rcases h' with⟨d,a⟩|⟨d,a⟩|⟨d,a⟩<;>first|exact q.one a|omega
def HapIs(t:Tm)(c:Cm)(v:Ev)(c':Cm)(f:Int):Prop:=
 (v.kd=5∧∃b,OweIs c.a ⟨v.ow,v.bp⟩ b f∧(f=0→c'=⟨b,c.so⟩)) ∨
 (v.kd≠5∧∃b l e,Tells t c v b l e∧((e≠0∧f=e)∨(e=0∧l≠billOf v∧f=8)∨(e=0∧l=billOf v∧f=0∧c'=⟨b,c.so++[soldOf c v]⟩)))
theorem HapIs.one{c c' d':Cm}{f g:Int}(h:HapIs t c v c' f)(h':HapIs t c v d' g):f=g∧(f=0→c'=d'):=by
 rcases h with⟨p,b,q,r⟩|⟨p,b,l,e,q,r⟩<;>rcases h' with⟨a,k,d,i⟩|⟨a,k,s,o,d,i⟩
 ·obtain⟨rfl,rfl⟩:=q.one d;exact⟨rfl,λh=>(r h).trans (i h).symm⟩
 ·exact absurd p a
 ·exact absurd a p
 ·obtain⟨rfl,rfl,rfl⟩:=q.one d;rcases r with⟨x,rfl⟩|⟨x,y,rfl⟩|⟨x,y,rfl,z⟩<;>rcases i with⟨j,rfl⟩|⟨j,m,rfl⟩|⟨j,m,rfl,n⟩<;>first|exact⟨rfl,λh=>absurd h x⟩|exact⟨rfl,λh=>absurd h (by decide)⟩|exact⟨rfl,λ_=>z.trans n.symm⟩|contradiction
def FirstAt(bk:List Cm)(me:Int)(k:Nat):Prop:=k<bk.length∧(bk.getD k cm0).a.me=me∧∀j,j<k→(bk.getD j cm0).a.me≠me
def NoneAt(bk:List Cm)(me:Int):Prop:=∀j,j<bk.length→(bk.getD j cm0).a.me≠me
theorem FirstAt.one{me:Int}{k k':Nat}(h:FirstAt bk me k)(h':FirstAt bk me k'):k=k':=by
 rcases Nat.lt_trichotomy k k' with c|c|c
 ·exact absurd h.2.1 (h'.2.2 k c)
 ·exact c
 ·exact absurd h'.2.1 (h.2.2 k' c)
theorem FirstAt.some{me:Int}{k:Nat}(h:FirstAt bk me k):¬ NoneAt bk me:=λa=>a k h.1 h.2.1
def StepIs(t:Tm)(bk:List Cm)(v:Ev)(bk':List Cm)(f:Int):Prop:=
 (¬ EMay v∧f=5)∨(EMay v∧v.kd=1∧¬ NoneAt bk v.me∧f=21)∨(EMay v∧v.kd=1∧NoneAt bk v.me∧f=0∧bk'=bk++[⟨⟨v.me,0,1,0,0,-1,[]⟩,[]⟩]) ∨
 (EMay v∧v.kd≠1∧NoneAt bk v.me∧f=18)∨(EMay v∧v.kd≠1∧∃k c',FirstAt bk v.me k∧HapIs t (bk.getD k cm0) v c' f∧(f=0→bk'=bk.set k c'))
theorem StepIs.one{bk b b':List Cm}{f f':Int}(h:StepIs t bk v b f)(h':StepIs t bk v b' f'):f=f'∧(f=0→b=b'):=by
 rcases h with⟨p,rfl⟩|⟨p,q,r,rfl⟩|⟨p,q,r,rfl,s⟩|⟨p,q,r,rfl⟩|⟨p,q,k,c,m,n,o⟩<;>rcases h' with⟨d,rfl⟩|⟨d,j,l,rfl⟩|⟨d,j,l,rfl,u⟩|⟨d,j,l,rfl⟩|⟨d,j,y,x,a,g,i⟩<;>first|contradiction|exact⟨rfl,λh=>absurd h (by decide)⟩|exact⟨rfl,λ_=>s.trans u.symm⟩|exact absurd r a.some|exact absurd l m.some|skip
 obtain rfl:=m.one a;obtain⟨rfl,e⟩:=n.one g;exact⟨rfl,λh=>by rw[o h,i h,e h]⟩
def BookIs(t:Tm)(l:List Ev)(bk:List Cm)(at_ f:Int):Prop:=
 (TFault t f∧f≠0∧bk=[]∧at_=0)∨(TRight t∧120<l.length∧bk=[]∧at_=0∧f=1) ∨
 (TRight t∧l.length≤120∧∃ (k:Nat) (st:Nat→List Cm),st 0=[]∧(∀ i,i<k→StepIs t (st i) (l.getD i ev0) (st (i+1)) 0) ∧
  ((k=l.length∧bk=st k∧at_=0∧f=0)∨(k<l.length∧(∃ x,StepIs t (st k) (l.getD k ev0) x f)∧f≠0∧bk=[]∧at_=(k:Int))))
theorem states_one{k k':Nat}{st st':Nat→List Cm}(h0:st 0=[])(h0':st' 0=[])(h:∀i,i<k→StepIs t (st i) (l.getD i ev0) (st (i+1)) 0)(h':∀i,i<k'→StepIs t (st' i) (l.getD i ev0) (st' (i+1)) 0):∀i,i≤k→i≤k'→st i=st' i
 |0,_,_=>h0.trans h0'.symm
 |i+1,hk,hk'=>by
  have ih:=states_one h0 h0' h h' i (by omega) (by omega);have q:=h i (by omega);have a:=h' i (by omega);rw[ih] at q;exact(q.one a).2 rfl
theorem BookIs.one{b b':List Cm}{a a' f f':Int}(h:BookIs t l b a f)(h':BookIs t l b' a' f'):b=b'∧a=a'∧f=f':=by
 rcases h with⟨p,q,rfl,rfl⟩|⟨p,q,rfl,rfl,rfl⟩|⟨p,q,k,C,z,s,A⟩<;>rcases h' with⟨g,o,rfl,rfl⟩|⟨g,o,rfl,rfl,rfl⟩|⟨g,o,j,B,r,i,u⟩
 ·exact⟨rfl,rfl,p.one g⟩
 ·exact absurd (p.ok.2 g) q
 ·exact absurd (p.ok.2 g) q
 ·exact absurd (g.ok.2 p) o
 ·exact⟨rfl,rfl,rfl⟩
 ·omega
 ·exact absurd (g.ok.2 p) o
 ·omega
 ·have same:=states_one z r s i;rcases A with⟨e,rfl,rfl,rfl⟩|⟨e,⟨x,n⟩,hf,rfl,rfl⟩<;>rcases u with⟨y,rfl,rfl,rfl⟩|⟨y,⟨D,d⟩,m,rfl,rfl⟩
  ·have:k=j:=by omega
   subst this;exact⟨same k zc zc,rfl,rfl⟩
  ·have q:=s j (by omega);rw[same j (by omega) zc] at q;exact absurd ((q.one d).1.symm) m
  ·have q:=i k (by omega);rw[← same k zc (by omega)] at q;exact absurd ((q.one n).1.symm) hf
  ·rcases Nat.lt_trichotomy k j with c|c|c
   ·have q:=i k c;rw[← same k zc (by omega)] at q;exact absurd ((q.one n).1.symm) hf
   ·subst c;rw[same k zc zc] at n;exact⟨rfl,rfl,(n.one d).1⟩
   ·have q:=s j c;rw[same j (by omega) zc] at q;exact absurd ((q.one d).1.symm) m
theorem run_more{k:Nat}{st:Nat→List Cm}(h:∀i,i<k→StepIs t (st i) (l.getD i ev0) (st (i+1)) 0)(hs:StepIs t (st k) (l.getD k ev0) bk 0):∃st':Nat→List Cm,st' 0=st 0∧st' (k+1)=bk∧(∀i,i<k+1→StepIs t (st' i) (l.getD i ev0) (st' (i+1)) 0):=by
 refine⟨λi=>if i≤k then st i else bk,if_pos (Nat.zero_le _),if_neg (by omega),λi a=>?_⟩;show StepIs t (if i≤k then st i else bk) _ (if i+1≤k then st (i+1) else bk) 0;by_cases e:i=k
 ·subst e;rw[if_pos zc,if_neg (by omega)];exact hs
 ·rw[if_pos (by omega),if_pos (by omega)];exact h i (by omega)
end book
namespace token
open words check
open Go.RowKit
structure Tok where
 c:Nat
 i:Nat
 a:Nat
 t:Nat
def okB(k:Tok):Bool:=decide (k.c≤3)&&decide (1≤k.i)&&decide (k.i≤1048575)&&decide (k.t≤65535) &&
 (if k.c=0 then decide (1≤k.a)&&decide (k.a≤2097151) else if k.c=2 then decide (1≤k.a)&&decide (k.a≤15) else decide (k.a=0))
structure Tok.ok (k:Tok):Prop where
 c3:k.c≤3
 i1:1≤k.i
 i2:k.i≤1048575
 t2:k.t≤65535
 a2:k.a≤2097151
 a0:k.c=0→1≤k.a
 ac:k.c=2→1≤k.a∧k.a≤15
 az:k.c=1∨k.c=3→k.a=0
variable{k:Tok}
theorem okB_ok:okB k=true↔k.ok:=by
 unfold okB;by_cases a:k.c=0
 ·rw[if_pos a];simp only[Bool.and_eq_true,decide_eq_true_eq];exact⟨λh=>⟨by omega,by omega,by omega,by omega,by omega,by omega,by omega,by omega⟩,λh=>⟨⟨⟨⟨h.c3,h.i1⟩,h.i2⟩,h.t2⟩,h.a0 a,h.a2⟩⟩
 ·rw[if_neg a];by_cases b:k.c=2
  ·rw[if_pos b];simp only[Bool.and_eq_true,decide_eq_true_eq];exact⟨λh=>⟨by omega,by omega,by omega,by omega,by omega,by omega,by omega,by omega⟩,λh=>⟨⟨⟨⟨h.c3,h.i1⟩,h.i2⟩,h.t2⟩,h.ac b⟩⟩
  ·rw[if_neg b];simp only[Bool.and_eq_true,decide_eq_true_eq];exact⟨λh=>⟨by omega,by omega,by omega,by omega,by omega,by omega,by omega,by omega⟩,λh=>⟨⟨⟨⟨h.c3,h.i1⟩,h.i2⟩,h.t2⟩,h.az (by have:=h.c3;omega)⟩⟩
def Tok.num(k:Tok):Nat:=k.c*144115188075855872+k.i*137438953472+k.a*65536+k.t
def Tok.body(k:Tok):Nat:=k.c*2199023255552+k.i*2097152+k.a
def Tok.v(k:Tok):Value:=.agg #[zI (k.c:Int),zI (k.i:Int),zI (k.a:Int),zI (k.t:Int)]
theorem num_lt(h:k.ok):k.num<576460752303423488:=by
 have:=h.c3;have:=h.i2;have:=h.t2;have:=h.a2;unfold Tok.num;omega
theorem num_bd(h:k.ok):97*k.num<73786976294838206464:=by have:=num_lt h;omega
theorem body_num(h:k.ok):k.num/65536%8796093022208=k.body:=by
 have:=h.c3;have:=h.i2;have:=h.t2;have:=h.a2;unfold Tok.num Tok.body;omega
theorem body_bd(h:k.ok):k.body≤8796093022207:=by
 have:=h.c3;have:=h.i2;have:=h.t2;have:=h.a2;unfold Tok.body;omega
def byt(z:Int):UInt8:=UInt8.ofNat z.toNat
def fmtL(V:Nat):List UInt8:=List.replicate (20-(decL V).length) 48++(decL V).map byt
def fmtB(V:Nat):ByteArray:=⟨(fmtL V).toArray⟩
theorem fmtB_list(V:Nat):(fmtB V).data.toList=fmtL V:=by simp[fmtB]
theorem dec_len20{V:Nat}(h:V<100000000000000000000):1≤(decL V).length∧(decL V).length≤20:=decL_len 19 V (by omega)
def bigV(a b c:Nat):Nat:=a+b*4294967296+c*18446744073709551616
theorem bigV_bit{a b c:Nat}(ha:a<2^32)(hb:b<2^32)(m:Nat):(bigV a b c).testBit m=bit3 a b c m:=by
 have e:bigV a b c=2^32*(2^32*c+b)+a:=by unfold bigV;omega
 rw[e,Nat.testBit_two_pow_mul_add _ ha,Nat.testBit_two_pow_mul_add _ hb];unfold bit3;by_cases d:m<32
 ·rw[if_pos d,if_pos d]
 ·rw[if_neg d,if_neg d];by_cases f:m<64
  ·rw[if_pos f,if_pos (by omega)]
  ·rw[if_neg f,if_neg (by omega)]
   congr 1
theorem bits_num{a b c lo n:Nat}(ha:a<2^32)(hb:b<2^32)(hc:c<2^32)(hn:n≤64):bitsN a b c lo n=bigV a b c/2^lo%2^n:=by
 apply Nat.eq_of_testBit_eq;intro j;rw[bits_bit ha hb hc hn,Nat.testBit_mod_two_pow,Nat.testBit_div_two_pow,bigV_bit ha hb,Nat.add_comm]
theorem bigV_top{a b c:Nat}(ha:a<2^32)(hb:b<2^32)(hc:c<2^32):bigV a b c<2^96:=by
 unfold bigV;omega
theorem put_num{a b c v lo n:Nat}(ha:a<2^32)(hb:b<2^32)(hc:c<2^32)(hv:v<2^n)(hn:n≤64)(hl:lo+n≤96)(h0:bigV a b c/2^lo%2^n=0):
  bigV (putN a v n lo) (putN b v n ((lo:Int)-32)) (putN c v n ((lo:Int)-64))=bigV a b c+v*2^lo:=by
 have q:=put_lt a v n lo ha;have s:=put_lt b v n ((lo:Int)-32) hb;have u:=put_lt c v n ((lo:Int)-64) hc
 have d:∀m,m<96→(bigV (putN a v n lo) (putN b v n ((lo:Int)-32)) (putN c v n ((lo:Int)-64))).testBit m=if lo≤m∧m<lo+n then v.testBit (m-lo) else (bigV a b c).testBit m:=λm y=>by
  rw[bigV_bit q s,put_bits hv m y,bigV_bit ha hb]
 have l:bigV (putN a v n lo) (putN b v n ((lo:Int)-32)) (putN c v n ((lo:Int)-64))/2^lo%2^n=v:=by
  rw[← bits_num q s u hn,bits_put ha hb hc hv hn hl]
 have i:=bigV_top ha hb hc;have k:=bigV_top q s u;generalize bigV (putN a v n lo) (putN b v n ((lo:Int)-32)) (putN c v n ((lo:Int)-64))=W at *;generalize bigV a b c=V at *
 have h:W%2^lo=V%2^lo:=by
  apply Nat.eq_of_testBit_eq;intro j;rw[Nat.testBit_mod_two_pow,Nat.testBit_mod_two_pow];by_cases o:j<lo
  ·rw[d j (by omega),if_neg (by omega)]
  ·rw[decide_eq_false o,Bool.false_and,Bool.false_and]
 have e:W/2^lo/2^n=V/2^lo/2^n:=by
  rw[Nat.div_div_eq_div_mul,Nat.div_div_eq_div_mul,← Nat.pow_add];apply Nat.eq_of_testBit_eq;intro j;rw[Nat.testBit_div_two_pow,Nat.testBit_div_two_pow];by_cases o:lo+n+j<96
  ·rw[Nat.add_comm j,d _ o,if_neg (by omega)]
  ·rw[bit_hi i (by omega),bit_hi k (by omega)]
 have x:=Nat.div_add_mod V (2^lo);have t:=Nat.div_add_mod W (2^lo);have f:=Nat.div_add_mod (V/2^lo) (2^n);have g:=Nat.div_add_mod (W/2^lo) (2^n);rw[e,l] at g;rw[h] at t;rw[h0] at f;generalize V/2^lo/2^n=H at *;generalize V%2^lo=L at *;rw[← f,Nat.mul_add] at x;rw[← g,Nat.mul_add] at t;rw[Nat.mul_comm v];generalize 2^lo*(2^n*H)=p at *;generalize 2^lo*v=r at *;omega
end token
namespace book
open Go.RowKit
def So.cs(x:So):List Value:=[zI x.id,zI x.cl,zI x.am,zI x.tg,zI x.rv]
def So.v(x:So):Value:=.agg #[zI x.id,zI x.cl,zI x.am,zI x.tg,zI x.rv]
def cellsS:List So→List Value
 |[]=>[]
 |x::l=>x.cs++cellsS l
theorem cellsS_len(l:List So):(cellsS l).length=l.length*5:=by
 induction l with
 |nil=>rfl
 |cons e l ih=>rw[cellsS,List.length_append,ih,List.length_cons];show 5+_=_;omega
theorem cellsS_app(l m:List So):cellsS (l++m)=cellsS l++cellsS m:=by
 induction l with
 |nil=>rfl
 |cons e l ih=>rw[List.cons_append,cellsS,cellsS,ih,List.append_assoc]
theorem oneS(l:List So):∀u∈cellsS l,u.oneCell'=true:=by
 induction l with
 |nil=>intro u a;cases a
 |cons e l ih=>
  intro u a;rw[cellsS] at a;rcases List.mem_append.1 a with a|a
  ·simp only[So.cs,List.mem_cons,List.not_mem_nil,or_false] at a;rcases a with rfl|rfl|rfl|rfl|rfl<;>rfl
  ·exact ih u a
theorem cellsS_at(l:List So)(k j:Nat)(hk:k<l.length)(hj:j<5):(cellsS l)[k*5+j]?=(l.getD k so0).cs[j]?:=by
 induction l generalizing k with
 |nil=>simp at hk
 |cons x l ih=>
  have a:x.cs.length=5:=rfl;cases k with
  |zero=>rw[Nat.zero_mul,Nat.zero_add,cellsS,List.getElem?_append_left (by omega)];rfl
  |succ k=>
   rw[show (k+1)*5+j=x.cs.length+(k*5+j) by omega,cellsS,List.getElem?_append_right (by omega),Nat.add_sub_cancel_left];exact ih k (by simpa using hk)
def RowS(w:World)(a:Option Addr)(n:Nat)(l:List So):Prop:=l.length=n∧(n=0∨∃b off,a=some ⟨b,off,none⟩∧b<w.heap.size∧∀i j,i<n→j<5→w.cell? ⟨b,off+i*5+j,none⟩=(l.getD i so0).cs[j]?)
variable{l:List So}{base:Nat}{w w':World}
theorem RowS.below{a:Option Addr}{n:Nat}(h:RowS w a n l)(hb:zB w w'):RowS w' a n l:=by
 refine⟨h.1,?_⟩;rcases h.2 with e|⟨b,c,rfl,d,f⟩
 ·exact .inl e
 ·exact .inr ⟨b,c,rfl,Nat.lt_of_lt_of_le d hb.size,λi j g k=>(hb.cell (p:=⟨b,c+i*5+j,none⟩) d).trans (f i j g k)⟩
def Lo(w:World)(base:Nat)(v:Value)(l:List So):Prop:=w.ownsRow base 212 5 v l.length (cellsS l)
theorem Lo.zero(w:World)(base:Nat):Lo w base (zS) []:=World.ownsRow_nil _ _ _ _
theorem Lo.alloc{w:World}{v:Value}(h:Lo w base v l)(o:Obj):Lo (w.alloc o) base v l:=World.ownsRow.alloc h o
theorem Lo.next{v:Value}(h:Lo w base v l)(hb:zB w w'):Lo w' base v l:=by
 refine⟨h.1,?_⟩;rcases h.2 with e|⟨g,a,b,f,d,c,rest⟩
 ·exact .inl e
 ·exact .inr ⟨g,a,b,f,d,Blk.next c hb,rest⟩
theorem Lo.kept{own:Option Nat}{v:Value}(h:Lo w base v l)(hg:w.grownBy w' own)(hne:∀g,v.ownBlock=some g→own≠some g):Lo w' base v l:=by
 refine World.ownsRow.kept h hg ?_;cases e:v.ownBlock with
 |none=>exact .inl rfl
 |some g=>exact .inr (λq=>hne g e q.symm)
theorem Lo.row{w:World}{v:Value}(h:Lo w base v l):∃a cap,v=.slice a l.length cap∧RowS w a l.length l∧(a=none→cap=0)∧l.length≤cap:=by
 rcases h.2 with⟨b,c⟩|⟨g,cap,d,b,_,k,f,_⟩
 ·exact⟨none,0,by rw[c];exact b,⟨rfl,.inl c⟩,λ_=>rfl,by omega⟩
 ·subst b;refine⟨_,cap,rfl,⟨rfl,.inr ⟨g,0,rfl,Blk.lt k,λi j m n=>?_⟩⟩,(λh=>by cases h),f⟩;have e:=World.ownsRow.cellAt h (i*5+j) (by omega);rw[Nat.zero_add,e];exact cellsS_at l i j m n
theorem soldI:(Tryz.prog.info? 212).map (λi=>(i.zero,i.size,i.bytes))=some (some (.agg so0.cs.toArray),5,40):=by kernel_rfl
theorem step_sold{w:World}{o:Oper}{a:Act}{K:Act→World→Prop}{Q:Exit→Act→World→Prop}(d:Nat)(hd:o.dst=some d)(s x:Operand)
  (ho:o.op=.call { callee:=.builtin .append,args:=#[s,x],argTypes:=#[69,69] })
  (base G:Nat) (v:Value) (l:List So) (r:So) (hs:a.eval s=v) (hx:a.eval x=.slice (some ⟨G,0,none⟩) 1 1) (hv:Lo w base v l) (hu:Blk w G r.cs.toArray 212) (hn:l.length≤2000000) (hbase:base≤w.heap.size)
  (h:∀v' w',Lo w' base v' (l++[r])→w.grownBy w' v.ownBlock→(v'.ownBlock=v.ownBlock∨v'.ownBlock=some w.heap.size)→K (a.put (some d) v') w'):Oper.wp Tryz.prog o a w K Q:=by
 rw[← hd] at h;obtain⟨p,m,b,c,e⟩:=info_parts soldI
 obtain ⟨v',w',n,g,i,_,k⟩:=run_append_own_at (P:=Tryz.prog) w base 69 o.type 212 p (.agg so0.cs.toArray) 5 40 Tryz.underlying69 m b c e rfl (by decide) v l.length (cellsS l) hv ⟨G,0,none⟩ 1 1 (cellsS [r]) (by rw [cellsS_len];rfl) (by
  intro j u f;rw[Addr.add_lit,Nat.zero_add,hu.cell j];rw[cellsS,cellsS,List.append_nil] at f
  simpa using f) (oneS [r]) (by unfold maxLen;omega) (by omega) hbase
 unfold Oper.wp execOp;simp only[ho,resolve,invoke,builtin,Sem.run_bind,Sem.run_pure,Result.andThen_ok,List.map_toArray,List.map_cons,List.map_nil,hs,hx,n];refine h v' w' ?_ i k;unfold Lo;rw[List.length_append,cellsS_app];exact g
end book
namespace tar
open Go.RowKit
theorem roverlap(lo hi x y:Int)(w:World)(h0:0≤lo∧lo≤10000000)(h1:0≤hi∧hi≤10000000)(h2:0≤x∧x≤10000000)(h3:0≤y∧y≤10000000):Calls Tryz.prog 135 #[zI lo,zI hi,zI x,zI y] w λe w'=>e=.returned (zI (ov lo hi x y))∧w'=w:=by
 obtain⟨k,l⟩:=h0;obtain⟨m,n⟩:=h1;obtain⟨c0,c1⟩:=h2;obtain⟨r,s⟩:=h3
 have c:Hid (∀z,(max lo x≤min hi y→z=min hi y-max lo x)→(min hi y<max lo x→z=0)→z=ov lo hi x y):=λz i j=>by
  unfold ov;by_cases h:max lo x≤min hi y
  ·have:=i h;omega
  ·have:=j (by omega);omega
 by_cases p:lo<x
 ·have q:decide (lo<x)=true:=decide_eq_true p;by_cases f:y<hi
  ·have g:decide (y<hi)=true:=decide_eq_true f;by_cases b:y<x
   ·have d:decide (y<x)=true:=decide_eq_true b;have a:Hid ((0:Int)=ov lo hi x y):=c.o 0 (λh=>by omega) (λ_=>rfl);go_enter Tryz.func135,Tryz.ntmps135;go_wp2_with fail;go_ret;exact⟨by rw[← a.o];rfl,rfl⟩
   ·have d:decide (y<x)=false:=decide_eq_false b;have a:Hid (y-x=ov lo hi x y):=c.o _ (λh=>by omega) (λh=>by omega);go_enter Tryz.func135,Tryz.ntmps135;go_wp2_with fail;go_ret;exact⟨by rw[← a.o];rfl,rfl⟩
  ·have g:decide (y<hi)=false:=decide_eq_false f;by_cases b:hi<x
   ·have d:decide (hi<x)=true:=decide_eq_true b;have a:Hid ((0:Int)=ov lo hi x y):=c.o 0 (λh=>by omega) (λ_=>rfl);go_enter Tryz.func135,Tryz.ntmps135;go_wp2_with fail;go_ret;exact⟨by rw[← a.o];rfl,rfl⟩
   ·have d:decide (hi<x)=false:=decide_eq_false b;have a:Hid (hi-x=ov lo hi x y):=c.o _ (λh=>by omega) (λh=>by omega);go_enter Tryz.func135,Tryz.ntmps135;go_wp2_with fail;go_ret;exact⟨by rw[← a.o];rfl,rfl⟩
 ·have q:decide (lo<x)=false:=decide_eq_false p;by_cases f:y<hi
  ·have g:decide (y<hi)=true:=decide_eq_true f;by_cases b:y<lo
   ·have d:decide (y<lo)=true:=decide_eq_true b;have a:Hid ((0:Int)=ov lo hi x y):=c.o 0 (λh=>by omega) (λ_=>rfl);go_enter Tryz.func135,Tryz.ntmps135;go_wp2_with fail;go_ret;exact⟨by rw[← a.o];rfl,rfl⟩
   ·have d:decide (y<lo)=false:=decide_eq_false b;have a:Hid (y-lo=ov lo hi x y):=c.o _ (λh=>by omega) (λh=>by omega);go_enter Tryz.func135,Tryz.ntmps135;go_wp2_with fail;go_ret;exact⟨by rw[← a.o];rfl,rfl⟩
  ·have g:decide (y<hi)=false:=decide_eq_false f;by_cases b:hi<lo
   ·have d:decide (hi<lo)=true:=decide_eq_true b;have a:Hid ((0:Int)=ov lo hi x y):=c.o 0 (λh=>by omega) (λ_=>rfl);go_enter Tryz.func135,Tryz.ntmps135;go_wp2_with fail;go_ret;exact⟨by rw[← a.o];rfl,rfl⟩
   ·have d:decide (hi<lo)=false:=decide_eq_false b;have a:Hid (hi-lo=ov lo hi x y):=c.o _ (λh=>by omega) (λh=>by omega);go_enter Tryz.func135,Tryz.ntmps135;go_wp2_with fail;go_ret;exact⟨by rw[← a.o];rfl,rfl⟩
theorem rcost(a:Option Addr)(n cap:Nat)(ls:List Du)(x y:Int)(w:World)(hr:RowD w a n ls)(hR:Right ls)(hx:0≤x)(hxy:x≤y)(hy:y≤10000000):Calls Tryz.prog 91 #[.slice a n cap,zI x,zI y] w λe w'=>ValPost w (cost ls x y) e w':=by
 have f:=hr.1;have E:1≤n:=by have:=hR.1.1;omega
 have O:n≤8:=by have:=hR.1.2;omega
 obtain⟨b,c,rfl,l,G⟩:=hr.at E;have F:=zh G;have d:=zh f;have g:=zh hR;have A:Hid (0≤x∧x≤y∧y≤10000000):=⟨hx,hxy,hy⟩
 clear G hr f hR;go_enter Tryz.func91,Tryz.ntmps91;go_wp2_with fail;go_loopw [7,8,9] (λu v z wr=>∃k:Nat,k≤n∧z=zI (k:Int)∧u=zI (costK ls x y k)∧v=zI (low ls k)∧zB w wr) (λ_ _ z _=>n-(intOf z).toNat)
 case atStart=>exact⟨0,Nat.zero_le _,rfl,rfl,rfl,zb⟩
 case round=>
  obtain⟨k,V,rfl,rfl,rfl,j⟩:=hrel;by_cases i:k<n
  ·have C:decide ((k:Int)<(n:Int))=true:=by simp;omega
   have m:k<ls.length:=by rw[d.o];exact i
   have c0:wr.cell? ⟨b,c+k*2,none⟩=some (zI (ls.getD k du0).a):=(j.cell (p:=⟨b,c+k*2,none⟩) l).trans (F.o k i).1;have c1:wr.cell? ⟨b,c+k*2+1,none⟩=some (zI (ls.getD k du0).b):=(j.cell (p:=⟨b,c+k*2+1,none⟩) l).trans (F.o k i).2;have r:=zh j;have H:=g.o.price k m;have Q:=g.o.upto k m;have q:=g.o.low_pos k (by omega);have D:low ls k≤10000000:=by have:=low_mono g.o k ls.length (by omega) zc;rw[g.o.low_end] at this;exact this
   have t:Hid (∀W,zC 135 #[zI (low ls k),zI (ls.getD k du0).a,zI x,zI y] W λe w'=>e=.returned (zI (ov (low ls k) (ls.getD k du0).a x y))∧w'=W):=λW=>roverlap _ _ x y W ⟨q,D⟩ ⟨by omega,by omega⟩ ⟨by omega,by omega⟩ ⟨by omega,by omega⟩;have L:=costK_pos g.o x y k (by omega);have M:=costK_le g.o x y A.o.1 A.o.2.1 A.o.2.2 k (by omega);have P:=prod_bd (ov_pos (low ls k) (ls.getD k du0).a x y) (ov_le _ _ x y q Q.2) H.1 H.2;have J:=zh (costK_next ls x y k).symm;have I:=zh (low_next ls k).symm;clear j;generalize costK ls x y k=B at *;generalize low ls k=T at *;generalize ov T (ls.getD k du0).a x y=o at *;generalize (ls.getD k du0).a=u at *;generalize (ls.getD k du0).b=p at *;have R:IntKind.i64.wrap (o*p)=o*p:=by rw[IntKind.wrap_i64];omega
   have S:IntKind.i64.wrap (B+o*p)=B+o*p:=by rw[IntKind.wrap_i64];omega
   go_wp2_with fail;go_quiet (exact(t.o _).mono λ_ _ h=>⟨h.1,_,h.2⟩);have U:=c0;have s:=zh (bel_drewN r.o nq);go_wp2_with fail;go_roundw
   case rel=>exact⟨k+1,by omega,by go_num,by rw[← J.o],by rw[← I.o],s.o⟩
   case measure=>simp[intOf];omega
  ·obtain rfl:k=n:=by omega
   have C:decide ((k:Int)<(k:Int))=false:=by simp
   have K:Hid (costK ls x y k=cost ls x y):=by show _=_;unfold cost;rw[d.o]
   have r:=zh j;clear j;generalize N:costK ls x y k=B at *;go_wp2_with fail;go_ret;exact⟨by rw[← K.o];rfl,r.o⟩
end tar
namespace words
open Go.RowKit
theorem run_timesStep(args:Array Value)(w:World):(callFunc 166 args).run Tryz.prog w=.ok (.enter 166 args) w:=by kernel_rfl
theorem times_any(x:W3)(m:Int)(w:World)(hx:x.ok)(m0:0≤m)(m1:m<4294967296):
  Calls Tryz.prog 124 #[wv x,.int .u32 m] w λe w'=>e=.returned (.tuple #[wv (timesW x m),.int .u32 (timesO x m)])∧zB w w':=by
 obtain⟨a,b,c⟩:=x;obtain⟨⟨t,g⟩,⟨u,i⟩,y,j⟩:=hx;simp only at t g u i y j;go_enter Tryz.func124,Tryz.ntmps124;go_wp2_with fail;obtain⟨K,A⟩:=prod_bd t g m0 m1;obtain⟨L,B⟩:=prod_bd u i m0 m1;obtain⟨M,C⟩:=prod_bd y j m0 m1;have k:=trio_d w #[.int .u32 a,.int .u32 b,.int .u32 c] (.int .u32 m) 83 (.int .u32 0) (.int .u32 0) (.int .u32 0) (.int .u64 0) 174;have q:=bel4 w (.cells #[.int .u32 a,.int .u32 b,.int .u32 c] 135) (.cells #[.int .u32 m] 83) (.cells #[.int .u32 0,.int .u32 0,.int .u32 0] 135) (.cells #[.int .u64 0] 174);have G:(0:Int)+a*m=a*m:=by omega
 refine (upward_any 166 #[.pointer (some ⟨w.heap.size+1+1+1,0,none⟩),.pointer (some ⟨w.heap.size+1,0,none⟩)] (w.heap.size+1+1+1) (.int .u64 0) (.int .u64 ((a*m) / 4294967296)) (.int .u64 (((a*m) / 4294967296+b*m) / 4294967296)) (.int .u64 ((((a*m) / 4294967296+b*m) / 4294967296+c*m) / 4294967296)) a b c
  ((a*m)%4294967296) (((a*m)/4294967296+b*m)%4294967296) ((((a*m)/4294967296+b*m)/4294967296+c*m)%4294967296) _ (Acc.refl k.1 k.2.1) run_timesStep
  (λw' h=>by have:=timesStep_any (w.heap.size+1+1+1) (w.heap.size+1) 0 a m w' h.cell h.free (h.keep k.2.2.2 (by omega)) (by omega) (by omega) t g m0 m1;rw[G] at this;exact this)
  (λw' h=>timesStep_any _ _ _ _ _ w' h.cell h.free (h.keep k.2.2.2 (by omega)) (by omega) (by omega) u i m0 m1)
  (fun w' h=>timesStep_any _ _ _ _ _ w' h.cell h.free (h.keep k.2.2.2 (by omega)) (by omega) (by omega) y j m0 m1)).mono ?_
 rintro e r ⟨H,n⟩;have f:Trio r (w.heap.size+1+1) (.int .u32 0) (.int .u32 0) (.int .u32 0):=k.2.2.1.acc n (by omega);have F:Hid (zB w r):=n.below q (by omega);have l:=n.cell;have J:w.heap.size+1+1+1<r.heap.size:=Nat.lt_of_lt_of_le n.old n.size;have E:wv (timesW ⟨a,b,c⟩ m)=.agg #[.int .u32 ((a*m)%4294967296),.int .u32 (((a*m)/4294967296+b*m)%4294967296),.int .u32 ((((a*m)/4294967296+b*m)/4294967296+c*m)%4294967296)]:=rfl;have D:timesO ⟨a,b,c⟩ m=(((a*m)/4294967296+b*m)/4294967296+c*m)/4294967296:=rfl;have N:0≤(((a*m)/4294967296+b*m)/4294967296+c*m)/4294967296:=by omega
 have O:(((a*m)/4294967296+b*m)/4294967296+c*m)/4294967296<4294967296:=by omega
 have p:Hid (.returned (.tuple #[wv (timesW ⟨a,b,c⟩ m),.int .u32 (timesO ⟨a,b,c⟩ m)])=Ending.returned (.tuple #[.agg #[.int .u32 ((a*m)%4294967296),.int .u32 (((a*m)/4294967296+b*m)%4294967296),.int .u32 ((((a*m)/4294967296+b*m)/4294967296+c*m)%4294967296)],.int .u32 ((((a*m)/4294967296+b*m)/4294967296+c*m)/4294967296)])):=by
  have:Ending.returned (.tuple #[wv (timesW ⟨a,b,c⟩ m),.int .u32 (timesO ⟨a,b,c⟩ m)])=Ending.returned (.tuple #[.agg #[.int .u32 ((a*m)%4294967296),.int .u32 (((a*m)/4294967296+b*m)%4294967296),.int .u32 ((((a*m)/4294967296+b*m)/4294967296+c*m)%4294967296)],.int .u32 ((((a*m)/4294967296+b*m)/4294967296+c*m)/4294967296)]):=by rw[E,D]
  exact this
 clear n k q E D G K A L B M C;have d:Hid (e=.returned (.agg #[.int .u32 ((a*m)%4294967296),.int .u32 (((a*m)/4294967296+b*m)%4294967296),.int .u32 ((((a*m)/4294967296+b*m)/4294967296+c*m)%4294967296)])):=H;clear H;generalize hz:(((a*m)/4294967296+b*m)/4294967296+c*m)/4294967296=z at l N O p d;generalize hy0:(a*m)%4294967296=y0 at p d;generalize hy1:((a*m)/4294967296+b*m)%4294967296=y1 at p d;generalize hy2:(((a*m)/4294967296+b*m)/4294967296+c*m)%4294967296=y2 at p d;clear hz hy0 hy1 hy2;obtain rfl:=d.o;have f:=f.alloc (.cells #[.int .u32 y0,.int .u32 y1,.int .u32 y2] 135);have S:=f.c0;have T:=f.c1;have U:=f.c2;have P:=f.free 0;have Q:=f.free 1;have R:=f.free 2;have I:Hid (Trio (r.alloc (.cells #[.int .u32 y0,.int .u32 y1,.int .u32 y2] 135)) (w.heap.size+1+1) (.int .u32 0) (.int .u32 0) (.int .u32 0)):=f;clear f;go_wp2_with fail;go_region
 all_goals go_wp2_with fail
 have s:=((I.o.set0 (.int .u32 y0)).set1 (.int .u32 y1)).set2 (.int .u32 y2);refine bodyPost_ret (v:=.tuple #[.agg #[.int .u32 y0,.int .u32 y1,.int .u32 y2],.int .u32 z]) (by simp[results,Tryz.results124,s.c0,s.c1,s.c2,go_sem]) rfl ⟨p.o.symm,?_⟩;exact below_put (F.o.alloc F.o.size _) _ _ _ _ _ _ _ (by omega)
end words
namespace ora
open Go.RowKit
open Go.ChangeMaps (setBlock heap_setBlock_same heap_setBlock_other)
def ent(p:Pr)(i:Nat):MapEntry:={ key:=.agg #[zI p.m,zI p.r,zI p.b],val:=zI p.t,born:=i }
def ents:List Pr→Nat→List MapEntry
 |[],_=>[]
 |p::l,i=>ent p i::ents l (i+1)
theorem ents_app(l:List Pr)(p:Pr)(i:Nat):ents (l++[p]) i=ents l i++[ent p (i+l.length)]:=by
 induction l generalizing i with
 |nil=>rfl
 |cons x l ih=>simp only[List.cons_append,ents,ih,List.length_cons];rw[show i+1+l.length=i+(l.length+1) by omega]
def Mp(w:World)(B:Nat)(l:List Pr):Prop:=w.heap[B]?=some (.map (ents l 0).toArray l.length)
variable{l:List Pr}{m r b:Int}{B:Nat}{w:World}
theorem Mp.lt(h:Mp w B l):B<w.heap.size:=by
 unfold Mp at h;by_cases a:B<w.heap.size
 ·exact a
 ·rw[Array.getElem?_eq_none (by omega)] at h;cases h
theorem Mp.below{w w':World}(h:Mp w B l)(hb:zB w w'):Mp w' B l:=by
 have a:=h.lt;unfold Mp at *;rw[hb.block B a];exact h
theorem Mp.new(w:World):Mp (w.alloc (.map #[] 0)) w.heap.size []:=by
 show (w.heap.push _)[w.heap.size]?=_;rw[Array.getElem?_push_size];rfl
def look:List Pr→Int→Int→Int→Option Int
 |[],_,_,_=>none
 |p::l,m,r,b=>if m=p.m∧r=p.r∧b=p.b then some p.t else look l m r b
theorem look_no(h:No l m r b):look l m r b=none:=by
 induction l with
 |nil=>rfl
 |cons p l ih=>
  have a:=h 0 (by simp);rw[look,if_neg (λe=>a ⟨e.1.symm,e.2.1.symm,e.2.2.symm⟩)];exact ih λj c=>h (j+1) (by simpa using c)
theorem look_at{i:Nat}(h:At l m r b i):look l m r b=some (l.getD i pr0).t:=by
 induction l generalizing i with
 |nil=>exact absurd h.lt (Nat.not_lt_zero _)
 |cons p l ih=>
  cases i with
  |zero=>
   have a:=h.is;rw[look,if_pos ⟨a.1.symm,a.2.1.symm,a.2.2.symm⟩];rfl
  |succ i=>
   have a:=h.first 0 (by omega);rw[look,if_neg (λe=>a ⟨e.1.symm,e.2.1.symm,e.2.2.symm⟩)];exact ih ⟨by have:=h.lt;simpa using this,h.is,λj c=>h.first (j+1) (by omega)⟩
theorem look_take{k:Nat}(hk:k≤l.length):look (l.take k) m r b=none↔∀j,j<k→¬ (l.getD j pr0).key m r b:=by
 have d:∀j,j<k→(l.take k).getD j pr0=l.getD j pr0:=λj c=>by simp[List.getD,List.getElem?_take,c]
 rcases find_or (l.take k) m r b with⟨i,a⟩|e
 ·constructor
  ·intro h;rw[look_at a] at h;cases h
  ·intro h;have f:=a.lt;rw[List.length_take] at f;have:=a.is;rw[d i (by omega)] at this;exact absurd this (h i (by omega))
 ·constructor
  ·intro _ j c;have:=e j (by rw[List.length_take];omega)
   rwa [d j c] at this
  ·intro _;exact look_no e
theorem skq(d:Nat)(a b:Int)(w:World):(Op.equalIn (d+1) 3 (zI a) (zI b)).run Tryz.prog w=.ok (a==b) w:=run_equalIn_int w d _ _ _ a b Tryz.underlying3
theorem sk0(s t c:Int)(w:World):(part 3 #[zI s,zI t,zI c] 0).run Tryz.prog w=.ok (zI s) w:=by kernel_rfl
theorem sk1(s t c:Int)(w:World):(part 3 #[zI s,zI t,zI c] 1).run Tryz.prog w=.ok (zI t) w:=by kernel_rfl
theorem sk2(s t c:Int)(w:World):(part 3 #[zI s,zI t,zI c] 2).run Tryz.prog w=.ok (zI c) w:=by kernel_rfl
theorem eqSub(m r b:Int)(p:Pr)(w:World):
  (Op.equal 183 (.agg #[zI m,zI r,zI b]) (.agg #[zI p.m,zI p.r,zI p.b])).run Tryz.prog w=.ok (decide (m=p.m∧r=p.r∧b=p.b)) w:=by
 unfold Op.equal;rw[show Op.maxDepth=9999+1 from rfl,run_equalIn_agg w 9999 183 _ _ (by kernel_rfl) (by kernel_rfl)];simp only[Program.fieldsOf,Tryz.underlying183,Op.eqFields,Sem.run_bind,Sem.run_ite];by_cases a:m=p.m<;>by_cases c:r=p.r<;>by_cases d:b=p.b<;>simp[sk0,sk1,sk2,show (9999:Nat)=9998+1 from rfl,skq,a,c,d]
theorem chk(em:Bool)(m r b:Int)(w:World):(Instr.checkKey em 10000 183 (.agg #[zI m,zI r,zI b])).run Tryz.prog w=.ok () w:=by kernel_rfl
theorem asking(m r b:Int)(w:World):∀(l:List Pr)(i j:Nat),(look l m r b=none→(Instr.findAsking 183 (.agg #[zI m,zI r,zI b]) (ents l i) j).run Tryz.prog w=.ok none w) ∧
  ∀t,look l m r b=some t→∃q,(Instr.findAsking 183 (.agg #[zI m,zI r,zI b]) (ents l i) j).run Tryz.prog w=.ok (some (q,zI t)) w
 |[],i,j=>⟨λ_=>rfl,λt h=>by cases h⟩
 |p::l,i,j=>by
  have ih:=asking m r b w l (i+1) (j+1);unfold look;by_cases a:m=p.m∧r=p.r∧b=p.b
  ·refine⟨λh=>(by rw[if_pos a] at h;cases h),λt h=>⟨j,?_⟩⟩;rw[if_pos a] at h;cases h;simp[ents,Instr.findAsking,ent,eqSub,a,Sem.run_bind]
  ·rw[if_neg a]
   have e:∀X,(Instr.findAsking 183 (.agg #[zI m,zI r,zI b]) (ents (p::l) i) j).run Tryz.prog w=X↔(Instr.findAsking 183 (.agg #[zI m,zI r,zI b]) (ents l (i+1)) (j+1)).run Tryz.prog w=X:=λX=>by
    simp[ents,Instr.findAsking,ent,eqSub,a,Sem.run_bind]
   exact⟨λh=>(e _).2 (ih.1 h),λt h=>(ih.2 t h).imp λq c=>(e _).2 c⟩
theorem finding(m r b:Int)(w:World)(l:List Pr):(look l m r b=none→(Instr.findKey 183 (.agg #[zI m,zI r,zI b]) (ents l 0)).run Tryz.prog w=.ok none w) ∧
  ∀t,look l m r b=some t→∃q,(Instr.findKey 183 (.agg #[zI m,zI r,zI b]) (ents l 0)).run Tryz.prog w=.ok (some (q,zI t)) w:=by
 cases l with
 |nil=>exact⟨λ_=>by simp[Instr.findKey,ents,Instr.findNow,run_underlying Tryz.underlying183,Sem.run_bind],λt h=>by cases h⟩
 |cons p l=>
  have e:(Instr.findKey 183 (.agg #[zI m,zI r,zI b]) (ents (p::l) 0)).run Tryz.prog w=(Instr.findAsking 183 (.agg #[zI m,zI r,zI b]) (ents (p::l) 0)).run Tryz.prog w:=by
   simp[Instr.findKey,ents,Instr.findNow,Instr.sameNow,run_underlying Tryz.underlying183,Sem.run_bind]
  rw[e];exact asking m r b w (p::l) 0 0
theorem zint(w:World):(zeroValue 3).run Tryz.prog w=.ok (zI 0) w:=by kernel_rfl
theorem look_run(h:Mp w B l)(m r b:Int):
  (Instr.lookup 178 (.map (some B)) (.agg #[zI m,zI r,zI b]) true).run Tryz.prog w=.ok (.tuple #[zI ((look l m r b).getD 0),.bool (look l m r b).isSome]) w:=by
 have hf:=finding m r b w l;cases hl:look l m r b with
 |none=>simp[Instr.lookup,run_underlying Tryz.underlying178,MapKept.run_getObj_map h,chk,hf.1 hl,zint,Result.andThen,Sem.run_bind]
 |some t=>
  obtain⟨q,a⟩:=hf.2 t hl;simp[Instr.lookup,run_underlying Tryz.underlying178,MapKept.run_getObj_map h,chk,a,Result.andThen,Sem.run_bind]
theorem upd_run(h:Mp w B l)(m r b t:Int)(hn:look l m r b=none):
  ∃W,(Instr.mapUpdate 178 (.map (some B)) (.agg #[zI m,zI r,zI b]) (zI t)).run Tryz.prog w=.ok () W∧Mp W B (l++[⟨m,r,b,t⟩])∧(∀G,G≠B→W.heap[G]?=w.heap[G]?)∧(∀B0 w0,B0≤B→Below B0 w0 w→Below B0 w0 W)∧W.heap.size=w.heap.size:=by
 have hf:=(finding m r b w l).1 hn;refine⟨setBlock w B (.map ((ents l 0).toArray.push ⟨.agg #[zI m,zI r,zI b],zI t,l.length⟩) (l.length+1)),?_,?_,λG c=>heap_setBlock_other h _ c,λB0 w0 e a=>?_,by simp[setBlock]⟩
 ·simp[Instr.mapUpdate,run_underlying Tryz.underlying178,MapKept.run_getObj_map h,chk,hf,MapKept.run_setObj_map _ h,Result.andThen,setBlock,Sem.run_bind]
 ·unfold Mp;rw[heap_setBlock_same h,ents_app,List.length_append];simp[ent]
 ·refine⟨a.os,a.tape,a.output,by simp[setBlock];exact a.size,λk d=>?_⟩;rw[heap_setBlock_other h _ (by omega)];exact a.block k d
theorem run_mkMap(w:World)(n:Int):(Instr.makeMap 178 (some (zI n))).run Tryz.prog w=.ok (.map (some w.heap.size)) (w.alloc (.map #[] 0)):=by kernel_rfl
theorem of_any(m r b t:Int)(w:World):
  Calls Tryz.prog 116 #[.agg #[zI m,zI r,zI b,zI t]] w λe w'=>e=.returned (.agg #[zI m,zI r,zI b])∧zB w w':=by
 have c:=(Blk.new w #[zI m,zI r,zI b,zI t] 87).alloc (.cells #[zI 0,zI 0,zI 0] 183);have c0:=c.cell 0;have c1:=c.cell 1;have c2:=c.cell 2;have f:=Blk.new1 w (.cells #[zI m,zI r,zI b,zI t] 87) #[zI 0,zI 0,zI 0] 183;have h:=zh f;have g:Hid (zB w ((w.alloc (.cells #[zI m,zI r,zI b,zI t] 87)).alloc (.cells #[zI 0,zI 0,zI 0] 183))):=(zb.alloc zc _).alloc (by simp) _;clear c f;go_enter Tryz.func116,Tryz.ntmps116
 go_wp2_with (first
  |(refine wp_letAll rfl 183 _ _ rfl (w.heap.size+1) rfl _ rfl (by kernel_rfl) (by simp[Value.oneCell']) _ _ h.o rfl ?_;intro W a)
  | fail)
 have i:=a.blk.cell 0;have j:=a.blk.cell 1;have k:=a.blk.cell 2;have d:=zk a g;clear a c0 c1 c2;go_wp2_with fail;exact zr (.agg #[zI m,zI r,zI b]) (by simp[results,Tryz.results116,i,j,k,go_sem]) ⟨rfl,d.o⟩
theorem within_any(m r b t:Int)(w:World):
  Calls Tryz.prog 115 #[.agg #[zI m,zI r,zI b,zI t]] w λe w'=>Told w (Pr.mk m r b t).may e w':=by
 have q:=Blk.new w #[zI m,zI r,zI b,zI t] 87;have c0:=q.cell 0;have c1:=q.cell 1;have c2:=q.cell 2;have C:=q.cell 3;have d:Hid (zB w (w.alloc (.cells #[zI m,zI r,zI b,zI t] 87))):=zb.alloc zc _;clear q;by_cases c:0≤m
 ·skip
  by_cases f:m<50
  ·skip
   by_cases g:0≤r
   ·skip
    by_cases j:r≤15
    ·skip
     by_cases l:0≤b
     ·skip
      by_cases p:b≤8796093022207
      ·skip
       by_cases u:0≤t
       ·skip
        by_cases y:t≤65535
        ·skip
         have a:Hid ((Pr.mk m r b t).may):=⟨⟨c,by show m≤49;omega⟩,⟨g,j⟩,⟨l,p⟩,⟨u,y⟩⟩
         have i:decide (0≤m)=true:=by simp;omega
         have k:decide (m<50)=true:=by simp;omega
         have n:decide (0≤r)=true:=by simp;omega
         have s:decide (r≤15)=true:=by simp;omega
         have x:decide (0≤b)=true:=by simp;omega
         have z:decide (b≤8796093022207)=true:=by simp;omega
         have A:decide (0≤t)=true:=by simp;omega
         have B:decide (t≤65535)=true:=by simp;omega
         clear c f g j l p u y;go_enter Tryz.func115,Tryz.ntmps115;go_wp2_with fail;go_ret;exact Told.yes a.o d.o
        ·have B:decide (t≤65535)=false:=by simp;omega
         have a:Hid (¬ (Pr.mk m r b t).may):=λh=>by unfold Pr.may at h;simp only at h;omega
         have i:decide (0≤m)=true:=by simp;omega
         have k:decide (m<50)=true:=by simp;omega
         have n:decide (0≤r)=true:=by simp;omega
         have s:decide (r≤15)=true:=by simp;omega
         have x:decide (0≤b)=true:=by simp;omega
         have z:decide (b≤8796093022207)=true:=by simp;omega
         have A:decide (0≤t)=true:=by simp;omega
         clear c f g j l p u y;go_enter Tryz.func115,Tryz.ntmps115;go_wp2_with fail;go_ret;exact Told.no a.o d.o
       ·have A:decide (0≤t)=false:=by simp;omega
        have a:Hid (¬ (Pr.mk m r b t).may):=λh=>by unfold Pr.may at h;simp only at h;omega
        have i:decide (0≤m)=true:=by simp;omega
        have k:decide (m<50)=true:=by simp;omega
        have n:decide (0≤r)=true:=by simp;omega
        have s:decide (r≤15)=true:=by simp;omega
        have x:decide (0≤b)=true:=by simp;omega
        have z:decide (b≤8796093022207)=true:=by simp;omega
        clear c f g j l p u;go_enter Tryz.func115,Tryz.ntmps115;go_wp2_with fail;go_ret;exact Told.no a.o d.o
      ·have z:decide (b≤8796093022207)=false:=by simp;omega
       have a:Hid (¬ (Pr.mk m r b t).may):=λh=>by unfold Pr.may at h;simp only at h;omega
       have i:decide (0≤m)=true:=by simp;omega
       have k:decide (m<50)=true:=by simp;omega
       have n:decide (0≤r)=true:=by simp;omega
       have s:decide (r≤15)=true:=by simp;omega
       have x:decide (0≤b)=true:=by simp;omega
       clear c f g j l p;go_enter Tryz.func115,Tryz.ntmps115;go_wp2_with fail;go_ret;exact Told.no a.o d.o
     ·have x:decide (0≤b)=false:=by simp;omega
      have a:Hid (¬ (Pr.mk m r b t).may):=λh=>by unfold Pr.may at h;simp only at h;omega
      have i:decide (0≤m)=true:=by simp;omega
      have k:decide (m<50)=true:=by simp;omega
      have n:decide (0≤r)=true:=by simp;omega
      have s:decide (r≤15)=true:=by simp;omega
      clear c f g j l;go_enter Tryz.func115,Tryz.ntmps115;go_wp2_with fail;go_ret;exact Told.no a.o d.o
    ·have s:decide (r≤15)=false:=by simp;omega
     have a:Hid (¬ (Pr.mk m r b t).may):=λh=>by unfold Pr.may at h;simp only at h;omega
     have i:decide (0≤m)=true:=by simp;omega
     have k:decide (m<50)=true:=by simp;omega
     have n:decide (0≤r)=true:=by simp;omega
     clear c f g j;go_enter Tryz.func115,Tryz.ntmps115;go_wp2_with fail;go_ret;exact Told.no a.o d.o
   ·have n:decide (0≤r)=false:=by simp;omega
    have a:Hid (¬ (Pr.mk m r b t).may):=λh=>by unfold Pr.may at h;simp only at h;omega
    have i:decide (0≤m)=true:=by simp;omega
    have k:decide (m<50)=true:=by simp;omega
    clear c f g;go_enter Tryz.func115,Tryz.ntmps115;go_wp2_with fail;go_ret;exact Told.no a.o d.o
  ·have k:decide (m<50)=false:=by simp;omega
   have a:Hid (¬ (Pr.mk m r b t).may):=λh=>by unfold Pr.may at h;simp only at h;omega
   have i:decide (0≤m)=true:=by simp;omega
   clear c f;go_enter Tryz.func115,Tryz.ntmps115;go_wp2_with fail;go_ret;exact Told.no a.o d.o
 ·have i:decide (0≤m)=false:=by simp;omega
  have a:Hid (¬ (Pr.mk m r b t).may):=λh=>by unfold Pr.may at h;simp only at h;omega
  clear c;go_enter Tryz.func115,Tryz.ntmps115;go_wp2_with fail;go_ret;exact Told.no a.o d.o
end ora
end Go.Proofs.YtoepgdhiepedeaaGreatDoor
