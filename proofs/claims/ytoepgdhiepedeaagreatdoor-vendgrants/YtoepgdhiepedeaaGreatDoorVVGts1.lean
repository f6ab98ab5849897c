import Derived.Test.YtoepgdhiepedeaaGreatDoorVVGts0
set_option linter.unusedVariables false
set_option linter.unusedSimpArgs false
set_option maxHeartbeats 4000000
set_option maxRecDepth 100000
namespace Go.Proofs.YtoepgdhiepedeaaGreatDoor
section
open Go.RowKit
def Blk(w:World)(G:Nat)(cs:Array Value)(t:TypeId):Prop:=w.heap[G]?=some (.cells cs t (0,0))
variable{cs:Array Value}{t:TypeId}{w:World}{G:Nat}
theorem Blk.lt(h:Blk w G cs t):G<w.heap.size:=by
 unfold Blk at h
 by_cases hh:G<w.heap.size
 ·exact hh
 ·rw[Array.getElem?_eq_none (by omega)] at h;cases h
theorem Blk.new(w:World)(cs:Array Value)(t:TypeId):Blk (w.alloc (.cells cs t)) w.heap.size cs t:=by
 show (w.heap.push _)[w.heap.size]?=_
 rw[Array.getElem?_push_size]
theorem Blk.new1(w:World)(o:Obj)(cs:Array Value)(t:TypeId):Blk ((w.alloc o).alloc (.cells cs t)) (w.heap.size+1) cs t:=by
 have h:=Blk.new (w.alloc o) cs t
 rwa [show (w.alloc o).heap.size=w.heap.size+1 by simp] at h
theorem Blk.new2(w:World)(o p:Obj)(cs:Array Value)(t:TypeId):Blk (((w.alloc o).alloc p).alloc (.cells cs t)) (w.heap.size+1+1) cs t:=by
 have h:=Blk.new ((w.alloc o).alloc p) cs t
 rwa [show ((w.alloc o).alloc p).heap.size=w.heap.size+1+1 by simp] at h
theorem Blk.new3(w:World)(o p q:Obj)(cs:Array Value)(t:TypeId):Blk ((((w.alloc o).alloc p).alloc q).alloc (.cells cs t)) (w.heap.size+1+1+1) cs t:=by
 have h:=Blk.new (((w.alloc o).alloc p).alloc q) cs t
 rwa [show (((w.alloc o).alloc p).alloc q).heap.size=w.heap.size+1+1+1 by simp] at h
theorem Blk.alloc(h:Blk w G cs t)(o:Obj):Blk (w.alloc o) G cs t:=by
 have hl:=h.lt
 unfold Blk at *
 show (w.heap.push o)[G]?=_
 rw[Array.getElem?_push,if_neg (by omega)];exact h
theorem Blk.below{w w':World}{G B:Nat}(h:Blk w G cs t)(hb:Below B w w')(hG:G<B):Blk w' G cs t:=by
 unfold Blk at *
 rw[hb.block G hG];exact h
theorem Blk.next{w w':World}(h:Blk w G cs t)(hb:Below w.heap.size w w'):Blk w' G cs t:=h.below hb h.lt
theorem Blk.cell(h:Blk w G cs t)(i:Nat):w.cell? ⟨G,i,none⟩=cs[i]?:=by
 unfold Blk at h;simp[World.cell?,h]
theorem Blk.free(h:Blk w G cs t)(i:Nat):w.frozen? ⟨G,i,none⟩=false:=by
 unfold Blk at h;simp[World.frozen?,h]
theorem Blk.set(h:Blk w G cs t)(i:Nat)(u:Value):Blk (w.setCell ⟨G,i,none⟩ u) G (cs.setIfInBounds i u) t:=by
 have hl:=h.lt
 unfold Blk at *
 have hl':=hl
 simp[World.setCell,Array.getElem?_modify,h]
theorem Blk.other{G G':Nat}(h:Blk w G cs t)(i:Nat)(u:Value)(hne:G'≠G):Blk (w.setCell ⟨G',i,none⟩ u) G cs t:=by
 unfold Blk at *
 simp only[World.setCell,Array.getElem?_modify];rw[if_neg hne];exact h
theorem Blk.drew(h:Blk w G cs t)(q:Nat):Blk (w.drewN q) G cs t:=h
theorem bel_set{B:Nat}{w w':World}(h:Below B w w')(G i:Nat)(u:Value)(hG:B≤G):Below B w (w'.setCell ⟨G,i,none⟩ u):=by
 refine⟨h.os,h.tape,h.output,by simp[World.setCell];exact h.size,λk hk=>?_⟩
 rw[← h.block k hk]
 simp only[World.setCell,Array.getElem?_modify]
 rw[if_neg (by omega)]
theorem bel_drew{B:Nat}{w0 w:World}(h:Below B w0 w)(q:Nat):Below B w0 (w.drewN q):=⟨h.os,h.tape,h.output,h.size,h.block⟩
theorem bel_step{w0 w w':World}(h:Below w0.heap.size w0 w)(h':Below w.heap.size w w'):Below w0.heap.size w0 w':=h.trans (h'.mono h.size)
end
namespace words
structure W3 where
 a:Int
 b:Int
 c:Int
def W3.ok(w:W3):Prop:=(0≤w.a∧w.a<4294967296)∧(0≤w.b∧w.b<4294967296)∧(0≤w.c∧w.c<4294967296)
def W3.val(w:W3):Int:=w.a+w.b*4294967296+w.c*18446744073709551616
def top:Int:=79228162514264337593543950336
variable{w:W3}
theorem W3.bd(h:w.ok):0≤w.val∧w.val<top:=by
 obtain⟨a,b,c⟩:=h;unfold W3.val top;omega
def carry3(p q r:Int):W3:=⟨p%4294967296,(p/4294967296+q)%4294967296,((p/4294967296+q)/4294967296+r)%4294967296⟩
def carry3o(p q r:Int):Int:=((p/4294967296+q)/4294967296+r)/4294967296
theorem carry3_ok(p q r:Int):(carry3 p q r).ok:=by
 unfold carry3 W3.ok;simp only;omega
theorem carry3_val(p q r:Int):(carry3 p q r).val+carry3o p q r*top=p+q*4294967296+r*18446744073709551616:=by
 unfold carry3 carry3o W3.val top;simp only;omega
def timesW(w:W3)(m:Int):W3:=carry3 (w.a*m) (w.b*m) (w.c*m)
def timesO(w:W3)(m:Int):Int:=carry3o (w.a*m) (w.b*m) (w.c*m)
theorem times_val(w:W3)(m:Int):(timesW w m).val+timesO w m*top=w.val*m:=by
 have:=carry3_val (w.a*m) (w.b*m) (w.c*m);unfold timesW timesO;rw[this];unfold W3.val;rw[Int.add_mul,Int.add_mul,Int.mul_right_comm w.b,Int.mul_right_comm w.c]
theorem prod_bd{x m:Int}(x0:0≤x)(x1:x<4294967296)(m0:0≤m)(m1:m<4294967296):0≤x*m∧x*m≤4294967295*4294967295:=
 ⟨Int.mul_nonneg x0 m0,Int.mul_le_mul (by omega) (by omega) m0 (by omega)⟩
theorem times_mod(m:Int):(timesW w m).val=w.val*m%top:=by
 have h:=times_val w m;have b:=W3.bd (carry3_ok (w.a*m) (w.b*m) (w.c*m));have e:(timesW w m).val=(carry3 (w.a*m) (w.b*m) (w.c*m)).val:=rfl;rw[← h,Int.add_mul_emod_self_right,Int.emod_eq_of_lt (by omega) (by omega)]
def over2(w:W3)(d:Int):Int:=w.c%d
def over1(w:W3)(d:Int):Int:=(over2 w d*4294967296+w.b)%d
def overR(w:W3)(d:Int):Int:=(over1 w d*4294967296+w.a)%d
def overW(w:W3)(d:Int):W3:=⟨(over1 w d*4294967296+w.a)/d,(over2 w d*4294967296+w.b)/d,w.c/d⟩
theorem word_div{r x d:Int}(h0:0<d)(r0:0≤r)(r1:r<d)(x0:0≤x)(x1:x<4294967296):0≤(r*4294967296+x)/d∧(r*4294967296+x)/d<4294967296:=by
 refine⟨Int.ediv_nonneg (by omega) (by omega),?_⟩;rw[Int.ediv_lt_iff_lt_mul h0];omega
theorem over_left(d:Int)(h:0<d):0≤overR w d∧overR w d<d:=⟨Int.emod_nonneg _ (by omega),Int.emod_lt_of_pos _ h⟩
theorem over_ok(hw:w.ok){d:Int}(h:0<d):(overW w d).ok:=by
 obtain⟨⟨c,e⟩,⟨f,g⟩,c1,c2⟩:=hw;have b:0≤over2 w d∧over2 w d<d:=⟨Int.emod_nonneg _ (by omega),Int.emod_lt_of_pos _ h⟩
 have a:0≤over1 w d∧over1 w d<d:=⟨Int.emod_nonneg _ (by omega),Int.emod_lt_of_pos _ h⟩
 refine⟨word_div h a.1 a.2 c e,word_div h b.1 b.2 f g,?_⟩;have:=word_div h (r:=0) (by omega) h c1 c2;simpa [overW] using this
theorem over_val(w:W3)(d:Int):(overW w d).val*d+overR w d=w.val:=by
 have g:=Int.emod_add_mul_ediv w.c d;have f:=Int.emod_add_mul_ediv (over2 w d*4294967296+w.b) d;have e:=Int.emod_add_mul_ediv (over1 w d*4294967296+w.a) d;have j:over2 w d=w.c%d:=rfl;have i:over1 w d=(over2 w d*4294967296+w.b)%d:=rfl;have h:overR w d=(over1 w d*4294967296+w.a)%d:=rfl;rw[← j] at g;rw[← i] at f;rw[← h] at e;unfold W3.val overW;simp only;rw[Int.add_mul,Int.add_mul,Int.mul_right_comm _ 4294967296,Int.mul_right_comm _ 18446744073709551616,Int.mul_comm _ d,Int.mul_comm _ d,Int.mul_comm _ d];generalize d*((over1 w d*4294967296+w.a)/d)=k at *;generalize d*((over2 w d*4294967296+w.b)/d)=l at *;generalize d*(w.c/d)=m at *;omega
def sh(v:Nat)(k:Int):Nat:=if k<0 then v/2^(-k).toNat else v*2^k.toNat%2^64
def onesN(n:Nat):Nat:=2^n-1
theorem sh_bit(v:Nat)(k:Int)(j:Nat)(hj:j<64):(sh v k).testBit j=(decide (k≤j)&&v.testBit ((j:Int)-k).toNat):=by
 unfold sh;by_cases h:k<0
 ·rw[if_pos h,Nat.testBit_div_two_pow];have a:k≤(j:Int):=by omega
  rw[decide_eq_true a,Bool.true_and]
  congr 1;omega
 ·rw[if_neg h,Nat.testBit_mod_two_pow,Nat.testBit_mul_two_pow];rw[decide_eq_true hj,Bool.true_and];by_cases a:k≤(j:Int)
  ·rw[decide_eq_true a,decide_eq_true (show k.toNat≤j by omega)]
   congr 2;omega
  ·rw[decide_eq_false a,decide_eq_false (show ¬ k.toNat≤j by omega)];simp
theorem ones_bit(n j:Nat):(onesN n).testBit j=decide (j<n):=Nat.testBit_two_pow_sub_one ..
theorem bit_hi{x j k:Nat}(h:x<2^k)(hj:k≤j):x.testBit j=false:=Nat.testBit_lt_two_pow (Nat.lt_of_lt_of_le h (Nat.pow_le_pow_right (by decide) hj))
def bit3(a b c:Nat)(m:Nat):Bool:=if m<32 then a.testBit m else if m<64 then b.testBit (m-32) else c.testBit (m-64)
def bitsN(a b c lo n:Nat):Nat:=(sh a (0-lo) ||| sh b (32-lo) ||| sh c (64-lo)) &&& onesN n
theorem bits_bit{a b c lo n:Nat}(ha:a<2^32)(hb:b<2^32)(_hc:c<2^32)(hn:n≤64)(j:Nat):(bitsN a b c lo n).testBit j=(decide (j<n)&&bit3 a b c (j+lo)):=by
 unfold bitsN;rw[Nat.testBit_and,ones_bit];by_cases f:j<n
 ·rw[decide_eq_true f,Bool.and_true,Bool.true_and,Nat.testBit_or,Nat.testBit_or,sh_bit _ _ _ (by omega),sh_bit _ _ _ (by omega),sh_bit _ _ _ (by omega)];unfold bit3;rw[decide_eq_true (show (0:Int)-(lo:Int)≤(j:Int) by omega),Bool.true_and];have g:((j:Int)-(0-(lo:Int))).toNat=j+lo:=by omega
  have h:((j:Int)-(32-(lo:Int))).toNat=j+lo-32:=by omega
  have i:((j:Int)-(64-(lo:Int))).toNat=j+lo-64:=by omega
  rw[g,h,i];by_cases d:j+lo<32
  ·rw[if_pos d,decide_eq_false (show ¬ (32:Int)-(lo:Int)≤(j:Int) by omega),decide_eq_false (show ¬ (64:Int)-(lo:Int)≤(j:Int) by omega)];simp
  ·rw[if_neg d,decide_eq_true (show (32:Int)-(lo:Int)≤(j:Int) by omega),bit_hi ha (by omega)];by_cases e:j+lo<64
   ·rw[if_pos e,decide_eq_false (show ¬ (64:Int)-(lo:Int)≤(j:Int) by omega)];simp
   ·rw[if_neg e,decide_eq_true (show (64:Int)-(lo:Int)≤(j:Int) by omega),bit_hi hb (by omega)];simp
 ·rw[decide_eq_false f];simp
def putN(x v n:Nat)(k:Int):Nat:=(x &&& (2^32-1-sh (onesN n) k%2^32)) ||| (sh v k%2^32)
theorem put_bit(x v n:Nat)(k:Int)(j:Nat)(hj:j<32):(putN x v n k).testBit j=(x.testBit j && !(decide (k≤j)&&decide ((j:Int)-k<n))||(decide (k≤j)&&v.testBit ((j:Int)-k).toNat)):=by
 unfold putN;have e:2^32-1-sh (onesN n) k%2^32=2^32-(sh (onesN n) k%2^32+1):=by omega
 rw[Nat.testBit_or,Nat.testBit_and,e,Nat.testBit_two_pow_sub_succ (Nat.mod_lt _ (by decide)),Nat.testBit_mod_two_pow,Nat.testBit_mod_two_pow,decide_eq_true hj,Bool.true_and,Bool.true_and,Bool.true_and,sh_bit _ _ _ (by omega),sh_bit _ _ _ (by omega),ones_bit];by_cases b:k≤(j:Int)
 ·have a:decide (((j:Int)-k).toNat<n)=decide ((j:Int)-k<n):=by
   rw[decide_eq_decide];omega
  rw[a]
 ·rw[decide_eq_false b];simp
theorem put_lt(x v n:Nat)(k:Int)(hx:x<2^32):putN x v n k<2^32:=by
 unfold putN;have a:sh v k%2^32<2^32:=Nat.mod_lt _ (by decide);exact Nat.or_lt_two_pow (Nat.lt_of_le_of_lt Nat.and_le_left hx) a
theorem put_bits{a b c v lo n:Nat}(hv:v<2^n)(m:Nat)(hm:m<96):
  bit3 (putN a v n lo) (putN b v n ((lo:Int)-32)) (putN c v n ((lo:Int)-64)) m=if lo≤m∧m<lo+n then v.testBit (m-lo) else bit3 a b c m:=by
 have key:∀(x:Nat)(j:Nat)(k:Int),j<32→k+(m:Int)=lo+j→(putN x v n k).testBit j=if lo≤m∧m<lo+n then v.testBit (m-lo) else x.testBit j:=by
  intro x j k g h;rw[put_bit _ _ _ _ _ g];by_cases d:k≤(j:Int)
  ·have f:((j:Int)-k).toNat=m-lo:=by omega
   rw[decide_eq_true d,f];by_cases e:(j:Int)-k<n
   ·rw[decide_eq_true e,if_pos (by omega)];simp
   ·rw[decide_eq_false e,if_neg (by omega),bit_hi hv (by omega)];simp
  ·rw[decide_eq_false d,if_neg (by omega)];simp
 unfold bit3;by_cases d:m<32
 ·rw[if_pos d,if_pos d];exact key a m lo d (by omega)
 ·rw[if_neg d,if_neg d];by_cases e:m<64
  ·rw[if_pos e,if_pos e];exact key b (m-32) _ (by omega) (by omega)
  ·rw[if_neg e,if_neg e];exact key c (m-64) _ (by omega) (by omega)
theorem bits_put{a b c v lo n:Nat}(ha:a<2^32)(hb:b<2^32)(hc:c<2^32)(hv:v<2^n)(hn:n≤64)(hl:lo+n≤96):
  bitsN (putN a v n lo) (putN b v n ((lo:Int)-32)) (putN c v n ((lo:Int)-64)) lo n=v:=by
 apply Nat.eq_of_testBit_eq;intro j;rw[bits_bit (put_lt _ _ _ _ ha) (put_lt _ _ _ _ hb) (put_lt _ _ _ _ hc) hn];by_cases d:j<n
 ·rw[decide_eq_true d,Bool.true_and,put_bits hv _ (by omega),if_pos (by omega)]
  congr 1;omega
 ·rw[decide_eq_false d,Bool.false_and,bit_hi hv (by omega)]
def decF:Nat→Nat→List Int
 |0,u=>[48+(u:Int)]
 |k+1,u=>if u<10 then [48+(u:Int)] else decF k (u/10)++[48+((u%10:Nat):Int)]
def decL(u:Nat):List Int:=decF u u
theorem decF_same:∀(k j u:Nat),u≤k→u≤j→decF k u=decF j u:=by
 intro k
 induction k with
 |zero=>
  intro j u b c;have:u=0:=by omega
  subst this;cases j with
  |zero=>rfl
  |succ j=>simp[decF]
 |succ k ih=>
  intro j u b c;by_cases a:u<10
  ·cases j with
   |zero=>
    have:u=0:=by omega
    subst this;simp[decF]
   |succ j=>rw[decF,decF,if_pos a,if_pos a]
  ·obtain⟨j',rfl⟩:∃j',j=j'+1:=⟨j-1,by omega⟩
   rw[decF,decF,if_neg a,if_neg a,ih j' (u/10) (by omega) (by omega)]
theorem decL_one{u:Nat}(h:u<10):decL u=[48+(u:Int)]:=by
 unfold decL;cases u with
 |zero=>rfl
 |succ k=>rw[decF,if_pos h]
theorem decL_more{u:Nat}(h:¬ u<10):decL u=decL (u/10)++[48+((u%10:Nat):Int)]:=by
 obtain⟨k,rfl⟩:∃k,u=k+1:=⟨u-1,by omega⟩
 unfold decL;rw[decF,if_neg h,decF_same k _ _ (by omega) zc]
theorem decL_ne(u:Nat):decL u≠[]:=by
 by_cases h:u<10
 ·rw[decL_one h];simp
 ·rw[decL_more h];simp
theorem decL_len(k:Nat):∀u:Nat,u<10^(k+1)→1≤(decL u).length∧(decL u).length≤k+1:=by
 induction k with
 |zero=>intro u h;rw[decL_one (by omega)];simp
 |succ k ih=>
  intro u h;by_cases a:u<10
  ·rw[decL_one a];simp
  ·rw[decL_more a];have:=ih (u/10) (by rw[Nat.pow_succ] at h;omega);simp;omega
theorem decL_len29(u:Nat)(h:(u:Int)<top):1≤(decL u).length∧(decL u).length≤29:=decL_len 28 u (by unfold top at h;omega)
end words
namespace cell
open Go.RowKit
def RowU(w:World)(a:Option Addr)(len:Nat)(zs:List Int):Prop:=
 zs.length=len∧(len=0∨∃b off,a=some ⟨b,off,none⟩∧∀i,i<len→w.cell? ⟨b,off+i,none⟩=some (.int .u32 (zs.getD i 0)))
variable{w:World}{a:Option Addr}{v:Value}{zs:List Int}{l:List Int}{base:Nat}
theorem RowU.below{w w':World}{n:Nat}(h:RowU w a n zs)(hb:zB w w'):RowU w' a n zs:=by
 refine⟨h.1,?_⟩;rcases h.2 with e|⟨b,c,rfl,f⟩
 ·exact .inl e
 ·refine .inr ⟨b,c,rfl,λi g=>?_⟩;have d:=f i g;rw[hb.cell (p:=⟨b,c+i,none⟩) (World.block_lt_of_cell? w _ d)];exact d
theorem RowU.nil(w:World)(a:Option Addr):RowU w a 0 []:=⟨rfl,.inl rfl⟩
theorem RowU.at{n:Nat}(h:RowU w a n zs)(h0:0<n):∃b off,a=some ⟨b,off,none⟩∧b<w.heap.size∧∀i,i<n→w.cell? ⟨b,off+i,none⟩=some (.int .u32 (zs.getD i 0)):=by
 rcases h.2 with d|⟨b,off,rfl,c⟩
 ·omega
 ·exact⟨b,off,rfl,World.block_lt_of_cell? w _ (c 0 h0),c⟩
theorem rowU_of{len cap M:Nat}
  (h:(a=none∧len=0∧cap=0∧zs=[])∨∃x,a=some x∧len≤cap∧cap*4≤M∧zs.length=cap∧(∀i,i<zs.length→w.cell? (x.add i)=some (.int .u32 (zs.getD i 0)))∧∀n∈zs,(Lit.int .u32 n).wf=true):
  RowU w a len (zs.take len)∧(a=none→cap=0)∧len*4≤M:=by
 rcases h with⟨rfl,rfl,rfl,rfl⟩|⟨x,rfl,k,l,m,e,o⟩
 ·exact⟨⟨rfl,.inl rfl⟩,λ_=>rfl,by omega⟩
 ·refine⟨⟨by rw[List.length_take];omega,?_⟩,(λh=>by cases h),by omega⟩;by_cases f:len=0
  ·exact .inl f
  ·refine .inr ?_;obtain⟨b,d,c⟩:=x;have j:c=none:=by simpa [Addr.add] using World.cell?_spot (e 0 (by omega))
   subst j;refine⟨b,d,rfl,λi g=>?_⟩;have:=e i (by omega);rw[Addr.add_lit] at this;rw[this]
   congr 2
   simp[g]
def Ws(w:World)(base:Nat)(v:Value)(zs:List Int):Prop:=w.ownsRow base 83 1 v zs.length (zs.map (.int .u32))
theorem Ws.zero(w:World)(base:Nat):Ws w base (zS) []:=World.ownsRow_nil _ _ _ _
theorem Ws.alloc(h:Ws w base v l)(o:Obj):Ws (w.alloc o) base v l:=World.ownsRow.alloc h o
theorem Ws.next{w w':World}(h:Ws w base v l)(hb:zB w w'):Ws w' base v l:=by
 refine⟨h.1,?_⟩;rcases h.2 with e|⟨g,a,b,f,d,c,rest⟩
 ·exact .inl e
 ·exact .inr ⟨g,a,b,f,d,Blk.next c hb,rest⟩
theorem Ws.row(h:Ws w base v l):∃a cap,v=.slice a l.length cap∧RowU w a l.length l∧(a=none→cap=0)∧l.length≤cap:=by
 rcases h.2 with⟨b,c⟩|⟨g,cap,d,b,_,_,e,_⟩
 ·exact⟨none,0,by rw[c];exact b,⟨rfl,.inl c⟩,λ_=>rfl,by omega⟩
 ·subst b;refine⟨_,cap,rfl,⟨rfl,.inr ⟨g,0,rfl,λi f=>?_⟩⟩,(λh=>by cases h),e⟩;have:=World.ownsRow.cellAt h i (by omega);rw[Nat.zero_add,this];simp[List.getD,f]
theorem own_far{base n k:Nat}{t:TypeId}{l:List Value}(h:w.ownsRow base t n v k l){G:Nat}(hG:G<base):some G≠v.ownBlock:=by
 intro e;have:=(World.ownsRow.lt h G e.symm).1;omega
theorem own_bel{w0 w w':World}{base B n k:Nat}{t:TypeId}{l:List Value}(h:w.ownsRow base t n v k l)(hg:w.grownBy w' v.ownBlock)(hb:Below B w0 w)(hB:B≤base)(hw:B≤w.heap.size):Below B w0 w':=by
 refine⟨hg.os.trans hb.os,hg.tape.trans hb.tape,hg.output.trans hb.output,Nat.le_trans hb.size hg.size,λk a=>?_⟩;rw[← hb.block k a];exact hg.block k (by omega) (own_far h (by omega))
theorem alloc_le{B:Nat}(h:B≤w.heap.size)(o:Obj):B≤(w.alloc o).heap.size:=by simp;omega
theorem info_u32:(Tryz.prog.info? 83).map (λi=>(i.zero,i.size,i.bytes))=some (some (.int .u32 0),1,4):=by kernel_rfl
theorem wp_word{ops:Array Oper}{rest:List Oper}{o:Oper}{a:Act}{Q:Exit→Act→World→Prop}(hgd:o.guard=none)(s x:Operand)
  (ho:o.op=.call { callee:=.builtin .append,args:=#[s,x],argTypes:=#[25,25] })
  (base G:Nat) (v:Value) (l:List Int) (r:Int) (hs:a.eval s=v) (hx:a.eval x=.slice (some ⟨G,0,none⟩) 1 1) (hv:Ws w base v l) (hu:w.cell? ⟨G,0,none⟩=some (.int .u32 r)) (hn:l.length≤1000000) (hbase:base≤w.heap.size)
  (h:∀v' w',Ws w' base v' (l++[r])→w.grownBy w' v.ownBlock→wpList Tryz.prog ops Q rest (a.put o.dst v') w'):wpList Tryz.prog ops Q (o::rest) a w:=by
 obtain⟨k,i,c,d,e⟩:=info_parts info_u32;refine wpList_append_own w hgd s x 25 ho base 83 k (.int .u32 0) 1 4 Tryz.underlying25 i c d e rfl (by decide) v l.length (l.map (.int .u32)) hs hv ⟨G,0,none⟩ 1 1 [.int .u32 r] hx rfl ?_ ?_ (by unfold maxLen;omega) (by omega) hbase ?_
 ·intro j u b
  match j,b with
  |0,b=>simp at b;subst b;simpa [Addr.add] using hu
 ·intro u hu;simp at hu;subst hu;rfl
 intro v' w' f g _;refine h v' w' ?_ g;unfold Ws;rw[List.length_append,List.map_append];exact f
end cell
namespace book
open Go.RowKit
theorem eqI(d:Nat)(a b:Int)(w:World):(Op.equalIn (d+1) 3 (zI a) (zI b)).run Tryz.prog w=.ok (a==b) w:=run_equalIn_int w d _ _ _ a b Tryz.underlying3
end book
namespace cal
open Go.RowKit
theorem cin(n lo hi:Int)(w:World):Calls Tryz.prog 47 #[zI n,zI lo,zI hi] w λe w'=>e=.returned (.bool (decide (lo≤n∧n≤hi)))∧w'=w:=by
 by_cases b:lo≤n
 ·by_cases c:n≤hi
  ·have a:decide (lo≤n∧n≤hi)=true:=by simp;omega
   rw[a];clear a;go_enter Tryz.func47,Tryz.ntmps47;go_wp2;go_ret;exact⟨rfl,rfl⟩
  ·have a:decide (lo≤n∧n≤hi)=false:=by simp;omega
   have d:decide (n≤hi)=false:=by simp;omega
   rw[a];clear a c;go_enter Tryz.func47,Tryz.ntmps47;go_wp2;go_ret;exact⟨rfl,rfl⟩
 ·have a:decide (lo≤n∧n≤hi)=false:=by simp;omega
  have d:decide (lo≤n)=false:=by simp;omega
  rw[a];clear a b;go_enter Tryz.func47,Tryz.ntmps47;go_wp2;go_ret;exact⟨rfl,rfl⟩
end cal
namespace words
open Go.ChangeShapes Go.WideShapes Go.ChangeAt Go.RowKit
theorem cells_word:Tryz.prog.cellsOf 83=1:=by kernel_rfl
structure Acc (w0 w:World) (B:Nat) (v:Value):Prop where
 os:w.os=w0.os
 tape:w.tape=w0.tape
 output:w.output=w0.output
 size:w0.heap.size≤w.heap.size
 block:∀k,k<w0.heap.size→k≠B→w.heap[k]?=w0.heap[k]?
 old:B<w0.heap.size
 cell:w.cell? ⟨B,0,none⟩=some v
 free:w.frozen? ⟨B,0,none⟩=false
variable{y0 y1 y2:Value}{w:World}{B:Nat}{G:Nat}{v:Value}
theorem Acc.trans{w0 w1 w2:World}{v v':Value}(h:Acc w0 w1 B v)(h':Acc w1 w2 B v'):Acc w0 w2 B v':=
 ⟨h'.os.trans h.os,h'.tape.trans h.tape,h'.output.trans h.output,Nat.le_trans h.size h'.size,λk b a=>(h'.block k (Nat.lt_of_lt_of_le b h.size) a).trans (h.block k b a),h.old,h'.cell,h'.free⟩
theorem Acc.refl(hc:w.cell? ⟨B,0,none⟩=some v)(hf:w.frozen? ⟨B,0,none⟩=false):Acc w w B v:=by
 refine⟨rfl,rfl,rfl,zc,λ_ _ _=>rfl,?_,hc,hf⟩;by_cases a:B<w.heap.size
 ·exact a
 ·simp[World.cell?,Array.getElem?_eq_none (show w.heap.size≤B by omega)] at hc
theorem Acc.set{w0 w:World}(h:Acc w0 w B v)(u:Value):Acc w0 (w.setCell ⟨B,0,none⟩ u) B u:=by
 refine⟨h.os,h.tape,h.output,by simp[World.setCell];exact h.size,λk b a=>?_,h.old,?_,?_⟩
 ·simp only[World.setCell,Array.getElem?_modify];rw[if_neg (λe=>a e.symm)];exact h.block k b a
 ·apply World.cell?_setCell_same;exact h.cell
 ·rw[World.frozen?_setCell];exact h.free
theorem Acc.drewN{w0 w:World}(h:Acc w0 w B v)(n:Nat):Acc w0 (w.drewN n) B v:=⟨h.os,h.tape,h.output,h.size,h.block,h.old,h.cell,h.free⟩
def Trio(w:World)(G:Nat)(y0 y1 y2:Value):Prop:=w.heap[G]?=some (.cells #[y0,y1,y2] 135 (0,0))
theorem Trio.c0(h:Trio w G y0 y1 y2):w.cell? ⟨G,0,none⟩=some y0:=by unfold Trio at h;simp[World.cell?,h]
theorem Trio.c1(h:Trio w G y0 y1 y2):w.cell? ⟨G,1,none⟩=some y1:=by unfold Trio at h;simp[World.cell?,h]
theorem Trio.c2(h:Trio w G y0 y1 y2):w.cell? ⟨G,2,none⟩=some y2:=by unfold Trio at h;simp[World.cell?,h]
theorem Trio.free(h:Trio w G y0 y1 y2)(i:Nat):w.frozen? ⟨G,i,none⟩=false:=by unfold Trio at h;simp[World.frozen?,h]
theorem Trio.acc{w w':World}{G B:Nat}{y0 y1 y2 v:Value}(h:Trio w G y0 y1 y2)(ha:Acc w w' B v)(hG:G≠B):Trio w' G y0 y1 y2:=by
 have a:G<w.heap.size:=by
  by_cases b:G<w.heap.size
  ·exact b
  ·unfold Trio at h;rw[Array.getElem?_eq_none (by omega)] at h;cases h
 unfold Trio at *;rw[ha.block G a hG];exact h
theorem Trio.set0(h:Trio w G y0 y1 y2)(u:Value):Trio (w.setCell ⟨G,0,none⟩ u) G u y1 y2:=by
 unfold Trio at *;simp[World.setCell,Array.getElem?_modify,h]
theorem Trio.set1(h:Trio w G y0 y1 y2)(u:Value):Trio (w.setCell ⟨G,1,none⟩ u) G y0 u y2:=by
 unfold Trio at *;simp[World.setCell,Array.getElem?_modify,h]
theorem Trio.set2(h:Trio w G y0 y1 y2)(u:Value):Trio (w.setCell ⟨G,2,none⟩ u) G y0 y1 u:=by
 unfold Trio at *;simp[World.setCell,Array.getElem?_modify,h]
theorem Trio.other{G G':Nat}(h:Trio w G y0 y1 y2)(i:Nat)(u:Value)(hne:G'≠G):Trio (w.setCell ⟨G',i,none⟩ u) G y0 y1 y2:=by
 unfold Trio at *;simp only[World.setCell,Array.getElem?_modify];rw[if_neg hne];exact h
theorem Acc.setNew{w0 w:World}(h:Acc w0 w B v)(G i:Nat)(u:Value)(hG:w0.heap.size≤G):Acc w0 (w.setCell ⟨G,i,none⟩ u) B v:=by
 have a:G≠B:=by have:=h.old;omega
 refine⟨h.os,h.tape,h.output,by simp[World.setCell];exact h.size,λk c b=>?_,h.old,?_,?_⟩
 ·simp only[World.setCell,Array.getElem?_modify];rw[if_neg (by omega)];exact h.block k c b
 ·rw[World.cell?_setCell_other]
  ·exact h.cell
  ·intro e;exact a (congrArg Addr.block e)
 ·rw[World.frozen?_setCell];exact h.free
theorem Acc.alloc{w0 w:World}(h:Acc w0 w B v)(o:Obj):Acc w0 (w.alloc o) B v:=by
 have b:∀k,k<w.heap.size→(w.alloc o).heap[k]?=w.heap[k]?:=λk d=>by
  show (w.heap.push o)[k]?=_;rw[Array.getElem?_push,if_neg (by omega)]
 have c:=Nat.lt_of_lt_of_le h.old h.size;refine⟨h.os,h.tape,h.output,?_,λk d c=>?_,h.old,?_,?_⟩
 ·show _≤(w.heap.push o).size;have:=h.size;simp;omega
 ·rw[b k (Nat.lt_of_lt_of_le d h.size)];exact h.block k d c
 ·rw[← h.cell];exact World.cell?_of_block (w:=w) (a:=⟨B,0,none⟩) (b B c)
 ·have:((w.alloc o).frozen? ⟨B,0,none⟩)=w.frozen? ⟨B,0,none⟩:=by simp only[World.frozen?,b B c]
  rw[this];exact h.free
theorem trio_a(w:World)(x y z:Value)(o:Obj):Trio ((w.alloc (.cells #[x,y,z] 135)).alloc o) w.heap.size x y z:=by
 show ((w.heap.push _).push o)[w.heap.size]?=_;rw[Array.getElem?_push,if_neg (by simp),Array.getElem?_push_size]
theorem trio_b(w:World)(o:Obj)(x y z:Value):Trio ((w.alloc o).alloc (.cells #[x,y,z] 135)) (w.heap.size+1) x y z:=by
 show ((w.heap.push o).push _)[w.heap.size+1]?=_;have:w.heap.size+1=(w.heap.push o).size:=by simp
 rw[this,Array.getElem?_push_size]
theorem upward_any(K:Nat)(caps:Array Value)(B:Nat)(v0 v1 v2 v3:Value)(x0 x1 x2 y0 y1 y2:Int)(w:World)(h:Acc w w B v0)(hK:∀args w,(callFunc K args).run Tryz.prog w=.ok (.enter K args) w)
  (s0:∀w',Acc w w' B v0→zC K (#[.int .u32 x0]++caps) w' λe w''=>e=.returned (.int .u32 y0)∧Acc w' w'' B v1)
  (s1:∀w',Acc w w' B v1→zC K (#[.int .u32 x1]++caps) w' λe w''=>e=.returned (.int .u32 y1)∧Acc w' w'' B v2)
  (s2:∀w',Acc w w' B v2→zC K (#[.int .u32 x2]++caps) w' λe w''=>e=.returned (.int .u32 y2)∧Acc w' w'' B v3):
  Calls Tryz.prog 165 #[.agg #[.int .u32 x0,.int .u32 x1,.int .u32 x2],.func (.func K) #[] caps] w λe w'=>e=.returned (.agg #[.int .u32 y0,.int .u32 y1,.int .u32 y2])∧Acc w w' B v3:=by
 have u:Hid (∀w',Acc w w' B v0→zC K (#[.int .u32 x0]++caps) w' λe w''=>e=.returned (.int .u32 y0)∧Acc w' w'' B v1):=s0;have x:Hid (∀w',Acc w w' B v1→zC K (#[.int .u32 x1]++caps) w' λe w''=>e=.returned (.int .u32 y1)∧Acc w' w'' B v2):=s1;have y:Hid (∀w',Acc w w' B v2→zC K (#[.int .u32 x2]++caps) w' λe w''=>e=.returned (.int .u32 y2)∧Acc w' w'' B v3):=s2;have q:Hid (Acc w w B v0):=h;clear s0 s1 s2 h;go_enter Tryz.func165,Tryz.ntmps165;go_wp2_with fail;refine wp_loop_rounds 4 ?_;rw[rounds_succ];go_wp2_with fail;refine(u.o _ ((q.o.alloc _).alloc _)).mono ?_;rintro e i ⟨rfl,m⟩;have X:=q.o.old;have j:Trio i w.heap.size (.int .u32 x0) (.int .u32 x1) (.int .u32 x2):=(trio_a _ _ _ _ _).acc m (by omega);have G:Trio i (w.heap.size+1) (.int .u32 0) (.int .u32 0) (.int .u32 0):=(trio_b _ _ _ _ _).acc m (by omega);have D:=((q.o.alloc _).alloc _).trans m;have c0:=j.c0;have O:=j.free 0;have c:=j.set0 (.int .u32 y0);have M:=c.c1;have z:Hid (Trio (i.setCell ⟨w.heap.size,0,none⟩ (.int .u32 y0)) w.heap.size (.int .u32 y0) (.int .u32 x1) (.int .u32 x2)):=c;have s:Hid (Trio (i.setCell ⟨w.heap.size,0,none⟩ (.int .u32 y0)) (w.heap.size+1) (.int .u32 0) (.int .u32 0) (.int .u32 0)):=G.other _ _ (by omega);have f:Hid (Acc w (i.setCell ⟨w.heap.size,0,none⟩ (.int .u32 y0)) B v1):=D.setNew _ _ _ zc;clear m j G D c;go_wp2_with fail;rw[rounds_succ];go_wp2_with fail;refine(x.o _ f.o).mono ?_;rintro e C ⟨rfl,n⟩;have k:=z.o.acc n (by omega);have H:=s.o.acc n (by omega);have E:=f.o.trans n;clear c0 O M n;have c1:=k.c1;have P:=k.free 1;have d:=k.set1 (.int .u32 y1);have N:=d.c2;have z:Hid (Trio (C.setCell ⟨w.heap.size,1,none⟩ (.int .u32 y1)) w.heap.size (.int .u32 y0) (.int .u32 y1) (.int .u32 x2)):=d;have s:Hid (Trio (C.setCell ⟨w.heap.size,1,none⟩ (.int .u32 y1)) (w.heap.size+1) (.int .u32 0) (.int .u32 0) (.int .u32 0)):=H.other _ _ (by omega)
 have g:Hid (Acc w (C.setCell ⟨w.heap.size,1,none⟩ (.int .u32 y1)) B v2):=E.setNew _ _ _ zc;clear k H E d;go_wp2_with fail;rw[rounds_succ];go_wp2_with fail;refine(y.o _ g.o).mono ?_;rintro e J ⟨rfl,p⟩;have l:=z.o.acc p (by omega);have I:=s.o.acc p (by omega);have F:=g.o.trans p;clear c1 P N p;have c2:=l.c2;have T:=l.free 2;have b:=l.set2 (.int .u32 y2);have a:=I.other (G':=w.heap.size) 2 (.int .u32 y2) (by omega);have Q:=b.c0;have R:=b.c1;have S:=b.c2;have Y:=a.c0;have Z:=a.c1;have r2:=a.c2;have U:=a.free 0;have V:=a.free 1;have W:=a.free 2;have t:Hid (Trio (J.setCell ⟨w.heap.size,2,none⟩ (.int .u32 y2)) (w.heap.size+1) (.int .u32 0) (.int .u32 0) (.int .u32 0)):=a;have r:Hid (Acc w (J.setCell ⟨w.heap.size,2,none⟩ (.int .u32 y2)) B v3):=F.setNew _ _ _ zc;clear l I F b a;go_wp2_with fail;rw[rounds_succ];go_wp2_with fail;have A:=((t.o.set0 (.int .u32 y0)).set1 (.int .u32 y1)).set2 (.int .u32 y2);have L:=((r.o.setNew (w.heap.size+1) 0 (.int .u32 y0) (by omega)).setNew (w.heap.size+1) 1 (.int .u32 y1) (by omega)).setNew (w.heap.size+1) 2 (.int .u32 y2) (by omega);refine bodyPost_ret (v:=.agg #[.int .u32 y0,.int .u32 y1,.int .u32 y2]) (by simp[results,Tryz.results165,A.c0,A.c1,A.c2,go_sem]) rfl ⟨rfl,L⟩
theorem below_set{w w':World}(h:Below B w w')(G i:Nat)(u:Value)(hG:B≤G):Below B w (w'.setCell ⟨G,i,none⟩ u):=by
 refine⟨h.os,h.tape,h.output,by simp[World.setCell];exact h.size,λk a=>?_⟩;rw[← h.block k a];simp only[World.setCell,Array.getElem?_modify];rw[if_neg (by omega)]
theorem Acc.below{w0 w1 w:World}(hb:zB w0 w1)(h:Acc w1 w B v)(hB:w0.heap.size≤B):zB w0 w:=
 hb.trans ⟨h.os,h.tape,h.output,h.size,λk a=>h.block k (Nat.lt_of_lt_of_le a hb.size) (by omega)⟩
theorem Trio.alloc(h:Trio w G y0 y1 y2)(o:Obj):Trio (w.alloc o) G y0 y1 y2:=by
 have b:G<w.heap.size:=by
  by_cases a:G<w.heap.size
  ·exact a
  ·unfold Trio at h;rw[Array.getElem?_eq_none (by omega)] at h;cases h
 unfold Trio at *;show (w.heap.push o)[G]?=_;rw[Array.getElem?_push,if_neg (by omega)];exact h
theorem below_put{w w':World}(h:Below B w w')(G i j k:Nat)(u v x:Value)(hG:B≤G):Below B w (((w'.setCell ⟨G,i,none⟩ u).setCell ⟨G,j,none⟩ v).setCell ⟨G,k,none⟩ x).drew:=
 (below_set (below_set (below_set h G i u hG) G j v hG) G k x hG).drew
theorem bel2(w:World)(o1 o2:Obj):zB w ((w.alloc o1).alloc o2):=(zb.alloc zc o1).alloc (by simp) o2
theorem bel3(w:World)(o1 o2 o3:Obj):zB w (((w.alloc o1).alloc o2).alloc o3):=(bel2 w o1 o2).alloc (by simp;omega) _
theorem Acc.keep{w0 w:World}{B M:Nat}{v u:Value}(h:Acc w0 w B v)(hc:w0.cell? ⟨M,0,none⟩=some u)(hM:M≠B):w.cell? ⟨M,0,none⟩=some u:=by
 have b:M<w0.heap.size:=by
  by_cases c:M<w0.heap.size
  ·exact c
  ·simp[World.cell?,Array.getElem?_eq_none (show w0.heap.size≤M by omega)] at hc
 rw[← hc];exact World.cell?_of_block (w:=w0) (a:=⟨M,0,none⟩) (h.block M b hM)
theorem bel4(w:World)(o1 o2 o3 o4:Obj):zB w ((((w.alloc o1).alloc o2).alloc o3).alloc o4):=(bel3 w o1 o2 o3).alloc (by simp;omega) _
theorem trio_d(w:World)(cs:Array Value)(m:Value)(T:TypeId)(x y z u:Value)(U:TypeId):
  (((((w.alloc (.cells cs 135)).alloc (.cells #[m] T)).alloc (.cells #[x,y,z] 135)).alloc (.cells #[u] U)).cell? ⟨w.heap.size+1+1+1,0,none⟩=some u) ∧
  (((((w.alloc (.cells cs 135)).alloc (.cells #[m] T)).alloc (.cells #[x,y,z] 135)).alloc (.cells #[u] U)).frozen? ⟨w.heap.size+1+1+1,0,none⟩=false) ∧
  Trio ((((w.alloc (.cells cs 135)).alloc (.cells #[m] T)).alloc (.cells #[x,y,z] 135)).alloc (.cells #[u] U)) (w.heap.size+1+1) x y z ∧
  ((((w.alloc (.cells cs 135)).alloc (.cells #[m] T)).alloc (.cells #[x,y,z] 135)).alloc (.cells #[u] U)).cell? ⟨w.heap.size+1,0,none⟩=some m:=by
 have b:w.heap.size+1=(w.heap.push (.cells cs 135)).size:=by simp
 have c:w.heap.size+1+1=((w.heap.push (.cells cs 135)).push (.cells #[m] T)).size:=by simp
 have d:w.heap.size+1+1+1=(((w.heap.push (.cells cs 135)).push (.cells #[m] T)).push (.cells #[x,y,z] 135)).size:=by simp
 have e:((((w.heap.push (.cells cs 135)).push (.cells #[m] T)).push (.cells #[x,y,z] 135)).push (.cells #[u] U))[w.heap.size+1+1+1]?=some (.cells #[u] U):=by
  rw[d,Array.getElem?_push_size]
 have a:((((w.heap.push (.cells cs 135)).push (.cells #[m] T)).push (.cells #[x,y,z] 135)).push (.cells #[u] U))[w.heap.size+1]?=some (.cells #[m] T):=by
  rw[Array.getElem?_push,if_neg (by simp),Array.getElem?_push,if_neg (by simp),b,Array.getElem?_push_size]
 refine⟨?_,?_,?_,?_⟩
 ·simp only[World.cell?,World.alloc,e];rfl
 ·simp only[World.frozen?,World.alloc,e];rfl
 ·show ((((w.heap.push _).push _).push _).push _)[w.heap.size+1+1]?=_;rw[Array.getElem?_push,if_neg (by simp),c,Array.getElem?_push_size]
 ·simp only[World.cell?,World.alloc,a];rfl
end words
namespace bki
open Go.RowKit
def Row(w:World)(a:Option Addr)(len:Nat)(zs:List Int):Prop:=
 zs.length=len∧(len=0∨∃b off,a=some ⟨b,off,none⟩∧∀i,i<len→w.cell? ⟨b,off+i,none⟩=some (zI (zs.getD i 0)))
def okAll(lo hi:Int)(l:List Int):Bool:=l.all λn=>decide (lo≤n)&&decide (n≤hi)
theorem okAll_step(lo hi:Int)(zs:List Int)(k:Nat)(hk:k<zs.length)(h:okAll lo hi (zs.take k)=true)(h1:lo≤zs.getD k 0)(h2:zs.getD k 0≤hi):okAll lo hi (zs.take (k+1))=true:=by
 unfold okAll at *;rw[List.take_add_one,List.all_append,h];simp only[List.getD,List.getElem?_eq_getElem hk,Option.getD] at h1 h2 ⊢;simp[h1,h2]
theorem okAll_no(lo hi:Int)(zs:List Int)(k:Nat)(hk:k<zs.length)(h:zs.getD k 0<lo∨hi<zs.getD k 0):okAll lo hi zs=false:=by
 unfold okAll;rw[List.all_eq_false];refine⟨zs[k],List.getElem_mem hk,?_⟩;simp only[List.getD,List.getElem?_eq_getElem hk,Option.getD] at h;simp;omega
theorem ret_bool{a b:Bool}(h:a=b):Ending.returned (.bool a)=.returned (.bool b):=by rw[h]
theorem within_any(lo hi:Int)(a:Option Addr)(len cap:Nat)(zs:List Int)(w:World)(hr:Row w a len zs)(hl:len≤maxLen):
  Calls Tryz.prog 161 #[zI lo,zI hi,.slice a len cap] w λe w'=>e=.returned (.bool (okAll lo hi zs))∧w'=w:=by
 unfold maxLen at hl;obtain⟨r,hr⟩:=hr;go_enter Tryz.func161,Tryz.ntmps161;go_wp2;go_loop [11] (λi=>∃k:Nat,k≤len∧i=zI k∧okAll lo hi (zs.take k)=true) (λi=>len-(intOf i).toNat)
 case atStart=>exact⟨0,Nat.zero_le _,rfl,rfl⟩
 case round=>
  obtain⟨k,q,rfl,d⟩:=hrel;have h:Hid (okAll lo hi (zs.take k)=true):=d;clear d;by_cases g:k<len
  ·rcases hr with p|⟨b,n,rfl,j⟩
   ·omega
   have c:=j k g;clear j;generalize hzk:zs.getD k 0=z at c;have f:Hid (zs.getD k 0=z):=hzk;clear hzk;by_cases l:z<lo
   ·go_wp2;go_ret;exact⟨ret_bool (okAll_no lo hi zs k (by omega) (.inl (by rw[f.o];exact l))).symm,rfl⟩
   ·by_cases m:hi<z
    ·go_wp2;go_ret;exact⟨ret_bool (okAll_no lo hi zs k (by omega) (.inr (by rw[f.o];exact m))).symm,rfl⟩
    ·go_wp2;go_round
     case rel=>exact⟨k+1,by omega,by go_num,okAll_step lo hi zs k (by omega) h.o (by rw[f.o];omega) (by rw[f.o];omega)⟩
     case measure=>simp[intOf];omega
  ·go_wp2;go_ret;refine⟨ret_bool ?_,rfl⟩;have:=h.o;rw[List.take_of_length_le (by omega)] at this;exact this.symm
theorem row_one(w:World)(z:Int)(t:TypeId):Row (w.alloc (.cells #[zI z] t)) (some ⟨w.heap.size,0,none⟩) 1 [z]:=by
 refine⟨rfl,.inr ⟨_,_,rfl,λi a=>?_⟩⟩;obtain rfl:i=0:=by omega
 simp
theorem bel1(w:World)(o:Obj):zB w (w.alloc o):=zb.alloc zc _
theorem bel2(w:World)(o o':Obj):zB w ((w.alloc o).alloc o'):=(bel1 w o).alloc (by simp) _
theorem within_one(lo hi z:Int)(w:World)(b:Nat)(hb:b=w.heap.size):
  Calls Tryz.prog 161 #[zI lo,zI hi,.slice (some ⟨b,0,none⟩) 1 1] (w.alloc (.cells #[zI z] 3)) λe w'=>e=.returned (.bool (decide (lo≤z∧z≤hi)))∧w'=w.alloc (.cells #[zI z] 3):=by
 have h:=within_any lo hi _ 1 1 [z] _ (row_one w z 3) (by decide);have e:okAll lo hi [z]=decide (lo≤z∧z≤hi):=by simp[okAll]
 rw[e] at h;rw[hb];exact h
theorem row_four(w:World)(a b c d:Int)(t:TypeId):Row (w.alloc (.cells #[zI a,zI b,zI c,zI d] t)) (some ⟨w.heap.size,0,none⟩) 4 [a,b,c,d]:=by
 refine⟨rfl,.inr ⟨_,_,rfl,λi e=>?_⟩⟩
 match i,e with
 |0,_=>simp
 |1,_=>simp
 |2,_=>simp
 |3,_=>simp
end bki
namespace tar
open Go.RowKit
theorem run_min(x y m:Int)(h:min x y=m)(w:World):(Builtin.min_ #[3,3] 3 #[zI x,zI y]).run Tryz.prog w=.ok (zI m) w:=by
 subst h;unfold Builtin.min_;by_cases h:y<x
 ·rw[show min x y=y by omega];simp[Builtin.min2,go_sem];omega
 ·rw[show min x y=x by omega];simp[Builtin.min2,go_sem];omega
end tar
end Go.Proofs.YtoepgdhiepedeaaGreatDoor
