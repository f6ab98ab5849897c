import Derived.Test.YtnpblpbohcegoaaGreatDoorVVCut1
set_option linter.unusedVariables false
set_option linter.unusedSimpArgs false
set_option maxHeartbeats 4000000
set_option maxRecDepth 100000
namespace Go.Proofs.YtnpblpbohcegoaaGreatDoor
namespace words
def sh (v:Nat) (k:Int):Nat:=if k<0 then v / 2 ^ (-k).toNat else v*2 ^ k.toNat % 2 ^ 64
def onesN (n:Nat):Nat:=2 ^ n - 1
theorem sh_bit (v:Nat) (k:Int) (j:Nat) (hj:j<64):(sh v k).testBit j=(decide (k≤j) && v.testBit ((j:Int) - k).toNat):=by
 unfold sh;by_cases h:k<0
 ·rw [if_pos h,Nat.testBit_div_two_pow];have h1:k≤(j:Int):=by omega
  rw [decide_eq_true h1,Bool.true_and]
  congr 1;omega
 ·rw [if_neg h,Nat.testBit_mod_two_pow,Nat.testBit_mul_two_pow];rw [decide_eq_true hj,Bool.true_and];by_cases h1:k≤(j:Int)
  ·rw [decide_eq_true h1,decide_eq_true (show k.toNat≤j by omega)]
   congr 2;omega
  ·rw [decide_eq_false h1,decide_eq_false (show ¬ k.toNat≤j by omega)];simp
theorem ones_bit (n j:Nat):(onesN n).testBit j=decide (j<n):=Nat.testBit_two_pow_sub_one ..
theorem bit_hi {x j k:Nat} (h:x<2 ^ k) (hj:k≤j):x.testBit j=false:=Nat.testBit_lt_two_pow (Nat.lt_of_lt_of_le h (Nat.pow_le_pow_right (by decide) hj))
def bit3 (a b c:Nat) (m:Nat):Bool:=if m<32 then a.testBit m else if m<64 then b.testBit (m - 32) else c.testBit (m - 64)
def bitsN (a b c lo n:Nat):Nat:=(sh a (0 - lo) ||| sh b (32 - lo) ||| sh c (64 - lo)) &&& onesN n
theorem bits_bit {a b c lo n:Nat} (ha:a<2 ^ 32) (hb:b<2 ^ 32) (_hc:c<2 ^ 32) (hn:n≤64) (j:Nat):(bitsN a b c lo n).testBit j=(decide (j<n) && bit3 a b c (j+lo)):=by
 unfold bitsN;rw [Nat.testBit_and,ones_bit];by_cases hj:j<n
 ·rw [decide_eq_true hj,Bool.and_true,Bool.true_and,Nat.testBit_or,Nat.testBit_or,sh_bit _ _ _ (by omega),sh_bit _ _ _ (by omega),sh_bit _ _ _ (by omega)];unfold bit3;rw [decide_eq_true (show (0:Int) - (lo:Int)≤(j:Int) by omega),Bool.true_and];have e0:((j:Int) - (0 - (lo:Int))).toNat=j+lo:=by omega
  have e1:((j:Int) - (32 - (lo:Int))).toNat=j+lo - 32:=by omega
  have e2:((j:Int) - (64 - (lo:Int))).toNat=j+lo - 64:=by omega
  rw [e0,e1,e2];by_cases h1:j+lo<32
  ·rw [if_pos h1,decide_eq_false (show ¬ (32:Int) - (lo:Int)≤(j:Int) by omega),decide_eq_false (show ¬ (64:Int) - (lo:Int)≤(j:Int) by omega)];simp
  ·rw [if_neg h1,decide_eq_true (show (32:Int) - (lo:Int)≤(j:Int) by omega),bit_hi ha (by omega)];by_cases h2:j+lo<64
   ·rw [if_pos h2,decide_eq_false (show ¬ (64:Int) - (lo:Int)≤(j:Int) by omega)];simp
   ·rw [if_neg h2,decide_eq_true (show (64:Int) - (lo:Int)≤(j:Int) by omega),bit_hi hb (by omega)];simp
 ·rw [decide_eq_false hj];simp
def putN (x v n:Nat) (k:Int):Nat:=(x &&& (2 ^ 32 - 1 - sh (onesN n) k % 2 ^ 32)) ||| (sh v k % 2 ^ 32)
theorem put_bit (x v n:Nat) (k:Int) (j:Nat) (hj:j<32):(putN x v n k).testBit j=(x.testBit j && !(decide (k≤j) && decide ((j:Int) - k<n)) || (decide (k≤j) && v.testBit ((j:Int) - k).toNat)):=by
 unfold putN;have e:2 ^ 32 - 1 - sh (onesN n) k % 2 ^ 32=2 ^ 32 - (sh (onesN n) k % 2 ^ 32+1):=by omega
 rw [Nat.testBit_or,Nat.testBit_and,e,Nat.testBit_two_pow_sub_succ (Nat.mod_lt _ (by decide)),Nat.testBit_mod_two_pow,Nat.testBit_mod_two_pow,decide_eq_true hj,Bool.true_and,Bool.true_and,Bool.true_and,sh_bit _ _ _ (by omega),sh_bit _ _ _ (by omega),ones_bit];by_cases h1:k≤(j:Int)
 ·have e2:decide (((j:Int) - k).toNat<n)=decide ((j:Int) - k<n):=by
   rw [decide_eq_decide];omega
  rw [e2]
 ·rw [decide_eq_false h1];simp
theorem put_lt (x v n:Nat) (k:Int) (hx:x<2 ^ 32):putN x v n k<2 ^ 32:=by
 unfold putN;have hy:sh v k % 2 ^ 32<2 ^ 32:=Nat.mod_lt _ (by decide);exact Nat.or_lt_two_pow (Nat.lt_of_le_of_lt Nat.and_le_left hx) hy
theorem put_bits {a b c v lo n:Nat} (hv:v<2 ^ n) (m:Nat) (hm:m<96) :
  bit3 (putN a v n lo) (putN b v n ((lo:Int) - 32)) (putN c v n ((lo:Int) - 64)) m=if lo≤m∧m<lo+n then v.testBit (m - lo) else bit3 a b c m:=by
 have key:∀ (x:Nat) (j:Nat) (k:Int),j<32→k+(m:Int)=lo+j→(putN x v n k).testBit j=if lo≤m∧m<lo+n then v.testBit (m - lo) else x.testBit j:=by
  intro x j k hj hk;rw [put_bit _ _ _ _ _ hj];by_cases h1:k≤(j:Int)
  ·have e1:((j:Int) - k).toNat=m - lo:=by omega
   rw [decide_eq_true h1,e1];by_cases h2:(j:Int) - k<n
   ·rw [decide_eq_true h2,if_pos (by omega)];simp
   ·rw [decide_eq_false h2,if_neg (by omega),bit_hi hv (by omega)];simp
  ·rw [decide_eq_false h1,if_neg (by omega)];simp
 unfold bit3;by_cases h1:m<32
 ·rw [if_pos h1,if_pos h1];exact key a m lo h1 (by omega)
 ·rw [if_neg h1,if_neg h1];by_cases h2:m<64
  ·rw [if_pos h2,if_pos h2];exact key b (m - 32) _ (by omega) (by omega)
  ·rw [if_neg h2,if_neg h2];exact key c (m - 64) _ (by omega) (by omega)
theorem bits_put {a b c v lo n:Nat} (ha:a<2 ^ 32) (hb:b<2 ^ 32) (hc:c<2 ^ 32) (hv:v<2 ^ n) (hn:n≤64) (hl:lo+n≤96) :
  bitsN (putN a v n lo) (putN b v n ((lo:Int) - 32)) (putN c v n ((lo:Int) - 64)) lo n=v:=by
 apply Nat.eq_of_testBit_eq;intro j;rw [bits_bit (put_lt _ _ _ _ ha) (put_lt _ _ _ _ hb) (put_lt _ _ _ _ hc) hn];by_cases hj:j<n
 ·rw [decide_eq_true hj,Bool.true_and,put_bits hv _ (by omega),if_pos (by omega)]
  congr 1;omega
 ·rw [decide_eq_false hj,Bool.false_and,bit_hi hv (by omega)]
def decF:Nat→Nat→List Int
 | 0,u=>[48+(u:Int)]
 | k+1,u=>if u<10 then [48+(u:Int)] else decF k (u / 10)++[48+((u % 10:Nat):Int)]
def decL (u:Nat):List Int:=decF u u
theorem decF_same:∀ (k j u:Nat),u≤k→u≤j→decF k u=decF j u:=by
 intro k
 induction k with
 | zero=>
  intro j u h1 h2;have:u=0:=by omega
  subst this;cases j with
  | zero=>rfl
  | succ j=>simp [decF]
 | succ k ih=>
  intro j u h1 h2;by_cases h0:u<10
  ·cases j with
   | zero=>
    have:u=0:=by omega
    subst this;simp [decF]
   | succ j=>rw [decF,decF,if_pos h0,if_pos h0]
  ·obtain ⟨j',rfl⟩:∃ j',j=j'+1:=⟨j - 1,by omega⟩
   rw [decF,decF,if_neg h0,if_neg h0,ih j' (u / 10) (by omega) (by omega)]
theorem decL_one {u:Nat} (h:u<10):decL u=[48+(u:Int)]:=by
 unfold decL;cases u with
 | zero=>rfl
 | succ k=>rw [decF,if_pos h]
theorem decL_more {u:Nat} (h:¬ u<10):decL u=decL (u / 10)++[48+((u % 10:Nat):Int)]:=by
 obtain ⟨k,rfl⟩:∃ k,u=k+1:=⟨u - 1,by omega⟩
 unfold decL;rw [decF,if_neg h,decF_same k _ _ (by omega) (Nat.le_refl _)]
theorem decL_len (k:Nat):∀ u:Nat,u<10 ^ (k+1)→1≤(decL u).length∧(decL u).length≤k+1:=by
 induction k with
 | zero=>intro u h;rw [decL_one (by omega)];simp
 | succ k ih=>
  intro u h;by_cases h1:u<10
  ·rw [decL_one h1];simp
  ·rw [decL_more h1];have:=ih (u / 10) (by rw [Nat.pow_succ] at h;omega);simp;omega
theorem decL_len29 (u:Nat) (h:(u:Int)<top):1≤(decL u).length∧(decL u).length≤29:=decL_len 28 u (by unfold top at h;omega)
end words
namespace cell
open Go.RowKit
def RowW (w:World) (a:Option Addr) (len:Nat) (ls:List Wr):Prop:=
 ls.length=len∧(len=0∨∃ b off,a=some ⟨b,off,none⟩∧∀ i,i<len→w.cell? ⟨b,off+i*2,none⟩=some (zI (ls.getD i wr0).p)∧w.cell? ⟨b,off+i*2+1,none⟩=some (.int .u32 (ls.getD i wr0).d))
theorem RowW.below {w w':World} {a:Option Addr} {n:Nat} {zs:List Wr} (h:RowW w a n zs) (hb:Below w.heap.size w w'):RowW w' a n zs:=by
 refine ⟨h.1,?_⟩;rcases h.2 with h0 | ⟨b,off,rfl,hc⟩
 ·exact .inl h0
 ·refine .inr ⟨b,off,rfl,fun i hi=>?_⟩;have h1:=hc i hi;rw [hb.cell (p:=⟨b,off+i*2,none⟩) (World.block_lt_of_cell? w _ h1.1),hb.cell (p:=⟨b,off+i*2+1,none⟩) (World.block_lt_of_cell? w _ h1.2)];exact h1
theorem RowW.nil (w:World) (a:Option Addr):RowW w a 0 []:=⟨rfl,.inl rfl⟩
theorem RowW.cut {w:World} {a:Option Addr} {n k:Nat} {zs:List Wr} (h:RowW w a n zs) (hk:k≤n):RowW w a k (zs.take k):=by
 refine ⟨by rw [List.length_take,h.1];omega,?_⟩;rcases h.2 with h0 | ⟨b,off,rfl,hc⟩
 ·exact .inl (by omega)
 ·refine .inr ⟨b,off,rfl,fun i hi=>?_⟩;have e:(zs.take k).getD i wr0=zs.getD i wr0:=by simp [List.getD,hi]
  rw [e];exact hc i (by omega)
theorem RowW.at {w:World} {a:Option Addr} {n:Nat} {zs:List Wr} (h:RowW w a n zs) (h0:0<n):∃ b off,a=some ⟨b,off,none⟩∧b<w.heap.size∧∀ i,i<n→w.cell? ⟨b,off+i*2,none⟩=some (zI (zs.getD i wr0).p)∧w.cell? ⟨b,off+i*2+1,none⟩=some (.int .u32 (zs.getD i wr0).d):=by
 rcases h.2 with h1 | ⟨b,off,rfl,hc⟩
 ·omega
 ·exact ⟨b,off,rfl,World.block_lt_of_cell? w _ (hc 0 h0).1,hc⟩
def cellsW:List Wr→List Value
 | []=>[]
 | e :: l=>zI e.p :: .int .u32 e.d :: cellsW l
theorem cellsW_app (l m:List Wr):cellsW (l++m)=cellsW l++cellsW m:=by
 induction l with
 | nil=>rfl
 | cons e l ih=>simp [cellsW,ih]
theorem oneW (l:List Wr):∀ u∈cellsW l,u.oneCell'=true:=by
 induction l with
 | nil=>intro u hu;cases hu
 | cons e l ih=>
  intro u hu;simp only [cellsW,List.mem_cons] at hu;rcases hu with rfl | rfl | hu
  ·rfl
  ·rfl
  ·exact ih u hu
theorem cellsW_at (l:List Wr) (k:Nat) (hk:k<l.length):(cellsW l)[k*2]?=some (zI (l.getD k wr0).p)∧(cellsW l)[k*2+1]?=some (.int .u32 (l.getD k wr0).d):=by
 induction l generalizing k with
 | nil=>simp at hk
 | cons x l ih=>
  cases k with
  | zero=>exact ⟨rfl,rfl⟩
  | succ k=>
   rw [show (k+1)*2=k*2+1+1 by omega];have:=ih k (by simpa using hk);simpa [cellsW] using this
def Lw (w:World) (base:Nat) (v:Value) (l:List Wr):Prop:=w.ownsRow base 122 2 v l.length (cellsW l)
theorem Lw.alloc {w:World} {base:Nat} {v:Value} {l:List Wr} (h:Lw w base v l) (o:Obj):Lw (w.alloc o) base v l:=World.ownsRow.alloc h o
theorem Lw.row {w:World} {base:Nat} {v:Value} {l:List Wr} (h:Lw w base v l):∃ a cap,v = .slice a l.length cap∧RowW w a l.length l∧(a=none→cap=0)∧l.length≤cap∧(∀ x,a=some x→x.off=0∧x.spot=none):=by
 rcases h.2 with ⟨hv,hn⟩ | ⟨g,cap,cur,hv,_,_,h1,_⟩
 ·exact ⟨none,0,by rw [hn];exact hv,⟨rfl,.inl hn⟩,fun _=>rfl,by omega,fun x h=>by cases h⟩
 ·subst hv;refine ⟨_,cap,rfl,⟨rfl,.inr ⟨g,0,rfl,fun i hi=>?_⟩⟩,(fun h=>by cases h),h1,fun x h=>by cases h;exact ⟨rfl,rfl⟩⟩;have e1:=World.ownsRow.cellAt h (i*2) (by omega);have e2:=World.ownsRow.cellAt h (i*2+1) (by omega);rw [Nat.zero_add,e1,e2];exact cellsW_at l i hi
theorem info_wr:(Tryz.prog.info? 122).map (fun i=>(i.zero,i.size,i.bytes))=some (some (.agg #[zI 0,.int .u32 0]),2,16):=by kernel_rfl
theorem wp_write {w:World} {ops:Array Oper} {rest:List Oper} {o:Oper} {a:Act} {Q:Exit→Act→World→Prop} (hgd:o.guard=none) (s x:Operand)
  (ho:o.op = .call { callee:= .builtin .append,args:=#[s,x],argTypes:=#[76,76] })
  (base G:Nat) (v:Value) (l:List Wr) (r:Wr) (hs:a.eval s=v) (hx:a.eval x = .slice (some ⟨G,0,none⟩) 1 1) (hv:Lw w base v l) (hu:w.cell? ⟨G,0,none⟩=some (zI r.p)∧w.cell? ⟨G,1,none⟩=some (.int .u32 r.d)) (hn:l.length≤1000000) (hbase:base≤w.heap.size)
  (h:∀ v' w',Lw w' base v' (l++[r])→w.grownBy w' v.ownBlock→wpList Tryz.prog ops Q rest (a.put o.dst v') w'):wpList Tryz.prog ops Q (o :: rest) a w:=by
 obtain ⟨i0,hi,hz0,hz1,hz2⟩:=info_parts info_wr;refine wpList_append_own w hgd s x 76 ho base 122 i0 (.agg #[zI 0,.int .u32 0]) 2 16 Tryz.underlying76 hi hz0 hz1 hz2 rfl (by decide) v l.length (cellsW l) hs hv ⟨G,0,none⟩ 1 1 (cellsW [r]) hx rfl ?_ (oneW [r]) (by unfold maxLen;omega) (by omega) hbase ?_
 ·intro j u hj
  match j,hj with
  | 0,hj=>simp [cellsW] at hj;subst hj;simpa [Addr.add] using hu.1
  | 1,hj=>simp [cellsW] at hj;subst hj;simpa [Addr.add] using hu.2
  | j+2,hj=>simp [cellsW] at hj
 intro v' w' h1 h2 _;refine h v' w' ?_ h2;unfold Lw;rw [List.length_append,cellsW_app];exact h1
end cell
namespace vnd
open Go.RowKit
theorem blk_new4 (w:World) (o p q r:Obj) (cs:Array Value) (t:TypeId):Blk (((((w.alloc o).alloc p).alloc q).alloc r).alloc (.cells cs t)) (w.heap.size+1+1+1+1) cs t:=by
 have h:=Blk.new ((((w.alloc o).alloc p).alloc q).alloc r) cs t
 rwa [show ((((w.alloc o).alloc p).alloc q).alloc r).heap.size=w.heap.size+1+1+1+1 by simp] at h
theorem blk_new5 (w:World) (o p q r s:Obj) (cs:Array Value) (t:TypeId):Blk ((((((w.alloc o).alloc p).alloc q).alloc r).alloc s).alloc (.cells cs t)) (w.heap.size+1+1+1+1+1) cs t:=by
 have h:=Blk.new (((((w.alloc o).alloc p).alloc q).alloc r).alloc s) cs t
 rwa [show (((((w.alloc o).alloc p).alloc q).alloc r).alloc s).heap.size=w.heap.size+1+1+1+1+1 by simp] at h
end vnd
namespace cell
open Go.RowKit
def arr (zs:List Int):Array Value:=(zs.map (Value.int .u32)).toArray
theorem arr_set (zs:List Int) (i:Nat) (v:Int):(arr zs).setIfInBounds i (.int .u32 v)=arr (zs.set i v):=by
 unfold arr;apply Array.ext';simp [List.map_set]
theorem Blk.rowU {w:World} {G n:Nat} {zs:List Int} {t:TypeId} (h:Blk w G (arr zs) t) (hn:zs.length=n):RowU w (some ⟨G,0,none⟩) n zs:=by
 refine ⟨hn,.inr ⟨G,0,rfl,fun i hi=>?_⟩⟩;rw [Nat.zero_add,h.cell i];unfold arr;simp [List.getD,show i<zs.length by omega]
theorem Blk.word {w:World} {G:Nat} {zs:List Int} {t:TypeId} (h:Blk w G (arr zs) t) (i:Nat) (hi:i<zs.length):w.cell? ⟨G,i,none⟩=some (.int .u32 (zs.getD i 0)):=by
 rw [h.cell i];unfold arr;simp [List.getD,hi]
theorem made_zero (n:Nat):madeCells (Value.int .u32 0).cells (n*1)=arr (List.replicate n 0):=by
 unfold madeCells arr;apply Array.ext';simp [Value.cells];apply List.ext_getElem
 ·simp
 ·intro i h1 h2;simp [Nat.mod_one]
theorem make_u32 (n:Nat) (h:n≤100000) (w:World):(Instr.makeSlice 25 (zI (n:Int)) (zI (n:Int))).run Tryz.prog w = .ok (.slice (some ⟨w.heap.size,0,none⟩) n n) (w.alloc (.cells (arr (List.replicate n 0)) 99)):=by
 obtain ⟨i0,hi,hz0,hz1,hz2⟩:=info_parts info_u32;have:=run_make (P:=Tryz.prog) w 25 99 i0 (.int .u32 0) Tryz.underlying25 hi hz0 .i64 .i64 n n (by omega) (by omega) (by rw [hz2];omega) (by omega);rw [hz1] at this;simp only [Int.toNat_natCast] at this;rw [made_zero] at this;exact this
end cell
namespace rcp
open Go.RowKit
theorem reI (d:Nat) (a a':Int) (w:World):(Op.equalIn (d+1) 3 (zI a) (zI a')).run Tryz.prog w = .ok (a == a') w:=run_equalIn_int w d _ _ _ a a' Tryz.underlying3
theorem rp0 (a b c d e f g h:Int) (t:ByteArray) (w:World):(part 3 #[zI a,zI b,zI c,zI d,zI e,zI f,zI g,zI h,.string t] 0).run Tryz.prog w = .ok (zI a) w:=by kernel_rfl
theorem rp1 (a b c d e f g h:Int) (t:ByteArray) (w:World):(part 68 #[zI a,zI b,zI c,zI d,zI e,zI f,zI g,zI h,.string t] 1).run Tryz.prog w = .ok (.agg #[zI b,zI c,zI d,zI e,zI f,zI g,zI h]) w:=by kernel_rfl
theorem rp8 (a b c d e f g h:Int) (t:ByteArray) (w:World):(part 9 #[zI a,zI b,zI c,zI d,zI e,zI f,zI g,zI h,.string t] 8).run Tryz.prog w = .ok (.string t) w:=by kernel_rfl
theorem rb0 (b c d e f g h:Int) (w:World):(part 3 #[zI b,zI c,zI d,zI e,zI f,zI g,zI h] 0).run Tryz.prog w = .ok (zI b) w:=by kernel_rfl
theorem rb1 (b c d e f g h:Int) (w:World):(part 3 #[zI b,zI c,zI d,zI e,zI f,zI g,zI h] 1).run Tryz.prog w = .ok (zI c) w:=by kernel_rfl
theorem rb2 (b c d e f g h:Int) (w:World):(part 3 #[zI b,zI c,zI d,zI e,zI f,zI g,zI h] 2).run Tryz.prog w = .ok (zI d) w:=by kernel_rfl
theorem rb3 (b c d e f g h:Int) (w:World):(part 3 #[zI b,zI c,zI d,zI e,zI f,zI g,zI h] 3).run Tryz.prog w = .ok (zI e) w:=by kernel_rfl
theorem rb4 (b c d e f g h:Int) (w:World):(part 3 #[zI b,zI c,zI d,zI e,zI f,zI g,zI h] 4).run Tryz.prog w = .ok (zI f) w:=by kernel_rfl
theorem rb5 (b c d e f g h:Int) (w:World):(part 3 #[zI b,zI c,zI d,zI e,zI f,zI g,zI h] 5).run Tryz.prog w = .ok (zI g) w:=by kernel_rfl
theorem rb6 (b c d e f g h:Int) (w:World):(part 3 #[zI b,zI c,zI d,zI e,zI f,zI g,zI h] 6).run Tryz.prog w = .ok (zI h) w:=by kernel_rfl
theorem eqB (k:Nat) (b c d e f g h:Int) (w:World):(Op.equalIn (k+2) 68 (.agg #[zI b,zI c,zI d,zI e,zI f,zI g,zI h]) (.agg #[zI b,zI c,zI d,zI e,zI f,zI g,zI h])).run Tryz.prog w = .ok true w:=by
 rw [show k+2=(k+1)+1 from rfl,run_equalIn_agg w (k+1) 68 _ _ (by kernel_rfl) (by kernel_rfl)];simp only [Program.fieldsOf,Tryz.underlying68,Op.eqFields,Sem.run_bind,Sem.run_ite];simp [rb0,rb1,rb2,rb3,rb4,rb5,rb6,reI]
theorem reS (d:Nat) (t:ByteArray) (w:World):(Op.equalIn (d+1) 9 (.string t) (.string t)).run Tryz.prog w = .ok true w:=by
 have h:(t == t)=true:=by
  first
   | exact beq_self_eq_true t
   | exact BEq.rfl
   | (cases t with | mk d=>exact beq_self_eq_true d)
   | (cases t with | mk d=>simp [BEq.beq])
 simp [Op.equalIn,Tryz.underlying9,go_sem,h]
theorem eqRc (a b c d e f g h:Int) (t:ByteArray) (w:World):(Op.equalIn 10000 78 (.agg #[zI a,zI b,zI c,zI d,zI e,zI f,zI g,zI h,.string t]) (.agg #[zI a,zI b,zI c,zI d,zI e,zI f,zI g,zI h,.string t])).run Tryz.prog w = .ok true w:=by
 rw [show (10000:Nat)=9999+1 from rfl,run_equalIn_agg w 9999 78 _ _ (by kernel_rfl) (by kernel_rfl)];simp only [Program.fieldsOf,Tryz.underlying78,Op.eqFields,Sem.run_bind,Sem.run_ite];simp [rp0,rp1,rp8,show (9999:Nat)=9998+1 from rfl,show (9999:Nat)=9997+2 from rfl,reI,reS,eqB]
end rcp
namespace disk
open cell
theorem it_short (c:List Int) (k:Nat):∀ z∈(itD c k).1,z.length≤64:=by
 induction k with
 | zero=>intro z hz;cases hz
 | succ k ih=>
  intro z hz;by_cases h:0<lenAt c (itD c k).2
  ·rw [it_live h] at hz;rcases List.mem_append.1 hz with hz | hz
   ·exact ih z hz
   ·obtain rfl:=List.mem_singleton.1 hz;obtain ⟨_,_,p1,_⟩:=len_pos h;unfold recAt;rw [List.length_take];omega
  ·rw [it_dead h 1] at hz;exact ih z hz
theorem it_count (c:List Int) (k:Nat):(itD c k).1.length≤(itD c k).2:=by
 induction k with
 | zero=>exact Nat.le_refl _
 | succ k ih=>
  by_cases h:0<lenAt c (itD c k).2
  ·rw [it_live h];show ((itD c k).1++[_]).length≤(itD c k).2+_+1;rw [List.length_append];simp only [List.length_cons,List.length_nil];omega
  ·rw [it_dead h 1];exact ih
theorem rep_few {c:List Int} {o:List (List Int)} {x f:Int} (h:RepIs c o x f):o.length≤2048∧∀ z∈o,z.length≤64:=by
 rcases h with ⟨_,rfl,_⟩ | ⟨_,_,rfl,_⟩ | ⟨hm,_,rfl,_⟩
 ·exact ⟨Nat.zero_le _,fun z hz=>by cases hz⟩
 ·exact ⟨Nat.zero_le _,fun z hz=>by cases hz⟩
 ·exact ⟨Nat.le_trans (it_count c _) (Nat.le_trans (it_bound c _).1 hm.2),it_short c _⟩
theorem app_few {c r:List Int} {l:List Wr} {f:Int} (h:AppIs c r l f):l.length≤66:=by
 rcases h with ⟨_,rfl,_⟩ | ⟨_,_,rfl,_⟩ | ⟨_,_,_,rfl,_⟩ | ⟨_,_,_,_,rfl,_⟩ | ⟨hr,_,_,_,rfl,_⟩
 ·exact Nat.zero_le _
 ·exact Nat.zero_le _
 ·exact Nat.zero_le _
 ·exact Nat.zero_le _
 ·rw [app_len];have:=hr.2;split <;> omega
end disk
namespace cell
open Go.RowKit
def GaveU (w:World) (zs:List Int) (e:Ending) (w':World):Prop:=∃ v,e = .returned v∧Ws w' w.heap.size v zs∧Below w.heap.size w w'
theorem GaveU.mk {w w':World} {zs:List Int} {v:Value} (h1:Ws w' w.heap.size v zs) (h2:Below w.heap.size w w'):GaveU w zs (.returned v) w':=⟨v,rfl,h1,h2⟩
end cell
namespace cents
open Go.RowKit
theorem row_one (w:World) (z:Int) (t:TypeId):Row (w.alloc (.cells #[zI z] t)) (some ⟨w.heap.size,0,none⟩) 1 [z]:=by
 refine ⟨rfl,.inr ⟨_,_,rfl,fun i hi=>?_⟩⟩;obtain rfl:i=0:=by omega
 simp
theorem okAll_yes {lo hi z:Int} (h1:lo≤z) (h2:z≤hi):okAll lo hi [z]=true:=by simp [okAll,h1,h2]
theorem okAll_not {lo hi z:Int} (h:z<lo∨hi<z):okAll lo hi [z]=false:=by simp [okAll];omega
theorem within_one_yes (lo hi z:Int) (w:World) (b:Nat) (hb:b=w.heap.size) (h1:lo≤z) (h2:z≤hi) :
  Calls Tryz.prog 192 #[zI lo,zI hi,.slice (some ⟨b,0,none⟩) 1 1] (w.alloc (.cells #[zI z] 3)) fun e w'=>e = .returned (.bool true)∧w'=w.alloc (.cells #[zI z] 3):=by
 have h:=within_any lo hi _ 1 1 [z] _ (row_one w z 3) (by decide);rw [okAll_yes h1 h2] at h;rw [hb];exact h
theorem within_one_no (lo hi z:Int) (w:World) (b:Nat) (hb:b=w.heap.size) (h0:z<lo∨hi<z) :
  Calls Tryz.prog 192 #[zI lo,zI hi,.slice (some ⟨b,0,none⟩) 1 1] (w.alloc (.cells #[zI z] 3)) fun e w'=>e = .returned (.bool false)∧w'=w.alloc (.cells #[zI z] 3):=by
 have h:=within_any lo hi _ 1 1 [z] _ (row_one w z 3) (by decide);rw [okAll_not h0] at h;rw [hb];exact h
theorem prod_bd (a b A B:Int) (h1:0≤a) (h2:a≤A) (h3:0≤b) (h4:b≤B):0≤a*b∧a*b≤A*B:=
 ⟨Int.mul_nonneg h1 h3,Int.mul_le_mul h2 h4 h3 (by omega)⟩
theorem bel1 (w:World) (o:Obj):Below w.heap.size w (w.alloc o):=(Below.refl _ _).alloc (Nat.le_refl _) _
theorem bel2 (w:World) (o o':Obj):Below w.heap.size w ((w.alloc o).alloc o'):=(bel1 w o).alloc (by simp) _
theorem part_yes (a b:Int) (w:World) (h1:0≤a) (h2:a≤1000000000000) (h3:0≤b) (h4:b≤10000) :
  Calls Tryz.prog 165 #[zI a,zI b] w fun e w'=>e = .returned (.tuple #[zI (a*b / 10000),zI 0])∧Below w.heap.size w w':=by
 obtain ⟨hp1,hp2⟩:=prod_bd a b _ _ h1 h2 h3 h4;go_enter Tryz.func165,Tryz.ntmps165;go_wp2_with fail;refine (within_one_yes _ _ _ _ _ rfl h1 h2).mono ?_;rintro e w' ⟨rfl,rfl⟩;go_wp2_with fail;refine (within_one_yes _ _ _ _ _ (by simp) h3 h4).mono ?_;rintro e w' ⟨rfl,rfl⟩;go_wp2;go_ret2;exact ⟨rfl,bel2 _ _ _⟩
theorem part_no (a b:Int) (w:World) (h:(a<0∨1000000000000<a)∨(b<0∨10000<b)) :
  Calls Tryz.prog 165 #[zI a,zI b] w fun e w'=>e = .returned (.tuple #[zI 0,zI 2])∧Below w.heap.size w w':=by
 by_cases h0:a<0∨1000000000000<a
 ·clear h;go_enter Tryz.func165,Tryz.ntmps165;go_wp2_with fail;refine (within_one_no _ _ _ _ _ rfl h0).mono ?_;rintro e w' ⟨rfl,rfl⟩;go_wp2;go_ret2;exact ⟨rfl,bel1 _ _⟩
 ·have h5:b<0∨10000<b:=by omega
  have h1:0≤a:=by omega
  have h2:a≤1000000000000:=by omega
  clear h h0;go_enter Tryz.func165,Tryz.ntmps165;go_wp2_with fail;refine (within_one_yes _ _ _ _ _ rfl h1 h2).mono ?_;rintro e w' ⟨rfl,rfl⟩;go_wp2_with fail;refine (within_one_no _ _ _ _ _ (by simp) h5).mono ?_;rintro e w' ⟨rfl,rfl⟩;go_wp2;go_ret2;exact ⟨rfl,bel2 _ _ _⟩
end cents
namespace tar
open Go.RowKit
theorem run_min (x y m:Int) (h:min x y=m) (w:World):(Builtin.min_ #[3,3] 3 #[zI x,zI y]).run Tryz.prog w = .ok (zI m) w:=by
 subst h;unfold Builtin.min_;by_cases h:y<x
 ·rw [show min x y=y by omega];simp [Builtin.min2,go_sem];omega
 ·rw [show min x y=x by omega];simp [Builtin.min2,go_sem];omega
end tar
end Go.Proofs.YtnpblpbohcegoaaGreatDoor
