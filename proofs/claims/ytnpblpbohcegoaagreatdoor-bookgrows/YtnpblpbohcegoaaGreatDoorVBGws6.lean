import Derived.Test.YtnpblpbohcegoaaGreatDoorVBGws1
import Derived.Test.YtnpblpbohcegoaaGreatDoorVBGws2
set_option linter.unusedVariables false
set_option linter.unusedSimpArgs false
set_option maxHeartbeats 4000000
set_option maxRecDepth 100000
namespace Go.Proofs.YtnpblpbohcegoaaGreatDoor
namespace words
def sh (v:Nat) (k:Int):Nat:=if k<0 then v / 2 ^ (-k).toNat else v*2 ^ k.toNat % 2 ^ 64
def onesN (n:Nat):Nat:=2 ^ n - 1
theorem sh_bit (v:Nat) (k:Int) (j:Nat) (hj:j<64):(sh v k).testBit j=(decide (k≤j) && v.testBit ((j:Int) - k).toNat):=by
 unfold sh;by_cases h:k<0
 ·rw [if_pos h,Nat.testBit_div_two_pow];have h1:k≤(j:Int):=by omega
  rw [decide_eq_true h1,Bool.true_and]
  congr 1;omega
 ·rw [if_neg h,Nat.testBit_mod_two_pow,Nat.testBit_mul_two_pow];rw [decide_eq_true hj,Bool.true_and];by_cases h1:k≤(j:Int)
  ·rw [decide_eq_true h1,decide_eq_true (show k.toNat≤j by omega)]
   congr 2;omega
  ·rw [decide_eq_false h1,decide_eq_false (show ¬ k.toNat≤j by omega)];simp
theorem ones_bit (n j:Nat):(onesN n).testBit j=decide (j<n):=Nat.testBit_two_pow_sub_one ..
theorem bit_hi {x j k:Nat} (h:x<2 ^ k) (hj:k≤j):x.testBit j=false:=Nat.testBit_lt_two_pow (Nat.lt_of_lt_of_le h (Nat.pow_le_pow_right (by decide) hj))
def bit3 (a b c:Nat) (m:Nat):Bool:=if m<32 then a.testBit m else if m<64 then b.testBit (m - 32) else c.testBit (m - 64)
def bitsN (a b c lo n:Nat):Nat:=(sh a (0 - lo) ||| sh b (32 - lo) ||| sh c (64 - lo)) &&& onesN n
theorem bits_bit {a b c lo n:Nat} (ha:a<2 ^ 32) (hb:b<2 ^ 32) (_hc:c<2 ^ 32) (hn:n≤64) (j:Nat):(bitsN a b c lo n).testBit j=(decide (j<n) && bit3 a b c (j+lo)):=by
 unfold bitsN;rw [Nat.testBit_and,ones_bit];by_cases hj:j<n
 ·rw [decide_eq_true hj,Bool.and_true,Bool.true_and,Nat.testBit_or,Nat.testBit_or,sh_bit _ _ _ (by omega),sh_bit _ _ _ (by omega),sh_bit _ _ _ (by omega)];unfold bit3;rw [decide_eq_true (show (0:Int) - (lo:Int)≤(j:Int) by omega),Bool.true_and];have e0:((j:Int) - (0 - (lo:Int))).toNat=j+lo:=by omega
  have e1:((j:Int) - (32 - (lo:Int))).toNat=j+lo - 32:=by omega
  have e2:((j:Int) - (64 - (lo:Int))).toNat=j+lo - 64:=by omega
  rw [e0,e1,e2];by_cases h1:j+lo<32
  ·rw [if_pos h1,decide_eq_false (show ¬ (32:Int) - (lo:Int)≤(j:Int) by omega),decide_eq_false (show ¬ (64:Int) - (lo:Int)≤(j:Int) by omega)];simp
  ·rw [if_neg h1,decide_eq_true (show (32:Int) - (lo:Int)≤(j:Int) by omega),bit_hi ha (by omega)];by_cases h2:j+lo<64
   ·rw [if_pos h2,decide_eq_false (show ¬ (64:Int) - (lo:Int)≤(j:Int) by omega)];simp
   ·rw [if_neg h2,decide_eq_true (show (64:Int) - (lo:Int)≤(j:Int) by omega),bit_hi hb (by omega)];simp
 ·rw [decide_eq_false hj];simp
def putN (x v n:Nat) (k:Int):Nat:=(x &&& (2 ^ 32 - 1 - sh (onesN n) k % 2 ^ 32)) ||| (sh v k % 2 ^ 32)
theorem put_bit (x v n:Nat) (k:Int) (j:Nat) (hj:j<32):(putN x v n k).testBit j=(x.testBit j && !(decide (k≤j) && decide ((j:Int) - k<n)) || (decide (k≤j) && v.testBit ((j:Int) - k).toNat)):=by
 unfold putN;have e:2 ^ 32 - 1 - sh (onesN n) k % 2 ^ 32=2 ^ 32 - (sh (onesN n) k % 2 ^ 32+1):=by omega
 rw [Nat.testBit_or,Nat.testBit_and,e,Nat.testBit_two_pow_sub_succ (Nat.mod_lt _ (by decide)),Nat.testBit_mod_two_pow,Nat.testBit_mod_two_pow,decide_eq_true hj,Bool.true_and,Bool.true_and,Bool.true_and,sh_bit _ _ _ (by omega),sh_bit _ _ _ (by omega),ones_bit];by_cases h1:k≤(j:Int)
 ·have e2:decide (((j:Int) - k).toNat<n)=decide ((j:Int) - k<n):=by
   rw [decide_eq_decide];omega
  rw [e2]
 ·rw [decide_eq_false h1];simp
theorem put_lt (x v n:Nat) (k:Int) (hx:x<2 ^ 32):putN x v n k<2 ^ 32:=by
 unfold putN;have hy:sh v k % 2 ^ 32<2 ^ 32:=Nat.mod_lt _ (by decide);exact Nat.or_lt_two_pow (Nat.lt_of_le_of_lt Nat.and_le_left hx) hy
theorem put_bits {a b c v lo n:Nat} (hv:v<2 ^ n) (m:Nat) (hm:m<96) :
  bit3 (putN a v n lo) (putN b v n ((lo:Int) - 32)) (putN c v n ((lo:Int) - 64)) m=if lo≤m∧m<lo+n then v.testBit (m - lo) else bit3 a b c m:=by
 have key:∀ (x:Nat) (j:Nat) (k:Int),j<32→k+(m:Int)=lo+j→(putN x v n k).testBit j=if lo≤m∧m<lo+n then v.testBit (m - lo) else x.testBit j:=by
  intro x j k hj hk;rw [put_bit _ _ _ _ _ hj];by_cases h1:k≤(j:Int)
  ·have e1:((j:Int) - k).toNat=m - lo:=by omega
   rw [decide_eq_true h1,e1];by_cases h2:(j:Int) - k<n
   ·rw [decide_eq_true h2,if_pos (by omega)];simp
   ·rw [decide_eq_false h2,if_neg (by omega),bit_hi hv (by omega)];simp
  ·rw [decide_eq_false h1,if_neg (by omega)];simp
 unfold bit3;by_cases h1:m<32
 ·rw [if_pos h1,if_pos h1];exact key a m lo h1 (by omega)
 ·rw [if_neg h1,if_neg h1];by_cases h2:m<64
  ·rw [if_pos h2,if_pos h2];exact key b (m - 32) _ (by omega) (by omega)
  ·rw [if_neg h2,if_neg h2];exact key c (m - 64) _ (by omega) (by omega)
theorem bits_put {a b c v lo n:Nat} (ha:a<2 ^ 32) (hb:b<2 ^ 32) (hc:c<2 ^ 32) (hv:v<2 ^ n) (hn:n≤64) (hl:lo+n≤96) :
  bitsN (putN a v n lo) (putN b v n ((lo:Int) - 32)) (putN c v n ((lo:Int) - 64)) lo n=v:=by
 apply Nat.eq_of_testBit_eq;intro j;rw [bits_bit (put_lt _ _ _ _ ha) (put_lt _ _ _ _ hb) (put_lt _ _ _ _ hc) hn];by_cases hj:j<n
 ·rw [decide_eq_true hj,Bool.true_and,put_bits hv _ (by omega),if_pos (by omega)]
  congr 1;omega
 ·rw [decide_eq_false hj,Bool.false_and,bit_hi hv (by omega)]
end words
namespace book
open Go.RowKit
structure Cu where
 me:Int
 rv:Int
 nx:Int
 mo:Int
 bo:Int
 fr:Int
 dp:Option Addr
 dn:Nat
 dc:Nat
 sp:Option Addr
 sn:Nat
 sc:Nat
def cu0:Cu:=⟨0,0,0,0,0,0,none,0,0,none,0,0⟩
def Cu.cs (x:Cu):List Value:=[zI x.me,zI x.rv,zI x.nx,zI x.mo,zI x.bo,zI x.fr,.slice x.dp x.dn x.dc,.slice x.sp x.sn x.sc]
def cellsC:List Cu→List Value
 | []=>[]
 | x :: l=>x.cs++cellsC l
theorem cellsC_len (l:List Cu):(cellsC l).length=l.length*8:=by
 induction l with
 | nil=>rfl
 | cons e l ih=>rw [cellsC,List.length_append,ih,List.length_cons];show 8+_=_;omega
theorem cellsC_app (l m:List Cu):cellsC (l++m)=cellsC l++cellsC m:=by
 induction l with
 | nil=>rfl
 | cons e l ih=>rw [List.cons_append,cellsC,cellsC,ih,List.append_assoc]
theorem oneC (l:List Cu):∀ u∈cellsC l,u.oneCell'=true:=by
 induction l with
 | nil=>intro u hu;cases hu
 | cons e l ih=>
  intro u hu;rw [cellsC] at hu;rcases List.mem_append.1 hu with hu | hu
  ·simp only [Cu.cs,List.mem_cons,List.not_mem_nil,or_false] at hu;rcases hu with rfl | rfl | rfl | rfl | rfl | rfl | rfl | rfl <;> rfl
  ·exact ih u hu
theorem cellsC_at (l:List Cu) (k j:Nat) (hk:k<l.length) (hj:j<8):(cellsC l)[k*8+j]?=(l.getD k cu0).cs[j]?:=by
 induction l generalizing k with
 | nil=>simp at hk
 | cons x l ih=>
  have h8:x.cs.length=8:=rfl;cases k with
  | zero=>rw [Nat.zero_mul,Nat.zero_add,cellsC,List.getElem?_append_left (by omega)];rfl
  | succ k=>
   rw [show (k+1)*8+j=x.cs.length+(k*8+j) by omega,cellsC,List.getElem?_append_right (by omega),Nat.add_sub_cancel_left];exact ih k (by simpa using hk)
def RowC (w:World) (a:Option Addr) (n:Nat) (l:List Cu):Prop:=l.length=n∧(n=0∨∃ b off,a=some ⟨b,off,none⟩∧b<w.heap.size∧∀ i j,i<n→j<8→w.cell? ⟨b,off+i*8+j,none⟩=(l.getD i cu0).cs[j]?)
theorem RowC.below {w w':World} {a:Option Addr} {n:Nat} {l:List Cu} (h:RowC w a n l) (hb:Below w.heap.size w w'):RowC w' a n l:=by
 refine ⟨h.1,?_⟩;rcases h.2 with h0 | ⟨b,off,rfl,lb,hc⟩
 ·exact .inl h0
 ·exact .inr ⟨b,off,rfl,Nat.lt_of_lt_of_le lb hb.size,fun i j hi hj=>(hb.cell (p:=⟨b,off+i*8+j,none⟩) lb).trans (hc i j hi hj)⟩
def Lc (w:World) (base:Nat) (v:Value) (l:List Cu):Prop:=w.ownsRow base 54 8 v l.length (cellsC l)
theorem Lc.zero (w:World) (base:Nat):Lc w base (zS) []:=World.ownsRow_nil _ _ _ _
theorem Lc.next {w w':World} {base:Nat} {v:Value} {l:List Cu} (h:Lc w base v l) (hb:Below w.heap.size w w'):Lc w' base v l:=by
 refine ⟨h.1,?_⟩;rcases h.2 with hn | ⟨g,cap,cur,hv,hg,hc,rest⟩
 ·exact .inl hn
 ·exact .inr ⟨g,cap,cur,hv,hg,Blk.next hc hb,rest⟩
theorem Lc.row {w:World} {base:Nat} {v:Value} {l:List Cu} (h:Lc w base v l):∃ a cap,v = .slice a l.length cap∧RowC w a l.length l∧(a=none→cap=0)∧l.length≤cap:=by
 rcases h.2 with ⟨hv,hn⟩ | ⟨g,cap,cur,hv,_,hc,h1,_⟩
 ·exact ⟨none,0,by rw [hn];exact hv,⟨rfl,.inl hn⟩,fun _=>rfl,by omega⟩
 ·subst hv;refine ⟨_,cap,rfl,⟨rfl,.inr ⟨g,0,rfl,Blk.lt hc,fun i j hi hj=>?_⟩⟩,(fun h=>by cases h),h1⟩;have e1:=World.ownsRow.cellAt h (i*8+j) (by omega);rw [Nat.zero_add,e1];exact cellsC_at l i j hi hj
theorem custI:(Tryz.prog.info? 54).map (fun i=>(i.zero,i.size,i.bytes))=some (some (.agg cu0.cs.toArray),8,96):=by kernel_rfl
theorem step_cust {w:World} {o:Oper} {a:Act} {K:Act→World→Prop} {Q:Exit→Act→World→Prop} (s x:Operand)
  (ho:o.op = .call { callee:= .builtin .append,args:=#[s,x],argTypes:=#[44,44] })
  (base G:Nat) (v:Value) (l:List Cu) (r:Cu) (hs:a.eval s=v) (hx:a.eval x = .slice (some ⟨G,0,none⟩) 1 1) (hv:Lc w base v l) (hu:Blk w G r.cs.toArray 54) (hn:l.length≤2000000) (hbase:base≤w.heap.size)
  (h:∀ v' w',Lc w' base v' (l++[r])→w.grownBy w' v.ownBlock→(v'.ownBlock=v.ownBlock∨v'.ownBlock=some w.heap.size)→K (a.put o.dst v') w'):Oper.wp Tryz.prog o a w K Q:=by
 obtain ⟨i0,hi,hz0,hz1,hz2⟩:=info_parts custI
 obtain ⟨v',w',hr,h2,h3,_,h5⟩:=run_append_own_at (P:=Tryz.prog) w base 44 o.type 54 i0 (.agg cu0.cs.toArray) 8 96 Tryz.underlying44 hi hz0 hz1 hz2 rfl (by decide) v l.length (cellsC l) hv ⟨G,0,none⟩ 1 1 (cellsC [r]) (by rw [cellsC_len];rfl) (by
  intro j u hj;rw [Addr.add_lit,Nat.zero_add,hu.cell j];rw [cellsC,cellsC,List.append_nil] at hj
  simpa using hj) (oneC [r]) (by unfold maxLen;omega) (by omega) hbase
 unfold Oper.wp execOp;simp only [ho,resolve,invoke,builtin,Sem.run_bind,Sem.run_pure,Result.andThen_ok,List.map_toArray,List.map_cons,List.map_nil,hs,hx,hr];refine h v' w' ?_ h3 h5;unfold Lc;rw [List.length_append,cellsC_app];exact h2
def FindIs (l:List Cu) (me at_ f:Int):Prop:=(∃ k,k<l.length∧(l.getD k cu0).me=me∧(∀ j,j<k→(l.getD j cu0).me≠me)∧at_=(k:Int)∧f=0)∨((∀ j,j<l.length→(l.getD j cu0).me≠me)∧at_=0∧f=18)
def FoundIs (l:List Cu) (me at_:Int):Prop:=(∃ k,k<l.length∧(l.getD k cu0).me=me∧(∀ j,j<k→(l.getD j cu0).me≠me)∧at_=(k:Int))∨((∀ j,j<l.length→(l.getD j cu0).me≠me)∧at_=-1)
end book
namespace words
open Go.RowKit
structure Acc (w0 w:World) (B:Nat) (v:Value):Prop where
 os:w.os=w0.os
 tape:w.tape=w0.tape
 output:w.output=w0.output
 size:w0.heap.size≤w.heap.size
 block:∀ k,k<w0.heap.size→k≠B→w.heap[k]?=w0.heap[k]?
 old:B<w0.heap.size
 cell:w.cell? ⟨B,0,none⟩=some v
 free:w.frozen? ⟨B,0,none⟩=false
theorem Acc.trans {w0 w1 w2:World} {B:Nat} {v v':Value} (h:Acc w0 w1 B v) (h':Acc w1 w2 B v'):Acc w0 w2 B v':=
 ⟨h'.os.trans h.os,h'.tape.trans h.tape,h'.output.trans h.output,Nat.le_trans h.size h'.size,fun k hk hB=>(h'.block k (Nat.lt_of_lt_of_le hk h.size) hB).trans (h.block k hk hB),h.old,h'.cell,h'.free⟩
theorem Acc.refl {w:World} {B:Nat} {v:Value} (hc:w.cell? ⟨B,0,none⟩=some v) (hf:w.frozen? ⟨B,0,none⟩=false):Acc w w B v:=by
 refine ⟨rfl,rfl,rfl,Nat.le_refl _,fun _ _ _=>rfl,?_,hc,hf⟩;by_cases hh:B<w.heap.size
 ·exact hh
 ·simp [World.cell?,Array.getElem?_eq_none (show w.heap.size≤B by omega)] at hc
theorem Acc.set {w0 w:World} {B:Nat} {v:Value} (h:Acc w0 w B v) (u:Value):Acc w0 (w.setCell ⟨B,0,none⟩ u) B u:=by
 refine ⟨h.os,h.tape,h.output,by simp [World.setCell];exact h.size,fun k hk hB=>?_,h.old,?_,?_⟩
 ·simp only [World.setCell,Array.getElem?_modify];rw [if_neg (fun e=>hB e.symm)];exact h.block k hk hB
 ·apply World.cell?_setCell_same;exact h.cell
 ·rw [World.frozen?_setCell];exact h.free
theorem Acc.drewN {w0 w:World} {B:Nat} {v:Value} (h:Acc w0 w B v) (n:Nat):Acc w0 (w.drewN n) B v:=⟨h.os,h.tape,h.output,h.size,h.block,h.old,h.cell,h.free⟩
def Trio (w:World) (G:Nat) (y0 y1 y2:Value):Prop:=w.heap[G]?=some (.cells #[y0,y1,y2] 131 (0,0))
theorem Trio.c0 {w:World} {G:Nat} {y0 y1 y2:Value} (h:Trio w G y0 y1 y2):w.cell? ⟨G,0,none⟩=some y0:=by unfold Trio at h;simp [World.cell?,h]
theorem Trio.c1 {w:World} {G:Nat} {y0 y1 y2:Value} (h:Trio w G y0 y1 y2):w.cell? ⟨G,1,none⟩=some y1:=by unfold Trio at h;simp [World.cell?,h]
theorem Trio.c2 {w:World} {G:Nat} {y0 y1 y2:Value} (h:Trio w G y0 y1 y2):w.cell? ⟨G,2,none⟩=some y2:=by unfold Trio at h;simp [World.cell?,h]
theorem Trio.free {w:World} {G:Nat} {y0 y1 y2:Value} (h:Trio w G y0 y1 y2) (i:Nat):w.frozen? ⟨G,i,none⟩=false:=by unfold Trio at h;simp [World.frozen?,h]
theorem Trio.acc {w w':World} {G B:Nat} {y0 y1 y2 v:Value} (h:Trio w G y0 y1 y2) (ha:Acc w w' B v) (hG:G≠B):Trio w' G y0 y1 y2:=by
 have hlt:G<w.heap.size:=by
  by_cases hh:G<w.heap.size
  ·exact hh
  ·unfold Trio at h;rw [Array.getElem?_eq_none (by omega)] at h;cases h
 unfold Trio at *;rw [ha.block G hlt hG];exact h
theorem Trio.set0 {w:World} {G:Nat} {y0 y1 y2:Value} (h:Trio w G y0 y1 y2) (u:Value):Trio (w.setCell ⟨G,0,none⟩ u) G u y1 y2:=by
 unfold Trio at *;simp [World.setCell,Array.getElem?_modify,h]
theorem Trio.set1 {w:World} {G:Nat} {y0 y1 y2:Value} (h:Trio w G y0 y1 y2) (u:Value):Trio (w.setCell ⟨G,1,none⟩ u) G y0 u y2:=by
 unfold Trio at *;simp [World.setCell,Array.getElem?_modify,h]
theorem Trio.set2 {w:World} {G:Nat} {y0 y1 y2:Value} (h:Trio w G y0 y1 y2) (u:Value):Trio (w.setCell ⟨G,2,none⟩ u) G y0 y1 u:=by
 unfold Trio at *;simp [World.setCell,Array.getElem?_modify,h]
theorem Trio.other {w:World} {G G':Nat} {y0 y1 y2:Value} (h:Trio w G y0 y1 y2) (i:Nat) (u:Value) (hne:G'≠G):Trio (w.setCell ⟨G',i,none⟩ u) G y0 y1 y2:=by
 unfold Trio at *;simp only [World.setCell,Array.getElem?_modify];rw [if_neg hne];exact h
theorem Acc.setNew {w0 w:World} {B:Nat} {v:Value} (h:Acc w0 w B v) (G i:Nat) (u:Value) (hG:w0.heap.size≤G):Acc w0 (w.setCell ⟨G,i,none⟩ u) B v:=by
 have hne:G≠B:=by have:=h.old;omega
 refine ⟨h.os,h.tape,h.output,by simp [World.setCell];exact h.size,fun k hk hB=>?_,h.old,?_,?_⟩
 ·simp only [World.setCell,Array.getElem?_modify];rw [if_neg (by omega)];exact h.block k hk hB
 ·rw [World.cell?_setCell_other]
  ·exact h.cell
  ·intro e;exact hne (congrArg Addr.block e)
 ·rw [World.frozen?_setCell];exact h.free
theorem Acc.alloc {w0 w:World} {B:Nat} {v:Value} (h:Acc w0 w B v) (o:Obj):Acc w0 (w.alloc o) B v:=by
 have hlt:∀ k,k<w.heap.size→(w.alloc o).heap[k]?=w.heap[k]?:=fun k hk=>by
  show (w.heap.push o)[k]?=_;rw [Array.getElem?_push,if_neg (by omega)]
 have hB:=Nat.lt_of_lt_of_le h.old h.size;refine ⟨h.os,h.tape,h.output,?_,fun k hk hB=>?_,h.old,?_,?_⟩
 ·show _≤(w.heap.push o).size;have:=h.size;simp;omega
 ·rw [hlt k (Nat.lt_of_lt_of_le hk h.size)];exact h.block k hk hB
 ·rw [← h.cell];exact World.cell?_of_block (w:=w) (a:=⟨B,0,none⟩) (hlt B hB)
 ·have:((w.alloc o).frozen? ⟨B,0,none⟩)=w.frozen? ⟨B,0,none⟩:=by simp only [World.frozen?,hlt B hB]
  rw [this];exact h.free
theorem trio_a (w:World) (x y z:Value) (o:Obj):Trio ((w.alloc (.cells #[x,y,z] 131)).alloc o) w.heap.size x y z:=by
 show ((w.heap.push _).push o)[w.heap.size]?=_;rw [Array.getElem?_push,if_neg (by simp),Array.getElem?_push_size]
theorem trio_b (w:World) (o:Obj) (x y z:Value):Trio ((w.alloc o).alloc (.cells #[x,y,z] 131)) (w.heap.size+1) x y z:=by
 show ((w.heap.push o).push _)[w.heap.size+1]?=_;have:w.heap.size+1=(w.heap.push o).size:=by simp
 rw [this,Array.getElem?_push_size]
theorem upward_any (K:Nat) (caps:Array Value) (B:Nat) (v0 v1 v2 v3:Value) (x0 x1 x2 y0 y1 y2:Int) (w:World) (h:Acc w w B v0) (hK:∀ args w,(callFunc K args).run Tryz.prog w = .ok (.enter K args) w)
  (s0:∀ w',Acc w w' B v0→Calls Tryz.prog K (#[.int .u32 x0]++caps) w' fun e w''=>e = .returned (.int .u32 y0)∧Acc w' w'' B v1)
  (s1:∀ w',Acc w w' B v1→Calls Tryz.prog K (#[.int .u32 x1]++caps) w' fun e w''=>e = .returned (.int .u32 y1)∧Acc w' w'' B v2)
  (s2:∀ w',Acc w w' B v2→Calls Tryz.prog K (#[.int .u32 x2]++caps) w' fun e w''=>e = .returned (.int .u32 y2)∧Acc w' w'' B v3) :
  Calls Tryz.prog 129 #[.agg #[.int .u32 x0,.int .u32 x1,.int .u32 x2],.func (.func K) #[] caps] w fun e w'=>e = .returned (.agg #[.int .u32 y0,.int .u32 y1,.int .u32 y2])∧Acc w w' B v3:=by
 have HS0:Hid (∀ w',Acc w w' B v0→Calls Tryz.prog K (#[.int .u32 x0]++caps) w' fun e w''=>e = .returned (.int .u32 y0)∧Acc w' w'' B v1):=s0;have HS1:Hid (∀ w',Acc w w' B v1→Calls Tryz.prog K (#[.int .u32 x1]++caps) w' fun e w''=>e = .returned (.int .u32 y1)∧Acc w' w'' B v2):=s1;have HS2:Hid (∀ w',Acc w w' B v2→Calls Tryz.prog K (#[.int .u32 x2]++caps) w' fun e w''=>e = .returned (.int .u32 y2)∧Acc w' w'' B v3):=s2;have HA:Hid (Acc w w B v0):=h;clear s0 s1 s2 h;go_enter Tryz.func129,Tryz.ntmps129;go_wp2_with fail;refine wp_loop_rounds 4 ?_;rw [rounds_succ];go_wp2_with fail;refine (HS0.o _ ((HA.o.alloc _).alloc _)).mono ?_;rintro e w1 ⟨rfl,h1⟩;have hB:=HA.o.old;have T1:Trio w1 w.heap.size (.int .u32 x0) (.int .u32 x1) (.int .u32 x2):=(trio_a _ _ _ _ _).acc h1 (by omega);have R1:Trio w1 (w.heap.size+1) (.int .u32 0) (.int .u32 0) (.int .u32 0):=(trio_b _ _ _ _ _).acc h1 (by omega);have A1:=((HA.o.alloc _).alloc _).trans h1;have c0:=T1.c0;have f0:=T1.free 0;have T1':=T1.set0 (.int .u32 y0);have d1:=T1'.c1;have HT:Hid (Trio (w1.setCell ⟨w.heap.size,0,none⟩ (.int .u32 y0)) w.heap.size (.int .u32 y0) (.int .u32 x1) (.int .u32 x2)):=T1';have HR:Hid (Trio (w1.setCell ⟨w.heap.size,0,none⟩ (.int .u32 y0)) (w.heap.size+1) (.int .u32 0) (.int .u32 0) (.int .u32 0)):=R1.other _ _ (by omega);have HA1:Hid (Acc w (w1.setCell ⟨w.heap.size,0,none⟩ (.int .u32 y0)) B v1):=A1.setNew _ _ _ (Nat.le_refl _);clear h1 T1 R1 A1 T1' HA HS0;go_wp2_with fail;rw [rounds_succ];go_wp2_with fail;refine (HS1.o _ HA1.o).mono ?_;rintro e w2 ⟨rfl,h2⟩;have T2:=HT.o.acc h2 (by omega);have R2:=HR.o.acc h2 (by omega);have A2:=HA1.o.trans h2;clear c0 f0 d1 HT HR HA1 HS1 h2;have c1:=T2.c1;have f1:=T2.free 1;have T2':=T2.set1 (.int .u32 y1);have d2:=T2'.c2;have HT:Hid (Trio (w2.setCell ⟨w.heap.size,1,none⟩ (.int .u32 y1)) w.heap.size (.int .u32 y0) (.int .u32 y1) (.int .u32 x2)):=T2';have HR:Hid (Trio (w2.setCell ⟨w.heap.size,1,none⟩ (.int .u32 y1)) (w.heap.size+1) (.int .u32 0) (.int .u32 0) (.int .u32 0)):=R2.other _ _ (by omega)
 have HA2:Hid (Acc w (w2.setCell ⟨w.heap.size,1,none⟩ (.int .u32 y1)) B v2):=A2.setNew _ _ _ (Nat.le_refl _);clear T2 R2 A2 T2';go_wp2_with fail;rw [rounds_succ];go_wp2_with fail;refine (HS2.o _ HA2.o).mono ?_;rintro e w3 ⟨rfl,h3⟩;have T3:=HT.o.acc h3 (by omega);have R3:=HR.o.acc h3 (by omega);have A3:=HA2.o.trans h3;clear c1 f1 d2 HT HR HA2 HS2 h3;have c2:=T3.c2;have f2:=T3.free 2;have T3':=T3.set2 (.int .u32 y2);have R3':=R3.other (G':=w.heap.size) 2 (.int .u32 y2) (by omega);have e0:=T3'.c0;have e1:=T3'.c1;have e2:=T3'.c2;have r0:=R3'.c0;have r1:=R3'.c1;have r2:=R3'.c2;have g0:=R3'.free 0;have g1:=R3'.free 1;have g2:=R3'.free 2;have HR3:Hid (Trio (w3.setCell ⟨w.heap.size,2,none⟩ (.int .u32 y2)) (w.heap.size+1) (.int .u32 0) (.int .u32 0) (.int .u32 0)):=R3';have HA3:Hid (Acc w (w3.setCell ⟨w.heap.size,2,none⟩ (.int .u32 y2)) B v3):=A3.setNew _ _ _ (Nat.le_refl _);clear T3 R3 A3 T3' R3';go_wp2_with fail;rw [rounds_succ];go_wp2_with fail;have RR:=((HR3.o.set0 (.int .u32 y0)).set1 (.int .u32 y1)).set2 (.int .u32 y2);have AA:=((HA3.o.setNew (w.heap.size+1) 0 (.int .u32 y0) (by omega)).setNew (w.heap.size+1) 1 (.int .u32 y1) (by omega)).setNew (w.heap.size+1) 2 (.int .u32 y2) (by omega);refine bodyPost_ret (v:= .agg #[.int .u32 y0,.int .u32 y1,.int .u32 y2]) (by simp [results,Tryz.results129,RR.c0,RR.c1,RR.c2,go_sem]) rfl ⟨rfl,AA⟩
theorem below_set {B:Nat} {w w':World} (h:Below B w w') (G i:Nat) (u:Value) (hG:B≤G):Below B w (w'.setCell ⟨G,i,none⟩ u):=by
 refine ⟨h.os,h.tape,h.output,by simp [World.setCell];exact h.size,fun k hk=>?_⟩;rw [← h.block k hk];simp only [World.setCell,Array.getElem?_modify];rw [if_neg (by omega)]
theorem Acc.below {w0 w1 w:World} {B:Nat} {v:Value} (hb:Below w0.heap.size w0 w1) (h:Acc w1 w B v) (hB:w0.heap.size≤B):Below w0.heap.size w0 w:=
 hb.trans ⟨h.os,h.tape,h.output,h.size,fun k hk=>h.block k (Nat.lt_of_lt_of_le hk hb.size) (by omega)⟩
theorem Trio.alloc {w:World} {G:Nat} {y0 y1 y2:Value} (h:Trio w G y0 y1 y2) (o:Obj):Trio (w.alloc o) G y0 y1 y2:=by
 have hlt:G<w.heap.size:=by
  by_cases hh:G<w.heap.size
  ·exact hh
  ·unfold Trio at h;rw [Array.getElem?_eq_none (by omega)] at h;cases h
 unfold Trio at *;show (w.heap.push o)[G]?=_;rw [Array.getElem?_push,if_neg (by omega)];exact h
theorem below_put {B:Nat} {w w':World} (h:Below B w w') (G i j k:Nat) (u v x:Value) (hG:B≤G):Below B w (((w'.setCell ⟨G,i,none⟩ u).setCell ⟨G,j,none⟩ v).setCell ⟨G,k,none⟩ x).drew:=
 (below_set (below_set (below_set h G i u hG) G j v hG) G k x hG).drew
theorem bel2 (w:World) (o1 o2:Obj):Below w.heap.size w ((w.alloc o1).alloc o2):=((Below.refl _ _).alloc (Nat.le_refl _) o1).alloc (by simp) o2
theorem bel3 (w:World) (o1 o2 o3:Obj):Below w.heap.size w (((w.alloc o1).alloc o2).alloc o3):=(bel2 w o1 o2).alloc (by simp;omega) _
theorem Acc.keep {w0 w:World} {B M:Nat} {v u:Value} (h:Acc w0 w B v) (hc:w0.cell? ⟨M,0,none⟩=some u) (hM:M≠B):w.cell? ⟨M,0,none⟩=some u:=by
 have hlt:M<w0.heap.size:=by
  by_cases hh:M<w0.heap.size
  ·exact hh
  ·simp [World.cell?,Array.getElem?_eq_none (show w0.heap.size≤M by omega)] at hc
 rw [← hc];exact World.cell?_of_block (w:=w0) (a:=⟨M,0,none⟩) (h.block M hlt hM)
theorem bel4 (w:World) (o1 o2 o3 o4:Obj):Below w.heap.size w ((((w.alloc o1).alloc o2).alloc o3).alloc o4):=(bel3 w o1 o2 o3).alloc (by simp;omega) _
theorem trio_d (w:World) (cs:Array Value) (m:Value) (T:TypeId) (x y z u:Value) (U:TypeId) :
  (((((w.alloc (.cells cs 131)).alloc (.cells #[m] T)).alloc (.cells #[x,y,z] 131)).alloc (.cells #[u] U)).cell? ⟨w.heap.size+1+1+1,0,none⟩=some u) ∧
  (((((w.alloc (.cells cs 131)).alloc (.cells #[m] T)).alloc (.cells #[x,y,z] 131)).alloc (.cells #[u] U)).frozen? ⟨w.heap.size+1+1+1,0,none⟩=false) ∧
  Trio ((((w.alloc (.cells cs 131)).alloc (.cells #[m] T)).alloc (.cells #[x,y,z] 131)).alloc (.cells #[u] U)) (w.heap.size+1+1) x y z ∧
  ((((w.alloc (.cells cs 131)).alloc (.cells #[m] T)).alloc (.cells #[x,y,z] 131)).alloc (.cells #[u] U)).cell? ⟨w.heap.size+1,0,none⟩=some m:=by
 have s1:w.heap.size+1=(w.heap.push (.cells cs 131)).size:=by simp
 have s2:w.heap.size+1+1=((w.heap.push (.cells cs 131)).push (.cells #[m] T)).size:=by simp
 have s3:w.heap.size+1+1+1=(((w.heap.push (.cells cs 131)).push (.cells #[m] T)).push (.cells #[x,y,z] 131)).size:=by simp
 have e:((((w.heap.push (.cells cs 131)).push (.cells #[m] T)).push (.cells #[x,y,z] 131)).push (.cells #[u] U))[w.heap.size+1+1+1]?=some (.cells #[u] U):=by
  rw [s3,Array.getElem?_push_size]
 have em:((((w.heap.push (.cells cs 131)).push (.cells #[m] T)).push (.cells #[x,y,z] 131)).push (.cells #[u] U))[w.heap.size+1]?=some (.cells #[m] T):=by
  rw [Array.getElem?_push,if_neg (by simp),Array.getElem?_push,if_neg (by simp),s1,Array.getElem?_push_size]
 refine ⟨?_,?_,?_,?_⟩
 ·simp only [World.cell?,World.alloc,e];rfl
 ·simp only [World.frozen?,World.alloc,e];rfl
 ·show ((((w.heap.push _).push _).push _).push _)[w.heap.size+1+1]?=_;rw [Array.getElem?_push,if_neg (by simp),s2,Array.getElem?_push_size]
 ·simp only [World.cell?,World.alloc,em];rfl
end words
end Go.Proofs.YtnpblpbohcegoaaGreatDoor
