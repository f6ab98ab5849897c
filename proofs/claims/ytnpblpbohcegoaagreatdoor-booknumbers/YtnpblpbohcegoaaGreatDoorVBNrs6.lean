import Derived.Test.YtnpblpbohcegoaaGreatDoorVBNrs1
import Derived.Test.YtnpblpbohcegoaaGreatDoorVBNrs3
set_option linter.unusedVariables false
set_option linter.unusedSimpArgs false
set_option maxHeartbeats 4000000
set_option maxRecDepth 100000
namespace Go.Proofs.YtnpblpbohcegoaaGreatDoor
namespace tar
open Go.RowKit
def RowD (w:World) (a:Option Addr) (len:Nat) (ls:List Du):Prop:=
 ls.length=len∧(len=0∨∃ b off,a=some ⟨b,off,none⟩∧∀ i,i<len→w.cell? ⟨b,off+i*2,none⟩=some (zI (ls.getD i du0).a)∧w.cell? ⟨b,off+i*2+1,none⟩=some (zI (ls.getD i du0).b))
theorem RowD.below {w w':World} {a:Option Addr} {n:Nat} {zs:List Du} (h:RowD w a n zs) (hb:Below w.heap.size w w'):RowD w' a n zs:=by
 refine ⟨h.1,?_⟩;rcases h.2 with h0 | ⟨b,off,rfl,hc⟩
 ·exact .inl h0
 ·refine .inr ⟨b,off,rfl,fun i hi=>?_⟩;have h1:=hc i hi;rw [hb.cell (p:=⟨b,off+i*2,none⟩) (World.block_lt_of_cell? w _ h1.1),hb.cell (p:=⟨b,off+i*2+1,none⟩) (World.block_lt_of_cell? w _ h1.2)];exact h1
theorem RowD.nil (w:World) (a:Option Addr):RowD w a 0 []:=⟨rfl,.inl rfl⟩
theorem RowD.at {w:World} {a:Option Addr} {n:Nat} {zs:List Du} (h:RowD w a n zs) (h0:0<n):∃ b off,a=some ⟨b,off,none⟩∧b<w.heap.size∧∀ i,i<n→w.cell? ⟨b,off+i*2,none⟩=some (zI (zs.getD i du0).a)∧w.cell? ⟨b,off+i*2+1,none⟩=some (zI (zs.getD i du0).b):=by
 rcases h.2 with h1 | ⟨b,off,rfl,hc⟩
 ·omega
 ·exact ⟨b,off,rfl,World.block_lt_of_cell? w _ (hc 0 h0).1,hc⟩
theorem rowD_of {w:World} {a:Addr} {m len:Nat} (hl:len≤m)
  (h:∀ j,j<m→∃ z0 z1,w.cell? (a.add (j*2))=some (zI z0)∧w.cell? (a.add (j*2+1))=some (zI z1)∧(Lit.int .i64 z0).wf=true∧(Lit.int .i64 z1).wf=true) :
  ∃ zs:List Du,RowD w (some a) len zs∧∀ x∈zs,(Lit.int .i64 x.a).wf=true∧(Lit.int .i64 x.b).wf=true:=by
 have h':∀ j,∃ e:Du,j<m→w.cell? (a.add (j*2))=some (zI e.a)∧w.cell? (a.add (j*2+1))=some (zI e.b)∧(Lit.int .i64 e.a).wf=true∧(Lit.int .i64 e.b).wf=true:=fun j=>by
  by_cases hj:j<m
  ·obtain ⟨z0,z1,hz⟩:=h j hj;exact ⟨⟨z0,z1⟩,fun _=>hz⟩
  ·exact ⟨du0,fun hh=>absurd hh hj⟩
 obtain ⟨f,hf⟩:∃ f:Nat→Du,∀ j,j<m→w.cell? (a.add (j*2))=some (zI (f j).a)∧w.cell? (a.add (j*2+1))=some (zI (f j).b)∧(Lit.int .i64 (f j).a).wf=true∧(Lit.int .i64 (f j).b).wf=true:=⟨fun j=>Classical.choose (h' j),fun j hj=>Classical.choose_spec (h' j) hj⟩
 clear h' h;refine ⟨(List.range len).map f,⟨by simp,?_⟩,fun x hx=>?_⟩
 ·by_cases h0:len=0
  ·exact .inl h0
  ·obtain ⟨b,off,spot⟩:=a;have hs:spot=none:=by simpa [Addr.add] using World.cell?_spot (hf 0 (by omega)).1
   subst hs;refine .inr ⟨b,off,rfl,fun i hi=>?_⟩;have h1:=hf i (by omega);rw [Addr.add_lit,Addr.add_lit,← Nat.add_assoc] at h1;have e:((List.range len).map f).getD i du0=f i:=by simp [List.getD,hi]
   rw [e];exact ⟨h1.1,h1.2.1⟩
 ·obtain ⟨j,hj,rfl⟩:=List.mem_map.1 hx;exact (hf j (by have:=List.mem_range.1 hj;omega)).2.2
def cellsD:List Du→List Value
 | []=>[]
 | e :: l=>zI e.a :: zI e.b :: cellsD l
theorem cellsD_len (l:List Du):(cellsD l).length=l.length*2:=by
 induction l with
 | nil=>rfl
 | cons e l ih=>simp [cellsD,ih];omega
theorem cellsD_app (l m:List Du):cellsD (l++m)=cellsD l++cellsD m:=by
 induction l with
 | nil=>rfl
 | cons e l ih=>simp [cellsD,ih]
theorem oneD (l:List Du):∀ u∈cellsD l,u.oneCell'=true:=by
 induction l with
 | nil=>intro u hu;cases hu
 | cons e l ih=>
  intro u hu;simp only [cellsD,List.mem_cons] at hu;rcases hu with rfl | rfl | hu
  ·rfl
  ·rfl
  ·exact ih u hu
theorem cellsD_at (l:List Du) (k:Nat) (hk:k<l.length):(cellsD l)[k*2]?=some (zI (l.getD k du0).a)∧(cellsD l)[k*2+1]?=some (zI (l.getD k du0).b):=by
 induction l generalizing k with
 | nil=>simp at hk
 | cons x l ih=>
  cases k with
  | zero=>exact ⟨rfl,rfl⟩
  | succ k=>
   rw [show (k+1)*2=k*2+1+1 by omega];have:=ih k (by simpa using hk);simpa [cellsD] using this
theorem cellsD_get {w:World} {b off len:Nat} {zs:List Du} (hz:zs.length=len) (hc:∀ i,i<len→w.cell? ⟨b,off+i*2,none⟩=some (zI (zs.getD i du0).a)∧w.cell? ⟨b,off+i*2+1,none⟩=some (zI (zs.getD i du0).b)) (j:Nat) (u:Value) (hu:(cellsD zs)[j]?=some u):w.cell? ⟨b,off+j,none⟩=some u:=by
 have hj:j<(cellsD zs).length:=by
  by_cases h:j<(cellsD zs).length
  ·exact h
  ·rw [List.getElem?_eq_none (by omega)] at hu;cases hu
 rw [cellsD_len] at hj;have h1:=cellsD_at zs (j / 2) (by omega);have h2:=hc (j / 2) (by omega);rcases Nat.mod_two_eq_zero_or_one j with e | e
 ·have e2:j / 2*2=j:=by omega
  rw [e2] at h1 h2;rw [h1.1] at hu;rw [h2.1];exact hu
 ·have e2:j / 2*2+1=j:=by omega
  rw [Nat.add_assoc,e2] at h2;rw [e2] at h1;rw [h1.2] at hu;rw [h2.2];exact hu
def Ld (T:TypeId) (w:World) (base:Nat) (v:Value) (l:List Du):Prop:=w.ownsRow base T 2 v l.length (cellsD l)
theorem Ld.zero (T:TypeId) (w:World) (base:Nat):Ld T w base (zS) []:=World.ownsRow_nil _ _ _ _
theorem Ld.alloc {T:TypeId} {w:World} {base:Nat} {v:Value} {l:List Du} (h:Ld T w base v l) (o:Obj):Ld T (w.alloc o) base v l:=World.ownsRow.alloc h o
theorem Ld.next {T:TypeId} {w w':World} {base:Nat} {v:Value} {l:List Du} (h:Ld T w base v l) (hb:Below w.heap.size w w'):Ld T w' base v l:=by
 refine ⟨h.1,?_⟩;rcases h.2 with hn | ⟨g,cap,cur,hv,hg,hc,rest⟩
 ·exact .inl hn
 ·exact .inr ⟨g,cap,cur,hv,hg,Blk.next hc hb,rest⟩
theorem Ld.row {T:TypeId} {w:World} {base:Nat} {v:Value} {l:List Du} (h:Ld T w base v l):∃ a cap,v = .slice a l.length cap∧RowD w a l.length l∧(a=none→cap=0)∧l.length≤cap∧(∀ x,a=some x→x.off=0∧x.spot=none):=by
 rcases h.2 with ⟨hv,hn⟩ | ⟨g,cap,cur,hv,_,_,h1,_⟩
 ·exact ⟨none,0,by rw [hn];exact hv,⟨rfl,.inl hn⟩,fun _=>rfl,by omega,fun x h=>by cases h⟩
 ·subst hv;refine ⟨_,cap,rfl,⟨rfl,.inr ⟨g,0,rfl,fun i hi=>?_⟩⟩,(fun h=>by cases h),h1,fun x h=>by cases h;exact ⟨rfl,rfl⟩⟩;have e1:=World.ownsRow.cellAt h (i*2) (by omega);have e2:=World.ownsRow.cellAt h (i*2+1) (by omega);rw [Nat.zero_add,e1,e2];exact cellsD_at l i hi
theorem own_far {w:World} {base n k:Nat} {t:TypeId} {v:Value} {l:List Value} (h:w.ownsRow base t n v k l) {G:Nat} (hG:G<base):some G≠v.ownBlock:=by
 intro e;have:=(World.ownsRow.lt h G e.symm).1;omega
theorem own_bel {w0 w w':World} {base B n k:Nat} {t:TypeId} {v:Value} {l:List Value} (h:w.ownsRow base t n v k l) (hg:w.grownBy w' v.ownBlock) (hb:Below B w0 w) (hB:B≤base) (hw:B≤w.heap.size):Below B w0 w':=by
 refine ⟨hg.os.trans hb.os,hg.tape.trans hb.tape,hg.output.trans hb.output,Nat.le_trans hb.size hg.size,fun k hk=>?_⟩;rw [← hb.block k hk];exact hg.block k (by omega) (own_far h (by omega))
theorem bel_drewN {B:Nat} {w w':World} (h:Below B w w') (n:Nat):Below B w (w'.drewN n):=⟨h.os,h.tape,h.output,h.size,h.block⟩
structure PairT (P:Program) (T S:TypeId):Prop where
 info:(P.info? T).map (fun i=>(i.zero,i.size,i.bytes))=some (some (.agg #[zI 0,zI 0]),2,16)
 under:P.underlying S=some (.slice T)
theorem wp_pair {P:Program} {T S:TypeId} (hP:PairT P T S) {w:World} {ops:Array Oper} {rest:List Oper} {o:Oper} {a:Act} {Q:Exit→Act→World→Prop} (hgd:o.guard=none) (s x:Operand)
  (ho:o.op = .call { callee:= .builtin .append,args:=#[s,x],argTypes:=#[S,S] })
  (base G:Nat) (v:Value) (l:List Du) (r:Du) (hs:a.eval s=v) (hx:a.eval x = .slice (some ⟨G,0,none⟩) 1 1) (hv:Ld T w base v l) (hu:w.cell? ⟨G,0,none⟩=some (zI r.a)∧w.cell? ⟨G,1,none⟩=some (zI r.b)) (hn:l.length≤1000000) (hbase:base≤w.heap.size)
  (h:∀ v' w',Ld T w' base v' (l++[r])→w.grownBy w' v.ownBlock→wpList P ops Q rest (a.put o.dst v') w'):wpList P ops Q (o :: rest) a w:=by
 obtain ⟨i0,hi,hz0,hz1,hz2⟩:=info_parts hP.info;refine wpList_append_own w hgd s x S ho base T i0 (.agg #[zI 0,zI 0]) 2 16 hP.under hi hz0 hz1 hz2 rfl (by decide) v l.length (cellsD l) hs hv ⟨G,0,none⟩ 1 1 (cellsD [r]) hx rfl ?_ (oneD [r]) (by unfold maxLen;omega) (by omega) hbase ?_
 ·intro j u hj
  match j,hj with
  | 0,hj=>simp [cellsD] at hj;subst hj;simpa [Addr.add] using hu.1
  | 1,hj=>simp [cellsD] at hj;subst hj;simpa [Addr.add] using hu.2
  | j+2,hj=>simp [cellsD] at hj
 intro v' w' h1 h2 _;refine h v' w' ?_ h2;unfold Ld;rw [List.length_append,cellsD_app];exact h1
theorem step_pair {P:Program} {T S:TypeId} (hP:PairT P T S) {w:World} {ops:Array Oper} {o:Oper} {a:Act} {K:Act→World→Prop} {Q:Exit→Act→World→Prop} {E:Prop} (hgd:o.guard=none) (s x:Operand)
  (ho:o.op = .call { callee:= .builtin .append,args:=#[s,x],argTypes:=#[S,S] })
  (base G:Nat) (v:Value) (l:List Du) (r:Du) (hs:a.eval s=v) (hx:a.eval x = .slice (some ⟨G,0,none⟩) 1 1) (hv:Ld T w base v l) (hu:w.cell? ⟨G,0,none⟩=some (zI r.a)∧w.cell? ⟨G,1,none⟩=some (zI r.b)) (hn:l.length≤1000000) (hbase:base≤w.heap.size)
  (h:∀ v' w',Ld T w' base v' (l++[r])→w.grownBy w' v.ownBlock→K (a.put o.dst v') w'):if Region.wanted o (yielded ops a.tmps)=true then Oper.wp P o a w K Q else E:=by
 have hw:Region.wanted o (yielded ops a.tmps)=true:=by simp [Region.wanted,hgd]
 rw [if_pos hw];obtain ⟨i0,hi,hz0,hz1,hz2⟩:=info_parts hP.info
 obtain ⟨v',w',hr,h2,h3,_⟩:=run_append_own (P:=P) w base S o.type T i0 (.agg #[zI 0,zI 0]) 2 16 hP.under hi hz0 hz1 hz2 rfl (by decide) v l.length (cellsD l) hv ⟨G,0,none⟩ 1 1 (cellsD [r]) rfl (by
  intro j u hj
  match j,hj with
  | 0,hj=>simp [cellsD] at hj;subst hj;simpa [Addr.add] using hu.1
  | 1,hj=>simp [cellsD] at hj;subst hj;simpa [Addr.add] using hu.2
  | j+2,hj=>simp [cellsD] at hj) (oneD [r]) (by unfold maxLen;omega) (by omega) hbase
 unfold Oper.wp execOp;simp only [ho,resolve,invoke,builtin,Sem.run_bind,Sem.run_pure,Result.andThen_ok,List.map_toArray,List.map_cons,List.map_nil,hs,hx,hr];refine h v' w' ?_ h3;unfold Ld;rw [List.length_append,cellsD_app];exact h2
theorem wp_pairs {P:Program} {T S:TypeId} (hP:PairT P T S) {w:World} {ops:Array Oper} {rest:List Oper} {o:Oper} {a:Act} {Q:Exit→Act→World→Prop} (hgd:o.guard=none) (s x:Operand)
  (ho:o.op = .call { callee:= .builtin .append,args:=#[s,x],argTypes:=#[S,S] })
  (base:Nat) (A:Addr) (len cap:Nat) (zs:List Du) (hs:a.eval s=zS) (hx:a.eval x = .slice (some A) len cap) (hr:RowD w (some A) len zs) (hl:len*16≤140737488351232) (hbase:base≤w.heap.size)
  (h:∀ v' w',Ld T w' base v' zs→w.grownBy w' none→wpList P ops Q rest (a.put o.dst v') w'):wpList P ops Q (o :: rest) a w:=by
 obtain ⟨i0,hi,hz0,hz1,hz2⟩:=info_parts hP.info;obtain ⟨hz,hr⟩:=hr;refine wpList_append_own w hgd s x S ho base T i0 (.agg #[zI 0,zI 0]) 2 16 hP.under hi hz0 hz1 hz2 rfl (by decide) _ _ _ hs (World.ownsRow_nil _ _ _ _) A len cap (cellsD zs) hx ?_ ?_ (oneD zs) (by unfold maxLen;omega) (by omega) hbase ?_
 ·rw [cellsD_len,hz]
 ·intro j u hu;rcases hr with h | ⟨b,off,h,hc⟩
  ·rw [List.getElem?_eq_none (by rw [cellsD_len];omega)] at hu;cases hu
  ·obtain rfl:=Option.some.inj h;rw [Addr.add_lit];exact cellsD_get hz hc j u hu
 ·intro v' w' h1 h2 _;refine h v' w' ?_ (by simpa [Value.ownBlock] using h2);show w'.ownsRow _ _ _ _ _ _;rw [hz];simpa using h1
end tar
namespace words
def sh (v:Nat) (k:Int):Nat:=if k<0 then v / 2 ^ (-k).toNat else v*2 ^ k.toNat % 2 ^ 64
def onesN (n:Nat):Nat:=2 ^ n - 1
theorem sh_bit (v:Nat) (k:Int) (j:Nat) (hj:j<64):(sh v k).testBit j=(decide (k≤j) && v.testBit ((j:Int) - k).toNat):=by
 unfold sh;by_cases h:k<0
 ·rw [if_pos h,Nat.testBit_div_two_pow];have h1:k≤(j:Int):=by omega
  rw [decide_eq_true h1,Bool.true_and]
  congr 1;omega
 ·rw [if_neg h,Nat.testBit_mod_two_pow,Nat.testBit_mul_two_pow];rw [decide_eq_true hj,Bool.true_and];by_cases h1:k≤(j:Int)
  ·rw [decide_eq_true h1,decide_eq_true (show k.toNat≤j by omega)]
   congr 2;omega
  ·rw [decide_eq_false h1,decide_eq_false (show ¬ k.toNat≤j by omega)];simp
theorem ones_bit (n j:Nat):(onesN n).testBit j=decide (j<n):=Nat.testBit_two_pow_sub_one ..
theorem bit_hi {x j k:Nat} (h:x<2 ^ k) (hj:k≤j):x.testBit j=false:=Nat.testBit_lt_two_pow (Nat.lt_of_lt_of_le h (Nat.pow_le_pow_right (by decide) hj))
def bit3 (a b c:Nat) (m:Nat):Bool:=if m<32 then a.testBit m else if m<64 then b.testBit (m - 32) else c.testBit (m - 64)
def bitsN (a b c lo n:Nat):Nat:=(sh a (0 - lo) ||| sh b (32 - lo) ||| sh c (64 - lo)) &&& onesN n
theorem bits_bit {a b c lo n:Nat} (ha:a<2 ^ 32) (hb:b<2 ^ 32) (_hc:c<2 ^ 32) (hn:n≤64) (j:Nat):(bitsN a b c lo n).testBit j=(decide (j<n) && bit3 a b c (j+lo)):=by
 unfold bitsN;rw [Nat.testBit_and,ones_bit];by_cases hj:j<n
 ·rw [decide_eq_true hj,Bool.and_true,Bool.true_and,Nat.testBit_or,Nat.testBit_or,sh_bit _ _ _ (by omega),sh_bit _ _ _ (by omega),sh_bit _ _ _ (by omega)];unfold bit3;rw [decide_eq_true (show (0:Int) - (lo:Int)≤(j:Int) by omega),Bool.true_and];have e0:((j:Int) - (0 - (lo:Int))).toNat=j+lo:=by omega
  have e1:((j:Int) - (32 - (lo:Int))).toNat=j+lo - 32:=by omega
  have e2:((j:Int) - (64 - (lo:Int))).toNat=j+lo - 64:=by omega
  rw [e0,e1,e2];by_cases h1:j+lo<32
  ·rw [if_pos h1,decide_eq_false (show ¬ (32:Int) - (lo:Int)≤(j:Int) by omega),decide_eq_false (show ¬ (64:Int) - (lo:Int)≤(j:Int) by omega)];simp
  ·rw [if_neg h1,decide_eq_true (show (32:Int) - (lo:Int)≤(j:Int) by omega),bit_hi ha (by omega)];by_cases h2:j+lo<64
   ·rw [if_pos h2,decide_eq_false (show ¬ (64:Int) - (lo:Int)≤(j:Int) by omega)];simp
   ·rw [if_neg h2,decide_eq_true (show (64:Int) - (lo:Int)≤(j:Int) by omega),bit_hi hb (by omega)];simp
 ·rw [decide_eq_false hj];simp
def putN (x v n:Nat) (k:Int):Nat:=(x &&& (2 ^ 32 - 1 - sh (onesN n) k % 2 ^ 32)) ||| (sh v k % 2 ^ 32)
theorem put_bit (x v n:Nat) (k:Int) (j:Nat) (hj:j<32):(putN x v n k).testBit j=(x.testBit j && !(decide (k≤j) && decide ((j:Int) - k<n)) || (decide (k≤j) && v.testBit ((j:Int) - k).toNat)):=by
 unfold putN;have e:2 ^ 32 - 1 - sh (onesN n) k % 2 ^ 32=2 ^ 32 - (sh (onesN n) k % 2 ^ 32+1):=by omega
 rw [Nat.testBit_or,Nat.testBit_and,e,Nat.testBit_two_pow_sub_succ (Nat.mod_lt _ (by decide)),Nat.testBit_mod_two_pow,Nat.testBit_mod_two_pow,decide_eq_true hj,Bool.true_and,Bool.true_and,Bool.true_and,sh_bit _ _ _ (by omega),sh_bit _ _ _ (by omega),ones_bit];by_cases h1:k≤(j:Int)
 ·have e2:decide (((j:Int) - k).toNat<n)=decide ((j:Int) - k<n):=by
   rw [decide_eq_decide];omega
  rw [e2]
 ·rw [decide_eq_false h1];simp
theorem put_lt (x v n:Nat) (k:Int) (hx:x<2 ^ 32):putN x v n k<2 ^ 32:=by
 unfold putN;have hy:sh v k % 2 ^ 32<2 ^ 32:=Nat.mod_lt _ (by decide);exact Nat.or_lt_two_pow (Nat.lt_of_le_of_lt Nat.and_le_left hx) hy
theorem put_bits {a b c v lo n:Nat} (hv:v<2 ^ n) (m:Nat) (hm:m<96) :
  bit3 (putN a v n lo) (putN b v n ((lo:Int) - 32)) (putN c v n ((lo:Int) - 64)) m=if lo≤m∧m<lo+n then v.testBit (m - lo) else bit3 a b c m:=by
 have key:∀ (x:Nat) (j:Nat) (k:Int),j<32→k+(m:Int)=lo+j→(putN x v n k).testBit j=if lo≤m∧m<lo+n then v.testBit (m - lo) else x.testBit j:=by
  intro x j k hj hk;rw [put_bit _ _ _ _ _ hj];by_cases h1:k≤(j:Int)
  ·have e1:((j:Int) - k).toNat=m - lo:=by omega
   rw [decide_eq_true h1,e1];by_cases h2:(j:Int) - k<n
   ·rw [decide_eq_true h2,if_pos (by omega)];simp
   ·rw [decide_eq_false h2,if_neg (by omega),bit_hi hv (by omega)];simp
  ·rw [decide_eq_false h1,if_neg (by omega)];simp
 unfold bit3;by_cases h1:m<32
 ·rw [if_pos h1,if_pos h1];exact key a m lo h1 (by omega)
 ·rw [if_neg h1,if_neg h1];by_cases h2:m<64
  ·rw [if_pos h2,if_pos h2];exact key b (m - 32) _ (by omega) (by omega)
  ·rw [if_neg h2,if_neg h2];exact key c (m - 64) _ (by omega) (by omega)
theorem bits_put {a b c v lo n:Nat} (ha:a<2 ^ 32) (hb:b<2 ^ 32) (hc:c<2 ^ 32) (hv:v<2 ^ n) (hn:n≤64) (hl:lo+n≤96) :
  bitsN (putN a v n lo) (putN b v n ((lo:Int) - 32)) (putN c v n ((lo:Int) - 64)) lo n=v:=by
 apply Nat.eq_of_testBit_eq;intro j;rw [bits_bit (put_lt _ _ _ _ ha) (put_lt _ _ _ _ hb) (put_lt _ _ _ _ hc) hn];by_cases hj:j<n
 ·rw [decide_eq_true hj,Bool.true_and,put_bits hv _ (by omega),if_pos (by omega)]
  congr 1;omega
 ·rw [decide_eq_false hj,Bool.false_and,bit_hi hv (by omega)]
end words
namespace cell
open Go.RowKit
def RowW (w:World) (a:Option Addr) (len:Nat) (ls:List Wr):Prop:=
 ls.length=len∧(len=0∨∃ b off,a=some ⟨b,off,none⟩∧∀ i,i<len→w.cell? ⟨b,off+i*2,none⟩=some (zI (ls.getD i wr0).p)∧w.cell? ⟨b,off+i*2+1,none⟩=some (.int .u32 (ls.getD i wr0).d))
theorem RowW.below {w w':World} {a:Option Addr} {n:Nat} {zs:List Wr} (h:RowW w a n zs) (hb:Below w.heap.size w w'):RowW w' a n zs:=by
 refine ⟨h.1,?_⟩;rcases h.2 with h0 | ⟨b,off,rfl,hc⟩
 ·exact .inl h0
 ·refine .inr ⟨b,off,rfl,fun i hi=>?_⟩;have h1:=hc i hi;rw [hb.cell (p:=⟨b,off+i*2,none⟩) (World.block_lt_of_cell? w _ h1.1),hb.cell (p:=⟨b,off+i*2+1,none⟩) (World.block_lt_of_cell? w _ h1.2)];exact h1
theorem RowW.nil (w:World) (a:Option Addr):RowW w a 0 []:=⟨rfl,.inl rfl⟩
theorem RowW.cut {w:World} {a:Option Addr} {n k:Nat} {zs:List Wr} (h:RowW w a n zs) (hk:k≤n):RowW w a k (zs.take k):=by
 refine ⟨by rw [List.length_take,h.1];omega,?_⟩;rcases h.2 with h0 | ⟨b,off,rfl,hc⟩
 ·exact .inl (by omega)
 ·refine .inr ⟨b,off,rfl,fun i hi=>?_⟩;have e:(zs.take k).getD i wr0=zs.getD i wr0:=by simp [List.getD,hi]
  rw [e];exact hc i (by omega)
theorem RowW.at {w:World} {a:Option Addr} {n:Nat} {zs:List Wr} (h:RowW w a n zs) (h0:0<n):∃ b off,a=some ⟨b,off,none⟩∧b<w.heap.size∧∀ i,i<n→w.cell? ⟨b,off+i*2,none⟩=some (zI (zs.getD i wr0).p)∧w.cell? ⟨b,off+i*2+1,none⟩=some (.int .u32 (zs.getD i wr0).d):=by
 rcases h.2 with h1 | ⟨b,off,rfl,hc⟩
 ·omega
 ·exact ⟨b,off,rfl,World.block_lt_of_cell? w _ (hc 0 h0).1,hc⟩
def cellsW:List Wr→List Value
 | []=>[]
 | e :: l=>zI e.p :: .int .u32 e.d :: cellsW l
theorem cellsW_app (l m:List Wr):cellsW (l++m)=cellsW l++cellsW m:=by
 induction l with
 | nil=>rfl
 | cons e l ih=>simp [cellsW,ih]
theorem oneW (l:List Wr):∀ u∈cellsW l,u.oneCell'=true:=by
 induction l with
 | nil=>intro u hu;cases hu
 | cons e l ih=>
  intro u hu;simp only [cellsW,List.mem_cons] at hu;rcases hu with rfl | rfl | hu
  ·rfl
  ·rfl
  ·exact ih u hu
theorem cellsW_at (l:List Wr) (k:Nat) (hk:k<l.length):(cellsW l)[k*2]?=some (zI (l.getD k wr0).p)∧(cellsW l)[k*2+1]?=some (.int .u32 (l.getD k wr0).d):=by
 induction l generalizing k with
 | nil=>simp at hk
 | cons x l ih=>
  cases k with
  | zero=>exact ⟨rfl,rfl⟩
  | succ k=>
   rw [show (k+1)*2=k*2+1+1 by omega];have:=ih k (by simpa using hk);simpa [cellsW] using this
def Lw (w:World) (base:Nat) (v:Value) (l:List Wr):Prop:=w.ownsRow base 122 2 v l.length (cellsW l)
theorem Lw.alloc {w:World} {base:Nat} {v:Value} {l:List Wr} (h:Lw w base v l) (o:Obj):Lw (w.alloc o) base v l:=World.ownsRow.alloc h o
theorem Lw.row {w:World} {base:Nat} {v:Value} {l:List Wr} (h:Lw w base v l):∃ a cap,v = .slice a l.length cap∧RowW w a l.length l∧(a=none→cap=0)∧l.length≤cap∧(∀ x,a=some x→x.off=0∧x.spot=none):=by
 rcases h.2 with ⟨hv,hn⟩ | ⟨g,cap,cur,hv,_,_,h1,_⟩
 ·exact ⟨none,0,by rw [hn];exact hv,⟨rfl,.inl hn⟩,fun _=>rfl,by omega,fun x h=>by cases h⟩
 ·subst hv;refine ⟨_,cap,rfl,⟨rfl,.inr ⟨g,0,rfl,fun i hi=>?_⟩⟩,(fun h=>by cases h),h1,fun x h=>by cases h;exact ⟨rfl,rfl⟩⟩;have e1:=World.ownsRow.cellAt h (i*2) (by omega);have e2:=World.ownsRow.cellAt h (i*2+1) (by omega);rw [Nat.zero_add,e1,e2];exact cellsW_at l i hi
theorem info_wr:(Tryz.prog.info? 122).map (fun i=>(i.zero,i.size,i.bytes))=some (some (.agg #[zI 0,.int .u32 0]),2,16):=by kernel_rfl
theorem wp_write {w:World} {ops:Array Oper} {rest:List Oper} {o:Oper} {a:Act} {Q:Exit→Act→World→Prop} (hgd:o.guard=none) (s x:Operand)
  (ho:o.op = .call { callee:= .builtin .append,args:=#[s,x],argTypes:=#[76,76] })
  (base G:Nat) (v:Value) (l:List Wr) (r:Wr) (hs:a.eval s=v) (hx:a.eval x = .slice (some ⟨G,0,none⟩) 1 1) (hv:Lw w base v l) (hu:w.cell? ⟨G,0,none⟩=some (zI r.p)∧w.cell? ⟨G,1,none⟩=some (.int .u32 r.d)) (hn:l.length≤1000000) (hbase:base≤w.heap.size)
  (h:∀ v' w',Lw w' base v' (l++[r])→w.grownBy w' v.ownBlock→wpList Tryz.prog ops Q rest (a.put o.dst v') w'):wpList Tryz.prog ops Q (o :: rest) a w:=by
 obtain ⟨i0,hi,hz0,hz1,hz2⟩:=info_parts info_wr;refine wpList_append_own w hgd s x 76 ho base 122 i0 (.agg #[zI 0,.int .u32 0]) 2 16 Tryz.underlying76 hi hz0 hz1 hz2 rfl (by decide) v l.length (cellsW l) hs hv ⟨G,0,none⟩ 1 1 (cellsW [r]) hx rfl ?_ (oneW [r]) (by unfold maxLen;omega) (by omega) hbase ?_
 ·intro j u hj
  match j,hj with
  | 0,hj=>simp [cellsW] at hj;subst hj;simpa [Addr.add] using hu.1
  | 1,hj=>simp [cellsW] at hj;subst hj;simpa [Addr.add] using hu.2
  | j+2,hj=>simp [cellsW] at hj
 intro v' w' h1 h2 _;refine h v' w' ?_ h2;unfold Lw;rw [List.length_append,cellsW_app];exact h1
end cell
end Go.Proofs.YtnpblpbohcegoaaGreatDoor
