import Derived.Test.YtnpblpbohcegoaaGreatDoorVVCut2
import Derived.Test.YtnpblpbohcegoaaGreatDoorVVCut3
import Derived.Test.YtnpblpbohcegoaaGreatDoorVVCut4
set_option linter.unusedVariables false
set_option linter.unusedSimpArgs false
set_option maxHeartbeats 4000000
set_option maxRecDepth 100000
namespace Go.Proofs.YtnpblpbohcegoaaGreatDoor
namespace check
open Go.RowKit
theorem len_eq (s:ByteArray):s.data.toList.length=s.size:=Array.length_toList
end check
namespace token
open words check
open Go.RowKit
structure Tok where
 c:Nat
 i:Nat
 a:Nat
 t:Nat
def okB (k:Tok):Bool:=decide (k.c≤3) && decide (1≤k.i) && decide (k.i≤1048575) && decide (k.t≤65535) &&
 (if k.c=0 then decide (1≤k.a) && decide (k.a≤2097151) else if k.c=2 then decide (1≤k.a) && decide (k.a≤15) else decide (k.a=0))
structure Tok.ok (k:Tok):Prop where
 c3:k.c≤3
 i1:1≤k.i
 i2:k.i≤1048575
 t2:k.t≤65535
 a2:k.a≤2097151
 a0:k.c=0→1≤k.a
 ac:k.c=2→1≤k.a∧k.a≤15
 az:k.c=1∨k.c=3→k.a=0
theorem okB_ok {k:Tok}:okB k=true↔k.ok:=by
 unfold okB;by_cases h0:k.c=0
 ·rw [if_pos h0];simp only [Bool.and_eq_true,decide_eq_true_eq];exact ⟨fun h=>⟨by omega,by omega,by omega,by omega,by omega,by omega,by omega,by omega⟩,fun h=>⟨⟨⟨⟨h.c3,h.i1⟩,h.i2⟩,h.t2⟩,h.a0 h0,h.a2⟩⟩
 ·rw [if_neg h0];by_cases h2:k.c=2
  ·rw [if_pos h2];simp only [Bool.and_eq_true,decide_eq_true_eq];exact ⟨fun h=>⟨by omega,by omega,by omega,by omega,by omega,by omega,by omega,by omega⟩,fun h=>⟨⟨⟨⟨h.c3,h.i1⟩,h.i2⟩,h.t2⟩,h.ac h2⟩⟩
  ·rw [if_neg h2];simp only [Bool.and_eq_true,decide_eq_true_eq];exact ⟨fun h=>⟨by omega,by omega,by omega,by omega,by omega,by omega,by omega,by omega⟩,fun h=>⟨⟨⟨⟨h.c3,h.i1⟩,h.i2⟩,h.t2⟩,h.az (by have:=h.c3;omega)⟩⟩
def Tok.num (k:Tok):Nat:=k.c*144115188075855872+k.i*137438953472+k.a*65536+k.t
def Tok.body (k:Tok):Nat:=k.c*2199023255552+k.i*2097152+k.a
def Tok.v (k:Tok):Value:= .agg #[zI (k.c:Int),zI (k.i:Int),zI (k.a:Int),zI (k.t:Int)]
theorem num_lt {k:Tok} (h:k.ok):k.num<576460752303423488:=by
 have:=h.c3;have:=h.i2;have:=h.t2;have:=h.a2;unfold Tok.num;omega
theorem num_bd {k:Tok} (h:k.ok):97*k.num<73786976294838206464:=by have:=num_lt h;omega
theorem body_num {k:Tok} (h:k.ok):k.num / 65536 % 8796093022208=k.body:=by
 have:=h.c3;have:=h.i2;have:=h.t2;have:=h.a2;unfold Tok.num Tok.body;omega
theorem body_bd {k:Tok} (h:k.ok):k.body≤8796093022207:=by
 have:=h.c3;have:=h.i2;have:=h.t2;have:=h.a2;unfold Tok.body;omega
def byt (z:Int):UInt8:=UInt8.ofNat z.toNat
def fmtL (V:Nat):List UInt8:=List.replicate (20 - (decL V).length) 48++(decL V).map byt
def fmtB (V:Nat):ByteArray:=⟨(fmtL V).toArray⟩
theorem fmtB_list (V:Nat):(fmtB V).data.toList=fmtL V:=by simp [fmtB]
theorem dec_len20 {V:Nat} (h:V<100000000000000000000):1≤(decL V).length∧(decL V).length≤20:=decL_len 19 V (by omega)
def bigV (a b c:Nat):Nat:=a+b*4294967296+c*18446744073709551616
theorem bigV_bit {a b c:Nat} (ha:a<2 ^ 32) (hb:b<2 ^ 32) (m:Nat):(bigV a b c).testBit m=bit3 a b c m:=by
 have e:bigV a b c=2 ^ 32*(2 ^ 32*c+b)+a:=by unfold bigV;omega
 rw [e,Nat.testBit_two_pow_mul_add _ ha,Nat.testBit_two_pow_mul_add _ hb];unfold bit3;by_cases h1:m<32
 ·rw [if_pos h1,if_pos h1]
 ·rw [if_neg h1,if_neg h1];by_cases h2:m<64
  ·rw [if_pos h2,if_pos (by omega)]
  ·rw [if_neg h2,if_neg (by omega)]
   congr 1
theorem bits_num {a b c lo n:Nat} (ha:a<2 ^ 32) (hb:b<2 ^ 32) (hc:c<2 ^ 32) (hn:n≤64):bitsN a b c lo n=bigV a b c / 2 ^ lo % 2 ^ n:=by
 apply Nat.eq_of_testBit_eq;intro j;rw [bits_bit ha hb hc hn,Nat.testBit_mod_two_pow,Nat.testBit_div_two_pow,bigV_bit ha hb,Nat.add_comm]
theorem bigV_top {a b c:Nat} (ha:a<2 ^ 32) (hb:b<2 ^ 32) (hc:c<2 ^ 32):bigV a b c<2 ^ 96:=by
 unfold bigV;omega
theorem put_num {a b c v lo n:Nat} (ha:a<2 ^ 32) (hb:b<2 ^ 32) (hc:c<2 ^ 32) (hv:v<2 ^ n) (hn:n≤64) (hl:lo+n≤96) (h0:bigV a b c / 2 ^ lo % 2 ^ n=0) :
  bigV (putN a v n lo) (putN b v n ((lo:Int) - 32)) (putN c v n ((lo:Int) - 64))=bigV a b c+v*2 ^ lo:=by
 have pa:=put_lt a v n lo ha;have pb:=put_lt b v n ((lo:Int) - 32) hb;have pc:=put_lt c v n ((lo:Int) - 64) hc
 have hbit:∀ m,m<96→(bigV (putN a v n lo) (putN b v n ((lo:Int) - 32)) (putN c v n ((lo:Int) - 64))).testBit m=if lo≤m∧m<lo+n then v.testBit (m - lo) else (bigV a b c).testBit m:=fun m hm=>by
  rw [bigV_bit pa pb,put_bits hv m hm,bigV_bit ha hb]
 have hfv:bigV (putN a v n lo) (putN b v n ((lo:Int) - 32)) (putN c v n ((lo:Int) - 64)) / 2 ^ lo % 2 ^ n=v:=by
  rw [← bits_num pa pb pc hn,bits_put ha hb hc hv hn hl]
 have hVt:=bigV_top ha hb hc;have hWt:=bigV_top pa pb pc;generalize bigV (putN a v n lo) (putN b v n ((lo:Int) - 32)) (putN c v n ((lo:Int) - 64))=W at *;generalize bigV a b c=V at *
 have hlow:W % 2 ^ lo=V % 2 ^ lo:=by
  apply Nat.eq_of_testBit_eq;intro j;rw [Nat.testBit_mod_two_pow,Nat.testBit_mod_two_pow];by_cases hj:j<lo
  ·rw [hbit j (by omega),if_neg (by omega)]
  ·rw [decide_eq_false hj,Bool.false_and,Bool.false_and]
 have hhigh:W / 2 ^ lo / 2 ^ n=V / 2 ^ lo / 2 ^ n:=by
  rw [Nat.div_div_eq_div_mul,Nat.div_div_eq_div_mul,← Nat.pow_add];apply Nat.eq_of_testBit_eq;intro j;rw [Nat.testBit_div_two_pow,Nat.testBit_div_two_pow];by_cases hj:lo+n+j<96
  ·rw [Nat.add_comm j,hbit _ hj,if_neg (by omega)]
  ·rw [bit_hi hVt (by omega),bit_hi hWt (by omega)]
 have eV:=Nat.div_add_mod V (2 ^ lo);have eW:=Nat.div_add_mod W (2 ^ lo);have eV2:=Nat.div_add_mod (V / 2 ^ lo) (2 ^ n);have eW2:=Nat.div_add_mod (W / 2 ^ lo) (2 ^ n);rw [hhigh,hfv] at eW2;rw [hlow] at eW;rw [h0] at eV2;generalize V / 2 ^ lo / 2 ^ n=H at *;generalize V % 2 ^ lo=L at *;rw [← eV2,Nat.mul_add] at eV;rw [← eW2,Nat.mul_add] at eW;rw [Nat.mul_comm v];generalize 2 ^ lo*(2 ^ n*H)=p at *;generalize 2 ^ lo*v=r at *;omega
end token
namespace rcp
structure Rc where
 me:Int
 id:Int
 te:Int
 de:Int
 fe:Int
 pr:Int
 ch:Int
 un:Int
 tk:List UInt8
def rc0:Rc:=⟨0,0,0,0,0,0,0,0,[]⟩
end rcp
namespace ora
open Go.RowKit
def PrAt (w:World) (b o:Nat) (p:Pr):Prop:=w.cell? ⟨b,o,none⟩=some (zI p.m)∧w.cell? ⟨b,o+1,none⟩=some (zI p.r)∧w.cell? ⟨b,o+2,none⟩=some (zI p.b)∧w.cell? ⟨b,o+3,none⟩=some (zI p.t)
theorem PrAt.below {w w':World} {b o:Nat} {p:Pr} (h:PrAt w b o p) (hb:Below w.heap.size w w'):PrAt w' b o p:=by
 have hl:b<w.heap.size:=World.block_lt_of_cell? w _ h.1;exact ⟨(hb.cell (p:=⟨b,o,none⟩) hl).trans h.1,(hb.cell (p:=⟨b,o+1,none⟩) hl).trans h.2.1,(hb.cell (p:=⟨b,o+2,none⟩) hl).trans h.2.2.1,(hb.cell (p:=⟨b,o+3,none⟩) hl).trans h.2.2.2⟩
def RowP (w:World) (a:Option Addr) (len:Nat) (ps:List Pr):Prop:=
 ps.length=len∧(len=0∨∃ b off,a=some ⟨b,off,none⟩∧∀ i,i<len→PrAt w b (off+i*4) (ps.getD i pr0))
theorem RowP.below {w w':World} {a:Option Addr} {n:Nat} {ps:List Pr} (h:RowP w a n ps) (hb:Below w.heap.size w w'):RowP w' a n ps:=by
 refine ⟨h.1,?_⟩;rcases h.2 with h0 | ⟨b,off,rfl,hc⟩
 ·exact .inl h0
 ·exact .inr ⟨b,off,rfl,fun i hi=>(hc i hi).below hb⟩
theorem RowP.nil (w:World) (a:Option Addr):RowP w a 0 []:=⟨rfl,.inl rfl⟩
theorem RowP.at {w:World} {a:Option Addr} {n:Nat} {ps:List Pr} (h:RowP w a n ps) (h0:0<n):∃ b off,a=some ⟨b,off,none⟩∧b<w.heap.size∧∀ i,i<n→PrAt w b (off+i*4) (ps.getD i pr0):=by
 rcases h.2 with h1 | ⟨b,off,rfl,hc⟩
 ·omega
 ·exact ⟨b,off,rfl,World.block_lt_of_cell? w _ (hc 0 h0).1,hc⟩
def cellsP:List Pr→List Value
 | []=>[]
 | p :: l=>zI p.m :: zI p.r :: zI p.b :: zI p.t :: cellsP l
theorem cellsP_len (l:List Pr):(cellsP l).length=l.length*4:=by
 induction l with
 | nil=>rfl
 | cons e l ih=>simp [cellsP,ih];omega
theorem cellsP_app (l m:List Pr):cellsP (l++m)=cellsP l++cellsP m:=by
 induction l with
 | nil=>rfl
 | cons e l ih=>simp [cellsP,ih]
theorem oneP (l:List Pr):∀ u∈cellsP l,u.oneCell'=true:=by
 induction l with
 | nil=>intro u hu;cases hu
 | cons e l ih=>
  intro u hu;simp only [cellsP,List.mem_cons] at hu;rcases hu with rfl | rfl | rfl | rfl | hu
  ·rfl
  ·rfl
  ·rfl
  ·rfl
  ·exact ih u hu
theorem cellsP_at (l:List Pr) (k:Nat) (hk:k<l.length):(cellsP l)[k*4]?=some (zI (l.getD k pr0).m)∧(cellsP l)[k*4+1]?=some (zI (l.getD k pr0).r)∧(cellsP l)[k*4+2]?=some (zI (l.getD k pr0).b)∧(cellsP l)[k*4+3]?=some (zI (l.getD k pr0).t):=by
 induction l generalizing k with
 | nil=>simp at hk
 | cons x l ih=>
  cases k with
  | zero=>exact ⟨rfl,rfl,rfl,rfl⟩
  | succ k=>
   rw [show (k+1)*4=k*4+1+1+1+1 by omega];have:=ih k (by simpa using hk);simpa [cellsP] using this
theorem cellsP_get {w:World} {b off len:Nat} {ps:List Pr} (hz:ps.length=len) (hc:∀ i,i<len→PrAt w b (off+i*4) (ps.getD i pr0)) (j:Nat) (u:Value) (hu:(cellsP ps)[j]?=some u):w.cell? ⟨b,off+j,none⟩=some u:=by
 have hj:j<(cellsP ps).length:=by
  by_cases h:j<(cellsP ps).length
  ·exact h
  ·rw [List.getElem?_eq_none (by omega)] at hu;cases hu
 rw [cellsP_len] at hj;have h1:=cellsP_at ps (j / 4) (by omega);have h2:=hc (j / 4) (by omega);have e:j % 4=0∨j % 4=1∨j % 4=2∨j % 4=3:=by omega
 unfold PrAt at h2;rcases e with e | e | e | e
 ·have e2:j / 4*4=j:=by omega
  rw [e2] at h1 h2;rw [h1.1] at hu;rw [h2.1];exact hu
 ·have e2:j / 4*4+1=j:=by omega
  rw [Nat.add_assoc off,e2] at h2;rw [e2] at h1;rw [h1.2.1] at hu;rw [h2.2.1];exact hu
 ·have e2:j / 4*4+2=j:=by omega
  rw [Nat.add_assoc off (j / 4*4) 2,e2] at h2;rw [e2] at h1;rw [h1.2.2.1] at hu;rw [h2.2.2.1];exact hu
 ·have e2:j / 4*4+3=j:=by omega
  rw [Nat.add_assoc off (j / 4*4) 3,e2] at h2;rw [e2] at h1;rw [h1.2.2.2] at hu;rw [h2.2.2.2];exact hu
def Pw (w:World) (base:Nat) (v:Value) (l:List Pr):Prop:=w.ownsRow base 279 4 v l.length (cellsP l)
theorem Pw.zero (w:World) (base:Nat):Pw w base (zS) []:=World.ownsRow_nil _ _ _ _
theorem Pw.alloc {w:World} {base:Nat} {v:Value} {l:List Pr} (h:Pw w base v l) (o:Obj):Pw (w.alloc o) base v l:=World.ownsRow.alloc h o
theorem Pw.low {w:World} {base base':Nat} {v:Value} {l:List Pr} (h:Pw w base v l) (hb:base'≤base):Pw w base' v l:=by
 refine ⟨h.1,?_⟩;rcases h.2 with hn | ⟨g,cap,cur,hv,hg,rest⟩
 ·exact .inl hn
 ·exact .inr ⟨g,cap,cur,hv,by omega,rest⟩
theorem Pw.put {w:World} {base:Nat} {v:Value} {l:List Pr} (h:Pw w base v l) (G i:Nat) (u:Value) (hG:G<base):Pw (w.setCell ⟨G,i,none⟩ u) base v l:=by
 refine ⟨h.1,?_⟩;rcases h.2 with hn | ⟨g,cap,cur,hv,hg,hc,rest⟩
 ·exact .inl hn
 ·exact .inr ⟨g,cap,cur,hv,hg,Blk.other hc i u (by omega),rest⟩
theorem Pw.row {w:World} {base:Nat} {v:Value} {l:List Pr} (h:Pw w base v l):∃ a cap,v = .slice a l.length cap∧RowP w a l.length l∧(a=none→cap=0)∧l.length≤cap:=by
 rcases h.2 with ⟨hv,hn⟩ | ⟨g,cap,cur,hv,_,_,h1,_⟩
 ·exact ⟨none,0,by rw [hn];exact hv,⟨rfl,.inl hn⟩,fun _=>rfl,by omega⟩
 ·subst hv;refine ⟨_,cap,rfl,⟨rfl,.inr ⟨g,0,rfl,fun i hi=>?_⟩⟩,(fun h=>by cases h),h1⟩;have e1:=World.ownsRow.cellAt h (i*4) (by omega);have e2:=World.ownsRow.cellAt h (i*4+1) (by omega);have e3:=World.ownsRow.cellAt h (i*4+2) (by omega);have e4:=World.ownsRow.cellAt h (i*4+3) (by omega);unfold PrAt;rw [Nat.zero_add,e1,e2,e3,e4];exact cellsP_at l i hi
theorem pown_far {w:World} {base n k:Nat} {t:TypeId} {v:Value} {l:List Value} (h:w.ownsRow base t n v k l) {G:Nat} (hG:G<base):some G≠v.ownBlock:=by
 intro e;have:=(World.ownsRow.lt h G e.symm).1;omega
theorem pown_bel {w0 w w':World} {base B n k:Nat} {t:TypeId} {v:Value} {l:List Value} (h:w.ownsRow base t n v k l) (hg:w.grownBy w' v.ownBlock) (hb:Below B w0 w) (hB:B≤base) (hw:B≤w.heap.size):Below B w0 w':=by
 refine ⟨hg.os.trans hb.os,hg.tape.trans hb.tape,hg.output.trans hb.output,Nat.le_trans hb.size hg.size,fun k hk=>?_⟩;rw [← hb.block k hk];exact hg.block k (by omega) (pown_far h (by omega))
theorem palloc_le {w:World} {B:Nat} (h:B≤w.heap.size) (o:Obj):B≤(w.alloc o).heap.size:=by simp;omega
theorem pr_cell (w:World) (m r b t:Int):PrAt (w.alloc (.cells #[zI m,zI r,zI b,zI t] 279)) w.heap.size 0 ⟨m,r,b,t⟩:=
 ⟨(Blk.new w _ _).cell 0,(Blk.new w _ _).cell 1,(Blk.new w _ _).cell 2,(Blk.new w _ _).cell 3⟩
theorem info_pr:(Tryz.prog.info? 279).map (fun i=>(i.zero,i.size,i.bytes))=some (some (.agg #[zI 0,zI 0,zI 0,zI 0]),4,32):=by kernel_rfl
end ora
namespace cell
open Go.RowKit
theorem may_yes (n:Int) (w:World) (h1:1≤n) (h2:n≤2048) :
  Calls Tryz.prog 46 #[zI n] w fun e w'=>e = .returned (.bool true)∧w'=w:=by
 go_enter Tryz.func46,Tryz.ntmps46;go_wp2;go_ret;exact ⟨rfl,rfl⟩
end cell
namespace disk
open Go.RowKit
structure Sli where
 a:Option Addr
 n:Nat
 c:Nat
def Sli.v (s:Sli):Value:= .slice s.a s.n s.c
def sl0:Sli:=⟨none,0,0⟩
def cellsR (l:List Sli):List Value:=l.map Sli.v
theorem oneR (l:List Sli):∀ u∈cellsR l,u.oneCell'=true:=fun u hu=>by
 obtain ⟨s,_,rfl⟩:=List.mem_map.1 hu;rfl
def Lr (T:TypeId) (w:World) (base:Nat) (v:Value) (l:List Sli):Prop:=w.ownsRow base T 1 v l.length (cellsR l)
theorem Lr.zero (T:TypeId) (w:World) (base:Nat):Lr T w base (zS) []:=World.ownsRow_nil _ _ _ _
theorem Lr.next {T:TypeId} {w w':World} {base:Nat} {v:Value} {l:List Sli} (h:Lr T w base v l) (hb:Below w.heap.size w w'):Lr T w' base v l:=by
 refine ⟨h.1,?_⟩;rcases h.2 with hn | ⟨g,cap,cur,hv,hg,hc,rest⟩
 ·exact .inl hn
 ·exact .inr ⟨g,cap,cur,hv,hg,Blk.next hc hb,rest⟩
theorem Lr.row {T:TypeId} {w:World} {base:Nat} {v:Value} {l:List Sli} (h:Lr T w base v l) (h0:0<l.length):∃ g cap,v = .slice (some ⟨g,0,none⟩) l.length cap∧base≤g∧g<w.heap.size∧l.length≤cap∧∀ i,i<l.length→w.cell? ⟨g,i,none⟩=some (l.getD i sl0).v:=by
 rcases h.2 with ⟨hv,hn⟩ | ⟨g,cap,cur,hv,hg,hc,h1,_⟩
 ·omega
 ·subst hv;refine ⟨g,cap,rfl,hg,Blk.lt hc,h1,fun i hi=>?_⟩;have e1:=World.ownsRow.cellAt h i (by omega);rw [e1];simp [cellsR,List.getD,hi]
theorem Lr.len {T:TypeId} {w:World} {base:Nat} {v:Value} {l:List Sli} (h:Lr T w base v l):∃ a cap,v = .slice a l.length cap:=by
 rcases h.2 with ⟨hv,hn⟩ | ⟨g,cap,cur,hv,_⟩
 ·exact ⟨none,0,by rw [hn];exact hv⟩
 ·exact ⟨_,cap,hv⟩
structure SliT (P:Program) (T S:TypeId):Prop where
 info:(P.info? T).map (fun i=>(i.zero,i.size,i.bytes))=some (some (sl0.v),1,24)
 under:P.underlying S=some (.slice T)
def Recs (w:World) (own:Option Nat) (l:List Sli) (zs:List (List Int)):Prop:=l.length=zs.length∧∀ i,i<l.length→(∃ b off,(l.getD i sl0).a=some ⟨b,off,none⟩∧b<w.heap.size∧some b≠own)∧cell.RowU w (l.getD i sl0).a (l.getD i sl0).n (zs.getD i [])
theorem Recs.nil (w:World) (own:Option Nat):Recs w own [] []:=⟨rfl,fun i hi=>by cases hi⟩
theorem Recs.below {w w':World} {own:Option Nat} {l:List Sli} {zs:List (List Int)} (h:Recs w own l zs) (hb:Below w.heap.size w w'):Recs w' own l zs:=⟨h.1,fun i hi=>by
 obtain ⟨⟨b,off,h1,h2,h3⟩,h4⟩:=h.2 i hi
 exact ⟨⟨b,off,h1,Nat.lt_of_lt_of_le h2 hb.size,h3⟩,h4.below hb⟩⟩
theorem Recs.snoc {w:World} {own:Option Nat} {l:List Sli} {zs:List (List Int)} (h:Recs w own l zs) {s:Sli} {z:List Int} (hs:(∃ b off,s.a=some ⟨b,off,none⟩∧b<w.heap.size∧some b≠own)∧cell.RowU w s.a s.n z):Recs w own (l++[s]) (zs++[z]):=by
 refine ⟨by rw [List.length_append,List.length_append,h.1];rfl,fun i hi=>?_⟩;by_cases h1:i<l.length
 ·have e1:(l++[s]).getD i sl0=l.getD i sl0:=by simp [List.getD,List.getElem?_append_left h1]
  have e2:(zs++[z]).getD i []=zs.getD i []:=by simp [List.getD,List.getElem?_append_left (show i<zs.length from h.1 ▸ h1)]
  rw [e1,e2];exact h.2 i h1
 ·have hi':i=l.length:=by simp at hi;omega
  have e1:(l++[s]).getD i sl0=s:=by rw [hi'];simp [List.getD]
  have e2:(zs++[z]).getD i []=z:=by rw [hi',h.1];simp [List.getD]
  rw [e1,e2];exact hs
theorem Recs.grown {w w':World} {own own':Option Nat} {l:List Sli} {zs:List (List Int)} (h:Recs w own l zs) (hg:w.grownBy w' own) (ho:own'=own∨own'=some w.heap.size):Recs w' own' l zs:=⟨h.1,fun i hi=>by
 obtain ⟨⟨b,off,h1,h2,h3⟩,h4⟩:=h.2 i hi;have hb:=hg.block b h2 h3;refine ⟨⟨b,off,h1,Nat.lt_of_lt_of_le h2 hg.size,?_⟩,h4.1,?_⟩
 ·rcases ho with rfl | rfl
  ·exact h3
  ·intro e;have:=Option.some.inj e;omega
 ·rcases h4.2 with h0 | ⟨b',off',e,hc⟩
  ·exact .inl h0
  ·rw [h1] at e;have e1:=Option.some.inj e;have e2:b=b':=congrArg Addr.block e1;subst e2;refine .inr ⟨b,off',by rw [h1,e1],fun i hi=>?_⟩;rw [← hc i hi]
   simp [World.cell?,hb]⟩
end disk
section
open Go.RowKit
theorem wp_letS {P:Program} {ops:Array Oper} {rest:List Oper} {o:Oper} {a:Act} {w:World} {Q:Exit→Act→World→Prop} (hgd:o.guard=none) (ty:TypeId) (x y:Operand) (ho:o.op = .store ty x y)
  (g off:Nat) (hx:a.eval x = .pointer (some ⟨g,off,none⟩)) (p:Option Addr) (n c:Nat) (hy:a.eval y = .slice p n c) (hi:(P.info? ty).map (·.size)=some 1)
  (cs:Array Value) (t:TypeId) (hB:Blk w g cs t) (hin:off<cs.size)
  (h:∀ W,Upd w W g (cs.setIfInBounds off (.slice p n c)) t→wpList P ops Q rest (a.put o.dst undef) W):wpList P ops Q (o :: rest) a w:=
 wp_let hgd ty x y ho g off hx _ hy #[.slice p n c] rfl hi (by simp [Value.oneCell']) cs t hB (by simp;omega) _ rfl h
end
namespace deb
open tar (Du du0 Came RowD Ld ErrPost TwoPost PairT)
open Go.RowKit
theorem debtT:PairT Tryz.prog 70 49:=⟨by kernel_rfl,Tryz.underlying49⟩
end deb
namespace disk
open Go.RowKit cell
theorem sliT:SliT Tryz.prog 25 104:=⟨by kernel_rfl,Tryz.underlying104⟩
def Reads (w:World) (a:Option Addr) (n:Nat) (zs:List (List Int)):Prop:=
 zs.length=n∧(n=0∨∃ b off,a=some ⟨b,off,none⟩∧b<w.heap.size∧∀ i,i<n→∃ s:Sli,w.cell? ⟨b,off+i,none⟩=some s.v∧RowU w s.a s.n (zs.getD i [])∧s.n≤100000)
def ReadsF (w:World) (base:Nat) (a:Option Addr) (n:Nat) (zs:List (List Int)):Prop:=
 zs.length=n∧(n=0∨∃ b off,a=some ⟨b,off,none⟩∧base≤b∧b<w.heap.size∧∀ i,i<n→∃ s:Sli,w.cell? ⟨b,off+i,none⟩=some s.v∧RowU w s.a s.n (zs.getD i [])∧(s.n≤100000∧s.n≤s.c∧(s.a=none→s.c=0))∧∀ x,s.a=some x→base≤x.block)
theorem ReadsF.reads {w:World} {base:Nat} {a:Option Addr} {n:Nat} {zs:List (List Int)} (h:ReadsF w base a n zs):Reads w a n zs:=by
 refine ⟨h.1,?_⟩;rcases h.2 with h0 | ⟨b,off,rfl,_,lb,hc⟩
 ·exact .inl h0
 ·exact .inr ⟨b,off,rfl,lb,fun i hi=>by obtain ⟨s,h1,h2,h3,_⟩:=hc i hi;exact ⟨s,h1,h2,h3.1⟩⟩
def RepNew (w:World) (c:List Int) (e:Ending) (w':World):Prop:=
 ∃ a n cap out x f,e = .returned (.tuple #[.slice a n cap,zI x,zI f])∧ReadsF w' w.heap.size a n out∧n≤100000∧RepIs c out x f∧Below w.heap.size w w'
def AppGot (w:World) (c r:List Int) (e:Ending) (w':World):Prop:=
 ∃ a n cap ls f,e = .returned (.tuple #[.slice a n cap,zI f])∧RowW w' a n ls∧(∀ x,a=some x→w.heap.size≤x.block)∧n≤cap∧n≤100000∧AppIs c r ls f∧Below w.heap.size w w'
end disk
namespace deb
open tar (Du du0 Came RowD Ld ErrPost TwoPost PairT)
open Go.RowKit
theorem pcheck (a:Option Addr) (n cap:Nat) (ls:List Du) (w:World) (hr:RowD w a n ls) (hn:n≤maxLen):Calls Tryz.prog 199 #[.slice a n cap] w fun e w'=>∃ f,e = .returned (zI f)∧FaultIs ls f∧Below w.heap.size w w':=by
 have hlen:=hr.1;have HIU:Hid (∀ x W,Calls Tryz.prog 202 #[zI 0,zI 1000000000,zI x] W fun e w'=>e = .returned (.bool (decide (0≤x∧x≤1000000000)))∧w'=W):=fun x W=>dwithin 0 1000000000 x W;have HIP:Hid (∀ x W,Calls Tryz.prog 202 #[zI 0,zI 10000,zI x] W fun e w'=>e = .returned (.bool (decide (0≤x∧x≤10000)))∧w'=W):=fun x W=>dwithin 0 10000 x W;have hnm:n≤9223372036854775807:=by unfold maxLen at hn;omega
 by_cases hs:n≤8
 ·have HS:Hid (ls.length≤8):=by show _≤_;rw [hlen];exact hs
  have hd8:decide (8<(n:Int))=false:=decide_eq_false (by omega);have HROW:Hid (RowD w a n ls):=hr;have HLEN:Hid (ls.length=n):=hlen;clear hr hn hlen;go_enter Tryz.func199,Tryz.ntmps199;go_wp2_with fail;go_loopw [10] (fun x wr=>∃ k:Nat,k≤n∧x=zI (k:Int)∧(∀ i,i<k→Ok1 (ls.getD i du0))∧Below w.heap.size w wr) (fun x _=>n - (intOf x).toNat)
  case atStart=>exact ⟨0,Nat.zero_le _,rfl,fun i hi=>absurd hi (Nat.not_lt_zero _),Below.refl _ _⟩
  case round=>
   obtain ⟨k,hk,rfl,hf,hb⟩:=hrel;have HF:Hid (∀ i,i<k→Ok1 (ls.getD i du0)):=hf;have HB:Hid (Below w.heap.size w wr):=hb;clear hf;by_cases hlt:k<n
   ·have hdl:decide ((k:Int)<(n:Int))=true:=by simp;omega
    obtain ⟨b,off,rfl,hbl,hc⟩:=HROW.o.at (by omega);have c0:wr.cell? ⟨b,off+k*2,none⟩=some (zI (ls.getD k du0).a):=(hb.cell (p:=⟨b,off+k*2,none⟩) hbl).trans (hc k hlt).1;have c1:wr.cell? ⟨b,off+k*2+1,none⟩=some (zI (ls.getD k du0).b):=(hb.cell (p:=⟨b,off+k*2+1,none⟩) hbl).trans (hc k hlt).2;have HBA:Hid (∀ o,Below w.heap.size w (wr.alloc o)):=fun o=>hb.alloc hb.size o;clear hb hc;have HU:=HIU.o (ls.getD k du0).a;have HP:=HIP.o (ls.getD k du0).b;by_cases hu:0≤(ls.getD k du0).a∧(ls.getD k du0).a≤1000000000
    ·rw [decide_eq_true hu] at HU;by_cases hp:0≤(ls.getD k du0).b∧(ls.getD k du0).b≤10000
     ·
      rw [decide_eq_true hp] at HP
      have HF2:Hid (∀ i,i<k+1→Ok1 (ls.getD i du0)):=fun i hi=>by
       by_cases e:i=k
       ·subst e;exact ⟨hu,hp⟩
       ·exact HF.o i (by omega)
      have HU2:Hid (∀ W,Calls Tryz.prog 202 #[zI 0,zI 1000000000,zI (ls.getD k du0).a] W fun e w'=>e = .returned (.bool true)∧w'=W):=HU;have HP2:Hid (∀ W,Calls Tryz.prog 202 #[zI 0,zI 10000,zI (ls.getD k du0).b] W fun e w'=>e = .returned (.bool true)∧w'=W):=HP;clear HU HP hu hp HF;generalize (ls.getD k du0).a=x at *;generalize (ls.getD k du0).b=y at *;go_wp2_with fail;refine (HU2.o _).mono ?_;rintro e w2 ⟨rfl,hw2⟩;subst w2;go_wp2_with fail;refine (HP2.o _).mono ?_;rintro e w2 ⟨rfl,hw2⟩;subst w2;go_wp2_with fail;go_roundw
      case rel=>exact ⟨k+1,by omega,by go_num,HF2.o,HBA.o _⟩
      case measure=>simp [intOf];omega
     ·
      rw [decide_eq_false hp] at HP;have HN:Hid (¬ DFits ls):=fun h=>hp (h k (by rw [HLEN.o];exact hlt)).2;have HU2:Hid (∀ W,Calls Tryz.prog 202 #[zI 0,zI 1000000000,zI (ls.getD k du0).a] W fun e w'=>e = .returned (.bool true)∧w'=W):=HU;have HP2:Hid (∀ W,Calls Tryz.prog 202 #[zI 0,zI 10000,zI (ls.getD k du0).b] W fun e w'=>e = .returned (.bool false)∧w'=W):=HP;clear HU HP hu hp HF;generalize (ls.getD k du0).a=x at *;generalize (ls.getD k du0).b=y at *;go_wp2_with fail;refine (HU2.o _).mono ?_;rintro e w2 ⟨rfl,hw2⟩;subst w2;go_wp2_with fail;refine (HP2.o _).mono ?_;rintro e w2 ⟨rfl,hw2⟩;subst w2;go_wp2_with fail;go_ret;exact ⟨_,rfl,.inr (.inl ⟨HS.o,HN.o,rfl⟩),HBA.o _⟩
    ·
     rw [decide_eq_false hu] at HU;have HN:Hid (¬ DFits ls):=fun h=>hu (h k (by rw [HLEN.o];exact hlt)).1;have HU2:Hid (∀ W,Calls Tryz.prog 202 #[zI 0,zI 1000000000,zI (ls.getD k du0).a] W fun e w'=>e = .returned (.bool false)∧w'=W):=HU;clear HU HP hu HF;generalize (ls.getD k du0).a=x at *;generalize (ls.getD k du0).b=y at *;go_wp2_with fail;refine (HU2.o _).mono ?_;rintro e w2 ⟨rfl,hw2⟩;subst w2;go_wp2_with fail;go_ret;exact ⟨_,rfl,.inr (.inl ⟨HS.o,HN.o,rfl⟩),HBA.o _⟩
   ·obtain rfl:k=n:=by omega
    have hdl:decide ((k:Int)<(k:Int))=false:=by simp
    have HFT:Hid (DFits ls):=fun i hi=>HF.o i (by rw [HLEN.o] at hi;exact hi);clear HF HIU HIP hb;go_wp2_with fail;go_ret;exact ⟨_,rfl,.inr (.inr ⟨⟨HS.o,HFT.o⟩,rfl⟩),HB.o⟩
 ·have HS:Hid (¬ ls.length≤8):=by show ¬ _≤_;rw [hlen];exact hs
  have hd8:decide (8<(n:Int))=true:=decide_eq_true (by omega);clear hs hr hlen hn;go_enter Tryz.func199,Tryz.ntmps199;go_wp2_with fail;go_ret;exact ⟨_,rfl,.inl ⟨HS.o,rfl⟩,Below.refl _ _⟩
def mixK (l:List Du) (m k:Nat):List Du:=ageAll (l.take k) m++l.drop k
theorem mix_all (l:List Du) (m k:Nat) (h:l.length=k):mixK l m k=ageAll l m:=by
 subst h;unfold mixK;rw [List.take_length,List.drop_length,List.append_nil]
theorem mix_len (l:List Du) (m k:Nat) (hk:k≤l.length):(mixK l m k).length=l.length:=by
 unfold mixK;rw [List.length_append,ageAll_len,List.length_take,List.length_drop];omega
theorem drop_one (l:List Du) (k:Nat) (hk:k<l.length):l.drop k=l.getD k du0 :: l.drop (k+1):=by
 rw [List.drop_eq_getElem_cons hk];simp [List.getD,List.getElem?_eq_getElem hk]
theorem mix_at (l:List Du) (m k:Nat) (hk:k<l.length):(mixK l m k).getD k du0=l.getD k du0:=by
 unfold mixK;have e:(ageAll (l.take k) m).length=k:=by rw [ageAll_len,List.length_take];omega
 rw [drop_one l k hk,List.getD,List.getElem?_append_right (by omega),e,Nat.sub_self];simp
theorem mix_set (l:List Du) (m k:Nat) (hk:k<l.length) (d:Du):(mixK l m k).set k d=ageAll (l.take k) m++d :: l.drop (k+1):=by
 unfold mixK;have e:(ageAll (l.take k) m).length=k:=by rw [ageAll_len,List.length_take];omega
 rw [drop_one l k hk,List.set_append_right _ _ (by omega),e,Nat.sub_self,List.set_cons_zero]
theorem mix_next (l:List Du) (m k:Nat) (hk:k<l.length):(mixK l m k).set k ⟨growN (l.getD k du0).b m (l.getD k du0).a,(l.getD k du0).b⟩=mixK l m (k+1):=by
 rw [mix_set l m k hk];unfold mixK;rw [ageAll_take l m k hk];simp
theorem mix_same (l:List Du) (m k:Nat) (hk:k<l.length):(mixK l m k).set k ⟨growN (l.getD k du0).b 0 (l.getD k du0).a,(l.getD k du0).b⟩=mixK l m k:=by
 rw [mix_set l m k hk];show ageAll (l.take k) m++l.getD k du0 :: l.drop (k+1)=mixK l m k;unfold mixK;rw [drop_one l k hk]
theorem cells_set (l:List Du) (k:Nat) (hk:k<l.length) (x b:Int) (hb:(l.getD k du0).b=b):tar.cellsD (l.set k ⟨x,b⟩)=(tar.cellsD l).set (k*2) (zI x):=by
 induction l generalizing k with
 | nil=>simp at hk
 | cons d l ih=>
  cases k with
  | zero=>
   have e:d.b=b:=by simpa using hb
   subst e;rfl
  | succ k=>
   rw [show (k+1)*2=k*2+1+1 by omega];have h1:k<l.length:=by simpa using hk
   have h2:=ih k h1 (by simpa using hb);show tar.cellsD (d :: l.set k ⟨x,b⟩)=_;simp only [tar.cellsD,List.set_cons_succ,h2]
theorem ld_put {T:TypeId} {w W:World} {base g n cap:Nat} {l:List Du} {cur:Array Value} (h:Ld T w base (.slice (some ⟨g,0,none⟩) n cap) l) (hB:Blk w g cur T) (k:Nat) (hk:k<l.length) (x b:Int) (hb:(l.getD k du0).b=b) (hU:Upd w W g (cur.setIfInBounds (k*2) (zI x)) T):Ld T W base (.slice (some ⟨g,0,none⟩) n cap) (l.set k ⟨x,b⟩):=by
 unfold Ld at *;rw [List.length_set,cells_set l k hk x b hb];refine ⟨by rw [List.length_set];exact h.1,?_⟩;rcases h.2 with ⟨h',_⟩ | ⟨g',cap',cur',hv,hg,hc,hn,hm,hz,ht⟩
 ·cases h'
 ·simp only [Value.slice.injEq,Option.some.injEq,Addr.mk.injEq,and_true] at hv;obtain ⟨rfl,rfl,rfl⟩:=hv
  have e:cur'=cur:=by
   have h1:w.heap[g]?=some (.cells cur T (0,0)):=hB;rw [h1] at hc;injection hc with hc
   injection hc with hc
   exact hc.symm
  subst e;exact .inr ⟨g,cap,_,rfl,hg,hU.blk,hn,hm,by simpa using hz,by rw [Array.toList_setIfInBounds,← ht,List.take_set]⟩
theorem ld_lies {T:TypeId} {w:World} {base n cap:Nat} {a:Option Addr} {l:List Du} (h:Ld T w base (.slice a n cap) l) (hn:0<n):∃ g cur,a=some ⟨g,0,none⟩∧base≤g∧Blk w g cur T∧n*2≤cur.size∧(∀ k,k<l.length→w.cell? ⟨g,k*2,none⟩=some (zI (l.getD k du0).a)∧w.cell? ⟨g,k*2+1,none⟩=some (zI (l.getD k du0).b)):=by
 rcases h.2 with ⟨h',h0⟩ | ⟨g,cap',cur,hv,hg,hc,hle,hm,hz,ht⟩
 ·simp only [Value.slice.injEq] at h';omega
 ·simp only [Value.slice.injEq] at hv;obtain ⟨rfl,rfl,rfl⟩:=hv;refine ⟨g,cur,rfl,hg,hc,by omega,fun k hk=>?_⟩;have e1:=World.ownsRow.cellAt h (k*2) (by omega);have e2:=World.ownsRow.cellAt h (k*2+1) (by omega);rw [e1,e2];exact tar.cellsD_at l k hk
def KdRec:Prop:=∀ (W:World) (a:Option Addr) (len cap:Nat) (ls:List Du) (t bp:Int),Came W a len cap ls→(Lit.int .i64 t).wf=true→(Lit.int .i64 bp).wf=true→Calls Tryz.prog 164 #[.slice a len cap,zI t,zI bp] W fun e w'=>RecPost W ls t bp e w'
end deb
end Go.Proofs.YtnpblpbohcegoaaGreatDoor
