import Derived.Test.YtdpfnedfakgolaaGreatDoorVVPer8
import Derived.Test.YtdpfnedfakgolaaGreatDoorVVPer12
set_option linter.unusedVariables false
set_option linter.unusedSimpArgs false
set_option maxHeartbeats 4000000
set_option maxRecDepth 100000
namespace Go.Proofs.YtdpfnedfakgolaaGreatDoor
namespace token
open words check
open Go.RowKit
structure Tok where
 c:Nat
 i:Nat
 a:Nat
 t:Nat
def okB (k:Tok):Bool:=decide (k.c≤3) && decide (1≤k.i) && decide (k.i≤1048575) && decide (k.t≤65535) &&
 (if k.c=0 then decide (1≤k.a) && decide (k.a≤2097151) else if k.c=2 then decide (1≤k.a) && decide (k.a≤15) else decide (k.a=0))
structure Tok.ok (k:Tok):Prop where
 c3:k.c≤3
 i1:1≤k.i
 i2:k.i≤1048575
 t2:k.t≤65535
 a2:k.a≤2097151
 a0:k.c=0→1≤k.a
 ac:k.c=2→1≤k.a∧k.a≤15
 az:k.c=1∨k.c=3→k.a=0
theorem okB_ok {k:Tok}:okB k=true↔k.ok:=by
 unfold okB;by_cases h0:k.c=0
 ·rw [if_pos h0];simp only [Bool.and_eq_true,decide_eq_true_eq];exact ⟨fun h=>⟨by omega,by omega,by omega,by omega,by omega,by omega,by omega,by omega⟩,fun h=>⟨⟨⟨⟨h.c3,h.i1⟩,h.i2⟩,h.t2⟩,h.a0 h0,h.a2⟩⟩
 ·rw [if_neg h0];by_cases h2:k.c=2
  ·rw [if_pos h2];simp only [Bool.and_eq_true,decide_eq_true_eq];exact ⟨fun h=>⟨by omega,by omega,by omega,by omega,by omega,by omega,by omega,by omega⟩,fun h=>⟨⟨⟨⟨h.c3,h.i1⟩,h.i2⟩,h.t2⟩,h.ac h2⟩⟩
  ·rw [if_neg h2];simp only [Bool.and_eq_true,decide_eq_true_eq];exact ⟨fun h=>⟨by omega,by omega,by omega,by omega,by omega,by omega,by omega,by omega⟩,fun h=>⟨⟨⟨⟨h.c3,h.i1⟩,h.i2⟩,h.t2⟩,h.az (by have:=h.c3;omega)⟩⟩
def Tok.num (k:Tok):Nat:=k.c*144115188075855872+k.i*137438953472+k.a*65536+k.t
def Tok.body (k:Tok):Nat:=k.c*2199023255552+k.i*2097152+k.a
def Tok.v (k:Tok):Value:= .agg #[zI (k.c:Int),zI (k.i:Int),zI (k.a:Int),zI (k.t:Int)]
def noTok:Value:= .agg #[zI 0,zI 0,zI 0,zI 0]
def tokOf (n:Nat):Tok:=⟨n / 144115188075855872 % 8,n / 137438953472 % 1048576,n / 65536 % 2097152,n % 65536⟩
theorem num_lt {k:Tok} (h:k.ok):k.num<576460752303423488:=by
 have:=h.c3;have:=h.i2;have:=h.t2;have:=h.a2;unfold Tok.num;omega
theorem num_bd {k:Tok} (h:k.ok):97*k.num<73786976294838206464:=by have:=num_lt h;omega
theorem tokOf_num {k:Tok} (h:k.ok):tokOf k.num=k:=by
 have:=h.c3;have:=h.i2;have:=h.t2;have:=h.a2;obtain ⟨c,i,a,t⟩:=k;simp only [tokOf,Tok.num,Tok.mk.injEq] at *;omega
theorem body_num {k:Tok} (h:k.ok):k.num / 65536 % 8796093022208=k.body:=by
 have:=h.c3;have:=h.i2;have:=h.t2;have:=h.a2;unfold Tok.num Tok.body;omega
theorem body_bd {k:Tok} (h:k.ok):k.body≤8796093022207:=by
 have:=h.c3;have:=h.i2;have:=h.t2;have:=h.a2;unfold Tok.body;omega
def dv (l:List UInt8):Nat:=l.foldl (fun n c=>n*10+(c.toNat - 48)) 0
theorem dv_snoc (l:List UInt8) (c:UInt8):dv (l++[c])=dv l*10+(c.toNat - 48):=by simp [dv,List.foldl_append]
theorem allD_snoc {l:List UInt8} {c:UInt8} (h:allD (l++[c])=true):allD l=true∧isD c=true:=by
 rw [allD_append,Bool.and_eq_true] at h;exact ⟨h.1,by simpa [allD] using h.2⟩
theorem dv_lt (l:List UInt8) (h:allD l=true):dv l<10 ^ l.length:=by
 induction l using list_snoc_ind with
 | h0=>decide
 | h1 l c ih=>
  have h2:=allD_snoc h;have h3:=ih h2.1;have h4:=isD_bd h2.2;rw [dv_snoc,List.length_append,List.length_singleton,Nat.pow_succ];omega
theorem dv_zeros (k:Nat) (l:List UInt8):dv (List.replicate k 48++l)=dv l:=by
 have h:(List.replicate k (48:UInt8)).foldl (fun n c=>n*10+(c.toNat - 48)) 0=0:=by
  induction k with
  | zero=>rfl
  | succ k ih=>rw [List.replicate_succ];exact ih
 unfold dv;rw [List.foldl_append,h]
def byt (z:Int):UInt8:=UInt8.ofNat z.toNat
theorem byt_val {z:Int} (h0:48≤z) (h1:z≤57):(byt z).toNat=z.toNat:=by
 unfold byt;simp only [UInt8.toNat_ofNat'];omega
theorem dv_dec (u:Nat):dv ((decL u).map byt)=u:=by
 induction u using Nat.strongRecOn with
 | _ u ih=>
  by_cases h:u<10
  ·rw [decL_one h];show 0*10+((byt (48+(u:Int))).toNat - 48)=u;rw [byt_val (by omega) (by omega)];omega
  ·rw [decL_more h,List.map_append];show dv (_++[byt (48+((u % 10:Nat):Int))])=u;rw [dv_snoc,ih (u / 10) (by omega),byt_val (by omega) (by omega)];omega
theorem allD_dec (u:Nat):allD ((decL u).map byt)=true:=by
 unfold allD;rw [List.all_eq_true];intro c hc;obtain ⟨z,hz,rfl⟩:=List.mem_map.1 hc;have:=decL_dig u z hz;exact isD_yes (by rw [byt_val this.1 this.2];omega) (by rw [byt_val this.1 this.2];omega)
def fmtL (V:Nat):List UInt8:=List.replicate (20 - (decL V).length) 48++(decL V).map byt
def fmtB (V:Nat):ByteArray:=⟨(fmtL V).toArray⟩
theorem fmtB_list (V:Nat):(fmtB V).data.toList=fmtL V:=by simp [fmtB]
theorem dec_len20 {V:Nat} (h:V<100000000000000000000):1≤(decL V).length∧(decL V).length≤20:=decL_len 19 V (by omega)
theorem fmt_len {V:Nat} (h:V<100000000000000000000):(fmtL V).length=20:=by
 have:=dec_len20 h;unfold fmtL;simp;omega
theorem fmt_D (V:Nat):allD (fmtL V)=true:=by
 unfold fmtL;rw [allD_append,allD_dec,Bool.and_true];unfold allD;rw [List.all_eq_true];intro c hc;rw [List.eq_of_mem_replicate hc];rfl
theorem fmt_dv (V:Nat):dv (fmtL V)=V:=by unfold fmtL;rw [dv_zeros,dv_dec]
def parseE (l:List UInt8):Int:=
 if l.length≠20 then 6 else if allD l=false then 7 else if 73786976294838206464≤dv l then 2 else if dv l % 97≠0 then 8 else if okB (tokOf (dv l / 97)) then 0 else 2
def parseV (l:List UInt8):Value:=if parseE l=0 then (tokOf (dv l / 97)).v else noTok
theorem parse_len {l:List UInt8} (h:l.length≠20):parseE l=6∧parseV l=noTok:=by
 have e:parseE l=6:=by unfold parseE;rw [if_pos h]
 exact ⟨e,by unfold parseV;rw [e];rfl⟩
theorem parse_dig {l:List UInt8} (h:l.length=20) (h1:allD l=false):parseE l=7∧parseV l=noTok:=by
 have e:parseE l=7:=by unfold parseE;rw [if_neg (by omega),if_pos h1]
 exact ⟨e,by unfold parseV;rw [e];rfl⟩
theorem parse_big {l:List UInt8} (h:l.length=20) (h1:allD l=true) (h2:73786976294838206464≤dv l):parseE l=2∧parseV l=noTok:=by
 have e:parseE l=2:=by unfold parseE;rw [if_neg (by omega),if_neg (by simp [h1]),if_pos h2]
 exact ⟨e,by unfold parseV;rw [e];rfl⟩
theorem parse_chk {l:List UInt8} (h:l.length=20) (h1:allD l=true) (h2:dv l<73786976294838206464) (h3:dv l % 97≠0):parseE l=8∧parseV l=noTok:=by
 have e:parseE l=8:=by unfold parseE;rw [if_neg (by omega),if_neg (by simp [h1]),if_neg (by omega),if_pos h3]
 exact ⟨e,by unfold parseV;rw [e];rfl⟩
theorem parse_no {l:List UInt8} (h:l.length=20) (h1:allD l=true) (h2:dv l<73786976294838206464) (h3:dv l % 97=0) (h4:okB (tokOf (dv l / 97))=false):parseE l=2∧parseV l=noTok:=by
 have e:parseE l=2:=by unfold parseE;rw [if_neg (by omega),if_neg (by simp [h1]),if_neg (by omega),if_neg (by omega),if_neg (by simp [h4])]
 exact ⟨e,by unfold parseV;rw [e];rfl⟩
theorem parse_ok {l:List UInt8} (h:l.length=20) (h1:allD l=true) (h2:dv l<73786976294838206464) (h3:dv l % 97=0) (h4:okB (tokOf (dv l / 97))=true):parseE l=0∧parseV l=(tokOf (dv l / 97)).v:=by
 have e:parseE l=0:=by unfold parseE;rw [if_neg (by omega),if_neg (by simp [h1]),if_neg (by omega),if_neg (by omega),if_pos h4]
 exact ⟨e,by unfold parseV;rw [if_pos e]⟩
theorem parse_fmt {k:Tok} (h:k.ok):parseE (fmtL (97*k.num))=0∧parseV (fmtL (97*k.num))=k.v:=by
 have hb:=num_bd h;have e:97*k.num / 97=k.num:=by omega
 have:=parse_ok (fmt_len (V:=97*k.num) (by omega)) (fmt_D _) (by rw [fmt_dv];exact hb) (by rw [fmt_dv];omega) (by rw [fmt_dv,e,tokOf_num h];exact okB_ok.2 h)
 rwa [fmt_dv,e,tokOf_num h] at this
def bigV (a b c:Nat):Nat:=a+b*4294967296+c*18446744073709551616
theorem bigV_bit {a b c:Nat} (ha:a<2 ^ 32) (hb:b<2 ^ 32) (m:Nat):(bigV a b c).testBit m=bit3 a b c m:=by
 have e:bigV a b c=2 ^ 32*(2 ^ 32*c+b)+a:=by unfold bigV;omega
 rw [e,Nat.testBit_two_pow_mul_add _ ha,Nat.testBit_two_pow_mul_add _ hb];unfold bit3;by_cases h1:m<32
 ·rw [if_pos h1,if_pos h1]
 ·rw [if_neg h1,if_neg h1];by_cases h2:m<64
  ·rw [if_pos h2,if_pos (by omega)]
  ·rw [if_neg h2,if_neg (by omega)]
   congr 1
theorem bits_num {a b c lo n:Nat} (ha:a<2 ^ 32) (hb:b<2 ^ 32) (hc:c<2 ^ 32) (hn:n≤64):bitsN a b c lo n=bigV a b c / 2 ^ lo % 2 ^ n:=by
 apply Nat.eq_of_testBit_eq;intro j;rw [bits_bit ha hb hc hn,Nat.testBit_mod_two_pow,Nat.testBit_div_two_pow,bigV_bit ha hb,Nat.add_comm]
theorem bigV_top {a b c:Nat} (ha:a<2 ^ 32) (hb:b<2 ^ 32) (hc:c<2 ^ 32):bigV a b c<2 ^ 96:=by
 unfold bigV;omega
theorem put_num {a b c v lo n:Nat} (ha:a<2 ^ 32) (hb:b<2 ^ 32) (hc:c<2 ^ 32) (hv:v<2 ^ n) (hn:n≤64) (hl:lo+n≤96) (h0:bigV a b c / 2 ^ lo % 2 ^ n=0) :
  bigV (putN a v n lo) (putN b v n ((lo:Int) - 32)) (putN c v n ((lo:Int) - 64))=bigV a b c+v*2 ^ lo:=by
 have pa:=put_lt a v n lo ha;have pb:=put_lt b v n ((lo:Int) - 32) hb;have pc:=put_lt c v n ((lo:Int) - 64) hc
 have hbit:∀ m,m<96→(bigV (putN a v n lo) (putN b v n ((lo:Int) - 32)) (putN c v n ((lo:Int) - 64))).testBit m=if lo≤m∧m<lo+n then v.testBit (m - lo) else (bigV a b c).testBit m:=fun m hm=>by
  rw [bigV_bit pa pb,put_bits hv m hm,bigV_bit ha hb]
 have hfv:bigV (putN a v n lo) (putN b v n ((lo:Int) - 32)) (putN c v n ((lo:Int) - 64)) / 2 ^ lo % 2 ^ n=v:=by
  rw [← bits_num pa pb pc hn,bits_put ha hb hc hv hn hl]
 have hVt:=bigV_top ha hb hc;have hWt:=bigV_top pa pb pc;generalize bigV (putN a v n lo) (putN b v n ((lo:Int) - 32)) (putN c v n ((lo:Int) - 64))=W at *;generalize bigV a b c=V at *
 have hlow:W % 2 ^ lo=V % 2 ^ lo:=by
  apply Nat.eq_of_testBit_eq;intro j;rw [Nat.testBit_mod_two_pow,Nat.testBit_mod_two_pow];by_cases hj:j<lo
  ·rw [hbit j (by omega),if_neg (by omega)]
  ·rw [decide_eq_false hj,Bool.false_and,Bool.false_and]
 have hhigh:W / 2 ^ lo / 2 ^ n=V / 2 ^ lo / 2 ^ n:=by
  rw [Nat.div_div_eq_div_mul,Nat.div_div_eq_div_mul,← Nat.pow_add];apply Nat.eq_of_testBit_eq;intro j;rw [Nat.testBit_div_two_pow,Nat.testBit_div_two_pow];by_cases hj:lo+n+j<96
  ·rw [Nat.add_comm j,hbit _ hj,if_neg (by omega)]
  ·rw [bit_hi hVt (by omega),bit_hi hWt (by omega)]
 have eV:=Nat.div_add_mod V (2 ^ lo);have eW:=Nat.div_add_mod W (2 ^ lo);have eV2:=Nat.div_add_mod (V / 2 ^ lo) (2 ^ n);have eW2:=Nat.div_add_mod (W / 2 ^ lo) (2 ^ n);rw [hhigh,hfv] at eW2;rw [hlow] at eW;rw [h0] at eV2;generalize V / 2 ^ lo / 2 ^ n=H at *;generalize V % 2 ^ lo=L at *;rw [← eV2,Nat.mul_add] at eV;rw [← eW2,Nat.mul_add] at eW;rw [Nat.mul_comm v];generalize 2 ^ lo*(2 ^ n*H)=p at *;generalize 2 ^ lo*v=r at *;omega
end token
namespace book
open Go.RowKit
theorem rowD_grown {w w':World} {own:Option Nat} {a:Option Addr} {n:Nat} {zs:List tar.Du} (h:tar.RowD w a n zs) (hg:w.grownBy w' own) (hne:0<n→∀ x,a=some x→some x.block≠own):tar.RowD w' a n zs:=by
 refine ⟨h.1,?_⟩;rcases h.2 with h0 | ⟨b,off,rfl,hc⟩
 ·exact .inl h0
 ·refine .inr ⟨b,off,rfl,fun i hi=>?_⟩;have h1:=hc i hi;have hb:=hg.block b (World.block_lt_of_cell? w ⟨b,off+i*2,none⟩ h1.1) (hne (by omega) _ rfl);have e:∀ o,w'.cell? ⟨b,o,none⟩=w.cell? ⟨b,o,none⟩:=fun o=>by simp [World.cell?,hb]
  rw [e,e];exact h1
theorem came_grown {w w':World} {own:Option Nat} {a:Option Addr} {n cap:Nat} {zs:List tar.Du} (h:tar.Came w a n cap zs) (hg:w.grownBy w' own) (hne:0<n→∀ x,a=some x→some x.block≠own):tar.Came w' a n cap zs:=⟨rowD_grown h.row hg hne,h.nil,h.room,h.bytes,h.wf⟩
def Cu.sold (x:Cu):Value:= .slice x.sp x.sn x.sc
def Cu.v (x:Cu):Value:= .agg x.cs.toArray
def Nums (x:Cu) (a:acc.Ac):Prop:=x.me=a.me∧x.rv=a.rv∧x.nx=a.nx∧x.mo=a.mo∧x.bo=a.bo∧x.fr=a.fr
structure Has (w:World) (base:Nat) (x:Cu) (c:Cm):Prop where
 num:Nums x c.a
 ds:deb.Fresh w base x.dp x.dn x.dc c.a.ds
 so:Lo w base x.sold c.so
def Apart (x y:Cu):Prop:=(∀ g,x.sold.ownBlock=some g→y.sold.ownBlock≠some g)∧(∀ g,x.sold.ownBlock=some g→0<y.dn→∀ p,y.dp=some p→p.block≠g)∧(∀ g,y.sold.ownBlock=some g→0<x.dn→∀ p,x.dp=some p→p.block≠g)
theorem Apart.symm {x y:Cu} (h:Apart x y):Apart y x:=⟨fun g h1 h2=>h.1 g h2 h1,h.2.2,h.2.1⟩
def Off (x:Cu) (own:Option Nat):Prop:=(∀ g,x.sold.ownBlock=some g→own≠some g)∧(0<x.dn→∀ p,x.dp=some p→some p.block≠own)
theorem Has.next {w w':World} {base:Nat} {x:Cu} {c:Cm} (h:Has w base x c) (hb:Below w.heap.size w w'):Has w' base x c:=⟨h.num,h.ds.below hb,h.so.next hb⟩
theorem Has.kept {w w':World} {base:Nat} {own:Option Nat} {x:Cu} {c:Cm} (h:Has w base x c) (hg:w.grownBy w' own) (ho:Off x own):Has w' base x c:=⟨h.num,⟨came_grown h.ds.came hg ho.2,h.ds.new⟩,h.so.kept hg ho.1⟩
structure Holds (w:World) (base:Nat) (V:Value) (xs:List Cu) (bk:List Cm):Prop where
 row:Lc w base V xs
 len:xs.length=bk.length
 has:∀ i,i<xs.length→Has w base (xs.getD i cu0) (bk.getD i cm0)
 off:∀ i,i<xs.length→Off (xs.getD i cu0) V.ownBlock
 self:∀ i,i<xs.length→∀ g,(xs.getD i cu0).sold.ownBlock=some g→0<(xs.getD i cu0).dn→∀ p,(xs.getD i cu0).dp=some p→p.block≠g
 apart:∀ i j,i<xs.length→j<xs.length→i≠j→Apart (xs.getD i cu0) (xs.getD j cu0)
theorem Holds.zero (w:World) (base:Nat):Holds w base (zS) [] []:=⟨Lc.zero _ _,rfl,(fun i hi=>by cases hi),(fun i hi=>by cases hi),(fun i hi=>by cases hi),(fun i j hi=>by cases hi)⟩
theorem Holds.next {w w':World} {base:Nat} {V:Value} {xs:List Cu} {bk:List Cm} (h:Holds w base V xs bk) (hb:Below w.heap.size w w'):Holds w' base V xs bk:=⟨h.row.next hb,h.len,fun i hi=>(h.has i hi).next hb,h.off,h.self,h.apart⟩
theorem getD_snoc {α:Type} (l:List α) (x d:α) (i:Nat) (hi:i<l.length+1):(l++[x]).getD i d=if i<l.length then l.getD i d else x:=by
 by_cases h:i<l.length
 ·rw [if_pos h];simp [List.getD,List.getElem?_append_left h]
 ·have:i=l.length:=by omega
  subst this;rw [if_neg h];simp [List.getD]
theorem Holds.snoc {w w':World} {base:Nat} {V V':Value} {xs:List Cu} {bk:List Cm} {x:Cu} {c:Cm} (h:Holds w base V xs bk) (hx:Has w base x c) (hxs:x.sold.ownBlock=none) (hxd:x.dn=0)
  (hr:Lc w' base V' (xs++[x])) (hg:w.grownBy w' V.ownBlock) (ho:V'.ownBlock=V.ownBlock∨V'.ownBlock=some w.heap.size):Holds w' base V' (xs++[x]) (bk++[c]):=by
 have hnew:∀ y:Cu,Off y V.ownBlock→(∀ g,y.sold.ownBlock=some g→g<w.heap.size)→(0<y.dn→∀ p,y.dp=some p→p.block<w.heap.size)→Off y V'.ownBlock:=fun y h1 h2 h3=>by
  rcases ho with e | e
  ·rw [e];exact h1
  ·rw [e];exact ⟨fun g hg' q=>(by have:=h2 g hg';have:=Option.some.inj q;omega),fun hn p hp q=>(by have:=h3 hn p hp;have:=Option.some.inj q;omega)⟩
 have lt1:∀ i,i<xs.length→∀ g,(xs.getD i cu0).sold.ownBlock=some g→g<w.heap.size:=fun i hi g hgg=>(World.ownsRow.lt (h.has i hi).so g hgg).2
 have lt2:∀ i,i<xs.length→0<(xs.getD i cu0).dn→∀ p,(xs.getD i cu0).dp=some p→p.block<w.heap.size:=fun i hi hn p hp=>by
  obtain ⟨b,off,e,lb,_⟩:=(h.has i hi).ds.came.row.at hn;rw [hp] at e;rw [Option.some.inj e];exact lb
 have offx:Off x V.ownBlock:=⟨fun g hgg=>(by rw [hxs] at hgg;cases hgg),fun hn=>by omega⟩
 have apx:∀ y:Cu,Apart y x:=fun y=>⟨fun g h1 h2=>(by rw [hxs] at h2;cases h2),fun g h1 hn=>(by omega),fun g h1=>(by rw [hxs] at h1;cases h1)⟩;have offx':Off x V'.ownBlock:=⟨fun g hgg=>(by rw [hxs] at hgg;cases hgg),fun hn=>by omega⟩
 refine ⟨hr,by rw [List.length_append,List.length_append,h.len];rfl,fun i hi=>?_,fun i hi=>?_,fun i hi=>?_,fun i j hi hj hij=>?_⟩
 all_goals simp only [List.length_append,List.length_cons,List.length_nil] at hi
 ·rw [getD_snoc xs x cu0 i hi,getD_snoc bk c cm0 i (by rw [← h.len];exact hi)];by_cases q:i<xs.length
  ·rw [if_pos q,if_pos (by rw [← h.len];exact q)];exact (h.has i q).kept hg (h.off i q)
  ·rw [if_neg q,if_neg (by rw [← h.len];exact q)];exact hx.kept hg offx
 ·rw [getD_snoc xs x cu0 i hi];by_cases q:i<xs.length
  ·rw [if_pos q];exact hnew _ (h.off i q) (lt1 i q) (lt2 i q)
  ·rw [if_neg q];exact offx'
 ·rw [getD_snoc xs x cu0 i hi];by_cases q:i<xs.length
  ·rw [if_pos q];exact h.self i q
  ·rw [if_neg q];intro g hgg;rw [hxs] at hgg;cases hgg
 ·simp only [List.length_append,List.length_cons,List.length_nil] at hj;rw [getD_snoc xs x cu0 i hi,getD_snoc xs x cu0 j hj];by_cases q:i<xs.length <;> by_cases q':j<xs.length
  ·rw [if_pos q,if_pos q'];exact h.apart i j q q' hij
  ·rw [if_pos q,if_neg q'];exact apx _
  ·rw [if_neg q,if_pos q'];exact (apx _).symm
  ·omega
theorem getD_put {α:Type} (l:List α) (x d:α) (k i:Nat) (hk:k<l.length):(l.set k x).getD i d=if i=k then x else l.getD i d:=by
 by_cases h:i=k
 ·subst h;rw [if_pos rfl];simp [List.getD,hk]
 ·rw [if_neg h];simp [List.getD,List.getElem?_set_ne (Ne.symm h)]
structure Turned (w w':World) (base:Nat) (x x':Cu) (c':Cm):Prop where
 grown:w.grownBy w' x.sold.ownBlock
 has:Has w' base x' c'
 own:∀ g,x'.sold.ownBlock=some g→x.sold.ownBlock=some g∨w.heap.size≤g
 new:0<x'.dn→∀ p,x'.dp=some p→w.heap.size≤p.block
 self:∀ g,x'.sold.ownBlock=some g→0<x'.dn→∀ p,x'.dp=some p→p.block≠g
theorem Holds.put {w w' w4:World} {base:Nat} {V:Value} {xs:List Cu} {bk:List Cm} {k:Nat} {x':Cu} {c':Cm} (h:Holds w base V xs bk) (hk:k<xs.length) (ht:Turned w w' base (xs.getD k cu0) x' c')
  (hr:Lc w4 base V (xs.set k x')) (hg:w'.grownBy w4 V.ownBlock):Holds w4 base V (xs.set k x') (bk.set k c'):=by
 have hkb:k<bk.length:=by rw [← h.len];exact hk
 have lt1:∀ i,i<xs.length→∀ g,(xs.getD i cu0).sold.ownBlock=some g→g<w.heap.size:=fun i hi g hgg=>(World.ownsRow.lt (h.has i hi).so g hgg).2
 have lt2:∀ i,i<xs.length→0<(xs.getD i cu0).dn→∀ p,(xs.getD i cu0).dp=some p→p.block<w.heap.size:=fun i hi hn p hp=>by
  obtain ⟨b,off,e,lb,_⟩:=(h.has i hi).ds.came.row.at hn;rw [hp] at e;rw [Option.some.inj e];exact lb
 have ltV:∀ g,V.ownBlock=some g→g<w.heap.size:=fun g hgg=>(World.ownsRow.lt h.row g hgg).2
 have offx:Off x' V.ownBlock:=⟨fun g hgg q=>by
  rcases ht.own g hgg with e | e
  ·exact (h.off k hk).1 g e q
  ·have:=ltV g q;omega,fun hn p hp q=>by
  have h1:=ht.new hn p hp;have h2:=ltV p.block q.symm
  omega⟩
 have apx:∀ i,i<xs.length→i≠k→Apart (xs.getD i cu0) x':=fun i hi hik=>by
  refine ⟨fun g h1 h2=>?_,fun g h1 hn p hp q=>?_,fun g h1 hn p hp q=>?_⟩
  ·rcases ht.own g h2 with e | e
   ·exact (h.apart i k hi hk hik).1 g h1 e
   ·have:=lt1 i hi g h1;omega
  ·have h3:=ht.new hn p hp;have h4:=lt1 i hi g h1;omega
  ·rcases ht.own g h1 with e | e
   ·exact (h.apart i k hi hk hik).2.2 g e hn p hp q
   ·have:=lt2 i hi hn p hp;omega
 refine ⟨hr,by rw [List.length_set,List.length_set,h.len],fun i hi=>?_,fun i hi=>?_,fun i hi=>?_,fun i j hi hj hij=>?_⟩
 all_goals rw [List.length_set] at hi
 ·rw [getD_put xs x' cu0 k i hk,getD_put bk c' cm0 k i hkb];by_cases q:i=k
  ·rw [if_pos q,if_pos q];exact ht.has.kept hg offx
  ·rw [if_neg q,if_neg q];have ap:=h.apart i k hi hk q
   have off1:Off (xs.getD i cu0) (xs.getD k cu0).sold.ownBlock:=⟨fun g h1 h2=>ap.1 g h1 h2,fun hn p hp e=>by
    exact ap.2.2 p.block e.symm hn p hp rfl⟩
   exact ((h.has i hi).kept ht.grown off1).kept hg (h.off i hi)
 ·rw [getD_put xs x' cu0 k i hk];by_cases q:i=k
  ·rw [if_pos q];exact offx
  ·rw [if_neg q];exact h.off i hi
 ·rw [getD_put xs x' cu0 k i hk];by_cases q:i=k
  ·rw [if_pos q];exact ht.self
  ·rw [if_neg q];exact h.self i hi
 ·rw [List.length_set] at hj;rw [getD_put xs x' cu0 k i hk,getD_put xs x' cu0 k j hk];by_cases q:i=k <;> by_cases q':j=k
  ·omega
  ·rw [if_pos q,if_neg q'];exact (apx j hj q').symm
  ·rw [if_neg q,if_pos q'];exact apx i hi q
  ·rw [if_neg q,if_neg q'];exact h.apart i j hi hj hij
structure Sees (w:World) (p:Option Addr) (n:Nat) (xs:List Cu) (bk:List Cm):Prop where
 row:RowC w p n xs
 len:xs.length=bk.length
 num:∀ i,i<xs.length→Nums (xs.getD i cu0) (bk.getD i cm0).a
 ds:∀ i,i<xs.length→tar.Came w (xs.getD i cu0).dp (xs.getD i cu0).dn (xs.getD i cu0).dc (bk.getD i cm0).a.ds
 so:∀ i,i<xs.length→RowS w (xs.getD i cu0).sp (xs.getD i cu0).sn (bk.getD i cm0).so
theorem Sees.below {w w':World} {p:Option Addr} {n:Nat} {xs:List Cu} {bk:List Cm} (h:Sees w p n xs bk) (hb:Below w.heap.size w w'):Sees w' p n xs bk:=⟨h.row.below hb,h.len,h.num,fun i hi=>(h.ds i hi).below hb,fun i hi=>(h.so i hi).below hb⟩
theorem Holds.sees {w:World} {base:Nat} {V:Value} {xs:List Cu} {bk:List Cm} (h:Holds w base V xs bk):∃ p cap,V = .slice p xs.length cap∧Sees w p xs.length xs bk:=by
 obtain ⟨p,cap,hv,hr,_,_⟩:=h.row.row;refine ⟨p,cap,hv,hr,h.len,fun i hi=>(h.has i hi).num,fun i hi=>(h.has i hi).ds.came,fun i hi=>?_⟩;obtain ⟨a,c,e,r,_⟩:=(h.has i hi).so.row;unfold Cu.sold at e;injection e with e1 e2 _
 rw [e1,e2];exact r
end book
end Go.Proofs.YtdpfnedfakgolaaGreatDoor
