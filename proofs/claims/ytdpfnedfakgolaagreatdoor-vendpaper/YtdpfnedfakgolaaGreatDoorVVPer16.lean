import Derived.Test.YtdpfnedfakgolaaGreatDoorVVPer8
import Derived.Test.YtdpfnedfakgolaaGreatDoorVVPer12
import Derived.Test.YtdpfnedfakgolaaGreatDoorVVPer15
set_option linter.unusedVariables false
set_option linter.unusedSimpArgs false
set_option maxHeartbeats 4000000
set_option maxRecDepth 100000
namespace Go.Proofs.YtdpfnedfakgolaaGreatDoor
namespace words
open Go.RowKit
theorem pow_min {j:Nat} (hj:¬ j≤64):∃ d,2 ^ j=2 ^ 64*2 ^ d:=⟨j - 64,by rw [← Nat.pow_add];congr 1;omega⟩
theorem sh_down (v j:Nat) (hj:0<j) (hv:v<2 ^ 64):((sh v (-(j:Int)):Nat):Int)=(v:Int) / 2 ^ min j 64:=by
 unfold sh;rw [if_pos (by omega),show (-(-(j:Int))).toNat=j by omega];by_cases h:j≤64
 ·rw [Nat.min_eq_left h];simp
 ·rw [Nat.min_eq_right (by omega)];have h1:v / 2 ^ j=0:=Nat.div_eq_of_lt (Nat.lt_of_lt_of_le hv (Nat.pow_le_pow_right (by decide) (by omega)));rw [h1];omega
theorem sh_up (v:Nat) (k:Int) (hk:0≤k):((sh v k:Nat):Int)=IntKind.u64.wrap ((v:Int)*2 ^ min k.toNat 64):=by
 unfold sh;rw [if_neg (by omega),IntKind.wrap_u64];by_cases h:k.toNat≤64
 ·rw [Nat.min_eq_left h];simp
 ·rw [Nat.min_eq_right (by omega)];obtain ⟨d,hd⟩:=pow_min h;rw [hd,Nat.mul_left_comm,Nat.mul_mod_right];omega
theorem ones_shift (n:Nat) (h0:1≤n) (h1:n≤64):((onesN n:Nat):Int)=18446744073709551615 / 2 ^ (64 - n):=by
 have e:(18446744073709551615:Int) / 2 ^ (64 - n)=((18446744073709551615 / 2 ^ (64 - n):Nat):Int):=by simp
 rw [e]
 congr 1
 unfold onesN;have hp:2 ^ 64=2 ^ n*2 ^ (64 - n):=by rw [← Nat.pow_add];congr 1;omega
 have h2:0<2 ^ (64 - n):=Nat.two_pow_pos _;have h3:0<2 ^ n:=Nat.two_pow_pos _;symm;apply Nat.div_eq_of_lt_le
 ·have:(2 ^ n - 1)*2 ^ (64 - n)=2 ^ 64 - 2 ^ (64 - n):=by rw [hp,Nat.sub_mul,Nat.one_mul]
  omega
 ·have:(2 ^ n - 1+1)*2 ^ (64 - n)=2 ^ 64:=by rw [hp,Nat.sub_add_cancel h3]
  omega
theorem shift_any (v:Nat) (k:Int) (w:World) (hv:v<2 ^ 64) (k0:-96≤k) (k1:k≤96) :
  Calls Tryz.prog 60 #[.int .u64 (v:Int),zI k] w fun e w'=>e = .returned (.int .u64 (sh v k:Nat))∧w'=w:=by
 by_cases h:k<0
 ·obtain ⟨j,rfl⟩:∃ j:Nat,k=-(j:Int):=⟨(-k).toNat,by omega⟩
  have hj:0<j:=by omega
  have e:=sh_down v j hj hv;have e2:-(-(j:Int))=(j:Int):=by omega
  rw [e];clear e;go_enter Tryz.func60,Tryz.ntmps60;go_wp2;go_ret;exact ⟨rfl,rfl⟩
 ·have e:=sh_up v k (by omega);rw [e];clear e;go_enter Tryz.func60,Tryz.ntmps60;go_wp2;go_ret;exact ⟨rfl,rfl⟩
theorem ones_any (n:Nat) (w:World) (h0:1≤n) (h1:n≤64) :
  Calls Tryz.prog 61 #[zI (n:Int)] w fun e w'=>e = .returned (.int .u64 (onesN n:Nat))∧w'=w:=by
 rw [ones_shift n h0 h1];go_enter Tryz.func61,Tryz.ntmps61;go_wp2;go_ret;exact ⟨rfl,rfl⟩
theorem isField_yes (lo n:Int) (w:World) (h0:0≤lo) (h1:1≤n) (h2:n≤64) (h3:lo≤96 - n) :
  Calls Tryz.prog 59 #[zI lo,zI n] w fun e w'=>e = .returned (.bool true)∧w'=w:=by
 go_enter Tryz.func59,Tryz.ntmps59;go_wp2;go_ret;exact ⟨rfl,rfl⟩
end words
namespace ora
open Go.RowKit
def GaveV (w:World) (l:List Pr) (e:Ending) (w':World):Prop:=∃ v,e = .returned v∧Pw w' w.heap.size v l∧Below w.heap.size w w'
theorem pclone_some (x:Addr) (len cap:Nat) (l:List Pr) (w:World) (hr:RowP w (some x) len l) (hl:len≤1000) :
  Calls Tryz.prog 141 #[.slice (some x) len cap] w fun e w'=>GaveV w l e w':=by
 obtain ⟨i0,hi,hz0,hz1,hz2⟩:=info_parts info_pr;obtain ⟨hz,hr⟩:=hr;have HO:Hid ((w.alloc (.cells #[] 158)).ownsRow w.heap.size 158 4 (.slice (some ⟨w.heap.size,0,none⟩) 0 0) 0 []):=World.ownsRow_lit w #[] 0 (Nat.le_refl _) (by unfold maxLen;omega) rfl;have HSZ:Hid (w.heap.size≤(w.alloc (.cells #[] 158)).heap.size):=palloc_le (Nat.le_refl _) _;have heq:∀ W:World,(binOp BinOp.eql 32 (.slice (some x) len cap) (zS)).run Tryz.prog W = .ok (.bool false) W:=fun W=>by kernel_rfl
 go_enter Tryz.func141,Tryz.ntmps141
 go_wp2_with (first
  | (at_builtin;refine wpList_append_own _ rfl _ _ 32 rfl w.heap.size 158 i0 (.agg #[zI 0,zI 0,zI 0,zI 0]) 4 32 Tryz.underlying32 hi hz0 hz1 hz2 rfl (by decide) _ _ _ rfl HO.o x len cap (cellsP l) rfl ?c0 ?c1 ?c2 ?c3 ?c4 HSZ.o ?_)
  | go_in)
 case c0=>rw [cellsP_len,hz]
 case c1=>
  intro j u hu;rcases hr with h | ⟨b,off,h,hc⟩
  ·have:l=[]:=List.length_eq_zero_iff.1 (by omega);subst this;simp [cellsP] at hu
  ·obtain rfl:=Option.some.inj h;have:=cellsP_get hz hc j u hu;rw [Addr.add_lit,World.cell?_alloc_lt w _ _ (World.block_lt_of_cell? w _ this)];exact this
 case c2=>exact oneP l
 case c3=>unfold maxLen;omega
 case c4=>omega
 intro v' w' hown hg _;have HW:Hid (Pw w' w.heap.size v' l):=by show w'.ownsRow _ _ _ _ _ _;rw [hz];simpa using hown
 have HG:Hid (Below w.heap.size w w'):=pown_bel HO.o hg ((Below.refl _ _).alloc (Nat.le_refl _) _) (Nat.le_refl _) HSZ.o;clear hown hg;go_wp2;go_ret;exact ⟨v',rfl,HW.o,HG.o⟩
theorem pclone_none (cap:Nat) (w:World) :
  Calls Tryz.prog 141 #[.slice none 0 cap] w fun e w'=>GaveV w [] e w':=by
 have heq:∀ W:World,(binOp BinOp.eql 32 (.slice none 0 cap) (zS)).run Tryz.prog W = .ok (.bool true) W:=fun W=>by kernel_rfl
 go_enter Tryz.func141,Tryz.ntmps141;go_wp2_with fail;go_ret;exact ⟨_,rfl,Pw.zero _ _,Below.refl _ _⟩
theorem pclone_any (a:Option Addr) (len cap:Nat) (l:List Pr) (w:World) (hr:RowP w a len l) (hl:len≤1000) :
  Calls Tryz.prog 141 #[.slice a len cap] w fun e w'=>GaveV w l e w':=by
 cases a with
 | some x=>exact pclone_some x len cap l w hr hl
 | none=>
  have h0:len=0:=by
   rcases hr.2 with h | ⟨_,_,h,_⟩
   ·exact h
   ·cases h
  subst h0;have:l=[]:=List.length_eq_zero_iff.1 hr.1;subst this;exact pclone_none cap w
end ora
namespace book
open Go.RowKit
theorem bnum (kd me mo id te de fe pr ch un tg ow bp:Int) (w:World):Calls Tryz.prog 147 #[.agg #[zI kd,zI me,zI mo,zI id,zI te,zI de,zI fe,zI pr,zI ch,zI un,zI tg,zI ow,zI bp]] w fun e w'=>YN w (Numd id tg) e w':=by
 obtain ⟨W0,HWW,HX0,HB0,-⟩:=sh1 w #[zI kd,zI me,zI mo,zI id,zI te,zI de,zI fe,zI pr,zI ch,zI un,zI tg,zI ow,zI bp] 125;go_enter Tryz.func147,Tryz.ntmps147;go_upto_region 1 with fail
 rw [HWW.o];clear HWW;have c0:W0.cell? ⟨w.heap.size,0,none⟩=some (zI kd):=HX0.o.cell 0;have c1:W0.cell? ⟨w.heap.size,1,none⟩=some (zI me):=HX0.o.cell 1;have c2:W0.cell? ⟨w.heap.size,2,none⟩=some (zI mo):=HX0.o.cell 2;have c3:W0.cell? ⟨w.heap.size,3,none⟩=some (zI id):=HX0.o.cell 3;have c4:W0.cell? ⟨w.heap.size,4,none⟩=some (zI te):=HX0.o.cell 4;have c5:W0.cell? ⟨w.heap.size,5,none⟩=some (zI de):=HX0.o.cell 5;have c6:W0.cell? ⟨w.heap.size,6,none⟩=some (zI fe):=HX0.o.cell 6;have c7:W0.cell? ⟨w.heap.size,7,none⟩=some (zI pr):=HX0.o.cell 7;have c8:W0.cell? ⟨w.heap.size,8,none⟩=some (zI ch):=HX0.o.cell 8;have c9:W0.cell? ⟨w.heap.size,9,none⟩=some (zI un):=HX0.o.cell 9;have c10:W0.cell? ⟨w.heap.size,10,none⟩=some (zI tg):=HX0.o.cell 10;have c11:W0.cell? ⟨w.heap.size,11,none⟩=some (zI ow):=HX0.o.cell 11;have c12:W0.cell? ⟨w.heap.size,12,none⟩=some (zI bp):=HX0.o.cell 12;have HW0:Hid (Calls Tryz.prog 131 #[zI 1,zI 1048575,.slice (some ⟨W0.heap.size,0,none⟩) 1 1] (W0.alloc (.cells #[zI id] 3)) fun e w'=>e = .returned (.bool (decide (1≤id∧id≤1048575)))∧w'=(W0.alloc (.cells #[zI id] 3))):=bki.within_one 1 1048575 id W0 _ rfl;have HB1:Hid (Below w.heap.size w (W0.alloc (.cells #[zI id] 3))):=HB0.o.alloc HB0.o.size _;have HX1:Hid (Blk (W0.alloc (.cells #[zI id] 3)) w.heap.size #[zI kd,zI me,zI mo,zI id,zI te,zI de,zI fe,zI pr,zI ch,zI un,zI tg,zI ow,zI bp] 125):=HX0.o.alloc _;by_cases h0:1≤id∧id≤1048575
 case neg=>
  rw [decide_eq_false h0] at HW0;go_wp2_with fail;refine HW0.o.mono ?_;rintro e W ⟨rfl,hw⟩;subst hw;clear HW0;go_wp2_with fail;go_ret;exact YN.no (fun q=>h0 q.1) HB1.o
 rw [decide_eq_true h0] at HW0;go_wp2_with fail;refine HW0.o.mono ?_;rintro e W ⟨rfl,hw⟩;subst hw;clear HW0 HB0 HX0;clear c0 c1 c2 c3 c4 c5 c6 c7 c8 c9 c10 c11 c12;generalize (W0.alloc (.cells #[zI id] 3))=W1 at *;have c0:W1.cell? ⟨w.heap.size,0,none⟩=some (zI kd):=HX1.o.cell 0;have c1:W1.cell? ⟨w.heap.size,1,none⟩=some (zI me):=HX1.o.cell 1;have c2:W1.cell? ⟨w.heap.size,2,none⟩=some (zI mo):=HX1.o.cell 2;have c3:W1.cell? ⟨w.heap.size,3,none⟩=some (zI id):=HX1.o.cell 3;have c4:W1.cell? ⟨w.heap.size,4,none⟩=some (zI te):=HX1.o.cell 4;have c5:W1.cell? ⟨w.heap.size,5,none⟩=some (zI de):=HX1.o.cell 5;have c6:W1.cell? ⟨w.heap.size,6,none⟩=some (zI fe):=HX1.o.cell 6;have c7:W1.cell? ⟨w.heap.size,7,none⟩=some (zI pr):=HX1.o.cell 7;have c8:W1.cell? ⟨w.heap.size,8,none⟩=some (zI ch):=HX1.o.cell 8;have c9:W1.cell? ⟨w.heap.size,9,none⟩=some (zI un):=HX1.o.cell 9;have c10:W1.cell? ⟨w.heap.size,10,none⟩=some (zI tg):=HX1.o.cell 10;have c11:W1.cell? ⟨w.heap.size,11,none⟩=some (zI ow):=HX1.o.cell 11;have c12:W1.cell? ⟨w.heap.size,12,none⟩=some (zI bp):=HX1.o.cell 12;have HW1:Hid (Calls Tryz.prog 131 #[zI 0,zI 65535,.slice (some ⟨W1.heap.size,0,none⟩) 1 1] (W1.alloc (.cells #[zI tg] 3)) fun e w'=>e = .returned (.bool (decide (0≤tg∧tg≤65535)))∧w'=(W1.alloc (.cells #[zI tg] 3))):=bki.within_one 0 65535 tg W1 _ rfl;have HB2:Hid (Below w.heap.size w (W1.alloc (.cells #[zI tg] 3))):=HB1.o.alloc HB1.o.size _;have HX2:Hid (Blk (W1.alloc (.cells #[zI tg] 3)) w.heap.size #[zI kd,zI me,zI mo,zI id,zI te,zI de,zI fe,zI pr,zI ch,zI un,zI tg,zI ow,zI bp] 125):=HX1.o.alloc _;by_cases h1:0≤tg∧tg≤65535
 case neg=>
  rw [decide_eq_false h1] at HW1;go_wp2_with fail;refine HW1.o.mono ?_;rintro e W ⟨rfl,hw⟩;subst hw;clear HW1;go_wp2_with fail;go_ret;exact YN.no (fun q=>h1 q.2) HB2.o
 rw [decide_eq_true h1] at HW1;go_wp2_with fail;refine HW1.o.mono ?_;rintro e W ⟨rfl,hw⟩;subst hw;clear HW1 HB1 HX1;clear c0 c1 c2 c3 c4 c5 c6 c7 c8 c9 c10 c11 c12;generalize (W1.alloc (.cells #[zI tg] 3))=W2 at *;have c0:W2.cell? ⟨w.heap.size,0,none⟩=some (zI kd):=HX2.o.cell 0;have c1:W2.cell? ⟨w.heap.size,1,none⟩=some (zI me):=HX2.o.cell 1;have c2:W2.cell? ⟨w.heap.size,2,none⟩=some (zI mo):=HX2.o.cell 2;have c3:W2.cell? ⟨w.heap.size,3,none⟩=some (zI id):=HX2.o.cell 3;have c4:W2.cell? ⟨w.heap.size,4,none⟩=some (zI te):=HX2.o.cell 4;have c5:W2.cell? ⟨w.heap.size,5,none⟩=some (zI de):=HX2.o.cell 5;have c6:W2.cell? ⟨w.heap.size,6,none⟩=some (zI fe):=HX2.o.cell 6;have c7:W2.cell? ⟨w.heap.size,7,none⟩=some (zI pr):=HX2.o.cell 7;have c8:W2.cell? ⟨w.heap.size,8,none⟩=some (zI ch):=HX2.o.cell 8;have c9:W2.cell? ⟨w.heap.size,9,none⟩=some (zI un):=HX2.o.cell 9;have c10:W2.cell? ⟨w.heap.size,10,none⟩=some (zI tg):=HX2.o.cell 10;have c11:W2.cell? ⟨w.heap.size,11,none⟩=some (zI ow):=HX2.o.cell 11;have c12:W2.cell? ⟨w.heap.size,12,none⟩=some (zI bp):=HX2.o.cell 12;go_wp2_with fail;go_ret;exact YN.yes (⟨h0,h1⟩) HB2.o
theorem bunt (kd me mo id te de fe pr ch un tg ow bp:Int) (w:World):Calls Tryz.prog 148 #[.agg #[zI kd,zI me,zI mo,zI id,zI te,zI de,zI fe,zI pr,zI ch,zI un,zI tg,zI ow,zI bp]] w fun e w'=>YN w (Unt un) e w':=by
 obtain ⟨W0,HWW,HX0,HB0,-⟩:=sh1 w #[zI kd,zI me,zI mo,zI id,zI te,zI de,zI fe,zI pr,zI ch,zI un,zI tg,zI ow,zI bp] 125;go_enter Tryz.func148,Tryz.ntmps148;go_upto_region 1 with fail
 rw [HWW.o];clear HWW;have c0:W0.cell? ⟨w.heap.size,0,none⟩=some (zI kd):=HX0.o.cell 0;have c1:W0.cell? ⟨w.heap.size,1,none⟩=some (zI me):=HX0.o.cell 1;have c2:W0.cell? ⟨w.heap.size,2,none⟩=some (zI mo):=HX0.o.cell 2;have c3:W0.cell? ⟨w.heap.size,3,none⟩=some (zI id):=HX0.o.cell 3;have c4:W0.cell? ⟨w.heap.size,4,none⟩=some (zI te):=HX0.o.cell 4;have c5:W0.cell? ⟨w.heap.size,5,none⟩=some (zI de):=HX0.o.cell 5;have c6:W0.cell? ⟨w.heap.size,6,none⟩=some (zI fe):=HX0.o.cell 6;have c7:W0.cell? ⟨w.heap.size,7,none⟩=some (zI pr):=HX0.o.cell 7;have c8:W0.cell? ⟨w.heap.size,8,none⟩=some (zI ch):=HX0.o.cell 8;have c9:W0.cell? ⟨w.heap.size,9,none⟩=some (zI un):=HX0.o.cell 9;have c10:W0.cell? ⟨w.heap.size,10,none⟩=some (zI tg):=HX0.o.cell 10;have c11:W0.cell? ⟨w.heap.size,11,none⟩=some (zI ow):=HX0.o.cell 11;have c12:W0.cell? ⟨w.heap.size,12,none⟩=some (zI bp):=HX0.o.cell 12;have HW0:Hid (Calls Tryz.prog 131 #[zI 1,zI 2097151,.slice (some ⟨W0.heap.size,0,none⟩) 1 1] (W0.alloc (.cells #[zI un] 3)) fun e w'=>e = .returned (.bool (decide (1≤un∧un≤2097151)))∧w'=(W0.alloc (.cells #[zI un] 3))):=bki.within_one 1 2097151 un W0 _ rfl;have HB1:Hid (Below w.heap.size w (W0.alloc (.cells #[zI un] 3))):=HB0.o.alloc HB0.o.size _;have HX1:Hid (Blk (W0.alloc (.cells #[zI un] 3)) w.heap.size #[zI kd,zI me,zI mo,zI id,zI te,zI de,zI fe,zI pr,zI ch,zI un,zI tg,zI ow,zI bp] 125):=HX0.o.alloc _;by_cases h0:1≤un∧un≤2097151
 case neg=>
  rw [decide_eq_false h0] at HW0;go_wp2_with fail;refine HW0.o.mono ?_;rintro e W ⟨rfl,hw⟩;subst hw;clear HW0;go_wp2_with fail;go_ret;exact YN.no (fun q=>h0 q) HB1.o
 rw [decide_eq_true h0] at HW0;go_wp2_with fail;refine HW0.o.mono ?_;rintro e W ⟨rfl,hw⟩;subst hw;clear HW0 HB0 HX0;clear c0 c1 c2 c3 c4 c5 c6 c7 c8 c9 c10 c11 c12;generalize (W0.alloc (.cells #[zI un] 3))=W1 at *;have c0:W1.cell? ⟨w.heap.size,0,none⟩=some (zI kd):=HX1.o.cell 0;have c1:W1.cell? ⟨w.heap.size,1,none⟩=some (zI me):=HX1.o.cell 1;have c2:W1.cell? ⟨w.heap.size,2,none⟩=some (zI mo):=HX1.o.cell 2;have c3:W1.cell? ⟨w.heap.size,3,none⟩=some (zI id):=HX1.o.cell 3;have c4:W1.cell? ⟨w.heap.size,4,none⟩=some (zI te):=HX1.o.cell 4;have c5:W1.cell? ⟨w.heap.size,5,none⟩=some (zI de):=HX1.o.cell 5;have c6:W1.cell? ⟨w.heap.size,6,none⟩=some (zI fe):=HX1.o.cell 6;have c7:W1.cell? ⟨w.heap.size,7,none⟩=some (zI pr):=HX1.o.cell 7;have c8:W1.cell? ⟨w.heap.size,8,none⟩=some (zI ch):=HX1.o.cell 8;have c9:W1.cell? ⟨w.heap.size,9,none⟩=some (zI un):=HX1.o.cell 9;have c10:W1.cell? ⟨w.heap.size,10,none⟩=some (zI tg):=HX1.o.cell 10;have c11:W1.cell? ⟨w.heap.size,11,none⟩=some (zI ow):=HX1.o.cell 11;have c12:W1.cell? ⟨w.heap.size,12,none⟩=some (zI bp):=HX1.o.cell 12;go_wp2_with fail;go_ret;exact YN.yes (h0) HB1.o
theorem bmony (id te de fe pr ch un:Int) (w:World):Calls Tryz.prog 149 #[.agg #[zI id,zI te,zI de,zI fe,zI pr,zI ch,zI un]] w fun e w'=>YN w (Mony te de fe pr ch) e w':=by
 obtain ⟨W0,HWW,HX0,HB0,-⟩:=sh1 w #[zI id,zI te,zI de,zI fe,zI pr,zI ch,zI un] 48;go_enter Tryz.func149,Tryz.ntmps149;go_upto_region 1 with fail
 rw [HWW.o];clear HWW;obtain ⟨c0,c1,c2,c3,c4,c5,c6⟩:=scl7 HX0;have HW0:Hid (Calls Tryz.prog 131 #[zI 1,zI 100000000,.slice (some ⟨W0.heap.size,0,none⟩) 1 1] (W0.alloc (.cells #[zI te] 3)) fun e w'=>e = .returned (.bool (decide (1≤te∧te≤100000000)))∧w'=(W0.alloc (.cells #[zI te] 3))):=bki.within_one 1 100000000 te W0 _ rfl;have HB1:Hid (Below w.heap.size w (W0.alloc (.cells #[zI te] 3))):=HB0.o.alloc HB0.o.size _;have HX1:Hid (Blk (W0.alloc (.cells #[zI te] 3)) w.heap.size #[zI id,zI te,zI de,zI fe,zI pr,zI ch,zI un] 48):=HX0.o.alloc _;by_cases h0:1≤te∧te≤100000000
 case neg=>
  rw [decide_eq_false h0] at HW0;go_wp2_with fail;refine HW0.o.mono ?_;rintro e W ⟨rfl,hw⟩;subst hw;clear HW0;go_wp2_with fail;go_ret;exact YN.no (fun q=>h0 q.1) HB1.o
 rw [decide_eq_true h0] at HW0;go_wp2_with fail;refine HW0.o.mono ?_;rintro e W ⟨rfl,hw⟩;subst hw;clear HW0 HB0 HX0;clear c0 c1 c2 c3 c4 c5 c6;generalize (W0.alloc (.cells #[zI te] 3))=W1 at *;obtain ⟨c0,c1,c2,c3,c4,c5,c6⟩:=scl7 HX1;have HW1:Hid (Calls Tryz.prog 131 #[zI 0,zI 100000000,.slice (some ⟨W1.heap.size,0,none⟩) 4 4] (W1.alloc (.cells #[zI de,zI fe,zI pr,zI ch] 3)) fun e w'=>e = .returned (.bool (bki.okAll 0 100000000 [de,fe,pr,ch]))∧w'=(W1.alloc (.cells #[zI de,zI fe,zI pr,zI ch] 3))):=bki.within_any 0 100000000 _ 4 4 [de,fe,pr,ch] _ (bki.row_four W1 de fe pr ch 3) (by decide);have HB2:Hid (Below w.heap.size w (W1.alloc (.cells #[zI de,zI fe,zI pr,zI ch] 3))):=HB1.o.alloc HB1.o.size _;have HX2:Hid (Blk (W1.alloc (.cells #[zI de,zI fe,zI pr,zI ch] 3)) w.heap.size #[zI id,zI te,zI de,zI fe,zI pr,zI ch,zI un] 48):=HX1.o.alloc _;by_cases h1:bki.okAll 0 100000000 [de,fe,pr,ch]=true
 case neg=>
  rw [show bki.okAll 0 100000000 [de,fe,pr,ch]=false by simpa using h1] at HW1;go_wp2_with fail;refine HW1.o.mono ?_;rintro e W ⟨rfl,hw⟩;subst hw;clear HW1;go_wp2_with fail;go_ret;exact YN.no (fun q=>h1 (by simpa [bki.okAll] using q.2.1)) HB2.o
 rw [h1] at HW1;go_wp2_with fail;refine HW1.o.mono ?_;rintro e W ⟨rfl,hw⟩;subst hw;clear HW1 HB1 HX1;clear c0 c1 c2 c3 c4 c5 c6;generalize (W1.alloc (.cells #[zI de,zI fe,zI pr,zI ch] 3))=W2 at *;obtain ⟨c0,c1,c2,c3,c4,c5,c6⟩:=scl7 HX2;have hh:(0≤de∧de≤100000000)∧(0≤fe∧fe≤100000000)∧(0≤pr∧pr≤100000000)∧0≤ch∧ch≤100000000:=by simpa [bki.okAll] using h1
 have e1:IntKind.i64.wrap (de+fe)=de+fe:=by rw [IntKind.wrap_i64];omega
 have e2:IntKind.i64.wrap (de+fe+pr)=de+fe+pr:=by rw [IntKind.wrap_i64];omega
 have e3:IntKind.i64.wrap (de+fe+pr+ch)=de+fe+pr+ch:=by rw [IntKind.wrap_i64];omega
 have HH:Hid ((0≤de∧de≤100000000)∧(0≤fe∧fe≤100000000)∧(0≤pr∧pr≤100000000)∧0≤ch∧ch≤100000000):=hh;have H0:Hid (1≤te∧te≤100000000):=h0;clear hh h1 h0;by_cases h2:de+fe+pr+ch=te
 ·have hq:((de+fe+pr+ch) == te)=true:=by simpa using h2
  have H2:Hid (de+fe+pr+ch=te):=h2;clear h2;go_wp2_with fail;go_ret;exact YN.yes ⟨H0.o,HH.o,H2.o⟩ HB2.o
 ·have hq:((de+fe+pr+ch) == te)=false:=by simpa using h2
  have H2:Hid (¬ de+fe+pr+ch=te):=h2;clear h2;go_wp2_with fail;go_ret;exact YN.no (fun q=>H2.o q.2.2) HB2.o
end book
namespace acc
open tar (Du du0 Came RowD Ld PairT)
open Go.RowKit
def MayPost (w:World) (x:Ac) (e:Ending) (w':World):Prop:=∃ r,e = .returned (.bool r)∧(r=true↔AMay x)∧Below w.heap.size w w'
theorem pmay (x:Ac) (p:Option Addr) (len cap:Nat) (w:World) (h:Came w p len cap x.ds):Calls Tryz.prog 119 #[.agg #[zI x.me,zI x.rv,zI x.nx,zI x.mo,zI x.bo,zI x.fr,.slice p len cap]] w fun e w'=>MayPost w x e w':=by
 have HI0:Hid (∀ W,Calls Tryz.prog 114 #[zI 0,zI 49,zI x.me] W fun e w'=>e = .returned (.bool (decide (0≤x.me∧x.me≤49)))∧w'=W):=fun W=>awithin 0 49 x.me W;have HI1:Hid (∀ W,Calls Tryz.prog 114 #[zI 0,zI 15,zI x.rv] W fun e w'=>e = .returned (.bool (decide (0≤x.rv∧x.rv≤15)))∧w'=W):=fun W=>awithin 0 15 x.rv W;have HI2:Hid (∀ W,Calls Tryz.prog 114 #[zI 1,zI 1048576,zI x.nx] W fun e w'=>e = .returned (.bool (decide (1≤x.nx∧x.nx≤1048576)))∧w'=W):=fun W=>awithin 1 1048576 x.nx W;have HI3:Hid (∀ W,Calls Tryz.prog 114 #[zI 0,zI 2399,zI x.mo] W fun e w'=>e = .returned (.bool (decide (0≤x.mo∧x.mo≤2399)))∧w'=W):=fun W=>awithin 0 2399 x.mo W;have HI4:Hid (∀ W,Calls Tryz.prog 114 #[zI 0,zI 10000000,zI x.bo] W fun e w'=>e = .returned (.bool (decide (0≤x.bo∧x.bo≤10000000)))∧w'=W):=fun W=>awithin 0 10000000 x.bo W;have HI5:Hid (∀ W,Calls Tryz.prog 114 #[zI (-1),zI x.mo,zI x.fr] W fun e w'=>e = .returned (.bool (decide (-1≤x.fr∧x.fr≤x.mo)))∧w'=W):=fun W=>awithin (-1) x.mo x.fr W;obtain ⟨WW,HWW,HBK,HBA,-⟩:=sh1 w #[zI x.me,zI x.rv,zI x.nx,zI x.mo,zI x.bo,zI x.fr,.slice p len cap] 61;have HTO:Hid (Calls Tryz.prog 139 #[.slice p len cap] WW fun e w'=>tar.TwoPost WW (deb.OwedIs x.ds) e w'):=deb.ktotal _ p len cap x.ds (h.below HBA.o);have c6:WW.cell? ⟨w.heap.size,6,none⟩=some (.slice p len cap):=HBK.o.cell 6;clear h;go_enter Tryz.func119,Tryz.ntmps119;go_upto_region 1 with fail
 rw [HWW.o];clear HWW;go_wp2_with fail;refine HTO.o.mono ?_;rintro e w1 ⟨tt,f,rfl,hf,hb1⟩;have HB1:=shB HBA hb1;have HK1:=shN HBK hb1;have HF:Hid (f=0↔deb.Mays x.ds):=hf.1.ok;clear hf hb1 HTO HBA HBK c6;obtain ⟨c0,c1,c2,c3,c4,c5,c6⟩:=scl7 HK1;by_cases h0:f=0
 ·have HM:Hid (deb.Mays x.ds):=HF.o.1 h0;subst h0;by_cases g0:0≤x.me∧x.me≤49
  ·rw [decide_eq_true g0] at HI0;go_wp2_with fail;refine (HI0.o _).mono ?_;rintro e w2 ⟨rfl,hw2⟩;subst w2;by_cases g1:0≤x.rv∧x.rv≤15
   ·rw [decide_eq_true g1] at HI1;go_wp2_with fail;refine (HI1.o _).mono ?_;rintro e w2 ⟨rfl,hw2⟩;subst w2;by_cases g2:1≤x.nx∧x.nx≤1048576
    ·rw [decide_eq_true g2] at HI2;go_wp2_with fail;refine (HI2.o _).mono ?_;rintro e w2 ⟨rfl,hw2⟩;subst w2;by_cases g3:0≤x.mo∧x.mo≤2399
     ·rw [decide_eq_true g3] at HI3;go_wp2_with fail;refine (HI3.o _).mono ?_;rintro e w2 ⟨rfl,hw2⟩;subst w2;by_cases g4:0≤x.bo∧x.bo≤10000000
      ·rw [decide_eq_true g4] at HI4;go_wp2_with fail;refine (HI4.o _).mono ?_;rintro e w2 ⟨rfl,hw2⟩;subst w2;by_cases g5:-1≤x.fr∧x.fr≤x.mo
       ·rw [decide_eq_true g5] at HI5;go_wp2_with fail;refine (HI5.o _).mono ?_;rintro e w2 ⟨rfl,hw2⟩;subst w2;have HY:Hid (AMay x):=⟨HM.o,g0,g1,g2,g3,g4,g5⟩
        go_wp2_with fail;go_ret;exact ⟨true,rfl,⟨fun _=>HY.o,fun _=>rfl⟩,HB1.o⟩
       ·rw [decide_eq_false g5] at HI5;have HN:Hid (¬ AMay x):=fun h=>g5 h.2.2.2.2.2.2;clear g5;go_wp2_with fail;refine (HI5.o _).mono ?_;rintro e w2 ⟨rfl,hw2⟩;subst w2;go_wp2_with fail
        all_goals first
         | (rename_i q1 q2;exact absurd q1 (by simp [undef]))
         | (go_ret;exact ⟨false,rfl,⟨fun h=>absurd h (by decide),fun h=>absurd h HN.o⟩,HB1.o⟩)
      ·rw [decide_eq_false g4] at HI4;have HN:Hid (¬ AMay x):=fun h=>g4 h.2.2.2.2.2.1;clear g4;go_wp2_with fail;refine (HI4.o _).mono ?_;rintro e w2 ⟨rfl,hw2⟩;subst w2;go_wp2_with fail
       all_goals first
        | (rename_i q1 q2;exact absurd q1 (by simp [undef]))
        | (go_ret;exact ⟨false,rfl,⟨fun h=>absurd h (by decide),fun h=>absurd h HN.o⟩,HB1.o⟩)
     ·rw [decide_eq_false g3] at HI3;have HN:Hid (¬ AMay x):=fun h=>g3 h.2.2.2.2.1;clear g3;go_wp2_with fail;refine (HI3.o _).mono ?_;rintro e w2 ⟨rfl,hw2⟩;subst w2;go_wp2_with fail
      all_goals first
       | (rename_i q1 q2;exact absurd q1 (by simp [undef]))
       | (go_ret;exact ⟨false,rfl,⟨fun h=>absurd h (by decide),fun h=>absurd h HN.o⟩,HB1.o⟩)
    ·rw [decide_eq_false g2] at HI2;have HN:Hid (¬ AMay x):=fun h=>g2 h.2.2.2.1;clear g2;go_wp2_with fail;refine (HI2.o _).mono ?_;rintro e w2 ⟨rfl,hw2⟩;subst w2;go_wp2_with fail
     all_goals first
      | (rename_i q1 q2;exact absurd q1 (by simp [undef]))
      | (go_ret;exact ⟨false,rfl,⟨fun h=>absurd h (by decide),fun h=>absurd h HN.o⟩,HB1.o⟩)
   ·rw [decide_eq_false g1] at HI1;have HN:Hid (¬ AMay x):=fun h=>g1 h.2.2.1;clear g1;go_wp2_with fail;refine (HI1.o _).mono ?_;rintro e w2 ⟨rfl,hw2⟩;subst w2;go_wp2_with fail
    all_goals first
     | (rename_i q1 q2;exact absurd q1 (by simp [undef]))
     | (go_ret;exact ⟨false,rfl,⟨fun h=>absurd h (by decide),fun h=>absurd h HN.o⟩,HB1.o⟩)
  ·rw [decide_eq_false g0] at HI0;have HN:Hid (¬ AMay x):=fun h=>g0 h.2.1;clear g0;go_wp2_with fail;refine (HI0.o _).mono ?_;rintro e w2 ⟨rfl,hw2⟩;subst w2;go_wp2_with fail
   all_goals first
    | (rename_i q1 q2;exact absurd q1 (by simp [undef]))
    | (go_ret;exact ⟨false,rfl,⟨fun h=>absurd h (by decide),fun h=>absurd h HN.o⟩,HB1.o⟩)
 ·have d0:(f == 0)=false:=by simpa using h0
  have HN:Hid (¬ AMay x):=fun h=>h0 (HF.o.2 h.1);clear h0;go_wp2_with fail
  all_goals first
   | (rename_i q1 q2;exact absurd q1 (by simp [undef]))
   | (go_ret;exact ⟨false,rfl,⟨fun h=>absurd h (by decide),fun h=>absurd h HN.o⟩,HB1.o⟩)
end acc
end Go.Proofs.YtdpfnedfakgolaaGreatDoor
