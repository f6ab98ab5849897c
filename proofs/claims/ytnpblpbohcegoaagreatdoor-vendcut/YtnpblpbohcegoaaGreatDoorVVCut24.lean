import Derived.Test.YtnpblpbohcegoaaGreatDoorVVCut15
import Derived.Test.YtnpblpbohcegoaaGreatDoorVVCut19
set_option linter.unusedVariables false
set_option linter.unusedSimpArgs false
set_option maxHeartbeats 4000000
set_option maxRecDepth 100000
namespace Go.Proofs.YtnpblpbohcegoaaGreatDoor
namespace book
open Go.RowKit
theorem bnum (kd me mo id te de fe pr ch un tg ow bp:Int) (w:World):Calls Tryz.prog 156 #[.agg #[zI kd,zI me,zI mo,zI id,zI te,zI de,zI fe,zI pr,zI ch,zI un,zI tg,zI ow,zI bp]] w fun e w'=>YN w (Numd id tg) e w':=by
 obtain ⟨W0,HWW,HX0,HB0,-⟩:=sh1 w #[zI kd,zI me,zI mo,zI id,zI te,zI de,zI fe,zI pr,zI ch,zI un,zI tg,zI ow,zI bp] 72;go_enter Tryz.func156,Tryz.ntmps156;go_upto_region 1 with fail
 rw [HWW.o];clear HWW;have c0:W0.cell? ⟨w.heap.size,0,none⟩=some (zI kd):=HX0.o.cell 0;have c1:W0.cell? ⟨w.heap.size,1,none⟩=some (zI me):=HX0.o.cell 1;have c2:W0.cell? ⟨w.heap.size,2,none⟩=some (zI mo):=HX0.o.cell 2;have c3:W0.cell? ⟨w.heap.size,3,none⟩=some (zI id):=HX0.o.cell 3;have c4:W0.cell? ⟨w.heap.size,4,none⟩=some (zI te):=HX0.o.cell 4;have c5:W0.cell? ⟨w.heap.size,5,none⟩=some (zI de):=HX0.o.cell 5;have c6:W0.cell? ⟨w.heap.size,6,none⟩=some (zI fe):=HX0.o.cell 6;have c7:W0.cell? ⟨w.heap.size,7,none⟩=some (zI pr):=HX0.o.cell 7;have c8:W0.cell? ⟨w.heap.size,8,none⟩=some (zI ch):=HX0.o.cell 8;have c9:W0.cell? ⟨w.heap.size,9,none⟩=some (zI un):=HX0.o.cell 9;have c10:W0.cell? ⟨w.heap.size,10,none⟩=some (zI tg):=HX0.o.cell 10;have c11:W0.cell? ⟨w.heap.size,11,none⟩=some (zI ow):=HX0.o.cell 11;have c12:W0.cell? ⟨w.heap.size,12,none⟩=some (zI bp):=HX0.o.cell 12;have HW0:Hid (Calls Tryz.prog 109 #[zI 1,zI 1048575,.slice (some ⟨W0.heap.size,0,none⟩) 1 1] (W0.alloc (.cells #[zI id] 3)) fun e w'=>e = .returned (.bool (decide (1≤id∧id≤1048575)))∧w'=(W0.alloc (.cells #[zI id] 3))):=bki.within_one 1 1048575 id W0 _ rfl;have HB1:Hid (Below w.heap.size w (W0.alloc (.cells #[zI id] 3))):=HB0.o.alloc HB0.o.size _;have HX1:Hid (Blk (W0.alloc (.cells #[zI id] 3)) w.heap.size #[zI kd,zI me,zI mo,zI id,zI te,zI de,zI fe,zI pr,zI ch,zI un,zI tg,zI ow,zI bp] 72):=HX0.o.alloc _;by_cases h0:1≤id∧id≤1048575
 case neg=>
  rw [decide_eq_false h0] at HW0;go_wp2_with fail;refine HW0.o.mono ?_;rintro e W ⟨rfl,hw⟩;subst hw;clear HW0;go_wp2_with fail;go_ret;exact YN.no (fun q=>h0 q.1) HB1.o
 rw [decide_eq_true h0] at HW0;go_wp2_with fail;refine HW0.o.mono ?_;rintro e W ⟨rfl,hw⟩;subst hw;clear HW0 HB0 HX0;clear c0 c1 c2 c3 c4 c5 c6 c7 c8 c9 c10 c11 c12;generalize (W0.alloc (.cells #[zI id] 3))=W1 at *;have c0:W1.cell? ⟨w.heap.size,0,none⟩=some (zI kd):=HX1.o.cell 0;have c1:W1.cell? ⟨w.heap.size,1,none⟩=some (zI me):=HX1.o.cell 1;have c2:W1.cell? ⟨w.heap.size,2,none⟩=some (zI mo):=HX1.o.cell 2;have c3:W1.cell? ⟨w.heap.size,3,none⟩=some (zI id):=HX1.o.cell 3;have c4:W1.cell? ⟨w.heap.size,4,none⟩=some (zI te):=HX1.o.cell 4;have c5:W1.cell? ⟨w.heap.size,5,none⟩=some (zI de):=HX1.o.cell 5;have c6:W1.cell? ⟨w.heap.size,6,none⟩=some (zI fe):=HX1.o.cell 6;have c7:W1.cell? ⟨w.heap.size,7,none⟩=some (zI pr):=HX1.o.cell 7;have c8:W1.cell? ⟨w.heap.size,8,none⟩=some (zI ch):=HX1.o.cell 8;have c9:W1.cell? ⟨w.heap.size,9,none⟩=some (zI un):=HX1.o.cell 9;have c10:W1.cell? ⟨w.heap.size,10,none⟩=some (zI tg):=HX1.o.cell 10;have c11:W1.cell? ⟨w.heap.size,11,none⟩=some (zI ow):=HX1.o.cell 11;have c12:W1.cell? ⟨w.heap.size,12,none⟩=some (zI bp):=HX1.o.cell 12;have HW1:Hid (Calls Tryz.prog 109 #[zI 0,zI 65535,.slice (some ⟨W1.heap.size,0,none⟩) 1 1] (W1.alloc (.cells #[zI tg] 3)) fun e w'=>e = .returned (.bool (decide (0≤tg∧tg≤65535)))∧w'=(W1.alloc (.cells #[zI tg] 3))):=bki.within_one 0 65535 tg W1 _ rfl;have HB2:Hid (Below w.heap.size w (W1.alloc (.cells #[zI tg] 3))):=HB1.o.alloc HB1.o.size _;have HX2:Hid (Blk (W1.alloc (.cells #[zI tg] 3)) w.heap.size #[zI kd,zI me,zI mo,zI id,zI te,zI de,zI fe,zI pr,zI ch,zI un,zI tg,zI ow,zI bp] 72):=HX1.o.alloc _;by_cases h1:0≤tg∧tg≤65535
 case neg=>
  rw [decide_eq_false h1] at HW1;go_wp2_with fail;refine HW1.o.mono ?_;rintro e W ⟨rfl,hw⟩;subst hw;clear HW1;go_wp2_with fail;go_ret;exact YN.no (fun q=>h1 q.2) HB2.o
 rw [decide_eq_true h1] at HW1;go_wp2_with fail;refine HW1.o.mono ?_;rintro e W ⟨rfl,hw⟩;subst hw;clear HW1 HB1 HX1;clear c0 c1 c2 c3 c4 c5 c6 c7 c8 c9 c10 c11 c12;generalize (W1.alloc (.cells #[zI tg] 3))=W2 at *;have c0:W2.cell? ⟨w.heap.size,0,none⟩=some (zI kd):=HX2.o.cell 0;have c1:W2.cell? ⟨w.heap.size,1,none⟩=some (zI me):=HX2.o.cell 1;have c2:W2.cell? ⟨w.heap.size,2,none⟩=some (zI mo):=HX2.o.cell 2;have c3:W2.cell? ⟨w.heap.size,3,none⟩=some (zI id):=HX2.o.cell 3;have c4:W2.cell? ⟨w.heap.size,4,none⟩=some (zI te):=HX2.o.cell 4;have c5:W2.cell? ⟨w.heap.size,5,none⟩=some (zI de):=HX2.o.cell 5;have c6:W2.cell? ⟨w.heap.size,6,none⟩=some (zI fe):=HX2.o.cell 6;have c7:W2.cell? ⟨w.heap.size,7,none⟩=some (zI pr):=HX2.o.cell 7;have c8:W2.cell? ⟨w.heap.size,8,none⟩=some (zI ch):=HX2.o.cell 8;have c9:W2.cell? ⟨w.heap.size,9,none⟩=some (zI un):=HX2.o.cell 9;have c10:W2.cell? ⟨w.heap.size,10,none⟩=some (zI tg):=HX2.o.cell 10;have c11:W2.cell? ⟨w.heap.size,11,none⟩=some (zI ow):=HX2.o.cell 11;have c12:W2.cell? ⟨w.heap.size,12,none⟩=some (zI bp):=HX2.o.cell 12;go_wp2_with fail;go_ret;exact YN.yes (⟨h0,h1⟩) HB2.o
theorem bunt (kd me mo id te de fe pr ch un tg ow bp:Int) (w:World):Calls Tryz.prog 157 #[.agg #[zI kd,zI me,zI mo,zI id,zI te,zI de,zI fe,zI pr,zI ch,zI un,zI tg,zI ow,zI bp]] w fun e w'=>YN w (Unt un) e w':=by
 obtain ⟨W0,HWW,HX0,HB0,-⟩:=sh1 w #[zI kd,zI me,zI mo,zI id,zI te,zI de,zI fe,zI pr,zI ch,zI un,zI tg,zI ow,zI bp] 72;go_enter Tryz.func157,Tryz.ntmps157;go_upto_region 1 with fail
 rw [HWW.o];clear HWW;have c0:W0.cell? ⟨w.heap.size,0,none⟩=some (zI kd):=HX0.o.cell 0;have c1:W0.cell? ⟨w.heap.size,1,none⟩=some (zI me):=HX0.o.cell 1;have c2:W0.cell? ⟨w.heap.size,2,none⟩=some (zI mo):=HX0.o.cell 2;have c3:W0.cell? ⟨w.heap.size,3,none⟩=some (zI id):=HX0.o.cell 3;have c4:W0.cell? ⟨w.heap.size,4,none⟩=some (zI te):=HX0.o.cell 4;have c5:W0.cell? ⟨w.heap.size,5,none⟩=some (zI de):=HX0.o.cell 5;have c6:W0.cell? ⟨w.heap.size,6,none⟩=some (zI fe):=HX0.o.cell 6;have c7:W0.cell? ⟨w.heap.size,7,none⟩=some (zI pr):=HX0.o.cell 7;have c8:W0.cell? ⟨w.heap.size,8,none⟩=some (zI ch):=HX0.o.cell 8;have c9:W0.cell? ⟨w.heap.size,9,none⟩=some (zI un):=HX0.o.cell 9;have c10:W0.cell? ⟨w.heap.size,10,none⟩=some (zI tg):=HX0.o.cell 10;have c11:W0.cell? ⟨w.heap.size,11,none⟩=some (zI ow):=HX0.o.cell 11;have c12:W0.cell? ⟨w.heap.size,12,none⟩=some (zI bp):=HX0.o.cell 12;have HW0:Hid (Calls Tryz.prog 109 #[zI 1,zI 2097151,.slice (some ⟨W0.heap.size,0,none⟩) 1 1] (W0.alloc (.cells #[zI un] 3)) fun e w'=>e = .returned (.bool (decide (1≤un∧un≤2097151)))∧w'=(W0.alloc (.cells #[zI un] 3))):=bki.within_one 1 2097151 un W0 _ rfl;have HB1:Hid (Below w.heap.size w (W0.alloc (.cells #[zI un] 3))):=HB0.o.alloc HB0.o.size _;have HX1:Hid (Blk (W0.alloc (.cells #[zI un] 3)) w.heap.size #[zI kd,zI me,zI mo,zI id,zI te,zI de,zI fe,zI pr,zI ch,zI un,zI tg,zI ow,zI bp] 72):=HX0.o.alloc _;by_cases h0:1≤un∧un≤2097151
 case neg=>
  rw [decide_eq_false h0] at HW0;go_wp2_with fail;refine HW0.o.mono ?_;rintro e W ⟨rfl,hw⟩;subst hw;clear HW0;go_wp2_with fail;go_ret;exact YN.no (fun q=>h0 q) HB1.o
 rw [decide_eq_true h0] at HW0;go_wp2_with fail;refine HW0.o.mono ?_;rintro e W ⟨rfl,hw⟩;subst hw;clear HW0 HB0 HX0;clear c0 c1 c2 c3 c4 c5 c6 c7 c8 c9 c10 c11 c12;generalize (W0.alloc (.cells #[zI un] 3))=W1 at *;have c0:W1.cell? ⟨w.heap.size,0,none⟩=some (zI kd):=HX1.o.cell 0;have c1:W1.cell? ⟨w.heap.size,1,none⟩=some (zI me):=HX1.o.cell 1;have c2:W1.cell? ⟨w.heap.size,2,none⟩=some (zI mo):=HX1.o.cell 2;have c3:W1.cell? ⟨w.heap.size,3,none⟩=some (zI id):=HX1.o.cell 3;have c4:W1.cell? ⟨w.heap.size,4,none⟩=some (zI te):=HX1.o.cell 4;have c5:W1.cell? ⟨w.heap.size,5,none⟩=some (zI de):=HX1.o.cell 5;have c6:W1.cell? ⟨w.heap.size,6,none⟩=some (zI fe):=HX1.o.cell 6;have c7:W1.cell? ⟨w.heap.size,7,none⟩=some (zI pr):=HX1.o.cell 7;have c8:W1.cell? ⟨w.heap.size,8,none⟩=some (zI ch):=HX1.o.cell 8;have c9:W1.cell? ⟨w.heap.size,9,none⟩=some (zI un):=HX1.o.cell 9;have c10:W1.cell? ⟨w.heap.size,10,none⟩=some (zI tg):=HX1.o.cell 10;have c11:W1.cell? ⟨w.heap.size,11,none⟩=some (zI ow):=HX1.o.cell 11;have c12:W1.cell? ⟨w.heap.size,12,none⟩=some (zI bp):=HX1.o.cell 12;go_wp2_with fail;go_ret;exact YN.yes (h0) HB1.o
theorem bmony (id te de fe pr ch un:Int) (w:World):Calls Tryz.prog 158 #[.agg #[zI id,zI te,zI de,zI fe,zI pr,zI ch,zI un]] w fun e w'=>YN w (Mony te de fe pr ch) e w':=by
 obtain ⟨W0,HWW,HX0,HB0,-⟩:=sh1 w #[zI id,zI te,zI de,zI fe,zI pr,zI ch,zI un] 68;go_enter Tryz.func158,Tryz.ntmps158;go_upto_region 1 with fail
 rw [HWW.o];clear HWW;obtain ⟨c0,c1,c2,c3,c4,c5,c6⟩:=scl7 HX0;have HW0:Hid (Calls Tryz.prog 109 #[zI 1,zI 100000000,.slice (some ⟨W0.heap.size,0,none⟩) 1 1] (W0.alloc (.cells #[zI te] 3)) fun e w'=>e = .returned (.bool (decide (1≤te∧te≤100000000)))∧w'=(W0.alloc (.cells #[zI te] 3))):=bki.within_one 1 100000000 te W0 _ rfl;have HB1:Hid (Below w.heap.size w (W0.alloc (.cells #[zI te] 3))):=HB0.o.alloc HB0.o.size _;have HX1:Hid (Blk (W0.alloc (.cells #[zI te] 3)) w.heap.size #[zI id,zI te,zI de,zI fe,zI pr,zI ch,zI un] 68):=HX0.o.alloc _;by_cases h0:1≤te∧te≤100000000
 case neg=>
  rw [decide_eq_false h0] at HW0;go_wp2_with fail;refine HW0.o.mono ?_;rintro e W ⟨rfl,hw⟩;subst hw;clear HW0;go_wp2_with fail;go_ret;exact YN.no (fun q=>h0 q.1) HB1.o
 rw [decide_eq_true h0] at HW0;go_wp2_with fail;refine HW0.o.mono ?_;rintro e W ⟨rfl,hw⟩;subst hw;clear HW0 HB0 HX0;clear c0 c1 c2 c3 c4 c5 c6;generalize (W0.alloc (.cells #[zI te] 3))=W1 at *;obtain ⟨c0,c1,c2,c3,c4,c5,c6⟩:=scl7 HX1;have HW1:Hid (Calls Tryz.prog 109 #[zI 0,zI 100000000,.slice (some ⟨W1.heap.size,0,none⟩) 4 4] (W1.alloc (.cells #[zI de,zI fe,zI pr,zI ch] 3)) fun e w'=>e = .returned (.bool (bki.okAll 0 100000000 [de,fe,pr,ch]))∧w'=(W1.alloc (.cells #[zI de,zI fe,zI pr,zI ch] 3))):=bki.within_any 0 100000000 _ 4 4 [de,fe,pr,ch] _ (bki.row_four W1 de fe pr ch 3) (by decide);have HB2:Hid (Below w.heap.size w (W1.alloc (.cells #[zI de,zI fe,zI pr,zI ch] 3))):=HB1.o.alloc HB1.o.size _;have HX2:Hid (Blk (W1.alloc (.cells #[zI de,zI fe,zI pr,zI ch] 3)) w.heap.size #[zI id,zI te,zI de,zI fe,zI pr,zI ch,zI un] 68):=HX1.o.alloc _;by_cases h1:bki.okAll 0 100000000 [de,fe,pr,ch]=true
 case neg=>
  rw [show bki.okAll 0 100000000 [de,fe,pr,ch]=false by simpa using h1] at HW1;go_wp2_with fail;refine HW1.o.mono ?_;rintro e W ⟨rfl,hw⟩;subst hw;clear HW1;go_wp2_with fail;go_ret;exact YN.no (fun q=>h1 (by simpa [bki.okAll] using q.2.1)) HB2.o
 rw [h1] at HW1;go_wp2_with fail;refine HW1.o.mono ?_;rintro e W ⟨rfl,hw⟩;subst hw;clear HW1 HB1 HX1;clear c0 c1 c2 c3 c4 c5 c6;generalize (W1.alloc (.cells #[zI de,zI fe,zI pr,zI ch] 3))=W2 at *;obtain ⟨c0,c1,c2,c3,c4,c5,c6⟩:=scl7 HX2;have hh:(0≤de∧de≤100000000)∧(0≤fe∧fe≤100000000)∧(0≤pr∧pr≤100000000)∧0≤ch∧ch≤100000000:=by simpa [bki.okAll] using h1
 have e1:IntKind.i64.wrap (de+fe)=de+fe:=by rw [IntKind.wrap_i64];omega
 have e2:IntKind.i64.wrap (de+fe+pr)=de+fe+pr:=by rw [IntKind.wrap_i64];omega
 have e3:IntKind.i64.wrap (de+fe+pr+ch)=de+fe+pr+ch:=by rw [IntKind.wrap_i64];omega
 have HH:Hid ((0≤de∧de≤100000000)∧(0≤fe∧fe≤100000000)∧(0≤pr∧pr≤100000000)∧0≤ch∧ch≤100000000):=hh;have H0:Hid (1≤te∧te≤100000000):=h0;clear hh h1 h0;by_cases h2:de+fe+pr+ch=te
 ·have hq:((de+fe+pr+ch) == te)=true:=by simpa using h2
  have H2:Hid (de+fe+pr+ch=te):=h2;clear h2;go_wp2_with fail;go_ret;exact YN.yes ⟨H0.o,HH.o,H2.o⟩ HB2.o
 ·have hq:((de+fe+pr+ch) == te)=false:=by simpa using h2
  have H2:Hid (¬ de+fe+pr+ch=te):=h2;clear h2;go_wp2_with fail;go_ret;exact YN.no (fun q=>H2.o q.2.2) HB2.o
theorem bkind (kd me mo id te de fe pr ch un tg ow bp:Int) (w:World):Calls Tryz.prog 110 #[.agg #[zI kd,zI me,zI mo,zI id,zI te,zI de,zI fe,zI pr,zI ch,zI un,zI tg,zI ow,zI bp]] w fun e w'=>YN w (KindR ⟨kd,me,mo,id,te,de,fe,pr,ch,un,tg,ow,bp⟩) e w':=by
 obtain ⟨W0,HWW,HX0,HB0,-⟩:=sh1 w #[zI kd,zI me,zI mo,zI id,zI te,zI de,zI fe,zI pr,zI ch,zI un,zI tg,zI ow,zI bp] 72;go_enter Tryz.func110,Tryz.ntmps110;go_upto_region 1 with fail
 rw [HWW.o];clear HWW;obtain ⟨c0,c1,c2,c3,c4,c5,c6,c7,c8,c9,c10,c11,c12⟩:=scl13 HX0;by_cases k1:kd=1
 case pos=>
  have q1:(kd == 1)=true:=by simpa using k1
  have HK:Hid (kd=1):=k1;clear k1;go_wp2_with fail;go_ret;exact YN.yes (Or.inl HK.o) HB0.o
 have q1:(kd == 1)=false:=by simpa using k1
 by_cases k2:kd=2
 case pos=>
  have q2:(kd == 2)=true:=by simpa using k2
  have HK:Hid (kd=2):=k2;clear k1 k2;have HW0:Hid (Calls Tryz.prog 109 #[zI 0,zI 2399,.slice (some ⟨W0.heap.size,0,none⟩) 1 1] (W0.alloc (.cells #[zI mo] 3)) fun e w'=>e = .returned (.bool (decide (0≤mo∧mo≤2399)))∧w'=(W0.alloc (.cells #[zI mo] 3))):=bki.within_one 0 2399 mo W0 _ rfl;have HB1:Hid (Below w.heap.size w (W0.alloc (.cells #[zI mo] 3))):=HB0.o.alloc HB0.o.size _;have HX1:Hid (Blk (W0.alloc (.cells #[zI mo] 3)) w.heap.size #[zI kd,zI me,zI mo,zI id,zI te,zI de,zI fe,zI pr,zI ch,zI un,zI tg,zI ow,zI bp] 72):=HX0.o.alloc _;by_cases h0:0≤mo∧mo≤2399
  case neg=>
   rw [decide_eq_false h0] at HW0;go_wp2_with fail;refine HW0.o.mono ?_;rintro e W ⟨rfl,hw⟩;subst hw;clear HW0;go_wp2_with fail;go_ret;exact YN.no (fun q=>(fun q=>h0 q.1) ((kind_2 (v:=⟨kd,me,mo,id,te,de,fe,pr,ch,un,tg,ow,bp⟩) HK.o).1 q)) HB1.o
  rw [decide_eq_true h0] at HW0;go_wp2_with fail;refine HW0.o.mono ?_;rintro e W ⟨rfl,hw⟩;subst hw;clear HW0 HB0 HX0;clear c0 c1 c2 c3 c4 c5 c6 c7 c8 c9 c10 c11 c12;generalize (W0.alloc (.cells #[zI mo] 3))=W1 at *;obtain ⟨c0,c1,c2,c3,c4,c5,c6,c7,c8,c9,c10,c11,c12⟩:=scl13 HX1;have HC1:Hid (∀ W,Calls Tryz.prog 156 #[.agg #[zI kd,zI me,zI mo,zI id,zI te,zI de,zI fe,zI pr,zI ch,zI un,zI tg,zI ow,zI bp]] W fun e w'=>YN W (Numd id tg) e w'):=fun W=>bnum kd me mo id te de fe pr ch un tg ow bp W;go_wp2_with fail;refine (HC1.o _).mono ?_;rintro e W2 ⟨B,rfl,hB,hb⟩;have HB2:=shB HB1 hb;have HX2:=shN HX1 hb;clear hb HC1 HB1 HX1;clear c0 c1 c2 c3 c4 c5 c6 c7 c8 c9 c10 c11 c12;obtain ⟨c0,c1,c2,c3,c4,c5,c6,c7,c8,c9,c10,c11,c12⟩:=scl13 HX2;cases B
  case false=>
   have HQ:Hid (¬ (Numd id tg)):=fun q=>absurd (hB.2 q) (by decide);clear hB;go_wp2_with fail;go_ret;exact YN.no (fun q=>(fun q=>HQ.o q.2.1) ((kind_2 (v:=⟨kd,me,mo,id,te,de,fe,pr,ch,un,tg,ow,bp⟩) HK.o).1 q)) HB2.o
  have H1:Hid (Numd id tg):=hB.1 rfl;clear hB;have HC2:Hid (∀ W,Calls Tryz.prog 157 #[.agg #[zI kd,zI me,zI mo,zI id,zI te,zI de,zI fe,zI pr,zI ch,zI un,zI tg,zI ow,zI bp]] W fun e w'=>YN W (Unt un) e w'):=fun W=>bunt kd me mo id te de fe pr ch un tg ow bp W;go_wp2_with fail;refine (HC2.o _).mono ?_;rintro e W3 ⟨B,rfl,hB,hb⟩;have HB3:=shB HB2 hb;have HX3:=shN HX2 hb;clear hb HC2 HB2 HX2;clear c0 c1 c2 c3 c4 c5 c6 c7 c8 c9 c10 c11 c12;obtain ⟨c0,c1,c2,c3,c4,c5,c6,c7,c8,c9,c10,c11,c12⟩:=scl13 HX3;cases B
  case false=>
   have HQ:Hid (¬ (Unt un)):=fun q=>absurd (hB.2 q) (by decide);clear hB;go_wp2_with fail;go_ret;exact YN.no (fun q=>(fun q=>HQ.o q.2.2.1) ((kind_2 (v:=⟨kd,me,mo,id,te,de,fe,pr,ch,un,tg,ow,bp⟩) HK.o).1 q)) HB3.o
  have H2:Hid (Unt un):=hB.1 rfl;clear hB;have HC3:Hid (∀ W,Calls Tryz.prog 158 #[.agg #[zI id,zI te,zI de,zI fe,zI pr,zI ch,zI un]] W fun e w'=>YN W (Mony te de fe pr ch) e w'):=fun W=>bmony id te de fe pr ch un W;go_wp2_with fail;refine (HC3.o _).mono ?_;rintro e W4 ⟨B,rfl,hB,hb⟩;have HB4:=shB HB3 hb;have HX4:=shN HX3 hb;clear hb HC3 HB3 HX3;clear c0 c1 c2 c3 c4 c5 c6 c7 c8 c9 c10 c11 c12;obtain ⟨c0,c1,c2,c3,c4,c5,c6,c7,c8,c9,c10,c11,c12⟩:=scl13 HX4;cases B
  case false=>
   have HQ:Hid (¬ (Mony te de fe pr ch)):=fun q=>absurd (hB.2 q) (by decide);clear hB;go_wp2_with fail;go_ret;exact YN.no (fun q=>(fun q=>HQ.o q.2.2.2) ((kind_2 (v:=⟨kd,me,mo,id,te,de,fe,pr,ch,un,tg,ow,bp⟩) HK.o).1 q)) HB4.o
  have H3:Hid (Mony te de fe pr ch):=hB.1 rfl;clear hB;go_wp2_with fail;go_ret;exact YN.yes ((kind_2 (v:=⟨kd,me,mo,id,te,de,fe,pr,ch,un,tg,ow,bp⟩) HK.o).2 ⟨h0,H1.o,H2.o,H3.o⟩) HB4.o
 have q2:(kd == 2)=false:=by simpa using k2
 by_cases k3:kd=3
 case pos=>
  have q3:(kd == 3)=true:=by simpa using k3
  have HK:Hid (kd=3):=k3;clear k1 k2 k3;have HW0:Hid (Calls Tryz.prog 109 #[zI 0,zI 2399,.slice (some ⟨W0.heap.size,0,none⟩) 1 1] (W0.alloc (.cells #[zI mo] 3)) fun e w'=>e = .returned (.bool (decide (0≤mo∧mo≤2399)))∧w'=(W0.alloc (.cells #[zI mo] 3))):=bki.within_one 0 2399 mo W0 _ rfl;have HB1:Hid (Below w.heap.size w (W0.alloc (.cells #[zI mo] 3))):=HB0.o.alloc HB0.o.size _;have HX1:Hid (Blk (W0.alloc (.cells #[zI mo] 3)) w.heap.size #[zI kd,zI me,zI mo,zI id,zI te,zI de,zI fe,zI pr,zI ch,zI un,zI tg,zI ow,zI bp] 72):=HX0.o.alloc _;by_cases h0:0≤mo∧mo≤2399
  case neg=>
   rw [decide_eq_false h0] at HW0;go_wp2_with fail;refine HW0.o.mono ?_;rintro e W ⟨rfl,hw⟩;subst hw;clear HW0;go_wp2_with fail;go_ret;exact YN.no (fun q=>(fun q=>h0 q.1) ((kind_3 (v:=⟨kd,me,mo,id,te,de,fe,pr,ch,un,tg,ow,bp⟩) HK.o).1 q)) HB1.o
  rw [decide_eq_true h0] at HW0;go_wp2_with fail;refine HW0.o.mono ?_;rintro e W ⟨rfl,hw⟩;subst hw;clear HW0 HB0 HX0;clear c0 c1 c2 c3 c4 c5 c6 c7 c8 c9 c10 c11 c12;generalize (W0.alloc (.cells #[zI mo] 3))=W1 at *;obtain ⟨c0,c1,c2,c3,c4,c5,c6,c7,c8,c9,c10,c11,c12⟩:=scl13 HX1;have HC1:Hid (∀ W,Calls Tryz.prog 156 #[.agg #[zI kd,zI me,zI mo,zI id,zI te,zI de,zI fe,zI pr,zI ch,zI un,zI tg,zI ow,zI bp]] W fun e w'=>YN W (Numd id tg) e w'):=fun W=>bnum kd me mo id te de fe pr ch un tg ow bp W;go_wp2_with fail;refine (HC1.o _).mono ?_;rintro e W2 ⟨B,rfl,hB,hb⟩;have HB2:=shB HB1 hb;have HX2:=shN HX1 hb;clear hb HC1 HB1 HX1;clear c0 c1 c2 c3 c4 c5 c6 c7 c8 c9 c10 c11 c12;obtain ⟨c0,c1,c2,c3,c4,c5,c6,c7,c8,c9,c10,c11,c12⟩:=scl13 HX2;cases B
  case false=>
   have HQ:Hid (¬ (Numd id tg)):=fun q=>absurd (hB.2 q) (by decide);clear hB;go_wp2_with fail;go_ret;exact YN.no (fun q=>(fun q=>HQ.o q.2.1) ((kind_3 (v:=⟨kd,me,mo,id,te,de,fe,pr,ch,un,tg,ow,bp⟩) HK.o).1 q)) HB2.o
  have H1:Hid (Numd id tg):=hB.1 rfl;clear hB;have HC2:Hid (∀ W,Calls Tryz.prog 157 #[.agg #[zI kd,zI me,zI mo,zI id,zI te,zI de,zI fe,zI pr,zI ch,zI un,zI tg,zI ow,zI bp]] W fun e w'=>YN W (Unt un) e w'):=fun W=>bunt kd me mo id te de fe pr ch un tg ow bp W;go_wp2_with fail;refine (HC2.o _).mono ?_;rintro e W3 ⟨B,rfl,hB,hb⟩;have HB3:=shB HB2 hb;have HX3:=shN HX2 hb;clear hb HC2 HB2 HX2;clear c0 c1 c2 c3 c4 c5 c6 c7 c8 c9 c10 c11 c12;obtain ⟨c0,c1,c2,c3,c4,c5,c6,c7,c8,c9,c10,c11,c12⟩:=scl13 HX3;cases B
  case false=>
   have HQ:Hid (¬ (Unt un)):=fun q=>absurd (hB.2 q) (by decide);clear hB;go_wp2_with fail;go_ret;exact YN.no (fun q=>(fun q=>HQ.o q.2.2) ((kind_3 (v:=⟨kd,me,mo,id,te,de,fe,pr,ch,un,tg,ow,bp⟩) HK.o).1 q)) HB3.o
  have H2:Hid (Unt un):=hB.1 rfl;clear hB;go_wp2_with fail;go_ret;exact YN.yes ((kind_3 (v:=⟨kd,me,mo,id,te,de,fe,pr,ch,un,tg,ow,bp⟩) HK.o).2 ⟨h0,H1.o,H2.o⟩) HB3.o
 have q3:(kd == 3)=false:=by simpa using k3
 by_cases k4:kd=4
 case pos=>
  have q4:(kd == 4)=true:=by simpa using k4
  have HK:Hid (kd=4):=k4;clear k1 k2 k3 k4;have HC0:Hid (∀ W,Calls Tryz.prog 156 #[.agg #[zI kd,zI me,zI mo,zI id,zI te,zI de,zI fe,zI pr,zI ch,zI un,zI tg,zI ow,zI bp]] W fun e w'=>YN W (Numd id tg) e w'):=fun W=>bnum kd me mo id te de fe pr ch un tg ow bp W;go_wp2_with fail;refine (HC0.o _).mono ?_;rintro e W1 ⟨B,rfl,hB,hb⟩;have HB1:=shB HB0 hb;have HX1:=shN HX0 hb;clear hb HC0 HB0 HX0;clear c0 c1 c2 c3 c4 c5 c6 c7 c8 c9 c10 c11 c12;obtain ⟨c0,c1,c2,c3,c4,c5,c6,c7,c8,c9,c10,c11,c12⟩:=scl13 HX1;cases B
  case false=>
   have HQ:Hid (¬ (Numd id tg)):=fun q=>absurd (hB.2 q) (by decide);clear hB;go_wp2_with fail;go_ret;exact YN.no (fun q=>(fun q=>HQ.o q) ((kind_4 (v:=⟨kd,me,mo,id,te,de,fe,pr,ch,un,tg,ow,bp⟩) HK.o).1 q)) HB1.o
  have H1:Hid (Numd id tg):=hB.1 rfl;clear hB;go_wp2_with fail;go_ret;exact YN.yes ((kind_4 (v:=⟨kd,me,mo,id,te,de,fe,pr,ch,un,tg,ow,bp⟩) HK.o).2 H1.o) HB1.o
 have q4:(kd == 4)=false:=by simpa using k4
 by_cases k5:kd=5
 case pos=>
  have q5:(kd == 5)=true:=by simpa using k5
  have HK:Hid (kd=5):=k5;clear k1 k2 k3 k4 k5;have HW0:Hid (Calls Tryz.prog 109 #[zI 1,zI 1000000000,.slice (some ⟨W0.heap.size,0,none⟩) 1 1] (W0.alloc (.cells #[zI ow] 3)) fun e w'=>e = .returned (.bool (decide (1≤ow∧ow≤1000000000)))∧w'=(W0.alloc (.cells #[zI ow] 3))):=bki.within_one 1 1000000000 ow W0 _ rfl;have HB1:Hid (Below w.heap.size w (W0.alloc (.cells #[zI ow] 3))):=HB0.o.alloc HB0.o.size _;have HX1:Hid (Blk (W0.alloc (.cells #[zI ow] 3)) w.heap.size #[zI kd,zI me,zI mo,zI id,zI te,zI de,zI fe,zI pr,zI ch,zI un,zI tg,zI ow,zI bp] 72):=HX0.o.alloc _;by_cases h0:1≤ow∧ow≤1000000000
  case neg=>
   rw [decide_eq_false h0] at HW0;go_wp2_with fail;refine HW0.o.mono ?_;rintro e W ⟨rfl,hw⟩;subst hw;clear HW0;go_wp2_with fail;go_ret;exact YN.no (fun q=>(fun q=>h0 q.1) ((kind_5 (v:=⟨kd,me,mo,id,te,de,fe,pr,ch,un,tg,ow,bp⟩) HK.o).1 q)) HB1.o
  rw [decide_eq_true h0] at HW0;go_wp2_with fail;refine HW0.o.mono ?_;rintro e W ⟨rfl,hw⟩;subst hw;clear HW0 HB0 HX0;clear c0 c1 c2 c3 c4 c5 c6 c7 c8 c9 c10 c11 c12;generalize (W0.alloc (.cells #[zI ow] 3))=W1 at *;obtain ⟨c0,c1,c2,c3,c4,c5,c6,c7,c8,c9,c10,c11,c12⟩:=scl13 HX1;have HW1:Hid (Calls Tryz.prog 109 #[zI 0,zI 10000,.slice (some ⟨W1.heap.size,0,none⟩) 1 1] (W1.alloc (.cells #[zI bp] 3)) fun e w'=>e = .returned (.bool (decide (0≤bp∧bp≤10000)))∧w'=(W1.alloc (.cells #[zI bp] 3))):=bki.within_one 0 10000 bp W1 _ rfl;have HB2:Hid (Below w.heap.size w (W1.alloc (.cells #[zI bp] 3))):=HB1.o.alloc HB1.o.size _;have HX2:Hid (Blk (W1.alloc (.cells #[zI bp] 3)) w.heap.size #[zI kd,zI me,zI mo,zI id,zI te,zI de,zI fe,zI pr,zI ch,zI un,zI tg,zI ow,zI bp] 72):=HX1.o.alloc _;by_cases h1:0≤bp∧bp≤10000
  case neg=>
   rw [decide_eq_false h1] at HW1;go_wp2_with fail;refine HW1.o.mono ?_;rintro e W ⟨rfl,hw⟩;subst hw;clear HW1;go_wp2_with fail;go_ret;exact YN.no (fun q=>(fun q=>h1 q.2) ((kind_5 (v:=⟨kd,me,mo,id,te,de,fe,pr,ch,un,tg,ow,bp⟩) HK.o).1 q)) HB2.o
  rw [decide_eq_true h1] at HW1;go_wp2_with fail;refine HW1.o.mono ?_;rintro e W ⟨rfl,hw⟩;subst hw;clear HW1 HB1 HX1;clear c0 c1 c2 c3 c4 c5 c6 c7 c8 c9 c10 c11 c12;generalize (W1.alloc (.cells #[zI bp] 3))=W2 at *;obtain ⟨c0,c1,c2,c3,c4,c5,c6,c7,c8,c9,c10,c11,c12⟩:=scl13 HX2;go_wp2_with fail;go_ret;exact YN.yes ((kind_5 (v:=⟨kd,me,mo,id,te,de,fe,pr,ch,un,tg,ow,bp⟩) HK.o).2 ⟨h0,h1⟩) HB2.o
 have q5:(kd == 5)=false:=by simpa using k5
 have HK:Hid (¬ KindR ⟨kd,me,mo,id,te,de,fe,pr,ch,un,tg,ow,bp⟩):=fun q=>by
  rcases q with q | q | q | q | q
  ·exact k1 q
  ·exact k2 q.1
  ·exact k3 q.1
  ·exact k4 q.1
  ·exact k5 q.1
 clear k1 k2 k3 k4 k5;go_wp2_with fail;go_ret;exact YN.no HK.o HB0.o
open acc (Ac Tm Bi APost BPost TFault TRight OpenIs OweIs SellIs GrantIs RekeyIs wf6 ACame TCame)
theorem wf_i {z:Int} (h0:-1≤z) (h1:z≤4000000000):(Lit.int .i64 z).wf=true:=by
 have h1:IntKind.i64.min≤z:=by
  have e:IntKind.i64.min=-9223372036854775808:=by decide
  omega
 have h2:z≤IntKind.i64.max:=by
  have e:IntKind.i64.max=9223372036854775807:=by decide
  omega
 show (decide (IntKind.i64.min≤z) && decide (z≤IntKind.i64.max))=true;rw [Bool.and_eq_true];exact ⟨decide_eq_true h1,decide_eq_true h2⟩
theorem may_wf {a:Ac} (h:acc.AMay a):wf6 a:=by
 obtain ⟨_,⟨a1,a2⟩,⟨b1,b2⟩,⟨c1,c2⟩,⟨d1,d2⟩,⟨e1,e2⟩,f1,f2⟩:=h;exact ⟨wf_i (by omega) (by omega),wf_i (by omega) (by omega),wf_i (by omega) (by omega),wf_i (by omega) (by omega),wf_i (by omega) (by omega),wf_i (by omega) (by omega)⟩
def AWf (bk:List Cm):Prop:=∀ c∈bk,wf6 c.a
theorem owe_wf {a b:Ac} {d:tar.Du} (h:OweIs a d b 0):wf6 b∧b.me=a.me:=by
 rcases h with ⟨_,_,e⟩ | ⟨_,_,_,e⟩ | ⟨_,_,_,_,e⟩ | ⟨p,_,_,rfl,_⟩
 ·cases e
 ·cases e
 ·cases e
 ·have h:=may_wf p;exact ⟨⟨h.1,h.2.1,h.2.2.1,h.2.2.2.1,h.2.2.2.2.1,h.2.2.2.2.2⟩,rfl⟩
theorem tells_wf {t:Tm} {c:Cm} {v:Ev} {b:Ac} {l:Bi} (h:Tells t c v b l 0) (hl:l.un≤2097151) (hl0:0≤l.un):wf6 b∧b.me=c.a.me:=by
 rcases h with ⟨_,h⟩ | ⟨_,h⟩ | ⟨_,h⟩
 ·rcases h with ⟨p,_,_⟩ | ⟨_,_,e,_⟩ | ⟨_,_,_,e,_⟩ | ⟨hr,_,_,_,u,_,rfl,rfl⟩
  ·exact absurd rfl (fun (q:(0:Int)=0)=>by
    rcases p with ⟨_,p⟩ | ⟨_,p,q'⟩ | ⟨_,_,_,p⟩
    ·cases p
    ·exact p (q'.ok.1 rfl)
    ·exact p.ne rfl)
  ·cases e
  ·cases e
  ·obtain ⟨_,⟨a1,a2⟩,⟨b1,b2⟩,⟨c1,c2⟩,⟨d1,d2⟩,⟨e1,e2⟩,f1,f2⟩:=hr.1;obtain ⟨_,_,_,_,⟨m1,m2⟩,⟨k1,k2⟩,_⟩:=acc.rolled_may hr.1 hr.2.2;have hm:=hr.2.2.1;have hu:u≤2097151:=hl;have hu0:0≤u:=hl0;refine ⟨⟨wf_i (z:=c.a.me) (by omega) (by omega),wf_i (z:=c.a.rv) (by omega) (by omega),wf_i (z:=c.a.nx+1) (by omega) (by omega),wf_i (z:=v.mo) (by omega) (by omega),wf_i (z:=(acc.rolled c.a v.mo).bo+u) (by omega) (by omega),wf_i (z:=c.a.fr) (by omega) (by omega)⟩,rfl⟩
 ·rcases h with ⟨p,_,_⟩ | ⟨_,_,e,_⟩ | ⟨_,_,_,e,_⟩ | ⟨_,_,_,_,e,_⟩ | ⟨hr,_,_,_,_,rfl,_⟩
  ·exact absurd rfl (fun (q:(0:Int)=0)=>by
    rcases p with ⟨_,p⟩ | ⟨_,p,q'⟩ | ⟨_,_,_,p⟩
    ·cases p
    ·exact p (q'.ok.1 rfl)
    ·exact p.ne rfl)
  ·cases e
  ·cases e
  ·cases e
  ·obtain ⟨_,⟨a1,a2⟩,⟨b1,b2⟩,⟨c1,c2⟩,⟨d1,d2⟩,⟨e1,e2⟩,f1,f2⟩:=hr.1;obtain ⟨_,_,_,_,⟨m1,m2⟩,⟨k1,k2⟩,_⟩:=acc.rolled_may hr.1 hr.2.2;have hm:=hr.2.2.1;exact ⟨⟨wf_i (z:=c.a.me) (by omega) (by omega),wf_i (z:=c.a.rv) (by omega) (by omega),wf_i (z:=c.a.nx+1) (by omega) (by omega),wf_i (z:=v.mo) (by omega) (by omega),wf_i (z:=(acc.rolled c.a v.mo).bo) (by omega) (by omega),wf_i (z:=v.mo) (by omega) (by omega)⟩,rfl⟩
 ·rcases h with ⟨_,_,_,e⟩ | ⟨_,_,_,_,e⟩ | ⟨_,_,_,_,_,e⟩ | ⟨hr,_,_,rfl,_,_⟩
  ·cases e
  ·cases e
  ·cases e
  ·obtain ⟨_,⟨a1,a2⟩,⟨b1,b2⟩,⟨c1,c2⟩,⟨d1,d2⟩,⟨e1,e2⟩,f1,f2⟩:=hr;exact ⟨⟨wf_i (z:=c.a.me) (by omega) (by omega),wf_i (z:=c.a.rv+1) (by omega) (by omega),wf_i (z:=c.a.nx+1) (by omega) (by omega),wf_i (z:=c.a.mo) (by omega) (by omega),wf_i (z:=c.a.bo) (by omega) (by omega),wf_i (z:=c.a.fr) (by omega) (by omega)⟩,rfl⟩
theorem may_un {v:Ev} (h:EMay v):0≤v.un∧v.un≤2097151:=by
 unfold EMay at h;omega
theorem hap_wf {t:Tm} {c c':Cm} {v:Ev} (h:HapIs t c v c' 0) (hm:EMay v):wf6 c'.a∧c'.a.me=c.a.me:=by
 rcases h with ⟨_,b,q,r⟩ | ⟨_,b,l,e,q,r⟩
 ·rw [r rfl];exact owe_wf q
 ·rcases r with ⟨x,y⟩ | ⟨_,_,y⟩ | ⟨x,y,_,rfl⟩
  ·exact absurd y.symm x
  ·cases y
  ·subst x;subst y;exact tells_wf q (may_un hm).2 (may_un hm).1
theorem getD_in {bk:List Cm} {j:Nat} (h:j<bk.length):bk.getD j cm0∈bk:=getD_mem h
theorem AWf.set {bk:List Cm} {k:Nat} {c:Cm} (h:AWf bk) (hc:wf6 c.a):AWf (bk.set k c):=fun x hx=>by
 rcases List.mem_or_eq_of_mem_set hx with h' | rfl
 ·exact h x h'
 ·exact hc
theorem AWf.snoc {bk:List Cm} {c:Cm} (h:AWf bk) (hc:wf6 c.a):AWf (bk++[c]):=fun x hx=>by
 rcases List.mem_append.1 hx with h' | h'
 ·exact h x h'
 ·rw [List.mem_singleton.1 h'];exact hc
def wrc (V:Value) (t:Tm) (pt:Option Addr) (lt ct B:Nat):Array Value:=#[V,.slice pt lt ct,zI t.ff,zI t.fb,zI t.db,zI t.al,.map (some B)]
structure Kp (base gW B:Nat) (w w':World):Prop where
 os:w'.os=w.os
 tape:w'.tape=w.tape
 output:w'.output=w.output
 size:w.heap.size≤w'.heap.size
 block:∀ k,k<base→k≠gW→k≠B→w'.heap[k]?=w.heap[k]?
theorem Kp.refl (base gW B:Nat) (w:World):Kp base gW B w w:=⟨rfl,rfl,rfl,Nat.le_refl _,fun _ _ _ _=>rfl⟩
theorem Kp.trans {base gW B:Nat} {a b c:World} (h:Kp base gW B a b) (k:Kp base gW B b c):Kp base gW B a c:=⟨k.os.trans h.os,k.tape.trans h.tape,k.output.trans h.output,Nat.le_trans h.size k.size,fun i h1 h2 h3=>(k.block i h1 h2 h3).trans (h.block i h1 h2 h3)⟩
theorem Kp.of {base gW B n:Nat} {a b:World} (h:Below n a b) (hn:base≤n):Kp base gW B a b:=⟨h.os,h.tape,h.output,h.size,fun i h1 _ _=>h.block i (by omega)⟩
theorem Kp.bel {base gW B n:Nat} {a b c:World} (k:Kp base gW B b c) (h:Below n a b) (hn:n≤base) (h1:n≤gW) (h2:n≤B):Below n a c:=⟨k.os.trans h.os,k.tape.trans h.tape,k.output.trans h.output,Nat.le_trans h.size k.size,fun i hi=>(k.block i (by omega) (by omega) (by omega)).trans (h.block i hi)⟩
theorem Kp.keep {base gW B G:Nat} {a b:World} {cs:Array Value} {t:TypeId} (k:Kp base gW B a b) (h:Blk a G cs t) (h0:G<base) (h1:G≠gW) (h2:G≠B):Blk b G cs t:=by
 unfold Blk at *;rw [k.block G h0 h1 h2];exact h
theorem Kp.upd {base gW B g:Nat} {a b:World} {cs:Array Value} {t:TypeId} (hU:Upd a b g cs t) (hg:base≤g∨g=gW):Kp base gW B a b:=by
 have h:=hU.bel 0 a (Nat.zero_le _) (Below.refl _ _);exact ⟨h.os,h.tape,h.output,h.size,fun k h1 h2 _=>hU.oth k (by omega)⟩
theorem Kp.grown {base gW B:Nat} {a b:World} {own:Option Nat} (hg:a.grownBy b own) (hs:base≤a.heap.size) (ho:∀ g,own=some g→base≤g):Kp base gW B a b:=⟨hg.os,hg.tape,hg.output,hg.size,fun k h1 _ _=>hg.block k (by omega) (fun e=>by have:=ho k e.symm;omega)⟩
structure Wr (w0:World) (base gW B:Nat) (t:Tm) (pt:Option Addr) (lt ct:Nat) (V:Value) (xs:List Cu) (bk:List Cm) (w:World):Prop where
 blk:Blk w gW (wrc V t pt lt ct B) 113
 mp:MpI w B (mes bk)
 hold:Holds w base V xs bk
 gw:gW<base
 gb:B<base
 ne:gW≠B
 n0:w0.heap.size≤gW
 n1:w0.heap.size≤B
 sz:base≤w.heap.size
 bel:Below w0.heap.size w0 w
 few:Small bk 120
 wf:AWf bk
theorem Wr.next {w0:World} {base gW B:Nat} {t:Tm} {pt:Option Addr} {lt ct:Nat} {V:Value} {xs:List Cu} {bk:List Cm} {w w':World} (h:Wr w0 base gW B t pt lt ct V xs bk w) (hb:Below w.heap.size w w'):Wr w0 base gW B t pt lt ct V xs bk w':=
 ⟨h.blk.next hb,h.mp.below hb,h.hold.next hb,h.gw,h.gb,h.ne,h.n0,h.n1,Nat.le_trans h.sz hb.size,h.bel.trans (hb.mono h.bel.size),h.few,h.wf⟩
theorem Wr.kp {w0:World} {base gW B:Nat} {t:Tm} {pt:Option Addr} {lt ct:Nat} {V:Value} {xs:List Cu} {bk:List Cm} {w w':World} (h:Wr w0 base gW B t pt lt ct V xs bk w) (hb:Below w.heap.size w w'):Kp base gW B w w':= .of hb h.sz
def WPost (w0:World) (base gW B:Nat) (t:Tm) (pt:Option Addr) (lt ct:Nat) (R:List Cm→Int→Prop) (w:World) (e:Ending) (w':World):Prop:=
 Kp base gW B w w'∧((∃ V xs bk',e = .returned (.tuple #[])∧R bk' 0∧(Small bk' 120→Wr w0 base gW B t pt lt ct V xs bk' w'))∨∃ f bk',f≠0∧e = .panicked (thrown f)∧R bk' f)
theorem WPost.back {w0:World} {base gW B:Nat} {t:Tm} {pt:Option Addr} {lt ct:Nat} {R R':List Cm→Int→Prop} {w1 w:World} {e:Ending} {w':World} (h:WPost w0 base gW B t pt lt ct R w e w') (hk:Kp base gW B w1 w) (hR:∀ b f,R b f→R' b f):WPost w0 base gW B t pt lt ct R' w1 e w':=by
 refine ⟨hk.trans h.1,?_⟩;rcases h.2 with ⟨V,xs,bk',h1,h2,h3⟩ | ⟨f,bk',h1,h2,h3⟩
 ·exact .inl ⟨V,xs,bk',h1,hR _ _ h2,h3⟩
 ·exact .inr ⟨f,bk',h1,h2,hR _ _ h3⟩
theorem rowD_same {w w':World} {a:Option Addr} {n:Nat} {zs:List tar.Du} (h:tar.RowD w a n zs) (he:0<n→∀ x,a=some x→w'.heap[x.block]?=w.heap[x.block]?):tar.RowD w' a n zs:=by
 refine ⟨h.1,?_⟩;rcases h.2 with h0 | ⟨b,off,rfl,hc⟩
 ·exact .inl h0
 ·refine .inr ⟨b,off,rfl,fun i hi=>?_⟩;have h1:=hc i hi;have hb:w'.heap[b]?=w.heap[b]?:=he (by omega) _ rfl;have e:∀ o,w'.cell? ⟨b,o,none⟩=w.cell? ⟨b,o,none⟩:=fun o=>by simp [World.cell?,hb]
  rw [e,e];exact h1
theorem came_same {w w':World} {a:Option Addr} {n cap:Nat} {zs:List tar.Du} (h:tar.Came w a n cap zs) (he:0<n→∀ x,a=some x→w'.heap[x.block]?=w.heap[x.block]?):tar.Came w' a n cap zs:=⟨rowD_same h.row he,h.nil,h.room,h.bytes,h.wf⟩
theorem lo_same {w w':World} {base:Nat} {v:Value} {l:List So} (h:Lo w base v l) (he:∀ g,v.ownBlock=some g→w'.heap[g]?=w.heap[g]?):Lo w' base v l:=by
 refine ⟨h.1,?_⟩;rcases h.2 with hn | ⟨g',cap,cur,hv,hb,hc,rest⟩
 ·exact .inl hn
 ·exact .inr ⟨g',cap,cur,hv,hb,by rw [he g' (by rw [hv];rfl)];exact hc,rest⟩
theorem Has.same {w w':World} {base:Nat} {x:Cu} {c:Cm} (h:Has w base x c) (h1:∀ g,x.sold.ownBlock=some g→w'.heap[g]?=w.heap[g]?) (h2:0<x.dn→∀ p,x.dp=some p→w'.heap[p.block]?=w.heap[p.block]?):Has w' base x c:=⟨h.num,⟨came_same h.ds.came h2,h.ds.new⟩,lo_same h.so h1⟩
theorem Holds.put2 {w w4:World} {base:Nat} {V:Value} {xs:List Cu} {bk:List Cm} {k:Nat} {x':Cu} {c':Cm} (h:Holds w base V xs bk) (hk:k<xs.length)
  (hO:∀ g,g<w.heap.size→V.ownBlock≠some g→(xs.getD k cu0).sold.ownBlock≠some g→w4.heap[g]?=w.heap[g]?) (has:Has w4 base x' c')
  (own:∀ g,x'.sold.ownBlock=some g→(xs.getD k cu0).sold.ownBlock=some g∨w.heap.size≤g) (new:0<x'.dn→∀ p,x'.dp=some p→w.heap.size≤p.block) (self:∀ g,x'.sold.ownBlock=some g→0<x'.dn→∀ p,x'.dp=some p→p.block≠g)
  (hr:Lc w4 base V (xs.set k x')):Holds w4 base V (xs.set k x') (bk.set k c'):=by
 have hkb:k<bk.length:=by rw [← h.len];exact hk
 have lt1:∀ i,i<xs.length→∀ g,(xs.getD i cu0).sold.ownBlock=some g→g<w.heap.size:=fun i hi g hgg=>(World.ownsRow.lt (h.has i hi).so g hgg).2
 have lt2:∀ i,i<xs.length→0<(xs.getD i cu0).dn→∀ p,(xs.getD i cu0).dp=some p→p.block<w.heap.size:=fun i hi hn p hp=>by
  obtain ⟨b,off,e,lb,_⟩:=(h.has i hi).ds.came.row.at hn;rw [hp] at e;rw [Option.some.inj e];exact lb
 have ltV:∀ g,V.ownBlock=some g→g<w.heap.size:=fun g hgg=>(World.ownsRow.lt h.row g hgg).2
 have offx:Off x' V.ownBlock:=⟨fun g hgg q=>by
  rcases own g hgg with e | e
  ·exact (h.off k hk).1 g e q
  ·have:=ltV g q;omega,fun hn p hp q=>by
  have h1:=new hn p hp;have h2:=ltV p.block q.symm
  omega⟩
 have apx:∀ i,i<xs.length→i≠k→Apart (xs.getD i cu0) x':=fun i hi hik=>by
  refine ⟨fun g h1 h2=>?_,fun g h1 hn p hp q=>?_,fun g h1 hn p hp q=>?_⟩
  ·rcases own g h2 with e | e
   ·exact (h.apart i k hi hk hik).1 g h1 e
   ·have:=lt1 i hi g h1;omega
  ·have h3:=new hn p hp;have h4:=lt1 i hi g h1;omega
  ·rcases own g h1 with e | e
   ·exact (h.apart i k hi hk hik).2.2 g e hn p hp q
   ·have:=lt2 i hi hn p hp;omega
 refine ⟨hr,by rw [List.length_set,List.length_set,h.len],fun i hi=>?_,fun i hi=>?_,fun i hi=>?_,fun i j hi hj hij=>?_⟩
 all_goals rw [List.length_set] at hi
 ·rw [getD_put xs x' cu0 k i hk,getD_put bk c' cm0 k i hkb];by_cases q:i=k
  ·rw [if_pos q,if_pos q];exact has
  ·rw [if_neg q,if_neg q];have ap:=h.apart i k hi hk q;refine (h.has i hi).same (fun g hg=>hO g (lt1 i hi g hg) (fun e=>(h.off i hi).1 g hg e) (fun e=>ap.1 g hg e)) (fun hn p hp=>hO p.block (lt2 i hi hn p hp) (fun e=>(h.off i hi).2 hn p hp e.symm) (fun e=>ap.2.2 p.block e hn p hp rfl))
 ·rw [getD_put xs x' cu0 k i hk];by_cases q:i=k
  ·rw [if_pos q];exact offx
  ·rw [if_neg q];exact h.off i hi
 ·rw [getD_put xs x' cu0 k i hk];by_cases q:i=k
  ·rw [if_pos q];exact self
  ·rw [if_neg q];exact h.self i hi
 ·rw [List.length_set] at hj;rw [getD_put xs x' cu0 k i hk,getD_put xs x' cu0 k j hk];by_cases q:i=k <;> by_cases q':j=k
  ·omega
  ·rw [if_pos q,if_neg q'];exact (apx j hj q').symm
  ·rw [if_neg q,if_pos q'];exact apx i hi q
  ·rw [if_neg q,if_neg q'];exact h.apart i j hi hj hij
theorem lc_put2 {w W:World} {base g n cap k:Nat} {xs:List Cu} {x':Cu} {cur:Array Value} (h:Lc w base (.slice (some ⟨g,0,none⟩) n cap) xs) (hB:Blk w g cur 54) (hk:k<xs.length) (hW:Blk W g (putAll cur (k*8) x'.cs) 54):Lc W base (.slice (some ⟨g,0,none⟩) n cap) (xs.set k x'):=by
 unfold Lc at *;rw [List.length_set];refine ⟨by rw [cellsC_len,List.length_set],?_⟩;rcases h.2 with ⟨h',_⟩ | ⟨g',cap',cur',hv,hg,hc,hn,hm,hz,ht⟩
 ·cases h'
 ·simp only [Value.slice.injEq,Option.some.injEq,Addr.mk.injEq,and_true] at hv;obtain ⟨rfl,rfl,rfl⟩:=hv
  have e:cur'=cur:=by
   have h1:w.heap[g]?=some (.cells cur 54 (0,0)):=hB;rw [h1] at hc;injection hc with hc
   injection hc with hc
   exact hc.symm
  subst e;refine .inr ⟨g,cap,_,rfl,hg,hW,hn,hm,by rw [putAll_size];exact hz,?_⟩;apply List.ext_getElem?;intro j;have h8:x'.cs.length=8:=rfl;rw [cellsC_get,List.length_set,getD_put xs x' cu0 k (j / 8) hk];by_cases hj:j<xs.length*8
  ·rw [if_pos hj,List.getElem?_take_of_lt hj,Array.getElem?_toList,putAll_get _ _ _ _ (by rw [hz,h8];omega),h8];by_cases h1:k*8≤j∧j<k*8+8
   ·rw [if_pos h1,if_pos (by omega),show j - k*8=j % 8 by omega]
   ·rw [if_neg h1,if_neg (by omega)];have h2:cur'.toList[j]?=(cellsC xs)[j]?:=by rw [← ht,List.getElem?_take_of_lt hj]
    rw [Array.getElem?_toList] at h2;rw [h2,cellsC_get,if_pos hj]
  ·rw [if_neg hj,List.getElem?_eq_none (by rw [List.length_take];omega)]
theorem putAll_more (cs:Array Value):∀ (l:List Value) (o:Nat) (v:Value),(putAll cs o l).setIfInBounds (o+l.length) v=putAll cs o (l++[v])
 | [],o,v=>rfl
 | x :: l,o,v=>by
  have:=putAll_more (cs.setIfInBounds o x) l (o+1) v;rw [List.cons_append,putAll,putAll,← this,List.length_cons,show o+(l.length+1)=o+1+l.length by omega]
theorem at_cust {w:World} {base n cap k:Nat} {a:Option Addr} {xs:List Cu} (h:Lc w base (.slice a n cap) xs) (hk:k<xs.length):∃ g cur,a=some ⟨g,0,none⟩∧base≤g∧Blk w g cur 54∧k*8+8≤cur.size∧∀ j,j<8→cur[k*8+j]?=(xs.getD k cu0).cs[j]?:=by
 have hn:xs.length=n:=by
  obtain ⟨a',c',hv,_⟩:=h.row;injection hv with _ e _
  exact e.symm
 obtain ⟨g,cur,e1,e2,e3,e4,e5⟩:=lc_lies h (by omega);exact ⟨g,cur,e1,e2,e3,by omega,fun j hj=>e5 k j hk hj⟩
end book
end Go.Proofs.YtnpblpbohcegoaaGreatDoor
