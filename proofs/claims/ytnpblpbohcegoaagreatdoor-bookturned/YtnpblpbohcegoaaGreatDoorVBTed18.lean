import Derived.Test.YtnpblpbohcegoaaGreatDoorVBTed12
import Derived.Test.YtnpblpbohcegoaaGreatDoorVBTed14
set_option linter.unusedVariables false
set_option linter.unusedSimpArgs false
set_option maxHeartbeats 4000000
set_option maxRecDepth 100000
namespace Go.Proofs.YtnpblpbohcegoaaGreatDoor
namespace book
open Go.RowKit
theorem bkind (kd me mo id te de fe pr ch un tg ow bp:Int) (w:World):Calls Tryz.prog 110 #[.agg #[zI kd,zI me,zI mo,zI id,zI te,zI de,zI fe,zI pr,zI ch,zI un,zI tg,zI ow,zI bp]] w fun e w'=>YN w (KindR ⟨kd,me,mo,id,te,de,fe,pr,ch,un,tg,ow,bp⟩) e w':=by
 obtain ⟨W0,HWW,HX0,HB0,-⟩:=sh1 w #[zI kd,zI me,zI mo,zI id,zI te,zI de,zI fe,zI pr,zI ch,zI un,zI tg,zI ow,zI bp] 72;go_enter Tryz.func110,Tryz.ntmps110;go_upto_region 1 with fail
 rw [HWW.o];clear HWW;obtain ⟨c0,c1,c2,c3,c4,c5,c6,c7,c8,c9,c10,c11,c12⟩:=scl13 HX0;by_cases k1:kd=1
 case pos=>
  have q1:(kd == 1)=true:=by simpa using k1
  have HK:Hid (kd=1):=k1;clear k1;go_wp2_with fail;go_ret;exact YN.yes (Or.inl HK.o) HB0.o
 have q1:(kd == 1)=false:=by simpa using k1
 by_cases k2:kd=2
 case pos=>
  have q2:(kd == 2)=true:=by simpa using k2
  have HK:Hid (kd=2):=k2;clear k1 k2;have HW0:Hid (Calls Tryz.prog 109 #[zI 0,zI 2399,.slice (some ⟨W0.heap.size,0,none⟩) 1 1] (W0.alloc (.cells #[zI mo] 3)) fun e w'=>e = .returned (.bool (decide (0≤mo∧mo≤2399)))∧w'=(W0.alloc (.cells #[zI mo] 3))):=bki.within_one 0 2399 mo W0 _ rfl;have HB1:Hid (Below w.heap.size w (W0.alloc (.cells #[zI mo] 3))):=HB0.o.alloc HB0.o.size _;have HX1:Hid (Blk (W0.alloc (.cells #[zI mo] 3)) w.heap.size #[zI kd,zI me,zI mo,zI id,zI te,zI de,zI fe,zI pr,zI ch,zI un,zI tg,zI ow,zI bp] 72):=HX0.o.alloc _;by_cases h0:0≤mo∧mo≤2399
  case neg=>
   rw [decide_eq_false h0] at HW0;go_wp2_with fail;refine HW0.o.mono ?_;rintro e W ⟨rfl,hw⟩;subst hw;clear HW0;go_wp2_with fail;go_ret;exact YN.no (fun q=>(fun q=>h0 q.1) ((kind_2 (v:=⟨kd,me,mo,id,te,de,fe,pr,ch,un,tg,ow,bp⟩) HK.o).1 q)) HB1.o
  rw [decide_eq_true h0] at HW0;go_wp2_with fail;refine HW0.o.mono ?_;rintro e W ⟨rfl,hw⟩;subst hw;clear HW0 HB0 HX0;clear c0 c1 c2 c3 c4 c5 c6 c7 c8 c9 c10 c11 c12;generalize (W0.alloc (.cells #[zI mo] 3))=W1 at *;obtain ⟨c0,c1,c2,c3,c4,c5,c6,c7,c8,c9,c10,c11,c12⟩:=scl13 HX1;have HC1:Hid (∀ W,Calls Tryz.prog 156 #[.agg #[zI kd,zI me,zI mo,zI id,zI te,zI de,zI fe,zI pr,zI ch,zI un,zI tg,zI ow,zI bp]] W fun e w'=>YN W (Numd id tg) e w'):=fun W=>bnum kd me mo id te de fe pr ch un tg ow bp W;go_wp2_with fail;refine (HC1.o _).mono ?_;rintro e W2 ⟨B,rfl,hB,hb⟩;have HB2:=shB HB1 hb;have HX2:=shN HX1 hb;clear hb HC1 HB1 HX1;clear c0 c1 c2 c3 c4 c5 c6 c7 c8 c9 c10 c11 c12;obtain ⟨c0,c1,c2,c3,c4,c5,c6,c7,c8,c9,c10,c11,c12⟩:=scl13 HX2;cases B
  case false=>
   have HQ:Hid (¬ (Numd id tg)):=fun q=>absurd (hB.2 q) (by decide);clear hB;go_wp2_with fail;go_ret;exact YN.no (fun q=>(fun q=>HQ.o q.2.1) ((kind_2 (v:=⟨kd,me,mo,id,te,de,fe,pr,ch,un,tg,ow,bp⟩) HK.o).1 q)) HB2.o
  have H1:Hid (Numd id tg):=hB.1 rfl;clear hB;have HC2:Hid (∀ W,Calls Tryz.prog 157 #[.agg #[zI kd,zI me,zI mo,zI id,zI te,zI de,zI fe,zI pr,zI ch,zI un,zI tg,zI ow,zI bp]] W fun e w'=>YN W (Unt un) e w'):=fun W=>bunt kd me mo id te de fe pr ch un tg ow bp W;go_wp2_with fail;refine (HC2.o _).mono ?_;rintro e W3 ⟨B,rfl,hB,hb⟩;have HB3:=shB HB2 hb;have HX3:=shN HX2 hb;clear hb HC2 HB2 HX2;clear c0 c1 c2 c3 c4 c5 c6 c7 c8 c9 c10 c11 c12;obtain ⟨c0,c1,c2,c3,c4,c5,c6,c7,c8,c9,c10,c11,c12⟩:=scl13 HX3;cases B
  case false=>
   have HQ:Hid (¬ (Unt un)):=fun q=>absurd (hB.2 q) (by decide);clear hB;go_wp2_with fail;go_ret;exact YN.no (fun q=>(fun q=>HQ.o q.2.2.1) ((kind_2 (v:=⟨kd,me,mo,id,te,de,fe,pr,ch,un,tg,ow,bp⟩) HK.o).1 q)) HB3.o
  have H2:Hid (Unt un):=hB.1 rfl;clear hB;have HC3:Hid (∀ W,Calls Tryz.prog 158 #[.agg #[zI id,zI te,zI de,zI fe,zI pr,zI ch,zI un]] W fun e w'=>YN W (Mony te de fe pr ch) e w'):=fun W=>bmony id te de fe pr ch un W;go_wp2_with fail;refine (HC3.o _).mono ?_;rintro e W4 ⟨B,rfl,hB,hb⟩;have HB4:=shB HB3 hb;have HX4:=shN HX3 hb;clear hb HC3 HB3 HX3;clear c0 c1 c2 c3 c4 c5 c6 c7 c8 c9 c10 c11 c12;obtain ⟨c0,c1,c2,c3,c4,c5,c6,c7,c8,c9,c10,c11,c12⟩:=scl13 HX4;cases B
  case false=>
   have HQ:Hid (¬ (Mony te de fe pr ch)):=fun q=>absurd (hB.2 q) (by decide);clear hB;go_wp2_with fail;go_ret;exact YN.no (fun q=>(fun q=>HQ.o q.2.2.2) ((kind_2 (v:=⟨kd,me,mo,id,te,de,fe,pr,ch,un,tg,ow,bp⟩) HK.o).1 q)) HB4.o
  have H3:Hid (Mony te de fe pr ch):=hB.1 rfl;clear hB;go_wp2_with fail;go_ret;exact YN.yes ((kind_2 (v:=⟨kd,me,mo,id,te,de,fe,pr,ch,un,tg,ow,bp⟩) HK.o).2 ⟨h0,H1.o,H2.o,H3.o⟩) HB4.o
 have q2:(kd == 2)=false:=by simpa using k2
 by_cases k3:kd=3
 case pos=>
  have q3:(kd == 3)=true:=by simpa using k3
  have HK:Hid (kd=3):=k3;clear k1 k2 k3;have HW0:Hid (Calls Tryz.prog 109 #[zI 0,zI 2399,.slice (some ⟨W0.heap.size,0,none⟩) 1 1] (W0.alloc (.cells #[zI mo] 3)) fun e w'=>e = .returned (.bool (decide (0≤mo∧mo≤2399)))∧w'=(W0.alloc (.cells #[zI mo] 3))):=bki.within_one 0 2399 mo W0 _ rfl;have HB1:Hid (Below w.heap.size w (W0.alloc (.cells #[zI mo] 3))):=HB0.o.alloc HB0.o.size _;have HX1:Hid (Blk (W0.alloc (.cells #[zI mo] 3)) w.heap.size #[zI kd,zI me,zI mo,zI id,zI te,zI de,zI fe,zI pr,zI ch,zI un,zI tg,zI ow,zI bp] 72):=HX0.o.alloc _;by_cases h0:0≤mo∧mo≤2399
  case neg=>
   rw [decide_eq_false h0] at HW0;go_wp2_with fail;refine HW0.o.mono ?_;rintro e W ⟨rfl,hw⟩;subst hw;clear HW0;go_wp2_with fail;go_ret;exact YN.no (fun q=>(fun q=>h0 q.1) ((kind_3 (v:=⟨kd,me,mo,id,te,de,fe,pr,ch,un,tg,ow,bp⟩) HK.o).1 q)) HB1.o
  rw [decide_eq_true h0] at HW0;go_wp2_with fail;refine HW0.o.mono ?_;rintro e W ⟨rfl,hw⟩;subst hw;clear HW0 HB0 HX0;clear c0 c1 c2 c3 c4 c5 c6 c7 c8 c9 c10 c11 c12;generalize (W0.alloc (.cells #[zI mo] 3))=W1 at *;obtain ⟨c0,c1,c2,c3,c4,c5,c6,c7,c8,c9,c10,c11,c12⟩:=scl13 HX1;have HC1:Hid (∀ W,Calls Tryz.prog 156 #[.agg #[zI kd,zI me,zI mo,zI id,zI te,zI de,zI fe,zI pr,zI ch,zI un,zI tg,zI ow,zI bp]] W fun e w'=>YN W (Numd id tg) e w'):=fun W=>bnum kd me mo id te de fe pr ch un tg ow bp W;go_wp2_with fail;refine (HC1.o _).mono ?_;rintro e W2 ⟨B,rfl,hB,hb⟩;have HB2:=shB HB1 hb;have HX2:=shN HX1 hb;clear hb HC1 HB1 HX1;clear c0 c1 c2 c3 c4 c5 c6 c7 c8 c9 c10 c11 c12;obtain ⟨c0,c1,c2,c3,c4,c5,c6,c7,c8,c9,c10,c11,c12⟩:=scl13 HX2;cases B
  case false=>
   have HQ:Hid (¬ (Numd id tg)):=fun q=>absurd (hB.2 q) (by decide);clear hB;go_wp2_with fail;go_ret;exact YN.no (fun q=>(fun q=>HQ.o q.2.1) ((kind_3 (v:=⟨kd,me,mo,id,te,de,fe,pr,ch,un,tg,ow,bp⟩) HK.o).1 q)) HB2.o
  have H1:Hid (Numd id tg):=hB.1 rfl;clear hB;have HC2:Hid (∀ W,Calls Tryz.prog 157 #[.agg #[zI kd,zI me,zI mo,zI id,zI te,zI de,zI fe,zI pr,zI ch,zI un,zI tg,zI ow,zI bp]] W fun e w'=>YN W (Unt un) e w'):=fun W=>bunt kd me mo id te de fe pr ch un tg ow bp W;go_wp2_with fail;refine (HC2.o _).mono ?_;rintro e W3 ⟨B,rfl,hB,hb⟩;have HB3:=shB HB2 hb;have HX3:=shN HX2 hb;clear hb HC2 HB2 HX2;clear c0 c1 c2 c3 c4 c5 c6 c7 c8 c9 c10 c11 c12;obtain ⟨c0,c1,c2,c3,c4,c5,c6,c7,c8,c9,c10,c11,c12⟩:=scl13 HX3;cases B
  case false=>
   have HQ:Hid (¬ (Unt un)):=fun q=>absurd (hB.2 q) (by decide);clear hB;go_wp2_with fail;go_ret;exact YN.no (fun q=>(fun q=>HQ.o q.2.2) ((kind_3 (v:=⟨kd,me,mo,id,te,de,fe,pr,ch,un,tg,ow,bp⟩) HK.o).1 q)) HB3.o
  have H2:Hid (Unt un):=hB.1 rfl;clear hB;go_wp2_with fail;go_ret;exact YN.yes ((kind_3 (v:=⟨kd,me,mo,id,te,de,fe,pr,ch,un,tg,ow,bp⟩) HK.o).2 ⟨h0,H1.o,H2.o⟩) HB3.o
 have q3:(kd == 3)=false:=by simpa using k3
 by_cases k4:kd=4
 case pos=>
  have q4:(kd == 4)=true:=by simpa using k4
  have HK:Hid (kd=4):=k4;clear k1 k2 k3 k4;have HC0:Hid (∀ W,Calls Tryz.prog 156 #[.agg #[zI kd,zI me,zI mo,zI id,zI te,zI de,zI fe,zI pr,zI ch,zI un,zI tg,zI ow,zI bp]] W fun e w'=>YN W (Numd id tg) e w'):=fun W=>bnum kd me mo id te de fe pr ch un tg ow bp W;go_wp2_with fail;refine (HC0.o _).mono ?_;rintro e W1 ⟨B,rfl,hB,hb⟩;have HB1:=shB HB0 hb;have HX1:=shN HX0 hb;clear hb HC0 HB0 HX0;clear c0 c1 c2 c3 c4 c5 c6 c7 c8 c9 c10 c11 c12;obtain ⟨c0,c1,c2,c3,c4,c5,c6,c7,c8,c9,c10,c11,c12⟩:=scl13 HX1;cases B
  case false=>
   have HQ:Hid (¬ (Numd id tg)):=fun q=>absurd (hB.2 q) (by decide);clear hB;go_wp2_with fail;go_ret;exact YN.no (fun q=>(fun q=>HQ.o q) ((kind_4 (v:=⟨kd,me,mo,id,te,de,fe,pr,ch,un,tg,ow,bp⟩) HK.o).1 q)) HB1.o
  have H1:Hid (Numd id tg):=hB.1 rfl;clear hB;go_wp2_with fail;go_ret;exact YN.yes ((kind_4 (v:=⟨kd,me,mo,id,te,de,fe,pr,ch,un,tg,ow,bp⟩) HK.o).2 H1.o) HB1.o
 have q4:(kd == 4)=false:=by simpa using k4
 by_cases k5:kd=5
 case pos=>
  have q5:(kd == 5)=true:=by simpa using k5
  have HK:Hid (kd=5):=k5;clear k1 k2 k3 k4 k5;have HW0:Hid (Calls Tryz.prog 109 #[zI 1,zI 1000000000,.slice (some ⟨W0.heap.size,0,none⟩) 1 1] (W0.alloc (.cells #[zI ow] 3)) fun e w'=>e = .returned (.bool (decide (1≤ow∧ow≤1000000000)))∧w'=(W0.alloc (.cells #[zI ow] 3))):=bki.within_one 1 1000000000 ow W0 _ rfl;have HB1:Hid (Below w.heap.size w (W0.alloc (.cells #[zI ow] 3))):=HB0.o.alloc HB0.o.size _;have HX1:Hid (Blk (W0.alloc (.cells #[zI ow] 3)) w.heap.size #[zI kd,zI me,zI mo,zI id,zI te,zI de,zI fe,zI pr,zI ch,zI un,zI tg,zI ow,zI bp] 72):=HX0.o.alloc _;by_cases h0:1≤ow∧ow≤1000000000
  case neg=>
   rw [decide_eq_false h0] at HW0;go_wp2_with fail;refine HW0.o.mono ?_;rintro e W ⟨rfl,hw⟩;subst hw;clear HW0;go_wp2_with fail;go_ret;exact YN.no (fun q=>(fun q=>h0 q.1) ((kind_5 (v:=⟨kd,me,mo,id,te,de,fe,pr,ch,un,tg,ow,bp⟩) HK.o).1 q)) HB1.o
  rw [decide_eq_true h0] at HW0;go_wp2_with fail;refine HW0.o.mono ?_;rintro e W ⟨rfl,hw⟩;subst hw;clear HW0 HB0 HX0;clear c0 c1 c2 c3 c4 c5 c6 c7 c8 c9 c10 c11 c12;generalize (W0.alloc (.cells #[zI ow] 3))=W1 at *;obtain ⟨c0,c1,c2,c3,c4,c5,c6,c7,c8,c9,c10,c11,c12⟩:=scl13 HX1;have HW1:Hid (Calls Tryz.prog 109 #[zI 0,zI 10000,.slice (some ⟨W1.heap.size,0,none⟩) 1 1] (W1.alloc (.cells #[zI bp] 3)) fun e w'=>e = .returned (.bool (decide (0≤bp∧bp≤10000)))∧w'=(W1.alloc (.cells #[zI bp] 3))):=bki.within_one 0 10000 bp W1 _ rfl;have HB2:Hid (Below w.heap.size w (W1.alloc (.cells #[zI bp] 3))):=HB1.o.alloc HB1.o.size _;have HX2:Hid (Blk (W1.alloc (.cells #[zI bp] 3)) w.heap.size #[zI kd,zI me,zI mo,zI id,zI te,zI de,zI fe,zI pr,zI ch,zI un,zI tg,zI ow,zI bp] 72):=HX1.o.alloc _;by_cases h1:0≤bp∧bp≤10000
  case neg=>
   rw [decide_eq_false h1] at HW1;go_wp2_with fail;refine HW1.o.mono ?_;rintro e W ⟨rfl,hw⟩;subst hw;clear HW1;go_wp2_with fail;go_ret;exact YN.no (fun q=>(fun q=>h1 q.2) ((kind_5 (v:=⟨kd,me,mo,id,te,de,fe,pr,ch,un,tg,ow,bp⟩) HK.o).1 q)) HB2.o
  rw [decide_eq_true h1] at HW1;go_wp2_with fail;refine HW1.o.mono ?_;rintro e W ⟨rfl,hw⟩;subst hw;clear HW1 HB1 HX1;clear c0 c1 c2 c3 c4 c5 c6 c7 c8 c9 c10 c11 c12;generalize (W1.alloc (.cells #[zI bp] 3))=W2 at *;obtain ⟨c0,c1,c2,c3,c4,c5,c6,c7,c8,c9,c10,c11,c12⟩:=scl13 HX2;go_wp2_with fail;go_ret;exact YN.yes ((kind_5 (v:=⟨kd,me,mo,id,te,de,fe,pr,ch,un,tg,ow,bp⟩) HK.o).2 ⟨h0,h1⟩) HB2.o
 have q5:(kd == 5)=false:=by simpa using k5
 have HK:Hid (¬ KindR ⟨kd,me,mo,id,te,de,fe,pr,ch,un,tg,ow,bp⟩):=fun q=>by
  rcases q with q | q | q | q | q
  ·exact k1 q
  ·exact k2 q.1
  ·exact k3 q.1
  ·exact k4 q.1
  ·exact k5 q.1
 clear k1 k2 k3 k4 k5;go_wp2_with fail;go_ret;exact YN.no HK.o HB0.o
end book
namespace acc
open tar (Du du0 Came RowD Ld PairT)
open Go.RowKit
def MayPost (w:World) (x:Ac) (e:Ending) (w':World):Prop:=∃ r,e = .returned (.bool r)∧(r=true↔AMay x)∧Below w.heap.size w w'
theorem pmay (x:Ac) (p:Option Addr) (len cap:Nat) (w:World) (h:Came w p len cap x.ds):Calls Tryz.prog 159 #[.agg #[zI x.me,zI x.rv,zI x.nx,zI x.mo,zI x.bo,zI x.fr,.slice p len cap]] w fun e w'=>MayPost w x e w':=by
 have HI0:Hid (∀ W,Calls Tryz.prog 69 #[zI 0,zI 49,zI x.me] W fun e w'=>e = .returned (.bool (decide (0≤x.me∧x.me≤49)))∧w'=W):=fun W=>awithin 0 49 x.me W;have HI1:Hid (∀ W,Calls Tryz.prog 69 #[zI 0,zI 15,zI x.rv] W fun e w'=>e = .returned (.bool (decide (0≤x.rv∧x.rv≤15)))∧w'=W):=fun W=>awithin 0 15 x.rv W;have HI2:Hid (∀ W,Calls Tryz.prog 69 #[zI 1,zI 1048576,zI x.nx] W fun e w'=>e = .returned (.bool (decide (1≤x.nx∧x.nx≤1048576)))∧w'=W):=fun W=>awithin 1 1048576 x.nx W;have HI3:Hid (∀ W,Calls Tryz.prog 69 #[zI 0,zI 2399,zI x.mo] W fun e w'=>e = .returned (.bool (decide (0≤x.mo∧x.mo≤2399)))∧w'=W):=fun W=>awithin 0 2399 x.mo W;have HI4:Hid (∀ W,Calls Tryz.prog 69 #[zI 0,zI 10000000,zI x.bo] W fun e w'=>e = .returned (.bool (decide (0≤x.bo∧x.bo≤10000000)))∧w'=W):=fun W=>awithin 0 10000000 x.bo W;have HI5:Hid (∀ W,Calls Tryz.prog 69 #[zI (-1),zI x.mo,zI x.fr] W fun e w'=>e = .returned (.bool (decide (-1≤x.fr∧x.fr≤x.mo)))∧w'=W):=fun W=>awithin (-1) x.mo x.fr W;obtain ⟨WW,HWW,HBK,HBA,-⟩:=sh1 w #[zI x.me,zI x.rv,zI x.nx,zI x.mo,zI x.bo,zI x.fr,.slice p len cap] 51;have HTO:Hid (Calls Tryz.prog 184 #[.slice p len cap] WW fun e w'=>tar.TwoPost WW (deb.OwedIs x.ds) e w'):=deb.ktotal _ p len cap x.ds (h.below HBA.o);have c6:WW.cell? ⟨w.heap.size,6,none⟩=some (.slice p len cap):=HBK.o.cell 6;clear h;go_enter Tryz.func159,Tryz.ntmps159;go_upto_region 1 with fail
 rw [HWW.o];clear HWW;go_wp2_with fail;refine HTO.o.mono ?_;rintro e w1 ⟨tt,f,rfl,hf,hb1⟩;have HB1:=shB HBA hb1;have HK1:=shN HBK hb1;have HF:Hid (f=0↔deb.Mays x.ds):=hf.1.ok;clear hf hb1 HTO HBA HBK c6;obtain ⟨c0,c1,c2,c3,c4,c5,c6⟩:=scl7 HK1;by_cases h0:f=0
 ·have HM:Hid (deb.Mays x.ds):=HF.o.1 h0;subst h0;by_cases g0:0≤x.me∧x.me≤49
  ·rw [decide_eq_true g0] at HI0;go_wp2_with fail;refine (HI0.o _).mono ?_;rintro e w2 ⟨rfl,hw2⟩;subst w2;by_cases g1:0≤x.rv∧x.rv≤15
   ·rw [decide_eq_true g1] at HI1;go_wp2_with fail;refine (HI1.o _).mono ?_;rintro e w2 ⟨rfl,hw2⟩;subst w2;by_cases g2:1≤x.nx∧x.nx≤1048576
    ·rw [decide_eq_true g2] at HI2;go_wp2_with fail;refine (HI2.o _).mono ?_;rintro e w2 ⟨rfl,hw2⟩;subst w2;by_cases g3:0≤x.mo∧x.mo≤2399
     ·rw [decide_eq_true g3] at HI3;go_wp2_with fail;refine (HI3.o _).mono ?_;rintro e w2 ⟨rfl,hw2⟩;subst w2;by_cases g4:0≤x.bo∧x.bo≤10000000
      ·rw [decide_eq_true g4] at HI4;go_wp2_with fail;refine (HI4.o _).mono ?_;rintro e w2 ⟨rfl,hw2⟩;subst w2;by_cases g5:-1≤x.fr∧x.fr≤x.mo
       ·rw [decide_eq_true g5] at HI5;go_wp2_with fail;refine (HI5.o _).mono ?_;rintro e w2 ⟨rfl,hw2⟩;subst w2;have HY:Hid (AMay x):=⟨HM.o,g0,g1,g2,g3,g4,g5⟩
        go_wp2_with fail;go_ret;exact ⟨true,rfl,⟨fun _=>HY.o,fun _=>rfl⟩,HB1.o⟩
       ·rw [decide_eq_false g5] at HI5;have HN:Hid (¬ AMay x):=fun h=>g5 h.2.2.2.2.2.2;clear g5;go_wp2_with fail;refine (HI5.o _).mono ?_;rintro e w2 ⟨rfl,hw2⟩;subst w2;go_wp2_with fail
        all_goals first
         | (rename_i q1 q2;exact absurd q1 (by simp [undef]))
         | (go_ret;exact ⟨false,rfl,⟨fun h=>absurd h (by decide),fun h=>absurd h HN.o⟩,HB1.o⟩)
      ·rw [decide_eq_false g4] at HI4;have HN:Hid (¬ AMay x):=fun h=>g4 h.2.2.2.2.2.1;clear g4;go_wp2_with fail;refine (HI4.o _).mono ?_;rintro e w2 ⟨rfl,hw2⟩;subst w2;go_wp2_with fail
       all_goals first
        | (rename_i q1 q2;exact absurd q1 (by simp [undef]))
        | (go_ret;exact ⟨false,rfl,⟨fun h=>absurd h (by decide),fun h=>absurd h HN.o⟩,HB1.o⟩)
     ·rw [decide_eq_false g3] at HI3;have HN:Hid (¬ AMay x):=fun h=>g3 h.2.2.2.2.1;clear g3;go_wp2_with fail;refine (HI3.o _).mono ?_;rintro e w2 ⟨rfl,hw2⟩;subst w2;go_wp2_with fail
      all_goals first
       | (rename_i q1 q2;exact absurd q1 (by simp [undef]))
       | (go_ret;exact ⟨false,rfl,⟨fun h=>absurd h (by decide),fun h=>absurd h HN.o⟩,HB1.o⟩)
    ·rw [decide_eq_false g2] at HI2;have HN:Hid (¬ AMay x):=fun h=>g2 h.2.2.2.1;clear g2;go_wp2_with fail;refine (HI2.o _).mono ?_;rintro e w2 ⟨rfl,hw2⟩;subst w2;go_wp2_with fail
     all_goals first
      | (rename_i q1 q2;exact absurd q1 (by simp [undef]))
      | (go_ret;exact ⟨false,rfl,⟨fun h=>absurd h (by decide),fun h=>absurd h HN.o⟩,HB1.o⟩)
   ·rw [decide_eq_false g1] at HI1;have HN:Hid (¬ AMay x):=fun h=>g1 h.2.2.1;clear g1;go_wp2_with fail;refine (HI1.o _).mono ?_;rintro e w2 ⟨rfl,hw2⟩;subst w2;go_wp2_with fail
    all_goals first
     | (rename_i q1 q2;exact absurd q1 (by simp [undef]))
     | (go_ret;exact ⟨false,rfl,⟨fun h=>absurd h (by decide),fun h=>absurd h HN.o⟩,HB1.o⟩)
  ·rw [decide_eq_false g0] at HI0;have HN:Hid (¬ AMay x):=fun h=>g0 h.2.1;clear g0;go_wp2_with fail;refine (HI0.o _).mono ?_;rintro e w2 ⟨rfl,hw2⟩;subst w2;go_wp2_with fail
   all_goals first
    | (rename_i q1 q2;exact absurd q1 (by simp [undef]))
    | (go_ret;exact ⟨false,rfl,⟨fun h=>absurd h (by decide),fun h=>absurd h HN.o⟩,HB1.o⟩)
 ·have d0:(f == 0)=false:=by simpa using h0
  have HN:Hid (¬ AMay x):=fun h=>h0 (HF.o.2 h.1);clear h0;go_wp2_with fail
  all_goals first
   | (rename_i q1 q2;exact absurd q1 (by simp [undef]))
   | (go_ret;exact ⟨false,rfl,⟨fun h=>absurd h (by decide),fun h=>absurd h HN.o⟩,HB1.o⟩)
end acc
namespace ora
open Go.RowKit
theorem of_any (m r b t:Int) (w:World) :
  Calls Tryz.prog 189 #[.agg #[zI m,zI r,zI b,zI t]] w fun e w'=>e = .returned (.agg #[zI m,zI r,zI b])∧Below w.heap.size w w':=by
 have hN:=(Blk.new w #[zI m,zI r,zI b,zI t] 279).alloc (.cells #[zI 0,zI 0,zI 0] 282);have c0:=hN.cell 0;have c1:=hN.cell 1;have c2:=hN.cell 2;have hM:=Blk.new1 w (.cells #[zI m,zI r,zI b,zI t] 279) #[zI 0,zI 0,zI 0] 282;have HM:Hid (Blk _ _ _ _):=hM;have HB:Hid (Below w.heap.size w ((w.alloc (.cells #[zI m,zI r,zI b,zI t] 279)).alloc (.cells #[zI 0,zI 0,zI 0] 282))):=((Below.refl _ _).alloc (Nat.le_refl _) _).alloc (by simp) _;clear hN hM;go_enter Tryz.func189,Tryz.ntmps189
 go_wp2_with (first
  | (refine wp_letAll rfl 282 _ _ rfl (w.heap.size+1) rfl _ rfl (by kernel_rfl) (by simp [Value.oneCell']) _ _ HM.o rfl ?_;intro W hu)
  | fail)
 have d0:=hu.blk.cell 0;have d1:=hu.blk.cell 1;have d2:=hu.blk.cell 2;have HBB:=shV hu HB (by omega);clear hu HM HB c0 c1 c2;go_wp2_with fail;exact bodyPost_ret (v:= .agg #[zI m,zI r,zI b]) (by simp [results,Tryz.results189,d0,d1,d2,go_sem]) rfl ⟨rfl,HBB.o⟩
theorem within_any (m r b t:Int) (w:World) :
  Calls Tryz.prog 188 #[.agg #[zI m,zI r,zI b,zI t]] w fun e w'=>Told w (Pr.mk m r b t).may e w':=by
 have hN:=Blk.new w #[zI m,zI r,zI b,zI t] 279;have c0:=hN.cell 0;have c1:=hN.cell 1;have c2:=hN.cell 2;have c3:=hN.cell 3;have HB:Hid (Below w.heap.size w (w.alloc (.cells #[zI m,zI r,zI b,zI t] 279))):=(Below.refl _ _).alloc (Nat.le_refl _) _;clear hN;by_cases h0:0≤m
 ·skip
  by_cases h1:m<50
  ·skip
   by_cases h2:0≤r
   ·skip
    by_cases h3:r≤15
    ·skip
     by_cases h4:0≤b
     ·skip
      by_cases h5:b≤8796093022207
      ·skip
       by_cases h6:0≤t
       ·skip
        by_cases h7:t≤65535
        ·skip
         have HF:Hid ((Pr.mk m r b t).may):=⟨⟨h0,by show m≤49;omega⟩,⟨h2,h3⟩,⟨h4,h5⟩,⟨h6,h7⟩⟩
         have q0:decide (0≤m)=true:=by simp;omega
         have q1:decide (m<50)=true:=by simp;omega
         have q2:decide (0≤r)=true:=by simp;omega
         have q3:decide (r≤15)=true:=by simp;omega
         have q4:decide (0≤b)=true:=by simp;omega
         have q5:decide (b≤8796093022207)=true:=by simp;omega
         have q6:decide (0≤t)=true:=by simp;omega
         have q7:decide (t≤65535)=true:=by simp;omega
         clear h0 h1 h2 h3 h4 h5 h6 h7;go_enter Tryz.func188,Tryz.ntmps188;go_wp2_with fail;go_ret;exact Told.yes HF.o HB.o
        ·have q7:decide (t≤65535)=false:=by simp;omega
         have HF:Hid (¬ (Pr.mk m r b t).may):=fun h=>by unfold Pr.may at h;simp only at h;omega
         have q0:decide (0≤m)=true:=by simp;omega
         have q1:decide (m<50)=true:=by simp;omega
         have q2:decide (0≤r)=true:=by simp;omega
         have q3:decide (r≤15)=true:=by simp;omega
         have q4:decide (0≤b)=true:=by simp;omega
         have q5:decide (b≤8796093022207)=true:=by simp;omega
         have q6:decide (0≤t)=true:=by simp;omega
         clear h0 h1 h2 h3 h4 h5 h6 h7;go_enter Tryz.func188,Tryz.ntmps188;go_wp2_with fail;go_ret;exact Told.no HF.o HB.o
       ·have q6:decide (0≤t)=false:=by simp;omega
        have HF:Hid (¬ (Pr.mk m r b t).may):=fun h=>by unfold Pr.may at h;simp only at h;omega
        have q0:decide (0≤m)=true:=by simp;omega
        have q1:decide (m<50)=true:=by simp;omega
        have q2:decide (0≤r)=true:=by simp;omega
        have q3:decide (r≤15)=true:=by simp;omega
        have q4:decide (0≤b)=true:=by simp;omega
        have q5:decide (b≤8796093022207)=true:=by simp;omega
        clear h0 h1 h2 h3 h4 h5 h6;go_enter Tryz.func188,Tryz.ntmps188;go_wp2_with fail;go_ret;exact Told.no HF.o HB.o
      ·have q5:decide (b≤8796093022207)=false:=by simp;omega
       have HF:Hid (¬ (Pr.mk m r b t).may):=fun h=>by unfold Pr.may at h;simp only at h;omega
       have q0:decide (0≤m)=true:=by simp;omega
       have q1:decide (m<50)=true:=by simp;omega
       have q2:decide (0≤r)=true:=by simp;omega
       have q3:decide (r≤15)=true:=by simp;omega
       have q4:decide (0≤b)=true:=by simp;omega
       clear h0 h1 h2 h3 h4 h5;go_enter Tryz.func188,Tryz.ntmps188;go_wp2_with fail;go_ret;exact Told.no HF.o HB.o
     ·have q4:decide (0≤b)=false:=by simp;omega
      have HF:Hid (¬ (Pr.mk m r b t).may):=fun h=>by unfold Pr.may at h;simp only at h;omega
      have q0:decide (0≤m)=true:=by simp;omega
      have q1:decide (m<50)=true:=by simp;omega
      have q2:decide (0≤r)=true:=by simp;omega
      have q3:decide (r≤15)=true:=by simp;omega
      clear h0 h1 h2 h3 h4;go_enter Tryz.func188,Tryz.ntmps188;go_wp2_with fail;go_ret;exact Told.no HF.o HB.o
    ·have q3:decide (r≤15)=false:=by simp;omega
     have HF:Hid (¬ (Pr.mk m r b t).may):=fun h=>by unfold Pr.may at h;simp only at h;omega
     have q0:decide (0≤m)=true:=by simp;omega
     have q1:decide (m<50)=true:=by simp;omega
     have q2:decide (0≤r)=true:=by simp;omega
     clear h0 h1 h2 h3;go_enter Tryz.func188,Tryz.ntmps188;go_wp2_with fail;go_ret;exact Told.no HF.o HB.o
   ·have q2:decide (0≤r)=false:=by simp;omega
    have HF:Hid (¬ (Pr.mk m r b t).may):=fun h=>by unfold Pr.may at h;simp only at h;omega
    have q0:decide (0≤m)=true:=by simp;omega
    have q1:decide (m<50)=true:=by simp;omega
    clear h0 h1 h2;go_enter Tryz.func188,Tryz.ntmps188;go_wp2_with fail;go_ret;exact Told.no HF.o HB.o
  ·have q1:decide (m<50)=false:=by simp;omega
   have HF:Hid (¬ (Pr.mk m r b t).may):=fun h=>by unfold Pr.may at h;simp only at h;omega
   have q0:decide (0≤m)=true:=by simp;omega
   clear h0 h1;go_enter Tryz.func188,Tryz.ntmps188;go_wp2_with fail;go_ret;exact Told.no HF.o HB.o
 ·have q0:decide (0≤m)=false:=by simp;omega
  have HF:Hid (¬ (Pr.mk m r b t).may):=fun h=>by unfold Pr.may at h;simp only at h;omega
  clear h0;go_enter Tryz.func188,Tryz.ntmps188;go_wp2_with fail;go_ret;exact Told.no HF.o HB.o
end ora
end Go.Proofs.YtnpblpbohcegoaaGreatDoor
