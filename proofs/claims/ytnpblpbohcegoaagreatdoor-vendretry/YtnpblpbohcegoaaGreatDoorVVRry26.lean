import Derived.Test.YtnpblpbohcegoaaGreatDoorVVRry22
set_option linter.unusedVariables false
set_option linter.unusedSimpArgs false
set_option maxHeartbeats 4000000
set_option maxRecDepth 100000
namespace Go.Proofs.YtnpblpbohcegoaaGreatDoor
namespace vnd
open book (Ev ev0 Cm cm0 So so0 Sees)
open acc (Ac Tm Bi)
open ora (Pr)
open cell (Wr RowU RowW)
open rcp (Rc rc0)
open Go.RowKit
def KvSell (w0:World):Prop:=∀ (W:World) (t:Tm) (pt:Option Addr) (lt ct:Nat) (a:Option Addr) (n cap:Nat) (c:List Int) (ao:Option Addr) (no ko:Nat) (o:List Pr) (me te mo dr:Int),Below w0.heap.size w0 W→acc.TCame W t pt lt ct→Dk W a n cap c→ora.Came W ao no ko o→(Lit.int .i64 me).wf=true→(Lit.int .i64 te).wf=true→(Lit.int .i64 mo).wf=true→(Lit.int .i64 dr).wf=true→Calls Tryz.prog 45 #[t.v pt lt ct,.slice a n cap,.agg #[.slice ao no ko],zI me,zI te,zI mo,zI dr] W fun e w'=>TokGot W (TokIs 2 t c o me te mo dr) e w'
theorem KvSell.up {w0 w:World} (K:KvSell w0) (hb:Below w0.heap.size w0 w):KvSell w:=fun W t pt lt ct a n cap c ao no ko o me te mo dr hW=>K W t pt lt ct a n cap c ao no ko o me te mo dr (bel_step hb hW)
def KvReg:Prop:=∀ (W:World) (t:Tm) (pt:Option Addr) (lt ct:Nat) (a:Option Addr) (n cap:Nat) (c:List Int) (me:Int),acc.TCame W t pt lt ct→Dk W a n cap c→(Lit.int .i64 me).wf=true→Calls Tryz.prog 34 #[t.v pt lt ct,.slice a n cap,zI me] W fun e w'=>WrGot W (RegIs t c me) e w'
end vnd
namespace book
open Go.RowKit
theorem bkind (kd me mo id te de fe pr ch un tg ow bp:Int) (w:World):Calls Tryz.prog 110 #[.agg #[zI kd,zI me,zI mo,zI id,zI te,zI de,zI fe,zI pr,zI ch,zI un,zI tg,zI ow,zI bp]] w fun e w'=>YN w (KindR ⟨kd,me,mo,id,te,de,fe,pr,ch,un,tg,ow,bp⟩) e w':=by
 obtain ⟨W0,HWW,HX0,HB0,-⟩:=sh1 w #[zI kd,zI me,zI mo,zI id,zI te,zI de,zI fe,zI pr,zI ch,zI un,zI tg,zI ow,zI bp] 72;go_enter Tryz.func110,Tryz.ntmps110;go_upto_region 1 with fail
 rw [HWW.o];clear HWW;obtain ⟨c0,c1,c2,c3,c4,c5,c6,c7,c8,c9,c10,c11,c12⟩:=scl13 HX0;by_cases k1:kd=1
 case pos=>
  have q1:(kd == 1)=true:=by simpa using k1
  have HK:Hid (kd=1):=k1;clear k1;go_wp2_with fail;go_ret;exact YN.yes (Or.inl HK.o) HB0.o
 have q1:(kd == 1)=false:=by simpa using k1
 by_cases k2:kd=2
 case pos=>
  have q2:(kd == 2)=true:=by simpa using k2
  have HK:Hid (kd=2):=k2;clear k1 k2;have HW0:Hid (Calls Tryz.prog 109 #[zI 0,zI 2399,.slice (some ⟨W0.heap.size,0,none⟩) 1 1] (W0.alloc (.cells #[zI mo] 3)) fun e w'=>e = .returned (.bool (decide (0≤mo∧mo≤2399)))∧w'=(W0.alloc (.cells #[zI mo] 3))):=bki.within_one 0 2399 mo W0 _ rfl;have HB1:Hid (Below w.heap.size w (W0.alloc (.cells #[zI mo] 3))):=HB0.o.alloc HB0.o.size _;have HX1:Hid (Blk (W0.alloc (.cells #[zI mo] 3)) w.heap.size #[zI kd,zI me,zI mo,zI id,zI te,zI de,zI fe,zI pr,zI ch,zI un,zI tg,zI ow,zI bp] 72):=HX0.o.alloc _;by_cases h0:0≤mo∧mo≤2399
  case neg=>
   rw [decide_eq_false h0] at HW0;go_wp2_with fail;refine HW0.o.mono ?_;rintro e W ⟨rfl,hw⟩;subst hw;clear HW0;go_wp2_with fail;go_ret;exact YN.no (fun q=>(fun q=>h0 q.1) ((kind_2 (v:=⟨kd,me,mo,id,te,de,fe,pr,ch,un,tg,ow,bp⟩) HK.o).1 q)) HB1.o
  rw [decide_eq_true h0] at HW0;go_wp2_with fail;refine HW0.o.mono ?_;rintro e W ⟨rfl,hw⟩;subst hw;clear HW0 HB0 HX0;clear c0 c1 c2 c3 c4 c5 c6 c7 c8 c9 c10 c11 c12;generalize (W0.alloc (.cells #[zI mo] 3))=W1 at *;obtain ⟨c0,c1,c2,c3,c4,c5,c6,c7,c8,c9,c10,c11,c12⟩:=scl13 HX1;have HC1:Hid (∀ W,Calls Tryz.prog 156 #[.agg #[zI kd,zI me,zI mo,zI id,zI te,zI de,zI fe,zI pr,zI ch,zI un,zI tg,zI ow,zI bp]] W fun e w'=>YN W (Numd id tg) e w'):=fun W=>bnum kd me mo id te de fe pr ch un tg ow bp W;go_wp2_with fail;refine (HC1.o _).mono ?_;rintro e W2 ⟨B,rfl,hB,hb⟩;have HB2:=shB HB1 hb;have HX2:=shN HX1 hb;clear hb HC1 HB1 HX1;clear c0 c1 c2 c3 c4 c5 c6 c7 c8 c9 c10 c11 c12;obtain ⟨c0,c1,c2,c3,c4,c5,c6,c7,c8,c9,c10,c11,c12⟩:=scl13 HX2;cases B
  case false=>
   have HQ:Hid (¬ (Numd id tg)):=fun q=>absurd (hB.2 q) (by decide);clear hB;go_wp2_with fail;go_ret;exact YN.no (fun q=>(fun q=>HQ.o q.2.1) ((kind_2 (v:=⟨kd,me,mo,id,te,de,fe,pr,ch,un,tg,ow,bp⟩) HK.o).1 q)) HB2.o
  have H1:Hid (Numd id tg):=hB.1 rfl;clear hB;have HC2:Hid (∀ W,Calls Tryz.prog 157 #[.agg #[zI kd,zI me,zI mo,zI id,zI te,zI de,zI fe,zI pr,zI ch,zI un,zI tg,zI ow,zI bp]] W fun e w'=>YN W (Unt un) e w'):=fun W=>bunt kd me mo id te de fe pr ch un tg ow bp W;go_wp2_with fail;refine (HC2.o _).mono ?_;rintro e W3 ⟨B,rfl,hB,hb⟩;have HB3:=shB HB2 hb;have HX3:=shN HX2 hb;clear hb HC2 HB2 HX2;clear c0 c1 c2 c3 c4 c5 c6 c7 c8 c9 c10 c11 c12;obtain ⟨c0,c1,c2,c3,c4,c5,c6,c7,c8,c9,c10,c11,c12⟩:=scl13 HX3;cases B
  case false=>
   have HQ:Hid (¬ (Unt un)):=fun q=>absurd (hB.2 q) (by decide);clear hB;go_wp2_with fail;go_ret;exact YN.no (fun q=>(fun q=>HQ.o q.2.2.1) ((kind_2 (v:=⟨kd,me,mo,id,te,de,fe,pr,ch,un,tg,ow,bp⟩) HK.o).1 q)) HB3.o
  have H2:Hid (Unt un):=hB.1 rfl;clear hB;have HC3:Hid (∀ W,Calls Tryz.prog 158 #[.agg #[zI id,zI te,zI de,zI fe,zI pr,zI ch,zI un]] W fun e w'=>YN W (Mony te de fe pr ch) e w'):=fun W=>bmony id te de fe pr ch un W;go_wp2_with fail;refine (HC3.o _).mono ?_;rintro e W4 ⟨B,rfl,hB,hb⟩;have HB4:=shB HB3 hb;have HX4:=shN HX3 hb;clear hb HC3 HB3 HX3;clear c0 c1 c2 c3 c4 c5 c6 c7 c8 c9 c10 c11 c12;obtain ⟨c0,c1,c2,c3,c4,c5,c6,c7,c8,c9,c10,c11,c12⟩:=scl13 HX4;cases B
  case false=>
   have HQ:Hid (¬ (Mony te de fe pr ch)):=fun q=>absurd (hB.2 q) (by decide);clear hB;go_wp2_with fail;go_ret;exact YN.no (fun q=>(fun q=>HQ.o q.2.2.2) ((kind_2 (v:=⟨kd,me,mo,id,te,de,fe,pr,ch,un,tg,ow,bp⟩) HK.o).1 q)) HB4.o
  have H3:Hid (Mony te de fe pr ch):=hB.1 rfl;clear hB;go_wp2_with fail;go_ret;exact YN.yes ((kind_2 (v:=⟨kd,me,mo,id,te,de,fe,pr,ch,un,tg,ow,bp⟩) HK.o).2 ⟨h0,H1.o,H2.o,H3.o⟩) HB4.o
 have q2:(kd == 2)=false:=by simpa using k2
 by_cases k3:kd=3
 case pos=>
  have q3:(kd == 3)=true:=by simpa using k3
  have HK:Hid (kd=3):=k3;clear k1 k2 k3;have HW0:Hid (Calls Tryz.prog 109 #[zI 0,zI 2399,.slice (some ⟨W0.heap.size,0,none⟩) 1 1] (W0.alloc (.cells #[zI mo] 3)) fun e w'=>e = .returned (.bool (decide (0≤mo∧mo≤2399)))∧w'=(W0.alloc (.cells #[zI mo] 3))):=bki.within_one 0 2399 mo W0 _ rfl;have HB1:Hid (Below w.heap.size w (W0.alloc (.cells #[zI mo] 3))):=HB0.o.alloc HB0.o.size _;have HX1:Hid (Blk (W0.alloc (.cells #[zI mo] 3)) w.heap.size #[zI kd,zI me,zI mo,zI id,zI te,zI de,zI fe,zI pr,zI ch,zI un,zI tg,zI ow,zI bp] 72):=HX0.o.alloc _;by_cases h0:0≤mo∧mo≤2399
  case neg=>
   rw [decide_eq_false h0] at HW0;go_wp2_with fail;refine HW0.o.mono ?_;rintro e W ⟨rfl,hw⟩;subst hw;clear HW0;go_wp2_with fail;go_ret;exact YN.no (fun q=>(fun q=>h0 q.1) ((kind_3 (v:=⟨kd,me,mo,id,te,de,fe,pr,ch,un,tg,ow,bp⟩) HK.o).1 q)) HB1.o
  rw [decide_eq_true h0] at HW0;go_wp2_with fail;refine HW0.o.mono ?_;rintro e W ⟨rfl,hw⟩;subst hw;clear HW0 HB0 HX0;clear c0 c1 c2 c3 c4 c5 c6 c7 c8 c9 c10 c11 c12;generalize (W0.alloc (.cells #[zI mo] 3))=W1 at *;obtain ⟨c0,c1,c2,c3,c4,c5,c6,c7,c8,c9,c10,c11,c12⟩:=scl13 HX1;have HC1:Hid (∀ W,Calls Tryz.prog 156 #[.agg #[zI kd,zI me,zI mo,zI id,zI te,zI de,zI fe,zI pr,zI ch,zI un,zI tg,zI ow,zI bp]] W fun e w'=>YN W (Numd id tg) e w'):=fun W=>bnum kd me mo id te de fe pr ch un tg ow bp W;go_wp2_with fail;refine (HC1.o _).mono ?_;rintro e W2 ⟨B,rfl,hB,hb⟩;have HB2:=shB HB1 hb;have HX2:=shN HX1 hb;clear hb HC1 HB1 HX1;clear c0 c1 c2 c3 c4 c5 c6 c7 c8 c9 c10 c11 c12;obtain ⟨c0,c1,c2,c3,c4,c5,c6,c7,c8,c9,c10,c11,c12⟩:=scl13 HX2;cases B
  case false=>
   have HQ:Hid (¬ (Numd id tg)):=fun q=>absurd (hB.2 q) (by decide);clear hB;go_wp2_with fail;go_ret;exact YN.no (fun q=>(fun q=>HQ.o q.2.1) ((kind_3 (v:=⟨kd,me,mo,id,te,de,fe,pr,ch,un,tg,ow,bp⟩) HK.o).1 q)) HB2.o
  have H1:Hid (Numd id tg):=hB.1 rfl;clear hB;have HC2:Hid (∀ W,Calls Tryz.prog 157 #[.agg #[zI kd,zI me,zI mo,zI id,zI te,zI de,zI fe,zI pr,zI ch,zI un,zI tg,zI ow,zI bp]] W fun e w'=>YN W (Unt un) e w'):=fun W=>bunt kd me mo id te de fe pr ch un tg ow bp W;go_wp2_with fail;refine (HC2.o _).mono ?_;rintro e W3 ⟨B,rfl,hB,hb⟩;have HB3:=shB HB2 hb;have HX3:=shN HX2 hb;clear hb HC2 HB2 HX2;clear c0 c1 c2 c3 c4 c5 c6 c7 c8 c9 c10 c11 c12;obtain ⟨c0,c1,c2,c3,c4,c5,c6,c7,c8,c9,c10,c11,c12⟩:=scl13 HX3;cases B
  case false=>
   have HQ:Hid (¬ (Unt un)):=fun q=>absurd (hB.2 q) (by decide);clear hB;go_wp2_with fail;go_ret;exact YN.no (fun q=>(fun q=>HQ.o q.2.2) ((kind_3 (v:=⟨kd,me,mo,id,te,de,fe,pr,ch,un,tg,ow,bp⟩) HK.o).1 q)) HB3.o
  have H2:Hid (Unt un):=hB.1 rfl;clear hB;go_wp2_with fail;go_ret;exact YN.yes ((kind_3 (v:=⟨kd,me,mo,id,te,de,fe,pr,ch,un,tg,ow,bp⟩) HK.o).2 ⟨h0,H1.o,H2.o⟩) HB3.o
 have q3:(kd == 3)=false:=by simpa using k3
 by_cases k4:kd=4
 case pos=>
  have q4:(kd == 4)=true:=by simpa using k4
  have HK:Hid (kd=4):=k4;clear k1 k2 k3 k4;have HC0:Hid (∀ W,Calls Tryz.prog 156 #[.agg #[zI kd,zI me,zI mo,zI id,zI te,zI de,zI fe,zI pr,zI ch,zI un,zI tg,zI ow,zI bp]] W fun e w'=>YN W (Numd id tg) e w'):=fun W=>bnum kd me mo id te de fe pr ch un tg ow bp W;go_wp2_with fail;refine (HC0.o _).mono ?_;rintro e W1 ⟨B,rfl,hB,hb⟩;have HB1:=shB HB0 hb;have HX1:=shN HX0 hb;clear hb HC0 HB0 HX0;clear c0 c1 c2 c3 c4 c5 c6 c7 c8 c9 c10 c11 c12;obtain ⟨c0,c1,c2,c3,c4,c5,c6,c7,c8,c9,c10,c11,c12⟩:=scl13 HX1;cases B
  case false=>
   have HQ:Hid (¬ (Numd id tg)):=fun q=>absurd (hB.2 q) (by decide);clear hB;go_wp2_with fail;go_ret;exact YN.no (fun q=>(fun q=>HQ.o q) ((kind_4 (v:=⟨kd,me,mo,id,te,de,fe,pr,ch,un,tg,ow,bp⟩) HK.o).1 q)) HB1.o
  have H1:Hid (Numd id tg):=hB.1 rfl;clear hB;go_wp2_with fail;go_ret;exact YN.yes ((kind_4 (v:=⟨kd,me,mo,id,te,de,fe,pr,ch,un,tg,ow,bp⟩) HK.o).2 H1.o) HB1.o
 have q4:(kd == 4)=false:=by simpa using k4
 by_cases k5:kd=5
 case pos=>
  have q5:(kd == 5)=true:=by simpa using k5
  have HK:Hid (kd=5):=k5;clear k1 k2 k3 k4 k5;have HW0:Hid (Calls Tryz.prog 109 #[zI 1,zI 1000000000,.slice (some ⟨W0.heap.size,0,none⟩) 1 1] (W0.alloc (.cells #[zI ow] 3)) fun e w'=>e = .returned (.bool (decide (1≤ow∧ow≤1000000000)))∧w'=(W0.alloc (.cells #[zI ow] 3))):=bki.within_one 1 1000000000 ow W0 _ rfl;have HB1:Hid (Below w.heap.size w (W0.alloc (.cells #[zI ow] 3))):=HB0.o.alloc HB0.o.size _;have HX1:Hid (Blk (W0.alloc (.cells #[zI ow] 3)) w.heap.size #[zI kd,zI me,zI mo,zI id,zI te,zI de,zI fe,zI pr,zI ch,zI un,zI tg,zI ow,zI bp] 72):=HX0.o.alloc _;by_cases h0:1≤ow∧ow≤1000000000
  case neg=>
   rw [decide_eq_false h0] at HW0;go_wp2_with fail;refine HW0.o.mono ?_;rintro e W ⟨rfl,hw⟩;subst hw;clear HW0;go_wp2_with fail;go_ret;exact YN.no (fun q=>(fun q=>h0 q.1) ((kind_5 (v:=⟨kd,me,mo,id,te,de,fe,pr,ch,un,tg,ow,bp⟩) HK.o).1 q)) HB1.o
  rw [decide_eq_true h0] at HW0;go_wp2_with fail;refine HW0.o.mono ?_;rintro e W ⟨rfl,hw⟩;subst hw;clear HW0 HB0 HX0;clear c0 c1 c2 c3 c4 c5 c6 c7 c8 c9 c10 c11 c12;generalize (W0.alloc (.cells #[zI ow] 3))=W1 at *;obtain ⟨c0,c1,c2,c3,c4,c5,c6,c7,c8,c9,c10,c11,c12⟩:=scl13 HX1;have HW1:Hid (Calls Tryz.prog 109 #[zI 0,zI 10000,.slice (some ⟨W1.heap.size,0,none⟩) 1 1] (W1.alloc (.cells #[zI bp] 3)) fun e w'=>e = .returned (.bool (decide (0≤bp∧bp≤10000)))∧w'=(W1.alloc (.cells #[zI bp] 3))):=bki.within_one 0 10000 bp W1 _ rfl;have HB2:Hid (Below w.heap.size w (W1.alloc (.cells #[zI bp] 3))):=HB1.o.alloc HB1.o.size _;have HX2:Hid (Blk (W1.alloc (.cells #[zI bp] 3)) w.heap.size #[zI kd,zI me,zI mo,zI id,zI te,zI de,zI fe,zI pr,zI ch,zI un,zI tg,zI ow,zI bp] 72):=HX1.o.alloc _;by_cases h1:0≤bp∧bp≤10000
  case neg=>
   rw [decide_eq_false h1] at HW1;go_wp2_with fail;refine HW1.o.mono ?_;rintro e W ⟨rfl,hw⟩;subst hw;clear HW1;go_wp2_with fail;go_ret;exact YN.no (fun q=>(fun q=>h1 q.2) ((kind_5 (v:=⟨kd,me,mo,id,te,de,fe,pr,ch,un,tg,ow,bp⟩) HK.o).1 q)) HB2.o
  rw [decide_eq_true h1] at HW1;go_wp2_with fail;refine HW1.o.mono ?_;rintro e W ⟨rfl,hw⟩;subst hw;clear HW1 HB1 HX1;clear c0 c1 c2 c3 c4 c5 c6 c7 c8 c9 c10 c11 c12;generalize (W1.alloc (.cells #[zI bp] 3))=W2 at *;obtain ⟨c0,c1,c2,c3,c4,c5,c6,c7,c8,c9,c10,c11,c12⟩:=scl13 HX2;go_wp2_with fail;go_ret;exact YN.yes ((kind_5 (v:=⟨kd,me,mo,id,te,de,fe,pr,ch,un,tg,ow,bp⟩) HK.o).2 ⟨h0,h1⟩) HB2.o
 have q5:(kd == 5)=false:=by simpa using k5
 have HK:Hid (¬ KindR ⟨kd,me,mo,id,te,de,fe,pr,ch,un,tg,ow,bp⟩):=fun q=>by
  rcases q with q | q | q | q | q
  ·exact k1 q
  ·exact k2 q.1
  ·exact k3 q.1
  ·exact k4 q.1
  ·exact k5 q.1
 clear k1 k2 k3 k4 k5;go_wp2_with fail;go_ret;exact YN.no HK.o HB0.o
open acc (Ac Tm Bi APost BPost TFault TRight OpenIs OweIs SellIs GrantIs RekeyIs wf6 ACame TCame fresh_updN fresh_drew came_lt)
def CuPost (w:World) (a:Option Addr) (bk:List Cm) (me:Int) (e:Ending) (w':World):Prop:=w'=w∧((∃ k g,FirstAt bk me k∧a=some ⟨g,0,none⟩∧e = .returned (.pointer (some ⟨g,k*8,none⟩)))∨(NoneAt bk me∧e = .panicked (thrown 18)))
theorem bcust (gW B:Nat) (t:Tm) (pt:Option Addr) (lt ct:Nat) (a:Option Addr) (n cap:Nat) (bk:List Cm) (me:Int) (w:World) (hw:Blk w gW #[.slice a n cap,.slice pt lt ct,zI t.ff,zI t.fb,zI t.db,zI t.al,.map (some B)] 113) (hm:MpI w B (mes bk)) (hn:bk.length=n) (ha:0<n→∃ g,a=some ⟨g,0,none⟩) (hs:n≤1000):Calls Tryz.prog 71 #[.pointer (some ⟨gW,0,none⟩),zI me] w fun e w'=>CuPost w a bk me e w':=by
 have HNO:Hid (∀ W,Calls Tryz.prog 112 #[zI 18] W fun e w'=>e = .panicked (thrown 18)∧w'=W):=fun W=>insist_no 18 (by decide) W;have q0:w.cell? ⟨gW,0,none⟩=some (.slice a n cap):=hw.cell 0;have q6:w.cell? ⟨gW,6,none⟩=some (.map (some B)):=hw.cell 6;have hlk:=lookI_run hm me;clear hw hm;cases hf:firstI (mes bk) me with
 | none=>
  rw [hf] at hlk;simp only [Option.getD_none,Option.isSome_none] at hlk;have HN:Hid (NoneAt bk me):=first_none hf;clear hf;go_enter Tryz.func71,Tryz.ntmps71;go_wp2_with fail;refine (HNO.o _).mono ?_;rintro e W9 ⟨rfl,rfl⟩;exact ⟨rfl,rfl,.inr ⟨HN.o,rfl⟩⟩
 | some k=>
  rw [hf] at hlk;simp only [Option.getD_some,Option.isSome_some] at hlk;have hfa:=first_some hf;have hkn:k<n:=by have:=hfa.1;omega
  obtain ⟨g,rfl⟩:=ha (by omega);have HN:Hid (FirstAt bk me k):=hfa;clear hf hfa ha hn;go_enter Tryz.func71,Tryz.ntmps71;go_wp2_with fail;go_ret;exact ⟨rfl,.inl ⟨k,g,HN.o,rfl,by first | rfl | simp⟩⟩
end book
namespace acc
open tar (Du du0 Came RowD Ld PairT)
open Go.RowKit
set_option maxRecDepth 100000
set_option maxHeartbeats 4000000 in
theorem powe (g : Nat) (x : Ac) (p : Option Addr) (len cap : Nat) (q : Du) (w : World) (hw : Blk w g (wcs x bi0 p len cap) 252) (hl : Ld 70 w (g + 1) (.slice p len cap) x.ds) (ha : AMay x) : Calls Tryz.prog 119 #[.pointer (some ⟨g, 0, none⟩), .agg #[.int .i64 q.a, .int .i64 q.b]] w fun e w' => WPost w g (Or0 (fun y _ f => OweIs x q y f)) e w' := by
 have hgl := hw.lt
 have hdm := ha.1
 have hle : x.ds.length = len := by obtain ⟨a0, c0, hv, _⟩ := hl.row; injection hv with _ h2 _; exact h2.symm
 have HDF : Hid (deb.Fresh w (g + 1) p len cap x.ds) := by
  obtain ⟨a0, c0, hv, hf⟩ := deb.ld_fresh hl hdm
  injection hv with h1 h2 h3
  rw [h1, h2, h3]; exact hf
 have hl8 : len ≤ 8 := by have := hdm.1; omega
 have HM : Hid (AMay x) := ha
 have HI1 : Hid (∀ W, Calls Tryz.prog 69 #[.int .i64 1, .int .i64 1000000000, .int .i64 q.a] W fun e w' => e = .returned (.bool (decide (1 ≤ q.a ∧ q.a ≤ 1000000000))) ∧ w' = W) := fun W => awithin 1 1000000000 q.a W
 have HI2 : Hid (∀ W, Calls Tryz.prog 69 #[.int .i64 0, .int .i64 10000, .int .i64 q.b] W fun e w' => e = .returned (.bool (decide (0 ≤ q.b ∧ q.b ≤ 10000))) ∧ w' = W) := fun W => awithin 0 10000 q.b W
 have HOW : Hid (∀ (e : some w.heap.size = (Value.slice p len cap).ownBlock), False) := fun e => by have := (World.ownsRow.lt hl _ e.symm).2; omega
 have H0B : Hid (Below w.heap.size w (w.alloc (.cells #[.int .i64 q.a, .int .i64 q.b] 70))) := (Below.refl w.heap.size w).alloc (by simp) _
 have H0e : Hid (Blk (w.alloc (.cells #[.int .i64 q.a, .int .i64 q.b] 70)) w.heap.size #[.int .i64 q.a, .int .i64 q.b] 70) := Blk.new w _ _
 have H0g : Hid (Blk (w.alloc (.cells #[.int .i64 q.a, .int .i64 q.b] 70)) g #[.int .i64 x.me, .int .i64 x.rv, .int .i64 x.nx, .int .i64 x.mo, .int .i64 x.bo, .int .i64 x.fr, .slice p len cap, .int .i64 0, .int .i64 0, .int .i64 0, .int .i64 0, .int .i64 0, .int .i64 0, .int .i64 0] 252) := hw.alloc _
 have H0L : Hid (Ld 70 (w.alloc (.cells #[.int .i64 q.a, .int .i64 q.b] 70)) (g + 1) (.slice p len cap) x.ds) := hl.alloc _
 have H0F : Hid (deb.Fresh (w.alloc (.cells #[.int .i64 q.a, .int .i64 q.b] 70)) (g + 1) p len cap x.ds) := HDF.out.below H0B.out
 have H0G : Hid (Below g w (w.alloc (.cells #[.int .i64 q.a, .int .i64 q.b] 70))) := H0B.out.mono (by omega)
 have hsz : w.heap.size < (w.alloc (.cells #[.int .i64 q.a, .int .i64 q.b] 70)).heap.size := H0e.out.lt
 clear hw hl ha HDF H0B
 generalize hWW : (w.alloc (.cells #[.int .i64 q.a, .int .i64 q.b] 70)) = W0 at *
 have HWW : Hid ((w.alloc (.cells #[.int .i64 q.a, .int .i64 q.b] 70)) = W0) := hWW
 clear hWW
 have e0 : W0.cell? ⟨w.heap.size, 0, none⟩ = some (.int .i64 q.a) := H0e.out.cell 0
 have e1 : W0.cell? ⟨w.heap.size, 1, none⟩ = some (.int .i64 q.b) := H0e.out.cell 1
 have g6 : W0.cell? ⟨g, 6, none⟩ = some (.slice p len cap) := H0g.out.cell 6
 go_enter Tryz.func119, Tryz.ntmps119
 go_upto_region 1 with fail
 rw [HWW.out]
 clear HWW
 by_cases h1 : 1 ≤ q.a ∧ q.a ≤ 1000000000
 ·rw [decide_eq_true h1] at HI1
  go_wp2_with fail
  refine (HI1.out _).mono ?_
  rintro e wz ⟨rfl, hwz⟩
  subst wz
  clear HI1
  by_cases h2 : 0 ≤ q.b ∧ q.b ≤ 10000
  ·rw [decide_eq_true h2] at HI2
   go_wp2_with fail
   refine (HI2.out _).mono ?_
   rintro e wz ⟨rfl, hwz⟩
   subst wz
   clear HI2
   by_cases h3 : len < 8
   ·have d3 : ((len : Int) == 8) = false := by simp; omega
    have HMN : Hid (deb.Mays (x.ds ++ [q])) := ⟨by rw [List.length_append, hle]; show len + 1 ≤ 8; omega, deb.fits_mem fun d hd => by
     rcases List.mem_append.1 hd with hd | hd
     ·exact deb.mem_fits hdm.2 d hd
     ·have e2 := List.mem_singleton.1 hd
      subst e2
      exact ⟨⟨by omega, h1.2⟩, h2⟩⟩
    have hzl : x.ds.length ≤ 1000000 := by omega
    have HV : Hid (Or0 (fun y _ f => OweIs x q y f) ⟨x.me, x.rv, x.nx, x.mo, x.bo, x.fr, x.ds ++ [q]⟩ bi0 0) := .inr ⟨rfl, .inr (.inr (.inr ⟨HM.out, ⟨h1, h2⟩, by rw [hle]; exact h3, rfl, rfl⟩))⟩
    have HZL : Hid (x.ds.length ≤ 1000000) := hzl
    clear h1 h2 h3 hdm hle hzl
    go_wp2_with fail
    clear e0 e1
    have HED : Hid (Blk W0.drew w.heap.size #[.int .i64 q.a, .int .i64 q.b] 70) := Blk.drew H0e.out 1
    have q6 : W0.drew.cell? ⟨g, 6, none⟩ = some (.slice p len cap) := H0g.out.cell 6
    have HEA : Hid (Blk (W0.alloc (.cells #[.int .i64 q.a, .int .i64 q.b] 70)).drew w.heap.size #[.int .i64 q.a, .int .i64 q.b] 70) := HED.out.alloc _
    have HGA : Hid (Blk (W0.alloc (.cells #[.int .i64 q.a, .int .i64 q.b] 70)).drew g #[.int .i64 x.me, .int .i64 x.rv, .int .i64 x.nx, .int .i64 x.mo, .int .i64 x.bo, .int .i64 x.fr, .slice p len cap, .int .i64 0, .int .i64 0, .int .i64 0, .int .i64 0, .int .i64 0, .int .i64 0, .int .i64 0] 252) := H0g.out.alloc _
    have HLA : Hid (Ld 70 (W0.alloc (.cells #[.int .i64 q.a, .int .i64 q.b] 70)).drew (g + 1) (.slice p len cap) x.ds) := H0L.out.alloc _
    have HCA : Hid ((W0.alloc (.cells #[.int .i64 q.a, .int .i64 q.b] 70)).drew.cell? ⟨W0.heap.size, 0, none⟩ = some (.int .i64 q.a) ∧ (W0.alloc (.cells #[.int .i64 q.a, .int .i64 q.b] 70)).drew.cell? ⟨W0.heap.size, 1, none⟩ = some (.int .i64 q.b)) := ⟨(Blk.new W0 _ _).cell 0, (Blk.new W0 _ _).cell 1⟩
    have HBA : Hid (Below g w (W0.alloc (.cells #[.int .i64 q.a, .int .i64 q.b] 70)).drew) := bel_drew (H0G.out.alloc (by omega) _) 1
    have hsA : W0.heap.size < (W0.alloc (.cells #[.int .i64 q.a, .int .i64 q.b] 70)).drew.heap.size := (Blk.new W0 #[.int .i64 q.a, .int .i64 q.b] 70).lt
    refine wp_region_held_drew (S := fun v => Blk v (w.heap.size) #[.int .i64 q.a, .int .i64 q.b] 70) (by kernel_rfl) HED.out (fun hHeld => ?_)
    refine zqs 0 24 (.pointer (some ⟨g, 0, none⟩)) rfl rfl (by kernel_rfl) (fun _ _ _ h => h) rfl (fun v hv => by clear hv; go_simp) hHeld ?_
    simp only [Act.put, zqa, zqb, zqc]
    refine zqs 1 25 (.pointer (some ⟨g, 0, none⟩)) rfl rfl (by kernel_rfl) (fun _ _ _ h => h) rfl (fun v hv => by clear hv; go_simp) hHeld ?_
    simp only [Act.put, zqa, zqb, zqc]
    refine zqs 2 26 (.pointer (some ⟨g, 0, none⟩)) rfl rfl (by kernel_rfl) (fun _ _ _ h => h) rfl (fun v hv => by clear hv; go_simp) hHeld ?_
    simp only [Act.put, zqa, zqb, zqc]
    refine zqs 3 27 (.pointer (some ⟨g, 0, none⟩)) rfl rfl (by kernel_rfl) (fun _ _ _ h => h) rfl (fun v hv => by clear hv; go_simp) hHeld ?_
    simp only [Act.put, zqa, zqb, zqc]
    refine zqs 4 28 (.pointer (some ⟨g, 6, none⟩)) rfl rfl (by kernel_rfl) (fun _ _ _ h => h) rfl (fun v hv => by clear hv; go_simp) hHeld ?_
    simp only [Act.put, zqa, zqb, zqc]
    refine zqt 6 30 (.agg #[.int .i64 q.a, .int .i64 q.b]) rfl rfl (by kernel_rfl) (fun _ _ _ h => h) (Or.inl ⟨by rfl, fun v hv => by have g0 := hv.cell 0; have g1 := hv.cell 1; clear hv; go_simp⟩) hHeld ?_
    simp only [Act.put, zqa, zqb, zqc]
    refine wpAnyH_ready (rs := [5, 7]) (by kernel_rfl) (by simp) (AllReadyH.cons rfl (fun K hK => ?_) (AllReadyH.cons rfl (fun K hK => ?_) AllReadyH.nil))
    all_goals rw [if_pos (by rfl)]
    ·refine wp_runOp (v := .slice p len cap) (w' := W0.drew) 29 rfl (by clear hK; go_simp) ?_
     refine hK.out _ _ HED.out (fun hHeld => ?_)
     clear hK K q6
     simp only [Act.put, zqa, zqb, zqc]
     refine zqo 7 (by kernel_rfl) rfl (fun K hK => ?_)
     rw [if_pos (by rfl)]
     refine wp_runOp (v := .slice (some ⟨W0.heap.size, 0, none⟩) 1 1) (w' := (W0.alloc (.cells #[.int .i64 q.a, .int .i64 q.b] 70)).drew) 31 rfl (by clear hK; go_simp) ?_
     refine hK.out _ _ HEA.out (fun hHeld => ?_)
     clear hK K
     simp only [Act.put, zqa, zqb, zqc]
     generalize (W0.alloc (.cells #[.int .i64 q.a, .int .i64 q.b] 70)).drew = WA at *
     generalize W0.heap.size = hA at *
     refine zqo 8 (by kernel_rfl) rfl (fun K hK => ?_)
     refine tar.step_pair deb.debtT rfl _ _ rfl (g + 1) hA (.slice p len cap) x.ds q rfl rfl HLA.out HCA.out HZL.out (by omega) ?_
     intro v5 w5 h5 hg5
     obtain ⟨p5, c5, hv5, hf5⟩ := deb.ld_fresh h5 HMN.out
     subst hv5
     have H5g : Hid (Blk w5 g #[.int .i64 x.me, .int .i64 x.rv, .int .i64 x.nx, .int .i64 x.mo, .int .i64 x.bo, .int .i64 x.fr, .slice p len cap, .int .i64 0, .int .i64 0, .int .i64 0, .int .i64 0, .int .i64 0, .int .i64 0, .int .i64 0] 252) := grown_blk HGA.out hg5 (tar.own_far HLA.out (by omega))
     have H5e : Hid (Blk w5 w.heap.size #[.int .i64 q.a, .int .i64 q.b] 70) := grown_blk HEA.out hg5 (fun e => HOW.out e)
     have H5B : Hid (Below g w w5) := tar.own_bel HLA.out hg5 HBA.out (by omega) (by omega)
     have H5F : Hid (deb.Fresh w5 (g + 1) p5 (x.ds ++ [q]).length c5 (x.ds ++ [q])) := hf5
     refine hK.out _ _ H5e.out (fun hHeld => ?_)
     clear hK K h5 hg5 hf5 HGA HEA HLA HCA HBA HED
     simp only [Act.put, zqa, zqb, zqc]
     generalize (x.ds ++ [q]).length = n5 at *
     refine zqs 9 33 (.pointer (some ⟨g, 0, none⟩)) rfl rfl (by kernel_rfl) (fun _ _ _ h => h) rfl (fun v hv => by clear hv; go_simp) hHeld ?_
     simp only [Act.put, zqa, zqb, zqc]
     refine zqs 10 34 (.pointer (some ⟨g, 0, none⟩)) rfl rfl (by kernel_rfl) (fun _ _ _ h => h) rfl (fun v hv => by clear hv; go_simp) hHeld ?_
     simp only [Act.put, zqa, zqb, zqc]
     refine zqs 11 35 (.pointer (some ⟨g, 6, none⟩)) rfl rfl (by kernel_rfl) (fun _ _ _ h => h) rfl (fun v hv => by clear hv; go_simp) hHeld ?_
     simp only [Act.put, zqa, zqb, zqc]
     refine zqo 12 (by kernel_rfl) rfl (fun K hK => ?_)
     rw [if_pos (by rfl)]
     refine wp_letOp1 49 _ _ rfl g 6 rfl (.slice p5 n5 c5) rfl rfl (by kernel_rfl) rfl #[.int .i64 x.me, .int .i64 x.rv, .int .i64 x.nx, .int .i64 x.mo, .int .i64 x.bo, .int .i64 x.fr, .slice p len cap, .int .i64 0, .int .i64 0, .int .i64 0, .int .i64 0, .int .i64 0, .int .i64 0, .int .i64 0] 252 H5g.out (by simp) rfl ?_
     intro W6 hU
     have H6g : Hid (Blk W6 g #[.int .i64 x.me, .int .i64 x.rv, .int .i64 x.nx, .int .i64 x.mo, .int .i64 x.bo, .int .i64 x.fr, .slice p5 n5 c5, .int .i64 0, .int .i64 0, .int .i64 0, .int .i64 0, .int .i64 0, .int .i64 0, .int .i64 0] 252) := hU.blk
     have H6e := shK hU H5e (by omega)
     have H6B : Hid (Below g w W6) := hU.bel _ _ (Nat.le_refl _) H5B.out
     have H6F : Hid (deb.Fresh W6 (g + 1) p5 n5 c5 (x.ds ++ [q])) := fresh_chg H5F.out (.upd hU)
     refine hK.out _ _ H6e.out (fun hHeld => ?_)
     clear hK K hU H5g H5e H5B H5F
     refine wpAnyH_done (by kernel_rfl) ?_ _
     clear hHeld
     go_wp2_with fail
     go_ret
     exact ⟨⟨x.me, x.rv, x.nx, x.mo, x.bo, x.fr, x.ds ++ [q]⟩, bi0, p5, n5, c5, 0, rfl, HV.out, H6g.out, H6F.out, H6B.out⟩
    ·refine wp_runOp (v := .slice (some ⟨W0.heap.size, 0, none⟩) 1 1) (w' := (W0.alloc (.cells #[.int .i64 q.a, .int .i64 q.b] 70)).drew) 31 rfl (by clear hK; go_simp) ?_
     refine hK.out _ _ HEA.out (fun hHeld => ?_)
     clear hK K q6
     have q7 : (W0.alloc (.cells #[.int .i64 q.a, .int .i64 q.b] 70)).drew.cell? ⟨g, 6, none⟩ = some (.slice p len cap) := HGA.out.cell 6
     simp only [Act.put, zqa, zqb, zqc]
     refine zqo 5 (by kernel_rfl) rfl (fun K hK => ?_)
     rw [if_pos (by rfl)]
     refine wp_runOp (v := .slice p len cap) (w' := (W0.alloc (.cells #[.int .i64 q.a, .int .i64 q.b] 70)).drew) 29 rfl (by clear hK; go_simp) ?_
     refine hK.out _ _ HEA.out (fun hHeld => ?_)
     clear hK K q7
     simp only [Act.put, zqa, zqb, zqc]
     generalize (W0.alloc (.cells #[.int .i64 q.a, .int .i64 q.b] 70)).drew = WA at *
     generalize W0.heap.size = hA at *
     refine zqo 8 (by kernel_rfl) rfl (fun K hK => ?_)
     refine tar.step_pair deb.debtT rfl _ _ rfl (g + 1) hA (.slice p len cap) x.ds q rfl rfl HLA.out HCA.out HZL.out (by omega) ?_
     intro v5 w5 h5 hg5
     obtain ⟨p5, c5, hv5, hf5⟩ := deb.ld_fresh h5 HMN.out
     subst hv5
     have H5g : Hid (Blk w5 g #[.int .i64 x.me, .int .i64 x.rv, .int .i64 x.nx, .int .i64 x.mo, .int .i64 x.bo, .int .i64 x.fr, .slice p len cap, .int .i64 0, .int .i64 0, .int .i64 0, .int .i64 0, .int .i64 0, .int .i64 0, .int .i64 0] 252) := grown_blk HGA.out hg5 (tar.own_far HLA.out (by omega))
     have H5e : Hid (Blk w5 w.heap.size #[.int .i64 q.a, .int .i64 q.b] 70) := grown_blk HEA.out hg5 (fun e => HOW.out e)
     have H5B : Hid (Below g w w5) := tar.own_bel HLA.out hg5 HBA.out (by omega) (by omega)
     have H5F : Hid (deb.Fresh w5 (g + 1) p5 (x.ds ++ [q]).length c5 (x.ds ++ [q])) := hf5
     refine hK.out _ _ H5e.out (fun hHeld => ?_)
     clear hK K h5 hg5 hf5 HGA HEA HLA HCA HBA HED
     simp only [Act.put, zqa, zqb, zqc]
     generalize (x.ds ++ [q]).length = n5 at *
     refine zqs 9 33 (.pointer (some ⟨g, 0, none⟩)) rfl rfl (by kernel_rfl) (fun _ _ _ h => h) rfl (fun v hv => by clear hv; go_simp) hHeld ?_
     simp only [Act.put, zqa, zqb, zqc]
     refine zqs 10 34 (.pointer (some ⟨g, 0, none⟩)) rfl rfl (by kernel_rfl) (fun _ _ _ h => h) rfl (fun v hv => by clear hv; go_simp) hHeld ?_
     simp only [Act.put, zqa, zqb, zqc]
     refine zqs 11 35 (.pointer (some ⟨g, 6, none⟩)) rfl rfl (by kernel_rfl) (fun _ _ _ h => h) rfl (fun v hv => by clear hv; go_simp) hHeld ?_
     simp only [Act.put, zqa, zqb, zqc]
     refine zqo 12 (by kernel_rfl) rfl (fun K hK => ?_)
     rw [if_pos (by rfl)]
     refine wp_letOp1 49 _ _ rfl g 6 rfl (.slice p5 n5 c5) rfl rfl (by kernel_rfl) rfl #[.int .i64 x.me, .int .i64 x.rv, .int .i64 x.nx, .int .i64 x.mo, .int .i64 x.bo, .int .i64 x.fr, .slice p len cap, .int .i64 0, .int .i64 0, .int .i64 0, .int .i64 0, .int .i64 0, .int .i64 0, .int .i64 0] 252 H5g.out (by simp) rfl ?_
     intro W6 hU
     have H6g : Hid (Blk W6 g #[.int .i64 x.me, .int .i64 x.rv, .int .i64 x.nx, .int .i64 x.mo, .int .i64 x.bo, .int .i64 x.fr, .slice p5 n5 c5, .int .i64 0, .int .i64 0, .int .i64 0, .int .i64 0, .int .i64 0, .int .i64 0, .int .i64 0] 252) := hU.blk
     have H6e := shK hU H5e (by omega)
     have H6B : Hid (Below g w W6) := hU.bel _ _ (Nat.le_refl _) H5B.out
     have H6F : Hid (deb.Fresh W6 (g + 1) p5 n5 c5 (x.ds ++ [q])) := fresh_chg H5F.out (.upd hU)
     refine hK.out _ _ H6e.out (fun hHeld => ?_)
     clear hK K hU H5g H5e H5B H5F
     refine wpAnyH_done (by kernel_rfl) ?_ _
     clear hHeld
     go_wp2_with fail
     go_ret
     exact ⟨⟨x.me, x.rv, x.nx, x.mo, x.bo, x.fr, x.ds ++ [q]⟩, bi0, p5, n5, c5, 0, rfl, HV.out, H6g.out, H6F.out, H6B.out⟩
   ·have d3 : ((len : Int) == 8) = true := by simp; omega
    have HV : Hid (Or0 (fun y _ f => OweIs x q y f) x bi0 16) := .inl ⟨by decide, .inr (.inr (.inl ⟨HM.out, ⟨h1, h2⟩, by rw [hle]; exact h3, rfl, rfl⟩))⟩
    clear h1 h2 h3
    go_wp2_with fail
    go_ret
    exact ⟨x, bi0, p, len, cap, 16, rfl, HV.out, H0g.out, H0F.out, H0G.out⟩
  ·rw [decide_eq_false h2] at HI2
   have HV : Hid (Or0 (fun y _ f => OweIs x q y f) x bi0 2) := .inl ⟨by decide, .inr (.inl ⟨HM.out, fun hh => h2 hh.2, rfl, rfl⟩)⟩
   clear h2
   go_wp2_with fail
   refine (HI2.out _).mono ?_
   rintro e wz ⟨rfl, hwz⟩
   subst wz
   go_wp2_with fail
   all_goals first
    | (rename_i q1 q2; exact absurd q1 (by simp [undef]))
    | (go_ret; exact ⟨x, bi0, p, len, cap, 2, rfl, HV.out, H0g.out, H0F.out, H0G.out⟩)
 ·rw [decide_eq_false h1] at HI1
  have HV : Hid (Or0 (fun y _ f => OweIs x q y f) x bi0 2) := .inl ⟨by decide, .inr (.inl ⟨HM.out, fun hh => h1 hh.1, rfl, rfl⟩)⟩
  clear h1
  go_wp2_with fail
  refine (HI1.out _).mono ?_
  rintro e wz ⟨rfl, hwz⟩
  subst wz
  go_wp2_with fail
  all_goals first
   | (rename_i q1 q2; exact absurd q1 (by simp [undef]))
   | (go_ret; exact ⟨x, bi0, p, len, cap, 2, rfl, HV.out, H0g.out, H0F.out, H0G.out⟩)
end acc
namespace words
open Go.RowKit
theorem eq1 (d:Nat) (a a':Int) (w:World):(Op.equalIn (d+1) 99 (.int .u32 a) (.int .u32 a')).run Tryz.prog w = .ok (a == a') w:=by
 simp [Op.equalIn,run_underlying Tryz.underlying99,go_sem]
theorem part0 (a b c:Int) (w:World):(part 99 #[.int .u32 a,.int .u32 b,.int .u32 c] 0).run Tryz.prog w = .ok (.int .u32 a) w:=by kernel_rfl
theorem part1 (a b c:Int) (w:World):(part 99 #[.int .u32 a,.int .u32 b,.int .u32 c] 1).run Tryz.prog w = .ok (.int .u32 b) w:=by kernel_rfl
theorem part2 (a b c:Int) (w:World):(part 99 #[.int .u32 a,.int .u32 b,.int .u32 c] 2).run Tryz.prog w = .ok (.int .u32 c) w:=by kernel_rfl
theorem eq3 (a b c a' b' c':Int) (w:World) :
  (Op.equalIn 10000 131 (.agg #[.int .u32 a,.int .u32 b,.int .u32 c]) (.agg #[.int .u32 a',.int .u32 b',.int .u32 c'])).run Tryz.prog w = .ok (a == a' && (b == b' && c == c')) w:=by
 obtain ⟨i0,hi⟩:∃ i,Tryz.prog.info? 99=some i:=⟨_,rfl⟩
 rw [show (10000:Nat)=9999+1 from rfl,run_equalIn_array (w:=w) 9999 _ _ Tryz.underlying131 hi,cells_word,show List.range 3=[0,1,2] from rfl];simp only [Op.eqItems,Sem.run_bind,Nat.mul_one,part0,Result.andThen_ok,show (9999:Nat)=9998+1 from rfl,eq1];by_cases ha:a=a'
 ·by_cases hb:b=b'
  ·by_cases hc:c=c'
   ·simp [part1,part2,Sem.run_bind,eq1,ha,hb,hc]
   ·simp [part1,part2,Sem.run_bind,eq1,ha,hb,hc]
  ·simp [part1,Sem.run_bind,eq1,ha,hb]
 ·simp [ha]
theorem eq3_same (x:W3) (w:World):(Op.equalIn 10000 131 (wv x) (wv x)).run Tryz.prog w = .ok true w:=by
 rw [eq3];simp
theorem eq3_other {x y:W3} (h:x≠y) (w:World):(Op.equalIn 10000 131 (wv x) (wv y)).run Tryz.prog w = .ok false w:=by
 rw [eq3];have:=agg_ne h
 congr 1
 simp;intro h1 h2 h3;exact this ⟨h1,h2,h3⟩
end words
namespace book
open Go.RowKit cell
theorem take_next (l:List Int) (k:Nat) (h:k<l.length):l.take k++[l.getD k 0]=l.take (k+1):=by
 rw [List.take_add_one];simp [List.getD,List.getElem?_eq_getElem h]
theorem index13_0 (a0 a1 a2 a3 a4 a5 a6 a7 a8 a9 a10 a11 a12:Int) (W:World):(Instr.index 270 (.agg #[zI a0,zI a1,zI a2,zI a3,zI a4,zI a5,zI a6,zI a7,zI a8,zI a9,zI a10,zI a11,zI a12]) (zI 0)).run Tryz.prog W = .ok (zI a0) W:=by kernel_rfl
theorem index13_1 (a0 a1 a2 a3 a4 a5 a6 a7 a8 a9 a10 a11 a12:Int) (W:World):(Instr.index 270 (.agg #[zI a0,zI a1,zI a2,zI a3,zI a4,zI a5,zI a6,zI a7,zI a8,zI a9,zI a10,zI a11,zI a12]) (zI 1)).run Tryz.prog W = .ok (zI a1) W:=by kernel_rfl
theorem index13_2 (a0 a1 a2 a3 a4 a5 a6 a7 a8 a9 a10 a11 a12:Int) (W:World):(Instr.index 270 (.agg #[zI a0,zI a1,zI a2,zI a3,zI a4,zI a5,zI a6,zI a7,zI a8,zI a9,zI a10,zI a11,zI a12]) (zI 2)).run Tryz.prog W = .ok (zI a2) W:=by kernel_rfl
theorem index13_3 (a0 a1 a2 a3 a4 a5 a6 a7 a8 a9 a10 a11 a12:Int) (W:World):(Instr.index 270 (.agg #[zI a0,zI a1,zI a2,zI a3,zI a4,zI a5,zI a6,zI a7,zI a8,zI a9,zI a10,zI a11,zI a12]) (zI 3)).run Tryz.prog W = .ok (zI a3) W:=by kernel_rfl
theorem index13_4 (a0 a1 a2 a3 a4 a5 a6 a7 a8 a9 a10 a11 a12:Int) (W:World):(Instr.index 270 (.agg #[zI a0,zI a1,zI a2,zI a3,zI a4,zI a5,zI a6,zI a7,zI a8,zI a9,zI a10,zI a11,zI a12]) (zI 4)).run Tryz.prog W = .ok (zI a4) W:=by kernel_rfl
theorem index13_5 (a0 a1 a2 a3 a4 a5 a6 a7 a8 a9 a10 a11 a12:Int) (W:World):(Instr.index 270 (.agg #[zI a0,zI a1,zI a2,zI a3,zI a4,zI a5,zI a6,zI a7,zI a8,zI a9,zI a10,zI a11,zI a12]) (zI 5)).run Tryz.prog W = .ok (zI a5) W:=by kernel_rfl
theorem index13_6 (a0 a1 a2 a3 a4 a5 a6 a7 a8 a9 a10 a11 a12:Int) (W:World):(Instr.index 270 (.agg #[zI a0,zI a1,zI a2,zI a3,zI a4,zI a5,zI a6,zI a7,zI a8,zI a9,zI a10,zI a11,zI a12]) (zI 6)).run Tryz.prog W = .ok (zI a6) W:=by kernel_rfl
theorem index13_7 (a0 a1 a2 a3 a4 a5 a6 a7 a8 a9 a10 a11 a12:Int) (W:World):(Instr.index 270 (.agg #[zI a0,zI a1,zI a2,zI a3,zI a4,zI a5,zI a6,zI a7,zI a8,zI a9,zI a10,zI a11,zI a12]) (zI 7)).run Tryz.prog W = .ok (zI a7) W:=by kernel_rfl
theorem index13_8 (a0 a1 a2 a3 a4 a5 a6 a7 a8 a9 a10 a11 a12:Int) (W:World):(Instr.index 270 (.agg #[zI a0,zI a1,zI a2,zI a3,zI a4,zI a5,zI a6,zI a7,zI a8,zI a9,zI a10,zI a11,zI a12]) (zI 8)).run Tryz.prog W = .ok (zI a8) W:=by kernel_rfl
theorem index13_9 (a0 a1 a2 a3 a4 a5 a6 a7 a8 a9 a10 a11 a12:Int) (W:World):(Instr.index 270 (.agg #[zI a0,zI a1,zI a2,zI a3,zI a4,zI a5,zI a6,zI a7,zI a8,zI a9,zI a10,zI a11,zI a12]) (zI 9)).run Tryz.prog W = .ok (zI a9) W:=by kernel_rfl
theorem index13_10 (a0 a1 a2 a3 a4 a5 a6 a7 a8 a9 a10 a11 a12:Int) (W:World):(Instr.index 270 (.agg #[zI a0,zI a1,zI a2,zI a3,zI a4,zI a5,zI a6,zI a7,zI a8,zI a9,zI a10,zI a11,zI a12]) (zI 10)).run Tryz.prog W = .ok (zI a10) W:=by kernel_rfl
theorem index13_11 (a0 a1 a2 a3 a4 a5 a6 a7 a8 a9 a10 a11 a12:Int) (W:World):(Instr.index 270 (.agg #[zI a0,zI a1,zI a2,zI a3,zI a4,zI a5,zI a6,zI a7,zI a8,zI a9,zI a10,zI a11,zI a12]) (zI 11)).run Tryz.prog W = .ok (zI a11) W:=by kernel_rfl
theorem index13_12 (a0 a1 a2 a3 a4 a5 a6 a7 a8 a9 a10 a11 a12:Int) (W:World):(Instr.index 270 (.agg #[zI a0,zI a1,zI a2,zI a3,zI a4,zI a5,zI a6,zI a7,zI a8,zI a9,zI a10,zI a11,zI a12]) (zI 12)).run Tryz.prog W = .ok (zI a12) W:=by kernel_rfl
theorem index13 (a0 a1 a2 a3 a4 a5 a6 a7 a8 a9 a10 a11 a12:Int) (k:Nat) (hk:k<13) (W:World):(Instr.index 270 (.agg #[zI a0,zI a1,zI a2,zI a3,zI a4,zI a5,zI a6,zI a7,zI a8,zI a9,zI a10,zI a11,zI a12]) (zI (k:Int))).run Tryz.prog W = .ok (zI ([a0,a1,a2,a3,a4,a5,a6,a7,a8,a9,a10,a11,a12].getD k 0)) W:=by
 match k,hk with
 | 0,_=>exact index13_0 a0 a1 a2 a3 a4 a5 a6 a7 a8 a9 a10 a11 a12 W
 | 1,_=>exact index13_1 a0 a1 a2 a3 a4 a5 a6 a7 a8 a9 a10 a11 a12 W
 | 2,_=>exact index13_2 a0 a1 a2 a3 a4 a5 a6 a7 a8 a9 a10 a11 a12 W
 | 3,_=>exact index13_3 a0 a1 a2 a3 a4 a5 a6 a7 a8 a9 a10 a11 a12 W
 | 4,_=>exact index13_4 a0 a1 a2 a3 a4 a5 a6 a7 a8 a9 a10 a11 a12 W
 | 5,_=>exact index13_5 a0 a1 a2 a3 a4 a5 a6 a7 a8 a9 a10 a11 a12 W
 | 6,_=>exact index13_6 a0 a1 a2 a3 a4 a5 a6 a7 a8 a9 a10 a11 a12 W
 | 7,_=>exact index13_7 a0 a1 a2 a3 a4 a5 a6 a7 a8 a9 a10 a11 a12 W
 | 8,_=>exact index13_8 a0 a1 a2 a3 a4 a5 a6 a7 a8 a9 a10 a11 a12 W
 | 9,_=>exact index13_9 a0 a1 a2 a3 a4 a5 a6 a7 a8 a9 a10 a11 a12 W
 | 10,_=>exact index13_10 a0 a1 a2 a3 a4 a5 a6 a7 a8 a9 a10 a11 a12 W
 | 11,_=>exact index13_11 a0 a1 a2 a3 a4 a5 a6 a7 a8 a9 a10 a11 a12 W
 | 12,_=>exact index13_12 a0 a1 a2 a3 a4 a5 a6 a7 a8 a9 a10 a11 a12 W
theorem make13 (w:World):(Instr.makeSlice 25 (zI 0) (zI 13)).run Tryz.prog w = .ok (.slice (some ⟨w.heap.size,0,none⟩) 0 13) (w.alloc (.cells (madeCells (Value.int .u32 0).cells 13) 99)):=by
 obtain ⟨i0,hi,hz0,hz1,hz2⟩:=info_parts info_u32;have:=run_make (P:=Tryz.prog) w 25 99 i0 (.int .u32 0) Tryz.underlying25 hi hz0 .i64 .i64 0 13 (by omega) (by omega) (by rw [hz2];decide) (by omega);rw [hz1] at this;exact this
theorem bwords (v:Ev) (hm:∀ x∈evL v,0≤x∧x<4294967296) (w:World):Calls Tryz.prog 153 #[.agg #[zI v.kd,zI v.me,zI v.mo,zI v.id,zI v.te,zI v.de,zI v.fe,zI v.pr,zI v.ch,zI v.un,zI v.tg,zI v.ow,zI v.bp]] w fun e w'=>∃ V,e = .returned V∧Ws w' w.heap.size V (evL v)∧Below w.heap.size w w':=by
 have HM:Hid (∀ k,k<13→0≤(evL v).getD k 0∧(evL v).getD k 0<4294967296):=fun k hk=>hm _ (by
  have hl:k<(evL v).length:=hk;rw [show (evL v).getD k 0=(evL v)[k] by simp [List.getD,List.getElem?_eq_getElem hl]]
  exact List.getElem_mem _)
 have HIX:Hid (∀ k:Nat,k<13→∀ W,(Instr.index 270 (.agg #[zI v.kd,zI v.me,zI v.mo,zI v.id,zI v.te,zI v.de,zI v.fe,zI v.pr,zI v.ch,zI v.un,zI v.tg,zI v.ow,zI v.bp]) (zI (k:Int))).run Tryz.prog W = .ok (zI ((evL v).getD k 0)) W):=fun k hk W=>index13 v.kd v.me v.mo v.id v.te v.de v.fe v.pr v.ch v.un v.tg v.ow v.bp k hk W;have HL:Hid ((evL v).length=13):=rfl;clear hm;have HB1:Hid (Below w.heap.size w ((w.alloc (.cells #[zI v.kd,zI v.me,zI v.mo,zI v.id,zI v.te,zI v.de,zI v.fe,zI v.pr,zI v.ch,zI v.un,zI v.tg,zI v.ow,zI v.bp] 72)).alloc (.cells #[zI v.kd,zI v.me,zI v.mo,zI v.id,zI v.te,zI v.de,zI v.fe,zI v.pr,zI v.ch,zI v.un,zI v.tg,zI v.ow,zI v.bp] 270))):=((Below.refl _ _).alloc (Nat.le_refl _) _).alloc (by simp) _;go_enter Tryz.func153,Tryz.ntmps153;go_upto_region 2 with fail
 generalize hW1:((w.alloc (.cells #[zI v.kd,zI v.me,zI v.mo,zI v.id,zI v.te,zI v.de,zI v.fe,zI v.pr,zI v.ch,zI v.un,zI v.tg,zI v.ow,zI v.bp] 72)).alloc (.cells #[zI v.kd,zI v.me,zI v.mo,zI v.id,zI v.te,zI v.de,zI v.fe,zI v.pr,zI v.ch,zI v.un,zI v.tg,zI v.ow,zI v.bp] 270))=W1 at *;have HA:Hid (Blk W1 (w.heap.size+1) #[zI v.kd,zI v.me,zI v.mo,zI v.id,zI v.te,zI v.de,zI v.fe,zI v.pr,zI v.ch,zI v.un,zI v.tg,zI v.ow,zI v.bp] 270):=by show Blk _ _ _ _;rw [← hW1];exact Blk.new1 _ _ _ _
 clear hW1;have hmk:=make13 W1;have hsz:w.heap.size≤W1.heap.size:=HB1.o.size;have HL0:Hid (Ws (W1.alloc (.cells (madeCells (Value.int .u32 0).cells 13) 99)) w.heap.size (.slice (some ⟨W1.heap.size,0,none⟩) 0 13) []):=World.ownsRow_made W1 _ 13 hsz (by unfold maxLen;omega) (size_madeCells _ _);have HB0:Hid (Below w.heap.size w (W1.alloc (.cells (madeCells (Value.int .u32 0).cells 13) 99))):=HB1.o.alloc HB1.o.size _;have HA0:Hid (Blk (W1.alloc (.cells (madeCells (Value.int .u32 0).cells 13) 99)) (w.heap.size+1) #[zI v.kd,zI v.me,zI v.mo,zI v.id,zI v.te,zI v.de,zI v.fe,zI v.pr,zI v.ch,zI v.un,zI v.tg,zI v.ow,zI v.bp] 270):=HA.o.alloc _;generalize (W1.alloc (.cells (madeCells (Value.int .u32 0).cells 13) 99))=W0 at *;clear HA HB1;obtain ⟨b0,b1,b2,b3,b4,b5,b6,b7,b8,b9,b10,b11,b12⟩:=scl13 HA0;go_wp2_with fail;clear hmk hsz b0 b1 b2 b3 b4 b5 b6 b7 b8 b9 b10 b11 b12;go_loopw [4,45] (fun v4 v45 wr=>∃ (k:Nat) (V:Value),k≤13∧V=v4∧v45=zI (k:Int)∧Ws wr w.heap.size V ((evL v).take k)∧Below w.heap.size w wr) (fun _ v45 _=>13 - (intOf v45).toNat)
 case atStart=>exact ⟨0,_,Nat.zero_le _,rfl,rfl,HL0.o,HB0.o⟩
 case round=>
  obtain ⟨k,V,hk,hV,rfl,hlw,hbl⟩:=hrel;subst hV;have hs6:((evL v).take k).length≤1000000:=by rw [List.length_take];omega
  have HUA:Hid (∀ o,Ws (wr.alloc o) w.heap.size V ((evL v).take k)):=fun o=>hlw.alloc o;have HBA:Hid (∀ o,Below w.heap.size w (wr.alloc o)):=fun o=>hbl.alloc hbl.size o;have HSA:Hid (∀ o,w.heap.size≤(wr.alloc o).heap.size):=fun o=>(hbl.alloc hbl.size o).size;have HBL:Hid (Below w.heap.size w wr):=hbl;have HUL:Hid (Ws wr w.heap.size V ((evL v).take k)):=hlw;clear hlw hbl HL0 HB0 HA0;by_cases hkm:k<13
  ·have hix:=HIX.o k hkm;have HPN:Hid ((evL v).take k++[(evL v).getD k 0]=(evL v).take (k+1)):=take_next _ k hkm;have hz:=HM.o k hkm;clear HIX HM;generalize (evL v).getD k 0=z at *;have hwz:IntKind.u32.wrap z=z:=by rw [IntKind.wrap_u32];omega
   have hwz2:z % 4294967296=z:=by omega
   have hdl:decide ((k:Int)<13)=true:=decide_eq_true (by omega);clear hz;go_wp2_with (first | (refine wp_word rfl _ _ rfl w.heap.size wr.heap.size V ((evL v).take k) z rfl rfl (HUA.o _) ((Blk.new wr _ _).cell 0) hs6 (HSA.o _) ?_;intro v3 w3 h3 hg3;have hb3:=own_bel (HUA.o _) hg3 (HBA.o _) (Nat.le_refl _) (HSA.o _);have H3:Hid (Ws w3 w.heap.size v3 ((evL v).take k++[z])):=h3;have HB3:Hid (Below w.heap.size w w3):=hb3;clear h3 hg3 hb3) | fail)
   go_roundw
   case rel=>exact ⟨k+1,v3,by omega,rfl,by go_num,by rw [← HPN.o];exact H3.o,HB3.o⟩
   case measure=>simp [intOf];omega
  ·have hdl:decide ((k:Int)<13)=false:=decide_eq_false (by omega)
   have HFN:Hid (Ws wr w.heap.size V (evL v)):=by
    have:=HUL.o;rw [List.take_of_length_le (by rw [HL.o];omega)] at this;exact this
   go_wp2_with fail;go_ret;exact ⟨V,rfl,HFN.o,HBL.o⟩
end book
namespace disk
open Go.RowKit cell
def KAppend:Prop:=∀ (W:World) (a:Option Addr) (n cap:Nat) (c:List Int) (b:Option Addr) (m cap2:Nat) (r:List Int),RowU W a n c→(a=none→cap=0)→n≤cap→n*4≤140737488351232→(∀ x∈c,0≤x∧x<4294967296)→RowU W b m r→(b=none→cap2=0)→m≤cap2→m*4≤140737488351232→(∀ x∈r,0≤x∧x<4294967296)→Calls Tryz.prog 108 #[.slice a n cap,.slice b m cap2] W fun e w'=>AppGot W c r e w'
end disk
namespace vnd
open disk (RepIs AppIs)
open book (Ev ev0 EMay evL evOf EncIs DecIs Cm cm0 So so0 BookIs Sees ECame FirstAt NoneAt)
open acc (Ac Tm Bi TCame ACame)
open cell (Wr RowU)
open Go.RowKit
theorem pref (x:Int) (w:World):Calls Tryz.prog 122 #[zI x] w fun e w'=>e = .returned (.tuple #[zS,.agg #[zS],.agg #[zI 0,zI 0,zI 0,zI 0,zI 0,zI 0,zI 0,zI 0,.string ⟨#[]⟩],zI x])∧Below w.heap.size w w':=by
 obtain ⟨W0,HWW,H0o,H0r,H0B,hs0⟩:=sh2 w #[zS] 39 #[zI 0,zI 0,zI 0,zI 0,zI 0,zI 0,zI 0,zI 0,.string ⟨#[]⟩] 78;go_enter Tryz.func122,Tryz.ntmps122;go_upto_region 1 with fail
 rw [HWW.o];clear HWW
 go_wp2_with (first
  | (refine zql rfl rfl rfl rfl zqu39 (by simp [Value.oneCell']) H0o rfl ?_)
  | (refine zqw rfl rfl rfl H0o zqu39 ?_)
  | (refine zqw rfl rfl rfl H0r zqu78 ?_)
  | fail)
 intro W1 hU;have H1o:Hid (Blk W1 (w.heap.size) #[zS] 39):=hU.blk;have H1r:=shK hU H0r (by omega);have H1B:=shV hU H0B (by omega);have hsW1:W1.heap.size=W0.heap.size:=hU.size;clear hU H0o H0r H0B
 go_wp2_with (first
  | (refine zql rfl rfl rfl rfl zqu78 (by simp [Value.oneCell']) H1r rfl ?_)
  | (refine zqw rfl rfl rfl H1o zqu39 ?_)
  | (refine zqw rfl rfl rfl H1r zqu78 ?_)
  | fail)
 intro W2 hU;have H2o:=shK hU H1o (by omega);have H2r:Hid (Blk W2 (w.heap.size+1) #[zI 0,zI 0,zI 0,zI 0,zI 0,zI 0,zI 0,zI 0,.string ⟨#[]⟩] 78):=hU.blk;have H2B:=shV hU H1B (by omega);have hsW2:W2.heap.size=W1.heap.size:=hU.size;clear hU H1o H1r H1B;have Ro0:Hid (W2.cell? ⟨w.heap.size,0,none⟩=some (zS)):=H2o.o.cell 0;obtain ⟨Rr0,Rr1,Rr2,Rr3,Rr4,Rr5,Rr6,Rr7,Rr8⟩:=shc9 H2r;go_wp2_with fail;exact bodyPost_ret (v:= .tuple #[zS,.agg #[zS],.agg #[zI 0,zI 0,zI 0,zI 0,zI 0,zI 0,zI 0,zI 0,.string ⟨#[]⟩],zI x]) (by simp [results,Tryz.results122,Ro0.o,Rr0.o,Rr1.o,Rr2.o,Rr3.o,Rr4.o,Rr5.o,Rr6.o,Rr7.o,Rr8.o,go_sem]) rfl ⟨rfl,H2B.o⟩
end vnd
end Go.Proofs.YtnpblpbohcegoaaGreatDoor
