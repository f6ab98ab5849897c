import Derived.Test.YtnpblpbohcegoaaGreatDoorVVRts5
import Derived.Test.YtnpblpbohcegoaaGreatDoorVVRts6
set_option linter.unusedVariables false
set_option linter.unusedSimpArgs false
set_option maxHeartbeats 4000000
set_option maxRecDepth 100000
namespace Go.Proofs.YtnpblpbohcegoaaGreatDoor
namespace acc
open tar (Du du0 Came RowD Ld PairT)
open Go.RowKit
theorem amay0 (x:Ac) (p:Option Addr) (len cap:Nat) (w:World) (h:RowD w p len x.ds) (hl:len≤maxLen) (hd:¬ deb.Mays x.ds):Calls Tryz.prog 173 #[.agg #[zI x.me,zI x.rv,zI x.nx,zI x.mo,zI x.bo,zI x.fr,.slice p len cap]] w fun e w'=>e = .returned (.bool false)∧Below w.heap.size w w':=by
 obtain ⟨WW,HWW,HBK,HBA,-⟩:=sh1 w #[zI x.me,zI x.rv,zI x.nx,zI x.mo,zI x.bo,zI x.fr,.slice p len cap] 51;have HRA:Hid (RowD WW p len x.ds):=h.below HBA.o;obtain ⟨c0,c1,c2,c3,c4,c5,c6⟩:=scl7 HBK;have HFA:Hid (Calls Tryz.prog 194 #[.slice p len cap] WW fun e w'=>∃ f,e = .returned (zI f)∧deb.FaultIs x.ds f∧w'=WW):=deb.rfault p len cap x.ds _ HRA.o hl;have HD:Hid (¬ deb.Mays x.ds):=hd;clear h hl hd HRA HBK;go_enter Tryz.func173,Tryz.ntmps173;go_upto_region 1 with fail
 rw [HWW.o];clear HWW;go_wp2_with fail;refine HFA.o.mono ?_;rintro e w1 ⟨f,rfl,hf,hw1⟩;subst hw1;have hne:(f != 0)=true:=by simpa using fun e=>HD.o (hf.ok.1 e)
 clear hf HFA;go_wp2_with fail
 all_goals first
  | (rename_i q1 q2;exact absurd q1 (by simp [undef]))
  | (go_ret;exact ⟨rfl,HBA.o⟩)
theorem amay1 (x:Ac) (p:Option Addr) (len cap:Nat) (w:World) (h:RowD w p len x.ds) (hl:len≤maxLen) (hd:deb.Mays x.ds) (h1:¬ (0≤x.me∧x.me≤49)):Calls Tryz.prog 173 #[.agg #[zI x.me,zI x.rv,zI x.nx,zI x.mo,zI x.bo,zI x.fr,.slice p len cap]] w fun e w'=>e = .returned (.bool false)∧Below w.heap.size w w':=by
 obtain ⟨WW,HWW,HBK,HBA,-⟩:=sh1 w #[zI x.me,zI x.rv,zI x.nx,zI x.mo,zI x.bo,zI x.fr,.slice p len cap] 51;have HRA:Hid (RowD WW p len x.ds):=h.below HBA.o;obtain ⟨c0,c1,c2,c3,c4,c5,c6⟩:=scl7 HBK;have HFA:Hid (Calls Tryz.prog 194 #[.slice p len cap] WW fun e w'=>∃ f,e = .returned (zI f)∧deb.FaultIs x.ds f∧w'=WW):=deb.rfault p len cap x.ds _ HRA.o hl;have HI1:Hid (∀ W,Calls Tryz.prog 101 #[zI x.me,zI 0,zI 49] W fun e w'=>e = .returned (.bool (decide (0≤x.me∧x.me≤49)))∧w'=W):=fun W=>cal.cin x.me 0 49 W;rw [decide_eq_false h1] at HI1;have HD:Hid (deb.Mays x.ds):=hd;clear h hl hd HRA HBK h1;go_enter Tryz.func173,Tryz.ntmps173;go_upto_region 1 with fail
 rw [HWW.o];clear HWW;go_wp2_with fail;refine HFA.o.mono ?_;rintro e w1 ⟨f,rfl,hf,hw1⟩;subst hw1;obtain rfl:f=0:=hf.ok.2 HD.o;clear hf HFA;go_wp2_with fail;refine (HI1.o _).mono ?_;rintro e w2 ⟨rfl,hw2⟩;subst hw2;go_wp2_with fail
 all_goals first
  | (rename_i q1 q2;exact absurd q1 (by simp [undef]))
  | (go_ret;exact ⟨rfl,HBA.o⟩)
theorem amay2 (x:Ac) (p:Option Addr) (len cap:Nat) (w:World) (h:RowD w p len x.ds) (hl:len≤maxLen) (hd:deb.Mays x.ds) (h1:0≤x.me∧x.me≤49) (h2:¬ (0≤x.rv∧x.rv≤15)):Calls Tryz.prog 173 #[.agg #[zI x.me,zI x.rv,zI x.nx,zI x.mo,zI x.bo,zI x.fr,.slice p len cap]] w fun e w'=>e = .returned (.bool false)∧Below w.heap.size w w':=by
 obtain ⟨WW,HWW,HBK,HBA,-⟩:=sh1 w #[zI x.me,zI x.rv,zI x.nx,zI x.mo,zI x.bo,zI x.fr,.slice p len cap] 51;have HRA:Hid (RowD WW p len x.ds):=h.below HBA.o;obtain ⟨c0,c1,c2,c3,c4,c5,c6⟩:=scl7 HBK;have HFA:Hid (Calls Tryz.prog 194 #[.slice p len cap] WW fun e w'=>∃ f,e = .returned (zI f)∧deb.FaultIs x.ds f∧w'=WW):=deb.rfault p len cap x.ds _ HRA.o hl;have HI1:Hid (∀ W,Calls Tryz.prog 101 #[zI x.me,zI 0,zI 49] W fun e w'=>e = .returned (.bool (decide (0≤x.me∧x.me≤49)))∧w'=W):=fun W=>cal.cin x.me 0 49 W;rw [decide_eq_true h1] at HI1;have HI2:Hid (∀ W,Calls Tryz.prog 101 #[zI x.rv,zI 0,zI 15] W fun e w'=>e = .returned (.bool (decide (0≤x.rv∧x.rv≤15)))∧w'=W):=fun W=>cal.cin x.rv 0 15 W;rw [decide_eq_false h2] at HI2;have HD:Hid (deb.Mays x.ds):=hd;clear h hl hd HRA HBK h1 h2;go_enter Tryz.func173,Tryz.ntmps173;go_upto_region 1 with fail
 rw [HWW.o];clear HWW;go_wp2_with fail;refine HFA.o.mono ?_;rintro e w1 ⟨f,rfl,hf,hw1⟩;subst hw1;obtain rfl:f=0:=hf.ok.2 HD.o;clear hf HFA;go_wp2_with fail;refine (HI1.o _).mono ?_;rintro e w2 ⟨rfl,hw2⟩;subst hw2;go_wp2_with fail;refine (HI2.o _).mono ?_;rintro e w2 ⟨rfl,hw2⟩;subst hw2;go_wp2_with fail
 all_goals first
  | (rename_i q1 q2;exact absurd q1 (by simp [undef]))
  | (go_ret;exact ⟨rfl,HBA.o⟩)
theorem amay3 (x:Ac) (p:Option Addr) (len cap:Nat) (w:World) (h:RowD w p len x.ds) (hl:len≤maxLen) (hd:deb.Mays x.ds) (h1:0≤x.me∧x.me≤49) (h2:0≤x.rv∧x.rv≤15) (h3:¬ (1≤x.nx∧x.nx≤1048576)):Calls Tryz.prog 173 #[.agg #[zI x.me,zI x.rv,zI x.nx,zI x.mo,zI x.bo,zI x.fr,.slice p len cap]] w fun e w'=>e = .returned (.bool false)∧Below w.heap.size w w':=by
 obtain ⟨WW,HWW,HBK,HBA,-⟩:=sh1 w #[zI x.me,zI x.rv,zI x.nx,zI x.mo,zI x.bo,zI x.fr,.slice p len cap] 51;have HRA:Hid (RowD WW p len x.ds):=h.below HBA.o;obtain ⟨c0,c1,c2,c3,c4,c5,c6⟩:=scl7 HBK;have HFA:Hid (Calls Tryz.prog 194 #[.slice p len cap] WW fun e w'=>∃ f,e = .returned (zI f)∧deb.FaultIs x.ds f∧w'=WW):=deb.rfault p len cap x.ds _ HRA.o hl;have HI1:Hid (∀ W,Calls Tryz.prog 101 #[zI x.me,zI 0,zI 49] W fun e w'=>e = .returned (.bool (decide (0≤x.me∧x.me≤49)))∧w'=W):=fun W=>cal.cin x.me 0 49 W;rw [decide_eq_true h1] at HI1;have HI2:Hid (∀ W,Calls Tryz.prog 101 #[zI x.rv,zI 0,zI 15] W fun e w'=>e = .returned (.bool (decide (0≤x.rv∧x.rv≤15)))∧w'=W):=fun W=>cal.cin x.rv 0 15 W;rw [decide_eq_true h2] at HI2;have HI3:Hid (∀ W,Calls Tryz.prog 101 #[zI x.nx,zI 1,zI 1048576] W fun e w'=>e = .returned (.bool (decide (1≤x.nx∧x.nx≤1048576)))∧w'=W):=fun W=>cal.cin x.nx 1 1048576 W;rw [decide_eq_false h3] at HI3;have HD:Hid (deb.Mays x.ds):=hd;clear h hl hd HRA HBK h1 h2 h3;go_enter Tryz.func173,Tryz.ntmps173;go_upto_region 1 with fail
 rw [HWW.o];clear HWW;go_wp2_with fail;refine HFA.o.mono ?_;rintro e w1 ⟨f,rfl,hf,hw1⟩;subst hw1;obtain rfl:f=0:=hf.ok.2 HD.o;clear hf HFA;go_wp2_with fail;refine (HI1.o _).mono ?_;rintro e w2 ⟨rfl,hw2⟩;subst hw2;go_wp2_with fail;refine (HI2.o _).mono ?_;rintro e w2 ⟨rfl,hw2⟩;subst hw2;go_wp2_with fail;refine (HI3.o _).mono ?_;rintro e w2 ⟨rfl,hw2⟩;subst hw2;go_wp2_with fail
 all_goals first
  | (rename_i q1 q2;exact absurd q1 (by simp [undef]))
  | (go_ret;exact ⟨rfl,HBA.o⟩)
theorem amay4 (x:Ac) (p:Option Addr) (len cap:Nat) (w:World) (h:RowD w p len x.ds) (hl:len≤maxLen) (hd:deb.Mays x.ds) (h1:0≤x.me∧x.me≤49) (h2:0≤x.rv∧x.rv≤15) (h3:1≤x.nx∧x.nx≤1048576) (h4:¬ (0≤x.mo∧x.mo≤2399)):Calls Tryz.prog 173 #[.agg #[zI x.me,zI x.rv,zI x.nx,zI x.mo,zI x.bo,zI x.fr,.slice p len cap]] w fun e w'=>e = .returned (.bool false)∧Below w.heap.size w w':=by
 obtain ⟨WW,HWW,HBK,HBA,-⟩:=sh1 w #[zI x.me,zI x.rv,zI x.nx,zI x.mo,zI x.bo,zI x.fr,.slice p len cap] 51;have HRA:Hid (RowD WW p len x.ds):=h.below HBA.o;obtain ⟨c0,c1,c2,c3,c4,c5,c6⟩:=scl7 HBK;have HFA:Hid (Calls Tryz.prog 194 #[.slice p len cap] WW fun e w'=>∃ f,e = .returned (zI f)∧deb.FaultIs x.ds f∧w'=WW):=deb.rfault p len cap x.ds _ HRA.o hl;have HI1:Hid (∀ W,Calls Tryz.prog 101 #[zI x.me,zI 0,zI 49] W fun e w'=>e = .returned (.bool (decide (0≤x.me∧x.me≤49)))∧w'=W):=fun W=>cal.cin x.me 0 49 W;rw [decide_eq_true h1] at HI1;have HI2:Hid (∀ W,Calls Tryz.prog 101 #[zI x.rv,zI 0,zI 15] W fun e w'=>e = .returned (.bool (decide (0≤x.rv∧x.rv≤15)))∧w'=W):=fun W=>cal.cin x.rv 0 15 W;rw [decide_eq_true h2] at HI2;have HI3:Hid (∀ W,Calls Tryz.prog 101 #[zI x.nx,zI 1,zI 1048576] W fun e w'=>e = .returned (.bool (decide (1≤x.nx∧x.nx≤1048576)))∧w'=W):=fun W=>cal.cin x.nx 1 1048576 W;rw [decide_eq_true h3] at HI3;have HI4:Hid (∀ W,Calls Tryz.prog 101 #[zI x.mo,zI 0,zI 2399] W fun e w'=>e = .returned (.bool (decide (0≤x.mo∧x.mo≤2399)))∧w'=W):=fun W=>cal.cin x.mo 0 2399 W;rw [decide_eq_false h4] at HI4;have HD:Hid (deb.Mays x.ds):=hd;clear h hl hd HRA HBK h1 h2 h3 h4;go_enter Tryz.func173,Tryz.ntmps173;go_upto_region 1 with fail
 rw [HWW.o];clear HWW;go_wp2_with fail;refine HFA.o.mono ?_;rintro e w1 ⟨f,rfl,hf,hw1⟩;subst hw1;obtain rfl:f=0:=hf.ok.2 HD.o;clear hf HFA;go_wp2_with fail;refine (HI1.o _).mono ?_;rintro e w2 ⟨rfl,hw2⟩;subst hw2;go_wp2_with fail;refine (HI2.o _).mono ?_;rintro e w2 ⟨rfl,hw2⟩;subst hw2;go_wp2_with fail;refine (HI3.o _).mono ?_;rintro e w2 ⟨rfl,hw2⟩;subst hw2;go_wp2_with fail;refine (HI4.o _).mono ?_;rintro e w2 ⟨rfl,hw2⟩;subst hw2;go_wp2_with fail
 all_goals first
  | (rename_i q1 q2;exact absurd q1 (by simp [undef]))
  | (go_ret;exact ⟨rfl,HBA.o⟩)
theorem amay5 (x:Ac) (p:Option Addr) (len cap:Nat) (w:World) (h:RowD w p len x.ds) (hl:len≤maxLen) (hd:deb.Mays x.ds) (h1:0≤x.me∧x.me≤49) (h2:0≤x.rv∧x.rv≤15) (h3:1≤x.nx∧x.nx≤1048576) (h4:0≤x.mo∧x.mo≤2399) (h5:¬ (0≤x.bo∧x.bo≤10000000)):Calls Tryz.prog 173 #[.agg #[zI x.me,zI x.rv,zI x.nx,zI x.mo,zI x.bo,zI x.fr,.slice p len cap]] w fun e w'=>e = .returned (.bool false)∧Below w.heap.size w w':=by
 obtain ⟨WW,HWW,HBK,HBA,-⟩:=sh1 w #[zI x.me,zI x.rv,zI x.nx,zI x.mo,zI x.bo,zI x.fr,.slice p len cap] 51;have HRA:Hid (RowD WW p len x.ds):=h.below HBA.o;obtain ⟨c0,c1,c2,c3,c4,c5,c6⟩:=scl7 HBK;have HFA:Hid (Calls Tryz.prog 194 #[.slice p len cap] WW fun e w'=>∃ f,e = .returned (zI f)∧deb.FaultIs x.ds f∧w'=WW):=deb.rfault p len cap x.ds _ HRA.o hl;have HI1:Hid (∀ W,Calls Tryz.prog 101 #[zI x.me,zI 0,zI 49] W fun e w'=>e = .returned (.bool (decide (0≤x.me∧x.me≤49)))∧w'=W):=fun W=>cal.cin x.me 0 49 W;rw [decide_eq_true h1] at HI1;have HI2:Hid (∀ W,Calls Tryz.prog 101 #[zI x.rv,zI 0,zI 15] W fun e w'=>e = .returned (.bool (decide (0≤x.rv∧x.rv≤15)))∧w'=W):=fun W=>cal.cin x.rv 0 15 W;rw [decide_eq_true h2] at HI2;have HI3:Hid (∀ W,Calls Tryz.prog 101 #[zI x.nx,zI 1,zI 1048576] W fun e w'=>e = .returned (.bool (decide (1≤x.nx∧x.nx≤1048576)))∧w'=W):=fun W=>cal.cin x.nx 1 1048576 W;rw [decide_eq_true h3] at HI3;have HI4:Hid (∀ W,Calls Tryz.prog 101 #[zI x.mo,zI 0,zI 2399] W fun e w'=>e = .returned (.bool (decide (0≤x.mo∧x.mo≤2399)))∧w'=W):=fun W=>cal.cin x.mo 0 2399 W;rw [decide_eq_true h4] at HI4;have HI5:Hid (∀ W,Calls Tryz.prog 101 #[zI x.bo,zI 0,zI 10000000] W fun e w'=>e = .returned (.bool (decide (0≤x.bo∧x.bo≤10000000)))∧w'=W):=fun W=>cal.cin x.bo 0 10000000 W;rw [decide_eq_false h5] at HI5;have HD:Hid (deb.Mays x.ds):=hd;clear h hl hd HRA HBK h1 h2 h3 h4 h5;go_enter Tryz.func173,Tryz.ntmps173;go_upto_region 1 with fail
 rw [HWW.o];clear HWW;go_wp2_with fail;refine HFA.o.mono ?_;rintro e w1 ⟨f,rfl,hf,hw1⟩;subst hw1;obtain rfl:f=0:=hf.ok.2 HD.o;clear hf HFA;go_wp2_with fail;refine (HI1.o _).mono ?_;rintro e w2 ⟨rfl,hw2⟩;subst hw2;go_wp2_with fail;refine (HI2.o _).mono ?_;rintro e w2 ⟨rfl,hw2⟩;subst hw2;go_wp2_with fail;refine (HI3.o _).mono ?_;rintro e w2 ⟨rfl,hw2⟩;subst hw2;go_wp2_with fail;refine (HI4.o _).mono ?_;rintro e w2 ⟨rfl,hw2⟩;subst hw2;go_wp2_with fail;refine (HI5.o _).mono ?_;rintro e w2 ⟨rfl,hw2⟩;subst hw2;go_wp2_with fail
 all_goals first
  | (rename_i q1 q2;exact absurd q1 (by simp [undef]))
  | (go_ret;exact ⟨rfl,HBA.o⟩)
theorem amay6 (x:Ac) (p:Option Addr) (len cap:Nat) (w:World) (h:RowD w p len x.ds) (hl:len≤maxLen) (hd:deb.Mays x.ds) (h1:0≤x.me∧x.me≤49) (h2:0≤x.rv∧x.rv≤15) (h3:1≤x.nx∧x.nx≤1048576) (h4:0≤x.mo∧x.mo≤2399) (h5:0≤x.bo∧x.bo≤10000000) (h6:¬ (-1≤x.fr∧x.fr≤x.mo)):Calls Tryz.prog 173 #[.agg #[zI x.me,zI x.rv,zI x.nx,zI x.mo,zI x.bo,zI x.fr,.slice p len cap]] w fun e w'=>e = .returned (.bool false)∧Below w.heap.size w w':=by
 obtain ⟨WW,HWW,HBK,HBA,-⟩:=sh1 w #[zI x.me,zI x.rv,zI x.nx,zI x.mo,zI x.bo,zI x.fr,.slice p len cap] 51;have HRA:Hid (RowD WW p len x.ds):=h.below HBA.o;obtain ⟨c0,c1,c2,c3,c4,c5,c6⟩:=scl7 HBK;have HFA:Hid (Calls Tryz.prog 194 #[.slice p len cap] WW fun e w'=>∃ f,e = .returned (zI f)∧deb.FaultIs x.ds f∧w'=WW):=deb.rfault p len cap x.ds _ HRA.o hl;have HI1:Hid (∀ W,Calls Tryz.prog 101 #[zI x.me,zI 0,zI 49] W fun e w'=>e = .returned (.bool (decide (0≤x.me∧x.me≤49)))∧w'=W):=fun W=>cal.cin x.me 0 49 W;rw [decide_eq_true h1] at HI1;have HI2:Hid (∀ W,Calls Tryz.prog 101 #[zI x.rv,zI 0,zI 15] W fun e w'=>e = .returned (.bool (decide (0≤x.rv∧x.rv≤15)))∧w'=W):=fun W=>cal.cin x.rv 0 15 W;rw [decide_eq_true h2] at HI2;have HI3:Hid (∀ W,Calls Tryz.prog 101 #[zI x.nx,zI 1,zI 1048576] W fun e w'=>e = .returned (.bool (decide (1≤x.nx∧x.nx≤1048576)))∧w'=W):=fun W=>cal.cin x.nx 1 1048576 W;rw [decide_eq_true h3] at HI3;have HI4:Hid (∀ W,Calls Tryz.prog 101 #[zI x.mo,zI 0,zI 2399] W fun e w'=>e = .returned (.bool (decide (0≤x.mo∧x.mo≤2399)))∧w'=W):=fun W=>cal.cin x.mo 0 2399 W;rw [decide_eq_true h4] at HI4;have HI5:Hid (∀ W,Calls Tryz.prog 101 #[zI x.bo,zI 0,zI 10000000] W fun e w'=>e = .returned (.bool (decide (0≤x.bo∧x.bo≤10000000)))∧w'=W):=fun W=>cal.cin x.bo 0 10000000 W;rw [decide_eq_true h5] at HI5;have HI6:Hid (∀ W,Calls Tryz.prog 101 #[zI x.fr,zI (-1),zI x.mo] W fun e w'=>e = .returned (.bool (decide (-1≤x.fr∧x.fr≤x.mo)))∧w'=W):=fun W=>cal.cin x.fr (-1) x.mo W;rw [decide_eq_false h6] at HI6;have HD:Hid (deb.Mays x.ds):=hd;clear h hl hd HRA HBK h1 h2 h3 h4 h5 h6;go_enter Tryz.func173,Tryz.ntmps173;go_upto_region 1 with fail
 rw [HWW.o];clear HWW;go_wp2_with fail;refine HFA.o.mono ?_;rintro e w1 ⟨f,rfl,hf,hw1⟩;subst hw1;obtain rfl:f=0:=hf.ok.2 HD.o;clear hf HFA;go_wp2_with fail;refine (HI1.o _).mono ?_;rintro e w2 ⟨rfl,hw2⟩;subst hw2;go_wp2_with fail;refine (HI2.o _).mono ?_;rintro e w2 ⟨rfl,hw2⟩;subst hw2;go_wp2_with fail;refine (HI3.o _).mono ?_;rintro e w2 ⟨rfl,hw2⟩;subst hw2;go_wp2_with fail;refine (HI4.o _).mono ?_;rintro e w2 ⟨rfl,hw2⟩;subst hw2;go_wp2_with fail;refine (HI5.o _).mono ?_;rintro e w2 ⟨rfl,hw2⟩;subst hw2;go_wp2_with fail;refine (HI6.o _).mono ?_;rintro e w2 ⟨rfl,hw2⟩;subst hw2;go_wp2_with fail
 all_goals first
  | (rename_i q1 q2;exact absurd q1 (by simp [undef]))
  | (go_ret;exact ⟨rfl,HBA.o⟩)
theorem amay7 (x:Ac) (p:Option Addr) (len cap:Nat) (w:World) (h:RowD w p len x.ds) (hl:len≤maxLen) (hd:deb.Mays x.ds) (h1:0≤x.me∧x.me≤49) (h2:0≤x.rv∧x.rv≤15) (h3:1≤x.nx∧x.nx≤1048576) (h4:0≤x.mo∧x.mo≤2399) (h5:0≤x.bo∧x.bo≤10000000) (h6:(-1≤x.fr∧x.fr≤x.mo)):Calls Tryz.prog 173 #[.agg #[zI x.me,zI x.rv,zI x.nx,zI x.mo,zI x.bo,zI x.fr,.slice p len cap]] w fun e w'=>e = .returned (.bool true)∧Below w.heap.size w w':=by
 obtain ⟨WW,HWW,HBK,HBA,-⟩:=sh1 w #[zI x.me,zI x.rv,zI x.nx,zI x.mo,zI x.bo,zI x.fr,.slice p len cap] 51;have HRA:Hid (RowD WW p len x.ds):=h.below HBA.o;obtain ⟨c0,c1,c2,c3,c4,c5,c6⟩:=scl7 HBK;have HFA:Hid (Calls Tryz.prog 194 #[.slice p len cap] WW fun e w'=>∃ f,e = .returned (zI f)∧deb.FaultIs x.ds f∧w'=WW):=deb.rfault p len cap x.ds _ HRA.o hl;have HI1:Hid (∀ W,Calls Tryz.prog 101 #[zI x.me,zI 0,zI 49] W fun e w'=>e = .returned (.bool (decide (0≤x.me∧x.me≤49)))∧w'=W):=fun W=>cal.cin x.me 0 49 W;rw [decide_eq_true h1] at HI1;have HI2:Hid (∀ W,Calls Tryz.prog 101 #[zI x.rv,zI 0,zI 15] W fun e w'=>e = .returned (.bool (decide (0≤x.rv∧x.rv≤15)))∧w'=W):=fun W=>cal.cin x.rv 0 15 W;rw [decide_eq_true h2] at HI2;have HI3:Hid (∀ W,Calls Tryz.prog 101 #[zI x.nx,zI 1,zI 1048576] W fun e w'=>e = .returned (.bool (decide (1≤x.nx∧x.nx≤1048576)))∧w'=W):=fun W=>cal.cin x.nx 1 1048576 W;rw [decide_eq_true h3] at HI3;have HI4:Hid (∀ W,Calls Tryz.prog 101 #[zI x.mo,zI 0,zI 2399] W fun e w'=>e = .returned (.bool (decide (0≤x.mo∧x.mo≤2399)))∧w'=W):=fun W=>cal.cin x.mo 0 2399 W;rw [decide_eq_true h4] at HI4;have HI5:Hid (∀ W,Calls Tryz.prog 101 #[zI x.bo,zI 0,zI 10000000] W fun e w'=>e = .returned (.bool (decide (0≤x.bo∧x.bo≤10000000)))∧w'=W):=fun W=>cal.cin x.bo 0 10000000 W;rw [decide_eq_true h5] at HI5;have HI6:Hid (∀ W,Calls Tryz.prog 101 #[zI x.fr,zI (-1),zI x.mo] W fun e w'=>e = .returned (.bool (decide (-1≤x.fr∧x.fr≤x.mo)))∧w'=W):=fun W=>cal.cin x.fr (-1) x.mo W;rw [decide_eq_true h6] at HI6;have HD:Hid (deb.Mays x.ds):=hd;clear h hl hd HRA HBK h1 h2 h3 h4 h5 h6;go_enter Tryz.func173,Tryz.ntmps173;go_upto_region 1 with fail
 rw [HWW.o];clear HWW;go_wp2_with fail;refine HFA.o.mono ?_;rintro e w1 ⟨f,rfl,hf,hw1⟩;subst hw1;obtain rfl:f=0:=hf.ok.2 HD.o;clear hf HFA;go_wp2_with fail;refine (HI1.o _).mono ?_;rintro e w2 ⟨rfl,hw2⟩;subst hw2;go_wp2_with fail;refine (HI2.o _).mono ?_;rintro e w2 ⟨rfl,hw2⟩;subst hw2;go_wp2_with fail;refine (HI3.o _).mono ?_;rintro e w2 ⟨rfl,hw2⟩;subst hw2;go_wp2_with fail;refine (HI4.o _).mono ?_;rintro e w2 ⟨rfl,hw2⟩;subst hw2;go_wp2_with fail;refine (HI5.o _).mono ?_;rintro e w2 ⟨rfl,hw2⟩;subst hw2;go_wp2_with fail;refine (HI6.o _).mono ?_;rintro e w2 ⟨rfl,hw2⟩;subst hw2;go_wp2_with fail
 all_goals first
  | (rename_i q1 q2;exact absurd q1 (by simp [undef]))
  | (go_ret;exact ⟨rfl,HBA.o⟩)
theorem ramay (x:Ac) (p:Option Addr) (len cap:Nat) (w:World) (h:RowD w p len x.ds) (hl:len≤maxLen) (hm:AMay x):Calls Tryz.prog 173 #[.agg #[zI x.me,zI x.rv,zI x.nx,zI x.mo,zI x.bo,zI x.fr,.slice p len cap]] w fun e w'=>e = .returned (.bool true)∧Below w.heap.size w w':=by
 obtain ⟨h1,h2,h3,h4,h5,h6,h7⟩:=hm;exact amay7 x p len cap w h hl h1 h2 h3 h4 h5 h6 h7
theorem ranot (x:Ac) (p:Option Addr) (len cap:Nat) (w:World) (h:RowD w p len x.ds) (hl:len≤maxLen) (hm:¬ AMay x):Calls Tryz.prog 173 #[.agg #[zI x.me,zI x.rv,zI x.nx,zI x.mo,zI x.bo,zI x.fr,.slice p len cap]] w fun e w'=>e = .returned (.bool false)∧Below w.heap.size w w':=by
 by_cases hd:deb.Mays x.ds
 ·by_cases h1:0≤x.me∧x.me≤49
  ·by_cases h2:0≤x.rv∧x.rv≤15
   ·by_cases h3:1≤x.nx∧x.nx≤1048576
    ·by_cases h4:0≤x.mo∧x.mo≤2399
     ·by_cases h5:0≤x.bo∧x.bo≤10000000
      ·by_cases h6:-1≤x.fr∧x.fr≤x.mo
       ·exact absurd ⟨hd,h1,h2,h3,h4,h5,h6⟩ hm
       ·exact amay6 x p len cap w h hl hd h1 h2 h3 h4 h5 h6
      ·exact amay5 x p len cap w h hl hd h1 h2 h3 h4 h5
     ·exact amay4 x p len cap w h hl hd h1 h2 h3 h4
    ·exact amay3 x p len cap w h hl hd h1 h2 h3
   ·exact amay2 x p len cap w h hl hd h1 h2
  ·exact amay1 x p len cap w h hl hd h1
 ·exact amay0 x p len cap w h hl hd
end acc
namespace deb
open tar (Du du0 Came RowD Ld ErrPost TwoPost PairT GaveD)
open Go.RowKit
theorem part_split (a b:Int):a / 10000*b+a % 10000*b / 10000=a*b / 10000:=by
 have e:a*b=a / 10000*b*10000+a % 10000*b:=by
  have h:=Int.emod_add_mul_ediv a 10000;have h2:a*b=(a % 10000+10000*(a / 10000))*b:=by rw [h]
  rw [h2,Int.add_mul,Int.mul_assoc,Int.mul_comm 10000,Int.add_comm]
 rw [e];generalize a / 10000*b=x;generalize a % 10000*b=y;omega
theorem rparted (a b:Int) (w:World) (h:(0≤a∧a≤1000000000000)∧0≤b∧b≤10000) :
  Calls Tryz.prog 177 #[zI a,zI b] w fun e w'=>e = .returned (.tuple #[zI (a*b / 10000),zI 0])∧w'=w:=by
 have HI1:Hid (∀ W,Calls Tryz.prog 101 #[zI a,zI 0,zI 1000000000000] W fun e w'=>e = .returned (.bool (decide (0≤a∧a≤1000000000000)))∧w'=W):=fun W=>cal.cin a 0 1000000000000 W;have HI2:Hid (∀ W,Calls Tryz.prog 101 #[zI b,zI 0,zI 10000] W fun e w'=>e = .returned (.bool (decide (0≤b∧b≤10000)))∧w'=W):=fun W=>cal.cin b 0 10000 W;rw [decide_eq_true h.1] at HI1;rw [decide_eq_true h.2] at HI2;obtain ⟨⟨h1,h2⟩,h3,h4⟩:=h;obtain ⟨p1,p2⟩:=prod_le (a / 10000) b 100000000 10000 (by omega) (by omega) h3 h4;obtain ⟨p3,p4⟩:=prod_le (a % 10000) b 10000 10000 (by omega) (by omega) h3 h4;rw [← part_split];go_enter Tryz.func177,Tryz.ntmps177;go_wp2_with fail;refine (HI1.o _).mono ?_;rintro e w1 ⟨rfl,hw1⟩;subst hw1;go_wp2_with fail;refine (HI2.o _).mono ?_;rintro e w1 ⟨rfl,hw1⟩;subst hw1;go_wp2;go_ret2;exact ⟨rfl,rfl⟩
theorem rnopart (a b:Int) (w:World) (h:0≤a∧a≤1000000000000) (hb:¬ (0≤b∧b≤10000)) :
  Calls Tryz.prog 177 #[zI a,zI b] w fun e w'=>e = .returned (.tuple #[zI 0,zI 2])∧w'=w:=by
 have HI1:Hid (∀ W,Calls Tryz.prog 101 #[zI a,zI 0,zI 1000000000000] W fun e w'=>e = .returned (.bool (decide (0≤a∧a≤1000000000000)))∧w'=W):=fun W=>cal.cin a 0 1000000000000 W;have HI2:Hid (∀ W,Calls Tryz.prog 101 #[zI b,zI 0,zI 10000] W fun e w'=>e = .returned (.bool (decide (0≤b∧b≤10000)))∧w'=W):=fun W=>cal.cin b 0 10000 W;rw [decide_eq_true h] at HI1;rw [decide_eq_false hb] at HI2;clear h hb;go_enter Tryz.func177,Tryz.ntmps177;go_wp2_with fail;refine (HI1.o _).mono ?_;rintro e w1 ⟨rfl,hw1⟩;subst hw1;go_wp2_with fail;refine (HI2.o _).mono ?_;rintro e w1 ⟨rfl,hw1⟩;subst hw1;go_wp2;go_ret2;exact ⟨rfl,rfl⟩
theorem rshare (t bp:Int) (w:World):Calls Tryz.prog 196 #[zI t,zI bp] w fun e w'=>∃ s f,e = .returned (.tuple #[zI s,zI f])∧ShareIs t bp s f∧w'=w:=by
 have HIT:Hid (∀ W,Calls Tryz.prog 101 #[zI t,zI 0,zI 100000000] W fun e w'=>e = .returned (.bool (decide (0≤t∧t≤100000000)))∧w'=W):=fun W=>cal.cin t 0 100000000 W;by_cases ht:0≤t∧t≤100000000
 ·rw [decide_eq_true ht] at HIT;by_cases hb:0≤bp∧bp≤10000
  ·have HPA:Hid (∀ W,Calls Tryz.prog 177 #[zI t,zI bp] W fun e w'=>e = .returned (.tuple #[zI (t*bp / 10000),zI 0])∧w'=W):=fun W=>rparted t bp W ⟨⟨ht.1,by omega⟩,hb⟩;have HT:Hid (TMay t bp):=⟨ht,hb⟩
   clear ht hb;go_enter Tryz.func196,Tryz.ntmps196;go_wp2_with fail;refine (HIT.o _).mono ?_;rintro e w1 ⟨rfl,hw1⟩;subst hw1;go_wp2_with fail;refine (HPA.o _).mono ?_;rintro e w1 ⟨rfl,hw1⟩;subst hw1;go_wp2_with fail;go_ret2;exact ⟨_,_,rfl,.inl ⟨HT.o,rfl,rfl⟩,rfl⟩
  ·have HPA:Hid (∀ W,Calls Tryz.prog 177 #[zI t,zI bp] W fun e w'=>e = .returned (.tuple #[zI 0,zI 2])∧w'=W):=fun W=>rnopart t bp W ⟨ht.1,by omega⟩ hb;have HT:Hid (¬ TMay t bp):=fun h=>hb h.2;clear ht hb;go_enter Tryz.func196,Tryz.ntmps196;go_wp2_with fail;refine (HIT.o _).mono ?_;rintro e w1 ⟨rfl,hw1⟩;subst hw1;go_wp2_with fail;refine (HPA.o _).mono ?_;rintro e w1 ⟨rfl,hw1⟩;subst hw1;go_wp2_with fail;go_ret2;exact ⟨_,_,rfl,.inr ⟨HT.o,rfl,rfl⟩,rfl⟩
 ·rw [decide_eq_false ht] at HIT;have HT:Hid (¬ TMay t bp):=fun h=>ht h.1;clear ht;go_enter Tryz.func196,Tryz.ntmps196;go_wp2_with fail;refine (HIT.o _).mono ?_;rintro e w1 ⟨rfl,hw1⟩;subst hw1;go_wp2_with fail;go_ret2;exact ⟨_,_,rfl,.inr ⟨HT.o,rfl,rfl⟩,rfl⟩
end deb
namespace tar
open Go.RowKit
open Classical in
theorem kcheck:KtCheck:=by
 intro w a n cap ls hcame;have hr:=hcame.row;have hn:=hcame.most;clear hcame;have hlen:=hr.1;have HIU:Hid (∀ x W,Calls Tryz.prog 113 #[zI 1,zI 10000000,zI x] W fun e w'=>e = .returned (.bool (decide (1≤x∧x≤10000000)))∧w'=W):=fun x W=>pwithin 1 10000000 x W;have HIP:Hid (∀ x W,Calls Tryz.prog 113 #[zI 1,zI 100000,zI x] W fun e w'=>e = .returned (.bool (decide (1≤x∧x≤100000)))∧w'=W):=fun x W=>pwithin 1 100000 x W;by_cases hs:1≤n∧n≤8
 ·have HS:Hid (Sized ls):=by show 1≤ls.length∧ls.length≤8;rw [hlen];exact hs
  obtain ⟨hs1,hs2⟩:=hs;have hd0:((n:Int) == 0)=false:=by simp;omega
  have hd8:decide ((8:Int)<(n:Int))=false:=by simp;omega
  obtain ⟨b,off,rfl,hbl,hc⟩:=hr.at hs1;have HC:Hid (∀ i,i<n→w.cell? ⟨b,off+i*2,none⟩=some (zI (ls.getD i du0).a)∧w.cell? ⟨b,off+i*2+1,none⟩=some (zI (ls.getD i du0).b)):=hc;have HLEN:Hid (ls.length=n):=hlen;have HRS:Hid (∀ W,Below w.heap.size w W→Calls Tryz.prog 114 #[.slice (some ⟨b,off,none⟩) n cap] W fun e w'=>e = .returned (.bool (decide (Rises ls)))∧Below W.heap.size W w'):=fun W hW=>prises b off n cap ls W hs1 hs2 hlen (Nat.lt_of_lt_of_le hbl hW.size) (fun i hi=>⟨(hW.cell (p:=⟨b,off+i*2,none⟩) hbl).trans (hc i hi).1,(hW.cell (p:=⟨b,off+i*2+1,none⟩) hbl).trans (hc i hi).2⟩);have hnm:n≤9223372036854775807:=by omega
  clear hc hr hn hlen;go_enter Tryz.func68,Tryz.ntmps68;go_wp2_with fail;go_loopw [15] (fun x wr=>∃ k:Nat,k≤n∧x=zI (k:Int)∧(∀ i,i<k→(1≤(ls.getD i du0).a∧(ls.getD i du0).a≤10000000)∧1≤(ls.getD i du0).b∧(ls.getD i du0).b≤100000)∧Below w.heap.size w wr) (fun x _=>n - (intOf x).toNat)
  case atStart=>exact ⟨0,Nat.zero_le _,rfl,fun i hi=>absurd hi (Nat.not_lt_zero _),Below.refl _ _⟩
  case round=>
   obtain ⟨k,hk,rfl,hf,hb⟩:=hrel;have HF:Hid (∀ i,i<k→(1≤(ls.getD i du0).a∧(ls.getD i du0).a≤10000000)∧1≤(ls.getD i du0).b∧(ls.getD i du0).b≤100000):=hf;have HB:Hid (Below w.heap.size w wr):=hb;clear hf;by_cases hlt:k<n
   ·have hdl:decide ((k:Int)<(n:Int))=true:=by simp;omega
    have c0:wr.cell? ⟨b,off+k*2,none⟩=some (zI (ls.getD k du0).a):=(hb.cell (p:=⟨b,off+k*2,none⟩) hbl).trans (HC.o k hlt).1;have c1:wr.cell? ⟨b,off+k*2+1,none⟩=some (zI (ls.getD k du0).b):=(hb.cell (p:=⟨b,off+k*2+1,none⟩) hbl).trans (HC.o k hlt).2;have HBA:Hid (∀ o,Below w.heap.size w (wr.alloc o)):=fun o=>hb.alloc hb.size o;clear hb;have HU:=HIU.o (ls.getD k du0).a;have HP:=HIP.o (ls.getD k du0).b;by_cases hu:1≤(ls.getD k du0).a∧(ls.getD k du0).a≤10000000
    ·rw [decide_eq_true hu] at HU;by_cases hp:1≤(ls.getD k du0).b∧(ls.getD k du0).b≤100000
     ·rw [decide_eq_true hp] at HP
      have HF2:Hid (∀ i,i<k+1→(1≤(ls.getD i du0).a∧(ls.getD i du0).a≤10000000)∧1≤(ls.getD i du0).b∧(ls.getD i du0).b≤100000):=fun i hi=>by
       by_cases e:i=k
       ·subst e;exact ⟨hu,hp⟩
       ·exact HF.o i (by omega)
      have HU2:Hid (∀ W,Calls Tryz.prog 113 #[zI 1,zI 10000000,zI (ls.getD k du0).a] W fun e w'=>e = .returned (.bool true)∧w'=W):=HU;have HP2:Hid (∀ W,Calls Tryz.prog 113 #[zI 1,zI 100000,zI (ls.getD k du0).b] W fun e w'=>e = .returned (.bool true)∧w'=W):=HP;clear HU HP hu hp HF;generalize (ls.getD k du0).a=x at *;generalize (ls.getD k du0).b=y at *;go_wp2_with fail;refine (HU2.o _).mono ?_;rintro e w2 ⟨rfl,hw2⟩;subst w2;go_wp2_with fail;refine (HP2.o _).mono ?_;rintro e w2 ⟨rfl,hw2⟩;subst w2;go_wp2_with fail;go_roundw
      case rel=>exact ⟨k+1,by omega,by go_num,HF2.o,HBA.o _⟩
      case measure=>simp [intOf];omega
     ·rw [decide_eq_false hp] at HP;have HN:Hid (¬ Fits ls):=fun h=>hp (h k (by rw [HLEN.o];exact hlt)).2;have HU2:Hid (∀ W,Calls Tryz.prog 113 #[zI 1,zI 10000000,zI (ls.getD k du0).a] W fun e w'=>e = .returned (.bool true)∧w'=W):=HU;have HP2:Hid (∀ W,Calls Tryz.prog 113 #[zI 1,zI 100000,zI (ls.getD k du0).b] W fun e w'=>e = .returned (.bool false)∧w'=W):=HP;clear HU HP hu hp HF;generalize (ls.getD k du0).a=x at *;generalize (ls.getD k du0).b=y at *;go_wp2_with fail;refine (HU2.o _).mono ?_;rintro e w2 ⟨rfl,hw2⟩;subst w2;go_wp2_with fail;refine (HP2.o _).mono ?_;rintro e w2 ⟨rfl,hw2⟩;subst w2;go_wp2_with fail;go_ret;exact ⟨_,rfl,.inr (.inl ⟨HS.o,HN.o,rfl⟩),HBA.o _⟩
    ·rw [decide_eq_false hu] at HU;have HN:Hid (¬ Fits ls):=fun h=>hu (h k (by rw [HLEN.o];exact hlt)).1;have HU2:Hid (∀ W,Calls Tryz.prog 113 #[zI 1,zI 10000000,zI (ls.getD k du0).a] W fun e w'=>e = .returned (.bool false)∧w'=W):=HU;clear HU HP hu HF;generalize (ls.getD k du0).a=x at *;generalize (ls.getD k du0).b=y at *;go_wp2_with fail;refine (HU2.o _).mono ?_;rintro e w2 ⟨rfl,hw2⟩;subst w2;go_wp2_with fail;go_ret;exact ⟨_,rfl,.inr (.inl ⟨HS.o,HN.o,rfl⟩),HBA.o _⟩
   ·obtain rfl:k=n:=by omega
    have hdl:decide ((k:Int)<(k:Int))=false:=by simp
    have HFT:Hid (Fits ls):=fun i hi=>HF.o i (by rw [HLEN.o] at hi;exact hi);have HR:=HRS.o wr hb;clear HF HIU HIP HRS hb;have HE:Hid (Ends ls↔(ls.getD (k - 1) du0).a=10000000):=by show Ends ls↔_;unfold Ends;rw [HLEN.o]
    have HC1:Hid (∀ W,Below wr.heap.size wr W→W.cell? ⟨b,off+(k - 1)*2,none⟩=some (zI (ls.getD (k - 1) du0).a)):=fun W hW=>((HB.o.trans (hW.mono HB.o.size)).cell (p:=⟨b,off+(k - 1)*2,none⟩) hbl).trans (HC.o (k - 1) (by omega)).1;have hsub:((k:Int) - 1)=((k - 1:Nat):Int):=by omega
    have hjm:k - 1<k:=by omega
    by_cases hri:Rises ls
    ·rw [decide_eq_true hri] at HR;have HR2:Hid (Calls Tryz.prog 114 #[.slice (some ⟨b,off,none⟩) k cap] wr fun e w'=>e = .returned (.bool true)∧Below wr.heap.size wr w'):=HR;have HRI:Hid (Rises ls):=hri;clear HR hri;go_wp2_with fail;refine HR2.o.mono ?_;rintro e w2 ⟨rfl,hw2⟩;have c1:=HC1.o w2 hw2;have HB2:=shB HB hw2;clear hw2 HR2;by_cases he:(ls.getD (k - 1) du0).a=10000000
     ·have HRT:Hid (Right ls):=⟨HS.o,HFT.o,HRI.o,HE.o.2 he⟩
      have hne:((ls.getD (k - 1) du0).a != 10000000)=false:=by rw [he];rfl
      clear he HE HC1;generalize (ls.getD (k - 1) du0).a=y at *;generalize k - 1=j1 at *;go_wp2_with fail;go_ret;exact ⟨_,rfl,.inr (.inr (.inr ⟨HRT.o,rfl⟩)),HB2.o⟩
     ·have HN:Hid (¬ (Rises ls∧Ends ls)):=fun h=>he (HE.o.1 h.2);have hne:((ls.getD (k - 1) du0).a != 10000000)=true:=by simpa using he
      clear he HE HC1;generalize (ls.getD (k - 1) du0).a=y at *;generalize k - 1=j1 at *;go_wp2_with fail;go_ret;exact ⟨_,rfl,.inr (.inr (.inl ⟨HS.o,HFT.o,HN.o,rfl⟩)),HB2.o⟩
    ·rw [decide_eq_false hri] at HR;have HR2:Hid (Calls Tryz.prog 114 #[.slice (some ⟨b,off,none⟩) k cap] wr fun e w'=>e = .returned (.bool false)∧Below wr.heap.size wr w'):=HR;have HN:Hid (¬ (Rises ls∧Ends ls)):=fun h=>hri h.1;clear HR hri;go_wp2_with fail;refine HR2.o.mono ?_;rintro e w2 ⟨rfl,hw2⟩;have HB2:=shB HB hw2;clear hw2 HR2 HE HC1;generalize k - 1=j1 at *;go_wp2_with fail;go_ret;exact ⟨_,rfl,.inr (.inr (.inl ⟨HS.o,HFT.o,HN.o,rfl⟩)),HB2.o⟩
 ·have HS:Hid (¬ Sized ls):=by show ¬ (1≤ls.length∧ls.length≤8);rw [hlen];exact hs
  have hnm:n≤9223372036854775807:=by unfold maxLen at hn;omega
  clear hr hlen hn;by_cases h0:n=0
  ·subst h0;clear hs hnm;go_enter Tryz.func68,Tryz.ntmps68;go_wp2_with fail;go_ret;exact ⟨_,rfl,.inl ⟨HS.o,rfl⟩,Below.refl _ _⟩
  ·have hd0:((n:Int) == 0)=false:=by simp;omega
   have hd8:decide ((8:Int)<(n:Int))=true:=by simp;omega
   clear hs h0;go_enter Tryz.func68,Tryz.ntmps68;go_wp2_with fail;go_ret;exact ⟨_,rfl,.inl ⟨HS.o,rfl⟩,Below.refl _ _⟩
end tar
end Go.Proofs.YtnpblpbohcegoaaGreatDoor
namespace Go.Proofs
open Go.Shelf
def Tryz.lays105_ren : Go.Shelf.Ren := ⟨fun | 105 => 54 | 212 => 89 | 99 => 90 | 165 => 91 | 166 => 92 | 170 => 93 | 169 => 94 | 263 => 135 | 264 => 136 | 206 => 137 | 240 => 138 | 241 => 139 | 276 => 171 | 277 => 172 | n => n, fun | 9 => 9 | 3 => 3 | 4 => 4 | 20 => 20 | 0 => 0 | 46 => 178 | 109 => 179 | 5 => 5 | 72 => 184 | 76 => 185 | 51 => 99 | 146 => 233 | 53 => 223 | 148 => 235 | 70 => 182 | 37 => 177 | 75 => 148 | 127 => 237 | 164 => 263 | 80 => 139 | n => n, fun | n => n⟩
theorem Tryz.lays105 : Go.Proofs.Lays.n105 Tryz.prog Tryz.lays105_ren := {
 mixed := by kernel_rfl
 f99 := Tryz.func90.trans (congrArg some (by kernel_rfl))
 f105 := Tryz.func54.trans (congrArg some (by kernel_rfl))
 f165 := Tryz.func91.trans (congrArg some (by kernel_rfl))
 f166 := Tryz.func92.trans (congrArg some (by kernel_rfl))
 f169 := Tryz.func94.trans (congrArg some (by kernel_rfl))
 f170 := Tryz.func93.trans (congrArg some (by kernel_rfl))
 f206 := Tryz.func137.trans (congrArg some (by kernel_rfl))
 f212 := Tryz.func89.trans (congrArg some (by kernel_rfl))
 f240 := Tryz.func138.trans (congrArg some (by kernel_rfl))
 f241 := Tryz.func139.trans (congrArg some (by kernel_rfl))
 f263 := Tryz.func135.trans (congrArg some (by kernel_rfl))
 f264 := Tryz.func136.trans (congrArg some (by kernel_rfl))
 f276 := Tryz.func171.trans (congrArg some (by kernel_rfl))
 f277 := Tryz.func172.trans (congrArg some (by kernel_rfl))
 t0 := Tryz.underlying0
 a0 := Tryz.isAgg0
 z0 := Tryz.sizeOf0
 v0 := Tryz.zeroValue0
 t3 := Tryz.underlying3
 a3 := Tryz.isAgg3
 z3 := Tryz.sizeOf3
 v3 := Tryz.zeroValue3
 t4 := Tryz.underlying4
 a4 := Tryz.isAgg4
 z4 := Tryz.sizeOf4
 v4 := Tryz.zeroValue4
 t5 := Tryz.underlying5
 a5 := Tryz.isAgg5
 z5 := Tryz.sizeOf5
 v5 := Tryz.zeroValue5
 t9 := Tryz.underlying9
 a9 := Tryz.isAgg9
 z9 := Tryz.sizeOf9
 v9 := Tryz.zeroValue9
 t20 := Tryz.underlying20
 a20 := Tryz.isAgg20
 z20 := Tryz.sizeOf20
 v20 := Tryz.zeroValue20
 t37 := Tryz.underlying177
 a37 := Tryz.isAgg177
 z37 := Tryz.sizeOf177
 v37 := Tryz.zeroValue177
 t46 := Tryz.underlying178
 a46 := Tryz.isAgg178
 z46 := Tryz.sizeOf178
 v46 := Tryz.zeroValue178
 t51 := Tryz.underlying99
 a51 := Tryz.isAgg99
 z51 := Tryz.sizeOf99
 v51 := Tryz.zeroValue99
 t53 := Tryz.underlying223
 a53 := Tryz.isAgg223
 z53 := Tryz.sizeOf223
 v53 := Tryz.zeroValue223
 t70 := Tryz.underlying182
 a70 := Tryz.isAgg182
 z70 := Tryz.sizeOf182
 v70 := Tryz.zeroValue182
 t72 := Tryz.underlying184
 a72 := Tryz.isAgg184
 z72 := Tryz.sizeOf184
 v72 := Tryz.zeroValue184
 t75 := Tryz.underlying148
 a75 := Tryz.isAgg148
 z75 := Tryz.sizeOf148
 v75 := Tryz.zeroValue148
 t76 := Tryz.underlying185
 a76 := Tryz.isAgg185
 z76 := Tryz.sizeOf185
 v76 := Tryz.zeroValue185
 t109 := Tryz.underlying179
 a109 := Tryz.isAgg179
 z109 := Tryz.sizeOf179
 v109 := Tryz.zeroValue179
 t127 := Tryz.underlying237
 a127 := Tryz.isAgg237
 z127 := Tryz.sizeOf237
 v127 := Tryz.zeroValue237
 t146 := Tryz.underlying233
 a146 := Tryz.isAgg233
 z146 := Tryz.sizeOf233
 v146 := Tryz.zeroValue233
 t148 := Tryz.underlying235
 a148 := Tryz.isAgg235
 z148 := Tryz.sizeOf235
 v148 := Tryz.zeroValue235
 t164 := Tryz.underlying263
 a164 := Tryz.isAgg263
 z164 := Tryz.sizeOf263
 v164 := Tryz.zeroValue263 }
theorem Tryz.Builder_Extra_105 : Builder.Extra Tryz.prog Tryz.lays105_ren := {
 sizeBuilder := by kernel_rfl
 liesBuilder := by kernel_rfl
 t5 := Tryz.underlying5
 a5 := Tryz.isAgg5
 z5 := Tryz.sizeOf5
 v5 := Tryz.zeroValue5
 infoByte := by kernel_rfl
 cellsByte := by kernel_rfl
 sizeByte := by kernel_rfl
 neB5 := by decide }
open Go.RowKit Go.Lib in
theorem Tryz.strings_Repeat (s : ByteArray) (c : Nat) (w : World) (hc : c ≤ 9223372036854775807) (hlen : s.size * c ≤ 140737488355328) :
  Calls Tryz.prog 54 #[.string s, .int .i64 c] w fun e w' => e = .returned (.string ⟨(Lib.repeatL s.data.toList c).toArray⟩) ∧ Below w.heap.size w w' := Any.strings_Repeat Tryz.lays105 Tryz.Builder_Extra_105 s c w hc hlen
end Go.Proofs
namespace Go.Proofs.YtnpblpbohcegoaaGreatDoor
end Go.Proofs.YtnpblpbohcegoaaGreatDoor
