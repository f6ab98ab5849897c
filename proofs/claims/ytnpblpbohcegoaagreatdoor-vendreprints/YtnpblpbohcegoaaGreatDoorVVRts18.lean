import Derived.Test.YtnpblpbohcegoaaGreatDoorVVRts8
set_option linter.unusedVariables false
set_option linter.unusedSimpArgs false
set_option maxHeartbeats 4000000
set_option maxRecDepth 100000
namespace Go.Proofs.YtnpblpbohcegoaaGreatDoor
namespace acc
open tar (Du du0 Came RowD Ld PairT)
open Go.RowKit
theorem tfa0 (t:Tm) (p:Option Addr) (len cap:Nat) (w:World) (h:RowD w p len t.ts) (hl:len≤maxLen) (hr:¬ tar.Right t.ts):Calls Tryz.prog 97 #[.agg #[.slice p len cap,zI t.ff,zI t.fb,zI t.db,zI t.al]] w fun e w'=>tar.ErrPost w (TFault t) e w':=by
 obtain ⟨WW,HWW,HBK,HBA,hsz⟩:=sh1 w #[.slice p len cap,zI t.ff,zI t.fb,zI t.db,zI t.al] 24;have HRA:Hid (RowD WW p len t.ts):=h.below HBA.o;have c0:WW.cell? ⟨w.heap.size,0,none⟩=some (.slice p len cap):=HBK.o.cell 0;have HFA:Hid (Calls Tryz.prog 141 #[.slice p len cap] WW fun e w'=>tar.ErrPost WW (tar.FaultIs t.ts) e w'):=tar.rfault p len cap t.ts _ HRA.o hl;have HN:Hid (¬ tar.Right t.ts):=hr;clear h hl hr HRA;go_enter Tryz.func97,Tryz.ntmps97;go_upto_region 1 with fail
 rw [HWW.o];clear HWW;go_wp2_with fail;refine HFA.o.mono ?_;rintro e w1 ⟨f,rfl,hf,hb1⟩;have HB1:Hid (Below w.heap.size w w1):=HBA.o.trans (hb1.mono (Nat.le_of_lt hsz));have HK1:Hid (Blk w1 w.heap.size #[.slice p len cap,zI t.ff,zI t.fb,zI t.db,zI t.al] 24):=HBK.o.below hb1 hsz;have d1:w1.cell? ⟨w.heap.size,1,none⟩=some (zI t.ff):=HK1.o.cell 1;have d2:w1.cell? ⟨w.heap.size,2,none⟩=some (zI t.fb):=HK1.o.cell 2;have d3:w1.cell? ⟨w.heap.size,3,none⟩=some (zI t.db):=HK1.o.cell 3;have d4:w1.cell? ⟨w.heap.size,4,none⟩=some (zI t.al):=HK1.o.cell 4;have HF:Hid (tar.FaultIs t.ts f):=hf;have hne:(f != 0)=true:=by simpa using fun e=>HN.o (hf.ok.1 e)
 clear hf HFA hb1 c0 HBK HK1 hsz;go_wp2_with fail
 all_goals first
  | (rename_i q1 q2;exact absurd q1 (by simp [undef]))
  | (go_ret;exact ⟨_,rfl,.inl ⟨HN.o,HF.o⟩,HB1.o⟩)
theorem tfa1 (t:Tm) (p:Option Addr) (len cap:Nat) (w:World) (h:RowD w p len t.ts) (hl:len≤maxLen) (hr:tar.Right t.ts) (h1:¬ (0≤t.ff∧t.ff≤100000)):Calls Tryz.prog 97 #[.agg #[.slice p len cap,zI t.ff,zI t.fb,zI t.db,zI t.al]] w fun e w'=>tar.ErrPost w (TFault t) e w':=by
 obtain ⟨WW,HWW,HBK,HBA,hsz⟩:=sh1 w #[.slice p len cap,zI t.ff,zI t.fb,zI t.db,zI t.al] 24;have HRA:Hid (RowD WW p len t.ts):=h.below HBA.o;have c0:WW.cell? ⟨w.heap.size,0,none⟩=some (.slice p len cap):=HBK.o.cell 0;have HFA:Hid (Calls Tryz.prog 141 #[.slice p len cap] WW fun e w'=>tar.ErrPost WW (tar.FaultIs t.ts) e w'):=tar.rfault p len cap t.ts _ HRA.o hl;have HI1:Hid (∀ W,Calls Tryz.prog 101 #[zI t.ff,zI 0,zI 100000] W fun e w'=>e = .returned (.bool (decide (0≤t.ff∧t.ff≤100000)))∧w'=W):=fun W=>cal.cin t.ff 0 100000 W;rw [decide_eq_false h1] at HI1;have HX:Hid (¬ TOk t):=fun hh=>h1 hh.1;have HN:Hid (tar.Right t.ts):=hr;clear h hl hr HRA h1;go_enter Tryz.func97,Tryz.ntmps97;go_upto_region 1 with fail
 rw [HWW.o];clear HWW;go_wp2_with fail;refine HFA.o.mono ?_;rintro e w1 ⟨f,rfl,hf,hb1⟩;have HB1:Hid (Below w.heap.size w w1):=HBA.o.trans (hb1.mono (Nat.le_of_lt hsz));have HK1:Hid (Blk w1 w.heap.size #[.slice p len cap,zI t.ff,zI t.fb,zI t.db,zI t.al] 24):=HBK.o.below hb1 hsz;have d1:w1.cell? ⟨w.heap.size,1,none⟩=some (zI t.ff):=HK1.o.cell 1;have d2:w1.cell? ⟨w.heap.size,2,none⟩=some (zI t.fb):=HK1.o.cell 2;have d3:w1.cell? ⟨w.heap.size,3,none⟩=some (zI t.db):=HK1.o.cell 3;have d4:w1.cell? ⟨w.heap.size,4,none⟩=some (zI t.al):=HK1.o.cell 4;obtain rfl:f=0:=hf.ok.2 HN.o;clear hf HFA hb1 c0 HBK HK1 hsz;go_wp2_with fail;refine (HI1.o _).mono ?_;rintro e w2 ⟨rfl,hw2⟩;subst hw2;go_wp2_with fail
 all_goals first
  | (rename_i q1 q2;exact absurd q1 (by simp [undef]))
  | (go_ret;exact ⟨_,rfl,.inr (.inl ⟨HN.o,HX.o,rfl⟩),HB1.o⟩)
theorem tfa2 (t:Tm) (p:Option Addr) (len cap:Nat) (w:World) (h:RowD w p len t.ts) (hl:len≤maxLen) (hr:tar.Right t.ts) (h1:0≤t.ff∧t.ff≤100000) (h2:¬ (0≤t.fb∧t.fb≤10000)):Calls Tryz.prog 97 #[.agg #[.slice p len cap,zI t.ff,zI t.fb,zI t.db,zI t.al]] w fun e w'=>tar.ErrPost w (TFault t) e w':=by
 obtain ⟨WW,HWW,HBK,HBA,hsz⟩:=sh1 w #[.slice p len cap,zI t.ff,zI t.fb,zI t.db,zI t.al] 24;have HRA:Hid (RowD WW p len t.ts):=h.below HBA.o;have c0:WW.cell? ⟨w.heap.size,0,none⟩=some (.slice p len cap):=HBK.o.cell 0;have HFA:Hid (Calls Tryz.prog 141 #[.slice p len cap] WW fun e w'=>tar.ErrPost WW (tar.FaultIs t.ts) e w'):=tar.rfault p len cap t.ts _ HRA.o hl;have HI1:Hid (∀ W,Calls Tryz.prog 101 #[zI t.ff,zI 0,zI 100000] W fun e w'=>e = .returned (.bool (decide (0≤t.ff∧t.ff≤100000)))∧w'=W):=fun W=>cal.cin t.ff 0 100000 W;rw [decide_eq_true h1] at HI1;have HI2:Hid (∀ W,Calls Tryz.prog 101 #[zI t.fb,zI 0,zI 10000] W fun e w'=>e = .returned (.bool (decide (0≤t.fb∧t.fb≤10000)))∧w'=W):=fun W=>cal.cin t.fb 0 10000 W;rw [decide_eq_false h2] at HI2;have HX:Hid (¬ TOk t):=fun hh=>h2 hh.2.1;have HN:Hid (tar.Right t.ts):=hr;clear h hl hr HRA h1 h2;go_enter Tryz.func97,Tryz.ntmps97;go_upto_region 1 with fail
 rw [HWW.o];clear HWW;go_wp2_with fail;refine HFA.o.mono ?_;rintro e w1 ⟨f,rfl,hf,hb1⟩;have HB1:Hid (Below w.heap.size w w1):=HBA.o.trans (hb1.mono (Nat.le_of_lt hsz));have HK1:Hid (Blk w1 w.heap.size #[.slice p len cap,zI t.ff,zI t.fb,zI t.db,zI t.al] 24):=HBK.o.below hb1 hsz;have d1:w1.cell? ⟨w.heap.size,1,none⟩=some (zI t.ff):=HK1.o.cell 1;have d2:w1.cell? ⟨w.heap.size,2,none⟩=some (zI t.fb):=HK1.o.cell 2;have d3:w1.cell? ⟨w.heap.size,3,none⟩=some (zI t.db):=HK1.o.cell 3;have d4:w1.cell? ⟨w.heap.size,4,none⟩=some (zI t.al):=HK1.o.cell 4;obtain rfl:f=0:=hf.ok.2 HN.o;clear hf HFA hb1 c0 HBK HK1 hsz;go_wp2_with fail;refine (HI1.o _).mono ?_;rintro e w2 ⟨rfl,hw2⟩;subst hw2;go_wp2_with fail;refine (HI2.o _).mono ?_;rintro e w2 ⟨rfl,hw2⟩;subst hw2;go_wp2_with fail
 all_goals first
  | (rename_i q1 q2;exact absurd q1 (by simp [undef]))
  | (go_ret;exact ⟨_,rfl,.inr (.inl ⟨HN.o,HX.o,rfl⟩),HB1.o⟩)
theorem tfa3 (t:Tm) (p:Option Addr) (len cap:Nat) (w:World) (h:RowD w p len t.ts) (hl:len≤maxLen) (hr:tar.Right t.ts) (h1:0≤t.ff∧t.ff≤100000) (h2:0≤t.fb∧t.fb≤10000) (h3:¬ (0≤t.db∧t.db≤10000)):Calls Tryz.prog 97 #[.agg #[.slice p len cap,zI t.ff,zI t.fb,zI t.db,zI t.al]] w fun e w'=>tar.ErrPost w (TFault t) e w':=by
 obtain ⟨WW,HWW,HBK,HBA,hsz⟩:=sh1 w #[.slice p len cap,zI t.ff,zI t.fb,zI t.db,zI t.al] 24;have HRA:Hid (RowD WW p len t.ts):=h.below HBA.o;have c0:WW.cell? ⟨w.heap.size,0,none⟩=some (.slice p len cap):=HBK.o.cell 0;have HFA:Hid (Calls Tryz.prog 141 #[.slice p len cap] WW fun e w'=>tar.ErrPost WW (tar.FaultIs t.ts) e w'):=tar.rfault p len cap t.ts _ HRA.o hl;have HI1:Hid (∀ W,Calls Tryz.prog 101 #[zI t.ff,zI 0,zI 100000] W fun e w'=>e = .returned (.bool (decide (0≤t.ff∧t.ff≤100000)))∧w'=W):=fun W=>cal.cin t.ff 0 100000 W;rw [decide_eq_true h1] at HI1;have HI2:Hid (∀ W,Calls Tryz.prog 101 #[zI t.fb,zI 0,zI 10000] W fun e w'=>e = .returned (.bool (decide (0≤t.fb∧t.fb≤10000)))∧w'=W):=fun W=>cal.cin t.fb 0 10000 W;rw [decide_eq_true h2] at HI2;have HI3:Hid (∀ W,Calls Tryz.prog 101 #[zI t.db,zI 0,zI 10000] W fun e w'=>e = .returned (.bool (decide (0≤t.db∧t.db≤10000)))∧w'=W):=fun W=>cal.cin t.db 0 10000 W;rw [decide_eq_false h3] at HI3;have HX:Hid (¬ TOk t):=fun hh=>h3 hh.2.2.1;have HN:Hid (tar.Right t.ts):=hr;clear h hl hr HRA h1 h2 h3;go_enter Tryz.func97,Tryz.ntmps97;go_upto_region 1 with fail
 rw [HWW.o];clear HWW;go_wp2_with fail;refine HFA.o.mono ?_;rintro e w1 ⟨f,rfl,hf,hb1⟩;have HB1:Hid (Below w.heap.size w w1):=HBA.o.trans (hb1.mono (Nat.le_of_lt hsz));have HK1:Hid (Blk w1 w.heap.size #[.slice p len cap,zI t.ff,zI t.fb,zI t.db,zI t.al] 24):=HBK.o.below hb1 hsz;have d1:w1.cell? ⟨w.heap.size,1,none⟩=some (zI t.ff):=HK1.o.cell 1;have d2:w1.cell? ⟨w.heap.size,2,none⟩=some (zI t.fb):=HK1.o.cell 2;have d3:w1.cell? ⟨w.heap.size,3,none⟩=some (zI t.db):=HK1.o.cell 3;have d4:w1.cell? ⟨w.heap.size,4,none⟩=some (zI t.al):=HK1.o.cell 4;obtain rfl:f=0:=hf.ok.2 HN.o;clear hf HFA hb1 c0 HBK HK1 hsz;go_wp2_with fail;refine (HI1.o _).mono ?_;rintro e w2 ⟨rfl,hw2⟩;subst hw2;go_wp2_with fail;refine (HI2.o _).mono ?_;rintro e w2 ⟨rfl,hw2⟩;subst hw2;go_wp2_with fail;refine (HI3.o _).mono ?_;rintro e w2 ⟨rfl,hw2⟩;subst hw2;go_wp2_with fail
 all_goals first
  | (rename_i q1 q2;exact absurd q1 (by simp [undef]))
  | (go_ret;exact ⟨_,rfl,.inr (.inl ⟨HN.o,HX.o,rfl⟩),HB1.o⟩)
theorem tfa4 (t:Tm) (p:Option Addr) (len cap:Nat) (w:World) (h:RowD w p len t.ts) (hl:len≤maxLen) (hr:tar.Right t.ts) (h1:0≤t.ff∧t.ff≤100000) (h2:0≤t.fb∧t.fb≤10000) (h3:0≤t.db∧t.db≤10000) (h4:¬ (0≤t.al∧t.al≤2097151)):Calls Tryz.prog 97 #[.agg #[.slice p len cap,zI t.ff,zI t.fb,zI t.db,zI t.al]] w fun e w'=>tar.ErrPost w (TFault t) e w':=by
 obtain ⟨WW,HWW,HBK,HBA,hsz⟩:=sh1 w #[.slice p len cap,zI t.ff,zI t.fb,zI t.db,zI t.al] 24;have HRA:Hid (RowD WW p len t.ts):=h.below HBA.o;have c0:WW.cell? ⟨w.heap.size,0,none⟩=some (.slice p len cap):=HBK.o.cell 0;have HFA:Hid (Calls Tryz.prog 141 #[.slice p len cap] WW fun e w'=>tar.ErrPost WW (tar.FaultIs t.ts) e w'):=tar.rfault p len cap t.ts _ HRA.o hl;have HI1:Hid (∀ W,Calls Tryz.prog 101 #[zI t.ff,zI 0,zI 100000] W fun e w'=>e = .returned (.bool (decide (0≤t.ff∧t.ff≤100000)))∧w'=W):=fun W=>cal.cin t.ff 0 100000 W;rw [decide_eq_true h1] at HI1;have HI2:Hid (∀ W,Calls Tryz.prog 101 #[zI t.fb,zI 0,zI 10000] W fun e w'=>e = .returned (.bool (decide (0≤t.fb∧t.fb≤10000)))∧w'=W):=fun W=>cal.cin t.fb 0 10000 W;rw [decide_eq_true h2] at HI2;have HI3:Hid (∀ W,Calls Tryz.prog 101 #[zI t.db,zI 0,zI 10000] W fun e w'=>e = .returned (.bool (decide (0≤t.db∧t.db≤10000)))∧w'=W):=fun W=>cal.cin t.db 0 10000 W;rw [decide_eq_true h3] at HI3;have HI4:Hid (∀ W,Calls Tryz.prog 101 #[zI t.al,zI 0,zI 2097151] W fun e w'=>e = .returned (.bool (decide (0≤t.al∧t.al≤2097151)))∧w'=W):=fun W=>cal.cin t.al 0 2097151 W;rw [decide_eq_false h4] at HI4;have HX:Hid (¬ TOk t):=fun hh=>h4 hh.2.2.2;have HN:Hid (tar.Right t.ts):=hr;clear h hl hr HRA h1 h2 h3 h4;go_enter Tryz.func97,Tryz.ntmps97;go_upto_region 1 with fail
 rw [HWW.o];clear HWW;go_wp2_with fail;refine HFA.o.mono ?_;rintro e w1 ⟨f,rfl,hf,hb1⟩;have HB1:Hid (Below w.heap.size w w1):=HBA.o.trans (hb1.mono (Nat.le_of_lt hsz));have HK1:Hid (Blk w1 w.heap.size #[.slice p len cap,zI t.ff,zI t.fb,zI t.db,zI t.al] 24):=HBK.o.below hb1 hsz;have d1:w1.cell? ⟨w.heap.size,1,none⟩=some (zI t.ff):=HK1.o.cell 1;have d2:w1.cell? ⟨w.heap.size,2,none⟩=some (zI t.fb):=HK1.o.cell 2;have d3:w1.cell? ⟨w.heap.size,3,none⟩=some (zI t.db):=HK1.o.cell 3;have d4:w1.cell? ⟨w.heap.size,4,none⟩=some (zI t.al):=HK1.o.cell 4;obtain rfl:f=0:=hf.ok.2 HN.o;clear hf HFA hb1 c0 HBK HK1 hsz;go_wp2_with fail;refine (HI1.o _).mono ?_;rintro e w2 ⟨rfl,hw2⟩;subst hw2;go_wp2_with fail;refine (HI2.o _).mono ?_;rintro e w2 ⟨rfl,hw2⟩;subst hw2;go_wp2_with fail;refine (HI3.o _).mono ?_;rintro e w2 ⟨rfl,hw2⟩;subst hw2;go_wp2_with fail;refine (HI4.o _).mono ?_;rintro e w2 ⟨rfl,hw2⟩;subst hw2;go_wp2_with fail
 all_goals first
  | (rename_i q1 q2;exact absurd q1 (by simp [undef]))
  | (go_ret;exact ⟨_,rfl,.inr (.inl ⟨HN.o,HX.o,rfl⟩),HB1.o⟩)
theorem tfa5 (t:Tm) (p:Option Addr) (len cap:Nat) (w:World) (h:RowD w p len t.ts) (hl:len≤maxLen) (hr:tar.Right t.ts) (h1:0≤t.ff∧t.ff≤100000) (h2:0≤t.fb∧t.fb≤10000) (h3:0≤t.db∧t.db≤10000) (h4:0≤t.al∧t.al≤2097151):Calls Tryz.prog 97 #[.agg #[.slice p len cap,zI t.ff,zI t.fb,zI t.db,zI t.al]] w fun e w'=>tar.ErrPost w (TFault t) e w':=by
 obtain ⟨WW,HWW,HBK,HBA,hsz⟩:=sh1 w #[.slice p len cap,zI t.ff,zI t.fb,zI t.db,zI t.al] 24;have HRA:Hid (RowD WW p len t.ts):=h.below HBA.o;have c0:WW.cell? ⟨w.heap.size,0,none⟩=some (.slice p len cap):=HBK.o.cell 0;have HFA:Hid (Calls Tryz.prog 141 #[.slice p len cap] WW fun e w'=>tar.ErrPost WW (tar.FaultIs t.ts) e w'):=tar.rfault p len cap t.ts _ HRA.o hl;have HI1:Hid (∀ W,Calls Tryz.prog 101 #[zI t.ff,zI 0,zI 100000] W fun e w'=>e = .returned (.bool (decide (0≤t.ff∧t.ff≤100000)))∧w'=W):=fun W=>cal.cin t.ff 0 100000 W;rw [decide_eq_true h1] at HI1;have HI2:Hid (∀ W,Calls Tryz.prog 101 #[zI t.fb,zI 0,zI 10000] W fun e w'=>e = .returned (.bool (decide (0≤t.fb∧t.fb≤10000)))∧w'=W):=fun W=>cal.cin t.fb 0 10000 W;rw [decide_eq_true h2] at HI2;have HI3:Hid (∀ W,Calls Tryz.prog 101 #[zI t.db,zI 0,zI 10000] W fun e w'=>e = .returned (.bool (decide (0≤t.db∧t.db≤10000)))∧w'=W):=fun W=>cal.cin t.db 0 10000 W;rw [decide_eq_true h3] at HI3;have HI4:Hid (∀ W,Calls Tryz.prog 101 #[zI t.al,zI 0,zI 2097151] W fun e w'=>e = .returned (.bool (decide (0≤t.al∧t.al≤2097151)))∧w'=W):=fun W=>cal.cin t.al 0 2097151 W;rw [decide_eq_true h4] at HI4;have HX:Hid (TOk t):=⟨h1,h2,h3,h4⟩
 have HN:Hid (tar.Right t.ts):=hr;clear h hl hr HRA h1 h2 h3 h4;go_enter Tryz.func97,Tryz.ntmps97;go_upto_region 1 with fail
 rw [HWW.o];clear HWW;go_wp2_with fail;refine HFA.o.mono ?_;rintro e w1 ⟨f,rfl,hf,hb1⟩;have HB1:Hid (Below w.heap.size w w1):=HBA.o.trans (hb1.mono (Nat.le_of_lt hsz));have HK1:Hid (Blk w1 w.heap.size #[.slice p len cap,zI t.ff,zI t.fb,zI t.db,zI t.al] 24):=HBK.o.below hb1 hsz;have d1:w1.cell? ⟨w.heap.size,1,none⟩=some (zI t.ff):=HK1.o.cell 1;have d2:w1.cell? ⟨w.heap.size,2,none⟩=some (zI t.fb):=HK1.o.cell 2;have d3:w1.cell? ⟨w.heap.size,3,none⟩=some (zI t.db):=HK1.o.cell 3;have d4:w1.cell? ⟨w.heap.size,4,none⟩=some (zI t.al):=HK1.o.cell 4;obtain rfl:f=0:=hf.ok.2 HN.o;clear hf HFA hb1 c0 HBK HK1 hsz;go_wp2_with fail;refine (HI1.o _).mono ?_;rintro e w2 ⟨rfl,hw2⟩;subst hw2;go_wp2_with fail;refine (HI2.o _).mono ?_;rintro e w2 ⟨rfl,hw2⟩;subst hw2;go_wp2_with fail;refine (HI3.o _).mono ?_;rintro e w2 ⟨rfl,hw2⟩;subst hw2;go_wp2_with fail;refine (HI4.o _).mono ?_;rintro e w2 ⟨rfl,hw2⟩;subst hw2;go_wp2_with fail
 all_goals first
  | (rename_i q1 q2;exact absurd q1 (by simp [undef]))
  | (go_ret;exact ⟨_,rfl,.inr (.inr ⟨⟨HN.o,HX.o⟩,rfl⟩),HB1.o⟩)
theorem rterms (t:Tm) (p:Option Addr) (len cap:Nat) (w:World) (h:RowD w p len t.ts) (hl:len≤maxLen):Calls Tryz.prog 97 #[.agg #[.slice p len cap,zI t.ff,zI t.fb,zI t.db,zI t.al]] w fun e w'=>tar.ErrPost w (TFault t) e w':=by
 by_cases hr:tar.Right t.ts
 ·by_cases h1:0≤t.ff∧t.ff≤100000
  ·by_cases h2:0≤t.fb∧t.fb≤10000
   ·by_cases h3:0≤t.db∧t.db≤10000
    ·by_cases h4:0≤t.al∧t.al≤2097151
     ·exact tfa5 t p len cap w h hl hr h1 h2 h3 h4
     ·exact tfa4 t p len cap w h hl hr h1 h2 h3 h4
    ·exact tfa3 t p len cap w h hl hr h1 h2 h3
   ·exact tfa2 t p len cap w h hl hr h1 h2
  ·exact tfa1 t p len cap w h hl hr h1
 ·exact tfa0 t p len cap w h hl hr
end acc
namespace words
open Go.RowKit
def Ty (w:World) (b:Nat):Prop:=∃ cs fr,w.heap[b]?=some (.cells cs 99 fr)
theorem Ty.lt {w:World} {b:Nat} (h:Ty w b):b<w.heap.size:=by
 obtain ⟨cs,fr,h⟩:=h;by_cases hh:b<w.heap.size
 ·exact hh
 ·rw [Array.getElem?_eq_none (by omega)] at h;cases h
theorem Ty.same {w w':World} {b:Nat} (h:Ty w b) (e:w'.heap[b]?=w.heap[b]?):Ty w' b:=by
 obtain ⟨cs,fr,h⟩:=h;exact ⟨cs,fr,e.trans h⟩
theorem ty_new (w:World) (cs:Array Value):Ty (w.alloc (.cells cs 99)) w.heap.size:=by
 refine ⟨cs,(0,0),?_⟩;show (w.heap.push _)[w.heap.size]?=_;rw [Array.getElem?_push_size]
structure Ru (w:World) (a:Option Addr) (n cap:Nat) (l:List Nat):Prop where
 len:l.length=n
 lt:∀ x∈l,x<4294967296
 nil:a=none→cap=0
 room:n≤cap
 cell:n=0∨∃ b off,a=some ⟨b,off,none⟩∧∀ i,i<n→w.cell? ⟨b,off+i,none⟩=some (.int .u32 ((l.getD i 0:Nat):Int))
 typ:∀ b off s,a=some ⟨b,off,s⟩→n≠0→Ty w b
theorem Ru.below {w w':World} {a:Option Addr} {n cap:Nat} {l:List Nat} (h:Ru w a n cap l) (hb:Below w.heap.size w w'):Ru w' a n cap l:=by
 refine ⟨h.len,h.lt,h.nil,h.room,?_,fun b off s e hn=>(h.typ b off s e hn).same (hb.block b (h.typ b off s e hn).lt)⟩;rcases h.cell with h0 | ⟨b,off,rfl,hc⟩
 ·exact .inl h0
 ·refine .inr ⟨b,off,rfl,fun i hi=>?_⟩;have h1:=hc i hi;rw [hb.cell (p:=⟨b,off+i,none⟩) (World.block_lt_of_cell? w _ h1)];exact h1
theorem Ru.at {w:World} {a:Option Addr} {n cap:Nat} {l:List Nat} (h:Ru w a n cap l) {i:Nat} (hi:i<n):∃ b off,a=some ⟨b,off,none⟩∧w.cell? ⟨b,off+i,none⟩=some (.int .u32 ((l.getD i 0:Nat):Int)):=by
 rcases h.cell with h0 | ⟨b,off,rfl,hc⟩
 ·omega
 ·exact ⟨b,off,rfl,hc i hi⟩
theorem Ru.word {w:World} {a:Option Addr} {n cap:Nat} {l:List Nat} (h:Ru w a n cap l) (i:Nat):l.getD i 0<4294967296:=by
 by_cases hi:i<l.length
 ·exact h.lt _ (by simp [List.getD,List.getElem?_eq_getElem hi])
 ·simp [List.getD,List.getElem?_eq_none (show l.length≤i by omega)]
def Gives (w:World) (m:Nat) (e:Ending) (w':World):Prop:=∃ a n cap,e = .returned (.slice a n cap)∧Ru w' a n cap (dig m)∧Below w.heap.size w w'
theorem Gives.mk {w w':World} {m n cap:Nat} {a:Option Addr} (h1:Ru w' a n cap (dig m)) (h2:Below w.heap.size w w'):Gives w m (.returned (.slice a n cap)) w':=⟨a,n,cap,rfl,h1,h2⟩
theorem slice_top (a:Option Addr) (n cap k:Nat) (w:World) (hk:k≤n) (hn:n≤cap) (ha:a=none→cap=0):(Instr.slice 25 (.slice a n cap) none (some (zI (k:Int))) none).run Tryz.prog w = .ok (.slice a k cap) w:=by
 have h1:k≤cap:=by omega
 cases a with
 | none=>
  have:=ha rfl;have:k=0:=by omega
  subst_vars
  simp [Instr.slice,Instr.sliceBounds,Instr.sliceBound,asIntOf,run_underlying Tryz.underlying25,go_sem]
 | some x=>simp [Instr.slice,Instr.sliceBounds,Instr.sliceBound,asIntOf,run_underlying Tryz.underlying25,h1,go_sem]
theorem trim_any (a:Option Addr) (n cap:Nat) (l:List Nat) (w:World) (h:Ru w a n cap l) (hn:n≤1000) :
  Calls Tryz.prog 180 #[.slice a n cap] w fun e w'=>Gives w (nv l) e w':=by
 have HR:Hid (Ru w a n cap l):=h;clear h;go_enter Tryz.func180,Tryz.ntmps180;go_wp2_with fail;go_loop [3] (fun v=>∃ k:Nat,k≤n∧v=zI k∧∀ i,k≤i→i<n→l.getD i 0=0) (fun v=>(intOf v).toNat)
 case atStart=>exact ⟨n,Nat.le_refl _,rfl,fun i h1 h2=>by omega⟩
 case round=>
  obtain ⟨k,hk,rfl,hz⟩:=hrel;have HZ:Hid (∀ i,k≤i→i<n→l.getD i 0=0):=hz;clear hz
  have fin:(k=0∨l.getD (k - 1) 0≠0)→Gives w (nv l) (.returned (.slice a k cap)) w:=fun hh=>by
   have e:=trim_dig l k HR.o.lt (by rw [HR.o.len];exact hk) (fun i h1 h2=>HZ.o i h1 (by rw [HR.o.len] at h2;exact h2)) hh;refine Gives.mk ?_ (Below.refl _ _);rw [← e];refine ⟨by rw [List.length_take,HR.o.len];omega,fun x hx=>HR.o.lt x (List.mem_of_mem_take hx),HR.o.nil,Nat.le_trans hk HR.o.room,?_,fun b off s e hn=>HR.o.typ b off s e (by omega)⟩;rcases HR.o.cell with h0 | ⟨b,off,rfl,hc⟩
   ·exact .inl (by omega)
   ·refine .inr ⟨b,off,rfl,fun i hi=>?_⟩;rw [hc i (by omega)]
    congr 3
    simp [List.getD,hi]
  have HF:Hid ((k=0∨l.getD (k - 1) 0≠0)→Gives w (nv l) (.returned (.slice a k cap)) w):=fin;have hsl:=slice_top a n cap k w hk HR.o.room HR.o.nil;clear fin;by_cases hk0:k=0
  ·subst hk0;go_wp2_with fail;go_ret;exact HF.o (.inl (by trivial))
  ·obtain ⟨b,off,rfl,hc⟩:=HR.o.at (i:=k - 1) (by omega);have e1:(k:Int) - 1=((k - 1:Nat):Int):=by omega
   have kp:(0:Int)<(k:Int):=by omega
   by_cases hzero:l.getD (k - 1) 0=0
   ·rw [hzero] at hc
    have HN:Hid (∀ i,k - 1≤i→i<n→l.getD i 0=0):=fun i h1 h2=>by
     by_cases e:i=k - 1
     ·rw [e];exact hzero
     ·exact HZ.o i (by omega) h2
    clear HF hsl hzero;have hg:k - 1<n:=by omega
    generalize hgg:k - 1=g at *;go_wp2_with fail;go_round
    case rel=>exact ⟨g,by omega,by go_num,HN.o⟩
    case measure=>simp [intOf];omega
   ·have hb:((((l.getD (k - 1) 0:Nat):Int)) == 0)=false:=beq_eq_false_iff_ne.2 (by omega);have HH:Hid (l.getD (k - 1) 0≠0):=hzero;clear hzero;have hg:k - 1<n:=by omega
    generalize ((l.getD (k - 1) 0:Nat):Int)=y at hb hc;generalize hgg:k - 1=g at hc e1 hg;go_wp2_with fail;go_ret;exact HF.o (.inr HH.o)
theorem ru_two (w:World) (x y:Nat) (hx:x<4294967296) (hy:y<4294967296):Ru (w.alloc (.cells #[.int .u32 (x:Int),.int .u32 (y:Int)] 99)) (some ⟨w.heap.size,0,none⟩) 2 2 [x,y]:=by
 refine ⟨rfl,?_,(fun h=>by cases h),Nat.le_refl _,.inr ⟨w.heap.size,0,rfl,fun i hi=>?_⟩,fun b off s e _=>by obtain ⟨rfl,-,-⟩:=(by simpa using e:w.heap.size=b∧0=off∧none=s);exact ty_new _ _⟩
 ·intro z hz;simp at hz;omega
 ·match i,hi with
  | 0,_=>simp
  | 1,_=>simp
theorem words_any (x:Nat) (w:World) (hx:x<18446744073709551616) :
  Calls Tryz.prog 179 #[.int .u64 (x:Int)] w fun e w'=>Gives w x e w':=by
 have h1:x % 4294967296<4294967296:=Nat.mod_lt _ (by decide);have h2:x / 4294967296<4294967296:=by omega
 have hr:=ru_two w (x % 4294967296) (x / 4294967296) h1 h2;have HV:Hid (nv [x % 4294967296,x / 4294967296]=x):=(by simp only [nv];omega:nv [x % 4294967296,x / 4294967296]=x)
 have e1:((x:Nat):Int) % 4294967296=((x % 4294967296:Nat):Int):=by omega
 have e2:((x:Nat):Int) / 4294967296=((x / 4294967296:Nat):Int):=by omega
 have HR:Hid (Ru (w.alloc (.cells #[.int .u32 ((x % 4294967296:Nat):Int),.int .u32 ((x / 4294967296:Nat):Int)] 99)) (some ⟨w.heap.size,0,none⟩) 2 2 [x % 4294967296,x / 4294967296]):=hr;have HB:Hid (Below w.heap.size w (w.alloc (.cells #[.int .u32 ((x % 4294967296:Nat):Int),.int .u32 ((x / 4294967296:Nat):Int)] 99))):=(Below.refl _ w).alloc (Nat.le_refl _) _;clear hr h1;generalize x % 4294967296=lo at *;generalize x / 4294967296=hi at *;go_enter Tryz.func179,Tryz.ntmps179;go_wp2_with fail;refine (trim_any _ _ _ _ _ HR.o (by omega)).mono ?_;rintro e w' ⟨a,n,cap,rfl,hr,hb⟩;rw [HV.o] at hr;have HG:Hid (Gives w x (.returned (.slice a n cap)) w'):=Gives.mk hr (HB.o.trans (hb.mono HB.o.size));clear hr hb;go_wp2_with fail;go_ret;exact HG.o
structure Ex (w w':World) (z:Nat):Prop where
 os:w'.os=w.os
 tape:w'.tape=w.tape
 output:w'.output=w.output
 size:w.heap.size≤w'.heap.size
 block:∀ k,k<w.heap.size→k≠z→w'.heap[k]?=w.heap[k]?
theorem Ex.below {w0 w w':World} {z:Nat} (hb:Below w0.heap.size w0 w) (h:Ex w w' z) (hz:w0.heap.size≤z):Below w0.heap.size w0 w':=
 hb.trans ⟨h.os,h.tape,h.output,h.size,fun k hk=>h.block k (Nat.lt_of_lt_of_le hk hb.size) (by omega)⟩
theorem Ex.of {w w1 w':World} {z:Nat} (hb:Below w.heap.size w w1) (h:Ex w1 w' z):Ex w w' z:=
 ⟨h.os.trans hb.os,h.tape.trans hb.tape,h.output.trans hb.output,Nat.le_trans hb.size h.size,fun k hk hz=>(h.block k (Nat.lt_of_lt_of_le hk hb.size) hz).trans (hb.block k hk)⟩
def Ob (w:World) (z:Nat):Prop:=∃ s a n c,w.heap[z]?=some (.cells #[.bool s,.slice a n c] 240 (0,0))
def Bg (w:World) (z m:Nat):Prop:=∃ a n c,w.heap[z]?=some (.cells #[.bool false,.slice a n c] 240 (0,0))∧Ru w a n c (dig m)
theorem Bg.ob {w:World} {z m:Nat} (h:Bg w z m):Ob w z:=let ⟨a,n,c,h1,_⟩:=h;⟨false,a,n,c,h1⟩
theorem heap_lt {w:World} {z:Nat} {o:Obj} (h:w.heap[z]?=some o):z<w.heap.size:=by
 by_cases hh:z<w.heap.size
 ·exact hh
 ·rw [Array.getElem?_eq_none (by omega)] at h;cases h
theorem Ob.lt {w:World} {z:Nat} (h:Ob w z):z<w.heap.size:=let ⟨_,_,_,_,h⟩:=h;heap_lt h
theorem Ob.below {w w':World} {z:Nat} (h:Ob w z) (hb:Below w.heap.size w w'):Ob w' z:=by
 have hl:=h.lt;obtain ⟨s,a,n,c,h1⟩:=h;exact ⟨s,a,n,c,by rw [hb.block z hl];exact h1⟩
theorem Bg.below {w w':World} {z m:Nat} (h:Bg w z m) (hb:Below w.heap.size w w'):Bg w' z m:=by
 have hl:=h.ob.lt;obtain ⟨a,n,c,h1,h2⟩:=h;exact ⟨a,n,c,by rw [hb.block z hl];exact h1,h2.below hb⟩
theorem Ty.ne {w:World} {b z:Nat} (h:Ty w b) (ho:Ob w z):b≠z:=by
 intro e;subst e;obtain ⟨cs,fr,h1⟩:=h;obtain ⟨s,a,n,c,h2⟩:=ho;rw [h1] at h2;simp at h2
theorem Ru.ex {w w':World} {z:Nat} {a:Option Addr} {n cap:Nat} {l:List Nat} (h:Ru w a n cap l) (ho:Ob w z) (he:Ex w w' z):Ru w' a n cap l:=by
 refine ⟨h.len,h.lt,h.nil,h.room,?_,fun b off s e hn=>(h.typ b off s e hn).same (he.block b (h.typ b off s e hn).lt ((h.typ b off s e hn).ne ho))⟩;rcases h.cell with h0 | ⟨b,off,rfl,hc⟩
 ·exact .inl h0
 ·refine .inr ⟨b,off,rfl,fun i hi=>?_⟩;have h1:=hc i hi;have hlt:=World.block_lt_of_cell? w _ h1
  have hne:b≠z:=by
   intro e;subst e;obtain ⟨s,a',n',c',h2⟩:=ho;simp only [World.cell?,h2] at h1
   match hj:off+i,h1 with
   | 0,h1=>simp at h1
   | 1,h1=>simp at h1
   | k+2,h1=>simp at h1
  rw [World.cell?_of_block (w:=w) (a:=⟨b,off+i,none⟩) (he.block b hlt hne)];exact h1
theorem ob_cells {w:World} {z:Nat} {s:Bool} {v:Value} (h:w.heap[z]?=some (.cells #[.bool s,v] 240 (0,0))) :
  w.cell? ⟨z,0,none⟩=some (.bool s)∧w.cell? ⟨z,1,none⟩=some v∧w.frozen? ⟨z,0,none⟩=false∧w.frozen? ⟨z,1,none⟩=false:=by
 refine ⟨?_,?_,?_,?_⟩ <;> simp [World.cell?,World.frozen?,h]
theorem ob_set {w:World} {z:Nat} {s:Bool} {v:Value} (h:w.heap[z]?=some (.cells #[.bool s,v] 240 (0,0))) (u:Value) (t:Bool) :
  ((w.setCell ⟨z,1,none⟩ u).setCell ⟨z,0,none⟩ (.bool t)).heap[z]?=some (.cells #[.bool t,u] 240 (0,0))∧Ex w ((w.setCell ⟨z,1,none⟩ u).setCell ⟨z,0,none⟩ (.bool t)) z:=by
 refine ⟨by simp [World.setCell,Array.getElem?_modify,h],rfl,rfl,rfl,by simp [World.setCell],fun k _ hz=>?_⟩;simp only [World.setCell,Array.getElem?_modify];rw [if_neg (fun e=>hz e.symm),if_neg (fun e=>hz e.symm)]
def GivePost (w:World) (z:Nat) (v:Value) (e:Ending) (w':World):Prop:=
 e = .returned (.pointer (some ⟨z,0,none⟩))∧w'.heap[z]?=some (.cells #[.bool false,v] 240 (0,0))∧Ex w w' z
theorem give_any (z:Nat) (a:Option Addr) (n cap:Nat) (w:World) (ho:Ob w z) :
  Calls Tryz.prog 147 #[.pointer (some ⟨z,0,none⟩),.bool false,.slice a n cap] w fun e w'=>GivePost w z (.slice a n cap) e w':=by
 obtain ⟨s,a',n',c',h⟩:=ho;obtain ⟨c0,c1,f0,f1⟩:=ob_cells h;have hs:=ob_set h (.slice a n cap) false;have HS:Hid (((w.setCell ⟨z,1,none⟩ (.slice a n cap)).setCell ⟨z,0,none⟩ (.bool false)).heap[z]?=some (.cells #[.bool false,.slice a n cap] 240 (0,0))∧Ex w ((w.setCell ⟨z,1,none⟩ (.slice a n cap)).setCell ⟨z,0,none⟩ (.bool false)) z):=hs;clear hs h;go_enter Tryz.func147,Tryz.ntmps147;go_wp2_with fail;go_ret;exact ⟨rfl,HS.o.1,HS.o.2⟩
theorem ob_new (w:World):Ob (w.alloc (.cells #[.bool false,zS] 240)) w.heap.size:=by
 refine ⟨false,none,0,0,?_⟩;show (w.heap.push _)[w.heap.size]?=_;rw [Array.getElem?_push_size]
theorem setInt_any (z x:Nat) (w:World) (ho:Ob w z) (hx:x<9223372036854775808) :
  Calls Tryz.prog 146 #[.pointer (some ⟨z,0,none⟩),zI (x:Int)] w fun e w'=>e = .returned (.pointer (some ⟨z,0,none⟩))∧Bg w' z x∧Ex w w' z:=by
 have h0:¬ ((x:Nat):Int)<0:=by omega
 have h1:decide (((x:Nat):Int)<0)=false:=decide_eq_false h0;have HO:Hid (Ob w z):=ho;clear ho;go_enter Tryz.func146,Tryz.ntmps146;go_wp2_with fail;refine (words_any x _ (by omega)).mono ?_;rintro e w1 ⟨a,n,cap,rfl,hr,hb⟩;have HR:Hid (Ru w1 a n cap (dig x)):=hr;have HB:Hid (Below w.heap.size w w1):=hb;clear hr hb;go_wp2_with fail;refine (give_any z a n cap _ (HO.o.below HB.o)).mono ?_;rintro e w2 ⟨rfl,h2,hex⟩;have HF:Hid (Bg w2 z x∧Ex w w2 z):=⟨⟨a,n,cap,h2,HR.o.ex (HO.o.below HB.o) hex⟩,Ex.of HB.o hex⟩
 clear h2 hex;go_wp2_with fail;go_ret;exact ⟨rfl,HF.o.1,HF.o.2⟩
def NewPost (w:World) (x:Nat) (e:Ending) (w':World):Prop:=∃ z,e = .returned (.pointer (some ⟨z,0,none⟩))∧w.heap.size≤z∧Bg w' z x∧Below w.heap.size w w'
theorem NewPost.mk {w w':World} {x z:Nat} (h1:w.heap.size≤z) (h2:Bg w' z x) (h3:Below w.heap.size w w'):NewPost w x (.returned (.pointer (some ⟨z,0,none⟩))) w':=⟨z,rfl,h1,h2,h3⟩
theorem newInt_any (x:Nat) (w:World) (hx:x<9223372036854775808) :
  Calls Tryz.prog 103 #[zI (x:Int)] w fun e w'=>NewPost w x e w':=by
 have HO:Hid (Ob (w.alloc (.cells #[.bool false,zS] 240)) w.heap.size):=ob_new w;have HB:Hid (Below w.heap.size w (w.alloc (.cells #[.bool false,zS] 240))):=(Below.refl _ w).alloc (Nat.le_refl _) _;go_enter Tryz.func103,Tryz.ntmps103;go_wp2_with fail;refine (setInt_any w.heap.size x _ HO.o hx).mono ?_;rintro e w1 ⟨rfl,h1,h2⟩;have HP:Hid (NewPost w x (.returned (.pointer (some ⟨w.heap.size,0,none⟩))) w1):=NewPost.mk (Nat.le_refl _) h1 (h2.below HB.o (Nat.le_refl _));clear h1 h2;go_wp2_with fail;go_ret;exact HP.o
end words
end Go.Proofs.YtnpblpbohcegoaaGreatDoor
