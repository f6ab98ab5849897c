import Derived.Test.YtnpblpbohcegoaaGreatDoorVVRts6
set_option linter.unusedVariables false
set_option linter.unusedSimpArgs false
set_option maxHeartbeats 4000000
set_option maxRecDepth 100000
namespace Go.Proofs.YtnpblpbohcegoaaGreatDoor
namespace book
open Go.RowKit
def qrB (v:Ev):Bool:=decide (v.kd=1∧v.me=v.me∧v.mo=0∧v.id=0∧v.te=0∧v.de=0∧v.fe=0∧v.pr=0∧v.ch=0∧v.un=0∧v.tg=0∧v.ow=0∧v.bp=0)
theorem qrB_iff (v:Ev):qrB v=true↔(v.kd=1∧v.me=v.me∧v.mo=0∧v.id=0∧v.te=0∧v.de=0∧v.fe=0∧v.pr=0∧v.ch=0∧v.un=0∧v.tg=0∧v.ow=0∧v.bp=0):=by unfold qrB;rw [decide_eq_true_iff]
theorem qr_run (v:Ev):∀ wz:World,(Op.equalIn 10000 72 (.agg #[zI v.kd,zI v.me,zI v.mo,zI v.id,zI v.te,zI v.de,zI v.fe,zI v.pr,zI v.ch,zI v.un,zI v.tg,zI v.ow,zI v.bp]) (.agg #[zI 1,zI v.me,zI 0,zI 0,zI 0,zI 0,zI 0,zI 0,zI 0,zI 0,zI 0,zI 0,zI 0])).run Tryz.prog wz = .ok (qrB v) wz:=fun wz=>by unfold qrB;rw [show (10000:Nat)=9997+3 from rfl,eqEv]
def qcB (v:Ev):Bool:=decide (v.kd=5∧v.me=v.me∧v.mo=0∧v.id=0∧v.te=0∧v.de=0∧v.fe=0∧v.pr=0∧v.ch=0∧v.un=0∧v.tg=0∧v.ow=v.ow∧v.bp=v.bp)
theorem qcB_iff (v:Ev):qcB v=true↔(v.kd=5∧v.me=v.me∧v.mo=0∧v.id=0∧v.te=0∧v.de=0∧v.fe=0∧v.pr=0∧v.ch=0∧v.un=0∧v.tg=0∧v.ow=v.ow∧v.bp=v.bp):=by unfold qcB;rw [decide_eq_true_iff]
theorem qc_run (v:Ev):∀ wz:World,(Op.equalIn 10000 72 (.agg #[zI v.kd,zI v.me,zI v.mo,zI v.id,zI v.te,zI v.de,zI v.fe,zI v.pr,zI v.ch,zI v.un,zI v.tg,zI v.ow,zI v.bp]) (.agg #[zI 5,zI v.me,zI 0,zI 0,zI 0,zI 0,zI 0,zI 0,zI 0,zI 0,zI 0,zI v.ow,zI v.bp])).run Tryz.prog wz = .ok (qcB v) wz:=fun wz=>by unfold qcB;rw [show (10000:Nat)=9997+3 from rfl,eqEv]
def qkB (v:Ev):Bool:=decide (v.id=v.id∧v.te=0∧v.de=0∧v.fe=0∧v.pr=0∧v.ch=0∧v.un=0)
theorem qkB_iff (v:Ev):qkB v=true↔(v.id=v.id∧v.te=0∧v.de=0∧v.fe=0∧v.pr=0∧v.ch=0∧v.un=0):=by unfold qkB;rw [decide_eq_true_iff]
theorem qk_run (v:Ev):∀ wz:World,(Op.equalIn 10000 68 (.agg #[zI v.id,zI v.te,zI v.de,zI v.fe,zI v.pr,zI v.ch,zI v.un]) (.agg #[zI v.id,zI 0,zI 0,zI 0,zI 0,zI 0,zI 0])).run Tryz.prog wz = .ok (qkB v) wz:=fun wz=>by unfold qkB;rw [show (10000:Nat)=9998+2 from rfl,eqBi]
def qgB (v:Ev):Bool:=decide (v.id=v.id∧v.te=0∧v.de=0∧v.fe=0∧v.pr=0∧v.ch=0∧v.un=v.un)
theorem qgB_iff (v:Ev):qgB v=true↔(v.id=v.id∧v.te=0∧v.de=0∧v.fe=0∧v.pr=0∧v.ch=0∧v.un=v.un):=by unfold qgB;rw [decide_eq_true_iff]
theorem qg_run (v:Ev):∀ wz:World,(Op.equalIn 10000 68 (.agg #[zI v.id,zI v.te,zI v.de,zI v.fe,zI v.pr,zI v.ch,zI v.un]) (.agg #[zI v.id,zI 0,zI 0,zI 0,zI 0,zI 0,zI v.un])).run Tryz.prog wz = .ok (qgB v) wz:=fun wz=>by unfold qgB;rw [show (10000:Nat)=9998+2 from rfl,eqBi]
def qdB (v:Ev):Bool:=decide (v.ow=0∧v.bp=0)
theorem qdB_iff (v:Ev):qdB v=true↔(v.ow=0∧v.bp=0):=by unfold qdB;rw [decide_eq_true_iff]
theorem qd_run (v:Ev):∀ wz:World,(Op.equalIn 10000 70 (.agg #[zI v.ow,zI v.bp]) (.agg #[zI 0,zI 0])).run Tryz.prog wz = .ok (qdB v) wz:=fun wz=>by unfold qdB;rw [show (10000:Nat)=9998+2 from rfl,eqDe]
def Says (B:Bool) (v:Ev):Prop:=B=true↔EMay v
def MayPost (w:World) (v:Ev) (e:Ending) (w':World):Prop:=∃ B:Bool,e = .returned (.bool B)∧Says B v∧Below w.heap.size w w'
theorem rmay (v:Ev) (w:World):Calls Tryz.prog 98 #[v.v] w fun e w'=>MayPost w v e w':=by
 unfold Ev.v;have HIme:Hid (∀ W,Calls Tryz.prog 101 #[zI v.me,zI 0,zI 49] W fun e w'=>e = .returned (.bool (decide (0≤v.me∧v.me≤49)))∧w'=W):=fun W=>cal.cin v.me 0 49 W;have HIow:Hid (∀ W,Calls Tryz.prog 101 #[zI v.ow,zI 1,zI 1000000000] W fun e w'=>e = .returned (.bool (decide (1≤v.ow∧v.ow≤1000000000)))∧w'=W):=fun W=>cal.cin v.ow 1 1000000000 W;have HIbp:Hid (∀ W,Calls Tryz.prog 101 #[zI v.bp,zI 0,zI 10000] W fun e w'=>e = .returned (.bool (decide (0≤v.bp∧v.bp≤10000)))∧w'=W):=fun W=>cal.cin v.bp 0 10000 W;have HIkd:Hid (∀ W,Calls Tryz.prog 101 #[zI v.kd,zI 2,zI 4] W fun e w'=>e = .returned (.bool (decide (2≤v.kd∧v.kd≤4)))∧w'=W):=fun W=>cal.cin v.kd 2 4 W;have HIid:Hid (∀ W,Calls Tryz.prog 101 #[zI v.id,zI 1,zI 1048575] W fun e w'=>e = .returned (.bool (decide (1≤v.id∧v.id≤1048575)))∧w'=W):=fun W=>cal.cin v.id 1 1048575 W;have HItg:Hid (∀ W,Calls Tryz.prog 101 #[zI v.tg,zI 0,zI 65535] W fun e w'=>e = .returned (.bool (decide (0≤v.tg∧v.tg≤65535)))∧w'=W):=fun W=>cal.cin v.tg 0 65535 W;have HImo:Hid (∀ W,Calls Tryz.prog 101 #[zI v.mo,zI 0,zI 2399] W fun e w'=>e = .returned (.bool (decide (0≤v.mo∧v.mo≤2399)))∧w'=W):=fun W=>cal.cin v.mo 0 2399 W;have HIun:Hid (∀ W,Calls Tryz.prog 101 #[zI v.un,zI 1,zI 2097151] W fun e w'=>e = .returned (.bool (decide (1≤v.un∧v.un≤2097151)))∧w'=W):=fun W=>cal.cin v.un 1 2097151 W;have HIte:Hid (∀ W,Calls Tryz.prog 101 #[zI v.te,zI 1,zI 100000000] W fun e w'=>e = .returned (.bool (decide (1≤v.te∧v.te≤100000000)))∧w'=W):=fun W=>cal.cin v.te 1 100000000 W;have HIde:Hid (∀ W,Calls Tryz.prog 101 #[zI v.de,zI 0,zI v.te] W fun e w'=>e = .returned (.bool (decide (0≤v.de∧v.de≤v.te)))∧w'=W):=fun W=>cal.cin v.de 0 v.te W;have HIfe:Hid (∀ W,Calls Tryz.prog 101 #[zI v.fe,zI 0,zI v.te] W fun e w'=>e = .returned (.bool (decide (0≤v.fe∧v.fe≤v.te)))∧w'=W):=fun W=>cal.cin v.fe 0 v.te W
 have HIpr:Hid (∀ W,Calls Tryz.prog 101 #[zI v.pr,zI 0,zI v.te] W fun e w'=>e = .returned (.bool (decide (0≤v.pr∧v.pr≤v.te)))∧w'=W):=fun W=>cal.cin v.pr 0 v.te W;have HIch:Hid (∀ W,Calls Tryz.prog 101 #[zI v.ch,zI 0,zI v.te] W fun e w'=>e = .returned (.bool (decide (0≤v.ch∧v.ch≤v.te)))∧w'=W):=fun W=>cal.cin v.ch 0 v.te W;have Hqr:Hid (∀ wz:World,(Op.equalIn 10000 72 (.agg #[zI v.kd,zI v.me,zI v.mo,zI v.id,zI v.te,zI v.de,zI v.fe,zI v.pr,zI v.ch,zI v.un,zI v.tg,zI v.ow,zI v.bp]) (.agg #[zI 1,zI v.me,zI 0,zI 0,zI 0,zI 0,zI 0,zI 0,zI 0,zI 0,zI 0,zI 0,zI 0])).run Tryz.prog wz = .ok (qrB v) wz):=qr_run v;have Hqc:Hid (∀ wz:World,(Op.equalIn 10000 72 (.agg #[zI v.kd,zI v.me,zI v.mo,zI v.id,zI v.te,zI v.de,zI v.fe,zI v.pr,zI v.ch,zI v.un,zI v.tg,zI v.ow,zI v.bp]) (.agg #[zI 5,zI v.me,zI 0,zI 0,zI 0,zI 0,zI 0,zI 0,zI 0,zI 0,zI 0,zI v.ow,zI v.bp])).run Tryz.prog wz = .ok (qcB v) wz):=qc_run v;have Hqk:Hid (∀ wz:World,(Op.equalIn 10000 68 (.agg #[zI v.id,zI v.te,zI v.de,zI v.fe,zI v.pr,zI v.ch,zI v.un]) (.agg #[zI v.id,zI 0,zI 0,zI 0,zI 0,zI 0,zI 0])).run Tryz.prog wz = .ok (qkB v) wz):=qk_run v;have Hqg:Hid (∀ wz:World,(Op.equalIn 10000 68 (.agg #[zI v.id,zI v.te,zI v.de,zI v.fe,zI v.pr,zI v.ch,zI v.un]) (.agg #[zI v.id,zI 0,zI 0,zI 0,zI 0,zI 0,zI v.un])).run Tryz.prog wz = .ok (qgB v) wz):=qg_run v;have Hqd:Hid (∀ wz:World,(Op.equalIn 10000 70 (.agg #[zI v.ow,zI v.bp]) (.agg #[zI 0,zI 0])).run Tryz.prog wz = .ok (qdB v) wz):=qd_run v;have HX0:Hid (Blk (w.alloc (.cells #[zI v.kd,zI v.me,zI v.mo,zI v.id,zI v.te,zI v.de,zI v.fe,zI v.pr,zI v.ch,zI v.un,zI v.tg,zI v.ow,zI v.bp] 72)) w.heap.size #[zI v.kd,zI v.me,zI v.mo,zI v.id,zI v.te,zI v.de,zI v.fe,zI v.pr,zI v.ch,zI v.un,zI v.tg,zI v.ow,zI v.bp] 72):=Blk.new w _ _;have HB0:Hid (Below w.heap.size w (w.alloc (.cells #[zI v.kd,zI v.me,zI v.mo,zI v.id,zI v.te,zI v.de,zI v.fe,zI v.pr,zI v.ch,zI v.un,zI v.tg,zI v.ow,zI v.bp] 72))):=(Below.refl _ _).alloc (Nat.le_refl _) _
 have k0:(w.alloc (.cells #[zI v.kd,zI v.me,zI v.mo,zI v.id,zI v.te,zI v.de,zI v.fe,zI v.pr,zI v.ch,zI v.un,zI v.tg,zI v.ow,zI v.bp] 72)).cell? ⟨w.heap.size,3,none⟩=some (zI v.id):=(Blk.new w _ _).cell 3;have k1:(w.alloc (.cells #[zI v.kd,zI v.me,zI v.mo,zI v.id,zI v.te,zI v.de,zI v.fe,zI v.pr,zI v.ch,zI v.un,zI v.tg,zI v.ow,zI v.bp] 72)).cell? ⟨w.heap.size,4,none⟩=some (zI v.te):=(Blk.new w _ _).cell 4;have k2:(w.alloc (.cells #[zI v.kd,zI v.me,zI v.mo,zI v.id,zI v.te,zI v.de,zI v.fe,zI v.pr,zI v.ch,zI v.un,zI v.tg,zI v.ow,zI v.bp] 72)).cell? ⟨w.heap.size,5,none⟩=some (zI v.de):=(Blk.new w _ _).cell 5;have k3:(w.alloc (.cells #[zI v.kd,zI v.me,zI v.mo,zI v.id,zI v.te,zI v.de,zI v.fe,zI v.pr,zI v.ch,zI v.un,zI v.tg,zI v.ow,zI v.bp] 72)).cell? ⟨w.heap.size,6,none⟩=some (zI v.fe):=(Blk.new w _ _).cell 6;have k4:(w.alloc (.cells #[zI v.kd,zI v.me,zI v.mo,zI v.id,zI v.te,zI v.de,zI v.fe,zI v.pr,zI v.ch,zI v.un,zI v.tg,zI v.ow,zI v.bp] 72)).cell? ⟨w.heap.size,7,none⟩=some (zI v.pr):=(Blk.new w _ _).cell 7;have k5:(w.alloc (.cells #[zI v.kd,zI v.me,zI v.mo,zI v.id,zI v.te,zI v.de,zI v.fe,zI v.pr,zI v.ch,zI v.un,zI v.tg,zI v.ow,zI v.bp] 72)).cell? ⟨w.heap.size,8,none⟩=some (zI v.ch):=(Blk.new w _ _).cell 8;have k6:(w.alloc (.cells #[zI v.kd,zI v.me,zI v.mo,zI v.id,zI v.te,zI v.de,zI v.fe,zI v.pr,zI v.ch,zI v.un,zI v.tg,zI v.ow,zI v.bp] 72)).cell? ⟨w.heap.size,9,none⟩=some (zI v.un):=(Blk.new w _ _).cell 9;generalize hWW:(w.alloc (.cells #[zI v.kd,zI v.me,zI v.mo,zI v.id,zI v.te,zI v.de,zI v.fe,zI v.pr,zI v.ch,zI v.un,zI v.tg,zI v.ow,zI v.bp] 72))=W0 at *;have HWW:Hid ((w.alloc (.cells #[zI v.kd,zI v.me,zI v.mo,zI v.id,zI v.te,zI v.de,zI v.fe,zI v.pr,zI v.ch,zI v.un,zI v.tg,zI v.ow,zI v.bp] 72))=W0):=hWW;clear hWW;go_enter Tryz.func98,Tryz.ntmps98;go_upto_region 1 with fail
 rw [HWW.o];clear HWW;obtain ⟨W1,HWW,HBB,HBB,-⟩:=sh1 W0 #[zI v.id,zI v.te,zI v.de,zI v.fe,zI v.pr,zI v.ch,zI v.un] 68;have HV1:=shN HX0 HBB.o;have HB1:=shB HB0 HBB.o;go_upto_region 2 with fail
 rw [HWW.o];clear HWW HBB;generalize W0.heap.size=gb at *;clear k0 k1 k2 k3 k4 k5 k6 HX0 HB0;have ckd:W1.cell? ⟨w.heap.size,0,none⟩=some (zI v.kd):=HV1.o.cell 0;have cme:W1.cell? ⟨w.heap.size,1,none⟩=some (zI v.me):=HV1.o.cell 1;have cmo:W1.cell? ⟨w.heap.size,2,none⟩=some (zI v.mo):=HV1.o.cell 2;have cid:W1.cell? ⟨w.heap.size,3,none⟩=some (zI v.id):=HV1.o.cell 3;have cte:W1.cell? ⟨w.heap.size,4,none⟩=some (zI v.te):=HV1.o.cell 4;have cde:W1.cell? ⟨w.heap.size,5,none⟩=some (zI v.de):=HV1.o.cell 5;have cfe:W1.cell? ⟨w.heap.size,6,none⟩=some (zI v.fe):=HV1.o.cell 6;have cpr:W1.cell? ⟨w.heap.size,7,none⟩=some (zI v.pr):=HV1.o.cell 7;have cch:W1.cell? ⟨w.heap.size,8,none⟩=some (zI v.ch):=HV1.o.cell 8;have cun:W1.cell? ⟨w.heap.size,9,none⟩=some (zI v.un):=HV1.o.cell 9;have ctg:W1.cell? ⟨w.heap.size,10,none⟩=some (zI v.tg):=HV1.o.cell 10;have cow:W1.cell? ⟨w.heap.size,11,none⟩=some (zI v.ow):=HV1.o.cell 11;have cbp:W1.cell? ⟨w.heap.size,12,none⟩=some (zI v.bp):=HV1.o.cell 12;have bid:W1.cell? ⟨gb,0,none⟩=some (zI v.id):=HBB.o.cell 0;have bte:W1.cell? ⟨gb,1,none⟩=some (zI v.te):=HBB.o.cell 1;have bde:W1.cell? ⟨gb,2,none⟩=some (zI v.de):=HBB.o.cell 2;have bfe:W1.cell? ⟨gb,3,none⟩=some (zI v.fe):=HBB.o.cell 3;have bpr:W1.cell? ⟨gb,4,none⟩=some (zI v.pr):=HBB.o.cell 4;have bch:W1.cell? ⟨gb,5,none⟩=some (zI v.ch):=HBB.o.cell 5;have bun:W1.cell? ⟨gb,6,none⟩=some (zI v.un):=HBB.o.cell 6;clear HV1 HBB;by_cases hme:0≤v.me∧v.me≤49
 ·skip
  rw [decide_eq_true hme] at HIme;go_wp2_with fail;refine (HIme.o _).mono ?_;rintro e wz ⟨rfl,hwz⟩;subst wz;clear HIme;by_cases hk1:v.kd=1
  ·have n1:(v.kd == 1)=true:=by simpa using hk1
   have Pk1:Hid (v.kd=1):=hk1;clear hk1;rcases Bool.eq_false_or_eq_true (qrB v) with hqr | hqr
   ·skip
    have pqr:=qrB_iff v;rw [hqr] at pqr;have qr:∀ wz:World,(Op.equalIn 10000 72 (.agg #[zI v.kd,zI v.me,zI v.mo,zI v.id,zI v.te,zI v.de,zI v.fe,zI v.pr,zI v.ch,zI v.un,zI v.tg,zI v.ow,zI v.bp]) (.agg #[zI 1,zI v.me,zI 0,zI 0,zI 0,zI 0,zI 0,zI 0,zI 0,zI 0,zI 0,zI 0,zI 0])).run Tryz.prog wz = .ok true wz:=fun wz=>(Hqr.o wz).trans (congrArg (fun b=>Result.ok b wz) hqr);clear Hqr;have Pqr:Hid ((v.kd=1∧v.me=v.me∧v.mo=0∧v.id=0∧v.te=0∧v.de=0∧v.fe=0∧v.pr=0∧v.ch=0∧v.un=0∧v.tg=0∧v.ow=0∧v.bp=0)):=pqr.1 rfl;clear hqr pqr
    have HV:Hid (Says true v):=by
     show (true=true)↔_;have zk1:=Pk1.o;have zqr:=Pqr.o;simp only [true_iff];unfold EMay
     first | omega | (constructor <;> intro hh <;> first | omega | (exfalso;omega) | cases hh)
    go_wp2_with (first | (refine wp_eqE (by rfl) 72 _ _ _ rfl #[zI v.kd,zI v.me,zI v.mo,zI v.id,zI v.te,zI v.de,zI v.fe,zI v.pr,zI v.ch,zI v.un,zI v.tg,zI v.ow,zI v.bp] #[zI 1,zI v.me,zI 0,zI 0,zI 0,zI 0,zI 0,zI 0,zI 0,zI 0,zI 0,zI 0,zI 0] rfl rfl (by kernel_rfl) true (qr _) _ rfl ?_) | fail)
    all_goals first
     | (rename_i q1 q2;exact absurd q1 (by simp [undef]))
     | (go_ret;exact ⟨_,rfl,HV.o,HB1.o⟩)
   ·skip
    have pqr:=qrB_iff v;rw [hqr] at pqr;have qr:∀ wz:World,(Op.equalIn 10000 72 (.agg #[zI v.kd,zI v.me,zI v.mo,zI v.id,zI v.te,zI v.de,zI v.fe,zI v.pr,zI v.ch,zI v.un,zI v.tg,zI v.ow,zI v.bp]) (.agg #[zI 1,zI v.me,zI 0,zI 0,zI 0,zI 0,zI 0,zI 0,zI 0,zI 0,zI 0,zI 0,zI 0])).run Tryz.prog wz = .ok false wz:=fun wz=>(Hqr.o wz).trans (congrArg (fun b=>Result.ok b wz) hqr);clear Hqr;have Pqr:Hid (¬ (v.kd=1∧v.me=v.me∧v.mo=0∧v.id=0∧v.te=0∧v.de=0∧v.fe=0∧v.pr=0∧v.ch=0∧v.un=0∧v.tg=0∧v.ow=0∧v.bp=0)):=fun hq=>absurd (pqr.2 hq) (by decide);clear hqr pqr
    have HV:Hid (Says false v):=by
     show (false=true)↔_;have zk1:=Pk1.o;have zqr:=Pqr.o;simp only [Bool.false_eq_true,false_iff];unfold EMay
     first | omega | (constructor <;> intro hh <;> first | omega | (exfalso;omega) | cases hh)
    go_wp2_with (first | (refine wp_eqE (by rfl) 72 _ _ _ rfl #[zI v.kd,zI v.me,zI v.mo,zI v.id,zI v.te,zI v.de,zI v.fe,zI v.pr,zI v.ch,zI v.un,zI v.tg,zI v.ow,zI v.bp] #[zI 1,zI v.me,zI 0,zI 0,zI 0,zI 0,zI 0,zI 0,zI 0,zI 0,zI 0,zI 0,zI 0] rfl rfl (by kernel_rfl) false (qr _) _ rfl ?_) | fail)
    all_goals first
     | (rename_i q1 q2;exact absurd q1 (by simp [undef]))
     | (go_ret;exact ⟨_,rfl,HV.o,HB1.o⟩)
  ·have n1:(v.kd == 1)=false:=by simpa using hk1
   have Pk1:Hid (v.kd≠1):=hk1;clear hk1;by_cases hk5:v.kd=5
   ·have n5:(v.kd == 5)=true:=by simpa using hk5
    have Pk5:Hid (v.kd=5):=hk5;clear hk5;rcases Bool.eq_false_or_eq_true (qcB v) with hqc | hqc
    ·skip
     have pqc:=qcB_iff v;rw [hqc] at pqc;have qc:∀ wz:World,(Op.equalIn 10000 72 (.agg #[zI v.kd,zI v.me,zI v.mo,zI v.id,zI v.te,zI v.de,zI v.fe,zI v.pr,zI v.ch,zI v.un,zI v.tg,zI v.ow,zI v.bp]) (.agg #[zI 5,zI v.me,zI 0,zI 0,zI 0,zI 0,zI 0,zI 0,zI 0,zI 0,zI 0,zI v.ow,zI v.bp])).run Tryz.prog wz = .ok true wz:=fun wz=>(Hqc.o wz).trans (congrArg (fun b=>Result.ok b wz) hqc);clear Hqc;have Pqc:Hid ((v.kd=5∧v.me=v.me∧v.mo=0∧v.id=0∧v.te=0∧v.de=0∧v.fe=0∧v.pr=0∧v.ch=0∧v.un=0∧v.tg=0∧v.ow=v.ow∧v.bp=v.bp)):=pqc.1 rfl;clear hqc pqc;by_cases how:1≤v.ow∧v.ow≤1000000000
     ·skip
      rw [decide_eq_true how] at HIow;go_wp2_with (first | (refine wp_eqE (by rfl) 72 _ _ _ rfl #[zI v.kd,zI v.me,zI v.mo,zI v.id,zI v.te,zI v.de,zI v.fe,zI v.pr,zI v.ch,zI v.un,zI v.tg,zI v.ow,zI v.bp] #[zI 5,zI v.me,zI 0,zI 0,zI 0,zI 0,zI 0,zI 0,zI 0,zI 0,zI 0,zI v.ow,zI v.bp] rfl rfl (by kernel_rfl) true (qc _) _ rfl ?_) | fail)
      refine (HIow.o _).mono ?_;rintro e wz ⟨rfl,hwz⟩;subst wz;clear HIow;by_cases hbp:0≤v.bp∧v.bp≤10000
      ·skip
       rw [decide_eq_true hbp] at HIbp;go_wp2_with (first | (refine wp_eqE (by rfl) 72 _ _ _ rfl #[zI v.kd,zI v.me,zI v.mo,zI v.id,zI v.te,zI v.de,zI v.fe,zI v.pr,zI v.ch,zI v.un,zI v.tg,zI v.ow,zI v.bp] #[zI 5,zI v.me,zI 0,zI 0,zI 0,zI 0,zI 0,zI 0,zI 0,zI 0,zI 0,zI v.ow,zI v.bp] rfl rfl (by kernel_rfl) true (qc _) _ rfl ?_) | fail)
       refine (HIbp.o _).mono ?_;rintro e wz ⟨rfl,hwz⟩;subst wz;clear HIbp
       have HV:Hid (Says true v):=by
        show (true=true)↔_;have zk1:=Pk1.o;have zk5:=Pk5.o;have zqc:=Pqc.o;simp only [true_iff];unfold EMay
        first | omega | (constructor <;> intro hh <;> first | omega | (exfalso;omega) | cases hh)
       go_wp2_with (first | (refine wp_eqE (by rfl) 72 _ _ _ rfl #[zI v.kd,zI v.me,zI v.mo,zI v.id,zI v.te,zI v.de,zI v.fe,zI v.pr,zI v.ch,zI v.un,zI v.tg,zI v.ow,zI v.bp] #[zI 5,zI v.me,zI 0,zI 0,zI 0,zI 0,zI 0,zI 0,zI 0,zI 0,zI 0,zI v.ow,zI v.bp] rfl rfl (by kernel_rfl) true (qc _) _ rfl ?_) | fail)
       all_goals first
        | (rename_i q1 q2;exact absurd q1 (by simp [undef]))
        | (go_ret;exact ⟨_,rfl,HV.o,HB1.o⟩)
      ·skip
       have HV:Hid (Says false v):=by
        show (false=true)↔_;have zk1:=Pk1.o;have zk5:=Pk5.o;have zqc:=Pqc.o;simp only [Bool.false_eq_true,false_iff];unfold EMay
        first | omega | (constructor <;> intro hh <;> first | omega | (exfalso;omega) | cases hh)
       rw [decide_eq_false hbp] at HIbp;go_wp2_with (first | (refine wp_eqE (by rfl) 72 _ _ _ rfl #[zI v.kd,zI v.me,zI v.mo,zI v.id,zI v.te,zI v.de,zI v.fe,zI v.pr,zI v.ch,zI v.un,zI v.tg,zI v.ow,zI v.bp] #[zI 5,zI v.me,zI 0,zI 0,zI 0,zI 0,zI 0,zI 0,zI 0,zI 0,zI 0,zI v.ow,zI v.bp] rfl rfl (by kernel_rfl) true (qc _) _ rfl ?_) | fail)
       refine (HIbp.o _).mono ?_;rintro e wz ⟨rfl,hwz⟩;subst wz;clear HIbp;go_wp2_with (first | (refine wp_eqE (by rfl) 72 _ _ _ rfl #[zI v.kd,zI v.me,zI v.mo,zI v.id,zI v.te,zI v.de,zI v.fe,zI v.pr,zI v.ch,zI v.un,zI v.tg,zI v.ow,zI v.bp] #[zI 5,zI v.me,zI 0,zI 0,zI 0,zI 0,zI 0,zI 0,zI 0,zI 0,zI 0,zI v.ow,zI v.bp] rfl rfl (by kernel_rfl) true (qc _) _ rfl ?_) | fail)
       all_goals first
        | (rename_i q1 q2;exact absurd q1 (by simp [undef]))
        | (go_ret;exact ⟨_,rfl,HV.o,HB1.o⟩)
     ·skip
      have HV:Hid (Says false v):=by
       show (false=true)↔_;have zk1:=Pk1.o;have zk5:=Pk5.o;have zqc:=Pqc.o;simp only [Bool.false_eq_true,false_iff];unfold EMay
       first | omega | (constructor <;> intro hh <;> first | omega | (exfalso;omega) | cases hh)
      rw [decide_eq_false how] at HIow;go_wp2_with (first | (refine wp_eqE (by rfl) 72 _ _ _ rfl #[zI v.kd,zI v.me,zI v.mo,zI v.id,zI v.te,zI v.de,zI v.fe,zI v.pr,zI v.ch,zI v.un,zI v.tg,zI v.ow,zI v.bp] #[zI 5,zI v.me,zI 0,zI 0,zI 0,zI 0,zI 0,zI 0,zI 0,zI 0,zI 0,zI v.ow,zI v.bp] rfl rfl (by kernel_rfl) true (qc _) _ rfl ?_) | fail)
      refine (HIow.o _).mono ?_;rintro e wz ⟨rfl,hwz⟩;subst wz;clear HIow;go_wp2_with (first | (refine wp_eqE (by rfl) 72 _ _ _ rfl #[zI v.kd,zI v.me,zI v.mo,zI v.id,zI v.te,zI v.de,zI v.fe,zI v.pr,zI v.ch,zI v.un,zI v.tg,zI v.ow,zI v.bp] #[zI 5,zI v.me,zI 0,zI 0,zI 0,zI 0,zI 0,zI 0,zI 0,zI 0,zI 0,zI v.ow,zI v.bp] rfl rfl (by kernel_rfl) true (qc _) _ rfl ?_) | fail)
      all_goals first
       | (rename_i q1 q2;exact absurd q1 (by simp [undef]))
       | (go_ret;exact ⟨_,rfl,HV.o,HB1.o⟩)
    ·skip
     have pqc:=qcB_iff v;rw [hqc] at pqc;have qc:∀ wz:World,(Op.equalIn 10000 72 (.agg #[zI v.kd,zI v.me,zI v.mo,zI v.id,zI v.te,zI v.de,zI v.fe,zI v.pr,zI v.ch,zI v.un,zI v.tg,zI v.ow,zI v.bp]) (.agg #[zI 5,zI v.me,zI 0,zI 0,zI 0,zI 0,zI 0,zI 0,zI 0,zI 0,zI 0,zI v.ow,zI v.bp])).run Tryz.prog wz = .ok false wz:=fun wz=>(Hqc.o wz).trans (congrArg (fun b=>Result.ok b wz) hqc);clear Hqc;have Pqc:Hid (¬ (v.kd=5∧v.me=v.me∧v.mo=0∧v.id=0∧v.te=0∧v.de=0∧v.fe=0∧v.pr=0∧v.ch=0∧v.un=0∧v.tg=0∧v.ow=v.ow∧v.bp=v.bp)):=fun hq=>absurd (pqc.2 hq) (by decide);clear hqc pqc
     have HV:Hid (Says false v):=by
      show (false=true)↔_;have zk1:=Pk1.o;have zk5:=Pk5.o;have zqc:=Pqc.o;simp only [Bool.false_eq_true,false_iff];unfold EMay
      first | omega | (constructor <;> intro hh <;> first | omega | (exfalso;omega) | cases hh)
     go_wp2_with (first | (refine wp_eqE (by rfl) 72 _ _ _ rfl #[zI v.kd,zI v.me,zI v.mo,zI v.id,zI v.te,zI v.de,zI v.fe,zI v.pr,zI v.ch,zI v.un,zI v.tg,zI v.ow,zI v.bp] #[zI 5,zI v.me,zI 0,zI 0,zI 0,zI 0,zI 0,zI 0,zI 0,zI 0,zI 0,zI v.ow,zI v.bp] rfl rfl (by kernel_rfl) false (qc _) _ rfl ?_) | fail)
     all_goals first
      | (rename_i q1 q2;exact absurd q1 (by simp [undef]))
      | (go_ret;exact ⟨_,rfl,HV.o,HB1.o⟩)
   ·have n5:(v.kd == 5)=false:=by simpa using hk5
    have Pk5:Hid (v.kd≠5):=hk5;clear hk5;by_cases hkd:2≤v.kd∧v.kd≤4
    ·skip
     rw [decide_eq_true hkd] at HIkd;go_wp2_with fail;refine (HIkd.o _).mono ?_;rintro e wz ⟨rfl,hwz⟩;subst wz;clear HIkd;by_cases hid:1≤v.id∧v.id≤1048575
     ·skip
      rw [decide_eq_true hid] at HIid;go_wp2_with fail;refine (HIid.o _).mono ?_;rintro e wz ⟨rfl,hwz⟩;subst wz;clear HIid;by_cases htg:0≤v.tg∧v.tg≤65535
      ·skip
       rw [decide_eq_true htg] at HItg;go_wp2_with fail;refine (HItg.o _).mono ?_;rintro e wz ⟨rfl,hwz⟩;subst wz;clear HItg;rcases Bool.eq_false_or_eq_true (qdB v) with hqd | hqd
       ·skip
        have pqd:=qdB_iff v;rw [hqd] at pqd;have qd:∀ wz:World,(Op.equalIn 10000 70 (.agg #[zI v.ow,zI v.bp]) (.agg #[zI 0,zI 0])).run Tryz.prog wz = .ok true wz:=fun wz=>(Hqd.o wz).trans (congrArg (fun b=>Result.ok b wz) hqd);clear Hqd;have Pqd:Hid ((v.ow=0∧v.bp=0)):=pqd.1 rfl;clear hqd pqd;by_cases hk4:v.kd=4
        ·have n4:(v.kd == 4)=true:=by simpa using hk4
         have Pk4:Hid (v.kd=4):=hk4;clear hk4;by_cases hmz:v.mo=0
         ·have n0:(v.mo == 0)=true:=by simpa using hmz
          have Pm:Hid (v.mo=0):=hmz;clear hmz;rcases Bool.eq_false_or_eq_true (qkB v) with hqk | hqk
          ·skip
           have pqk:=qkB_iff v;rw [hqk] at pqk;have qk:∀ wz:World,(Op.equalIn 10000 68 (.agg #[zI v.id,zI v.te,zI v.de,zI v.fe,zI v.pr,zI v.ch,zI v.un]) (.agg #[zI v.id,zI 0,zI 0,zI 0,zI 0,zI 0,zI 0])).run Tryz.prog wz = .ok true wz:=fun wz=>(Hqk.o wz).trans (congrArg (fun b=>Result.ok b wz) hqk);clear Hqk;have Pqk:Hid ((v.id=v.id∧v.te=0∧v.de=0∧v.fe=0∧v.pr=0∧v.ch=0∧v.un=0)):=pqk.1 rfl;clear hqk pqk
           have HV:Hid (Says true v):=by
            show (true=true)↔_;have zk1:=Pk1.o;have zk5:=Pk5.o;have zqd:=Pqd.o;have zk4:=Pk4.o;have zm:=Pm.o;have zqk:=Pqk.o;simp only [true_iff];unfold EMay
            first | omega | (constructor <;> intro hh <;> first | omega | (exfalso;omega) | cases hh)
           go_wp2_with fail
           all_goals first
            | (rename_i q1 q2;exact absurd q1 (by simp [undef]))
            | (go_ret;exact ⟨_,rfl,HV.o,HB1.o⟩)
          ·skip
           have pqk:=qkB_iff v;rw [hqk] at pqk;have qk:∀ wz:World,(Op.equalIn 10000 68 (.agg #[zI v.id,zI v.te,zI v.de,zI v.fe,zI v.pr,zI v.ch,zI v.un]) (.agg #[zI v.id,zI 0,zI 0,zI 0,zI 0,zI 0,zI 0])).run Tryz.prog wz = .ok false wz:=fun wz=>(Hqk.o wz).trans (congrArg (fun b=>Result.ok b wz) hqk);clear Hqk;have Pqk:Hid (¬ (v.id=v.id∧v.te=0∧v.de=0∧v.fe=0∧v.pr=0∧v.ch=0∧v.un=0)):=fun hq=>absurd (pqk.2 hq) (by decide);clear hqk pqk
           have HV:Hid (Says false v):=by
            show (false=true)↔_;have zk1:=Pk1.o;have zk5:=Pk5.o;have zqd:=Pqd.o;have zk4:=Pk4.o;have zm:=Pm.o;have zqk:=Pqk.o;simp only [Bool.false_eq_true,false_iff];unfold EMay
            first | omega | (constructor <;> intro hh <;> first | omega | (exfalso;omega) | cases hh)
           go_wp2_with fail
           all_goals first
            | (rename_i q1 q2;exact absurd q1 (by simp [undef]))
            | (go_ret;exact ⟨_,rfl,HV.o,HB1.o⟩)
         ·have n0:(v.mo == 0)=false:=by simpa using hmz
          have HV:Hid (Says false v):=by
           show (false=true)↔_;have zk1:=Pk1.o;have zk5:=Pk5.o;have zqd:=Pqd.o;have zk4:=Pk4.o;simp only [Bool.false_eq_true,false_iff];unfold EMay
           first | omega | (constructor <;> intro hh <;> first | omega | (exfalso;omega) | cases hh)
          go_wp2_with fail
          all_goals first
           | (rename_i q1 q2;exact absurd q1 (by simp [undef]))
           | (go_ret;exact ⟨_,rfl,HV.o,HB1.o⟩)
        ·have n4:(v.kd == 4)=false:=by simpa using hk4
         have Pk4:Hid (v.kd≠4):=hk4;clear hk4;by_cases hmo:0≤v.mo∧v.mo≤2399
         ·skip
          rw [decide_eq_true hmo] at HImo;go_wp2_with fail;refine (HImo.o _).mono ?_;rintro e wz ⟨rfl,hwz⟩;subst wz;clear HImo;by_cases hun:1≤v.un∧v.un≤2097151
          ·skip
           rw [decide_eq_true hun] at HIun;go_wp2_with fail;refine (HIun.o _).mono ?_;rintro e wz ⟨rfl,hwz⟩;subst wz;clear HIun;by_cases hk3:v.kd=3
           ·have n3:(v.kd == 3)=true:=by simpa using hk3
            have Pk3:Hid (v.kd=3):=hk3;clear hk3;rcases Bool.eq_false_or_eq_true (qgB v) with hqg | hqg
            ·skip
             have pqg:=qgB_iff v;rw [hqg] at pqg;have qg:∀ wz:World,(Op.equalIn 10000 68 (.agg #[zI v.id,zI v.te,zI v.de,zI v.fe,zI v.pr,zI v.ch,zI v.un]) (.agg #[zI v.id,zI 0,zI 0,zI 0,zI 0,zI 0,zI v.un])).run Tryz.prog wz = .ok true wz:=fun wz=>(Hqg.o wz).trans (congrArg (fun b=>Result.ok b wz) hqg);clear Hqg;have Pqg:Hid ((v.id=v.id∧v.te=0∧v.de=0∧v.fe=0∧v.pr=0∧v.ch=0∧v.un=v.un)):=pqg.1 rfl;clear hqg pqg
             have HV:Hid (Says true v):=by
              show (true=true)↔_;have zk1:=Pk1.o;have zk5:=Pk5.o;have zqd:=Pqd.o;have zk4:=Pk4.o;have zk3:=Pk3.o;have zqg:=Pqg.o;simp only [true_iff];unfold EMay
              first | omega | (constructor <;> intro hh <;> first | omega | (exfalso;omega) | cases hh)
             go_wp2_with fail
             all_goals first
              | (rename_i q1 q2;exact absurd q1 (by simp [undef]))
              | (go_ret;exact ⟨_,rfl,HV.o,HB1.o⟩)
            ·skip
             have pqg:=qgB_iff v;rw [hqg] at pqg;have qg:∀ wz:World,(Op.equalIn 10000 68 (.agg #[zI v.id,zI v.te,zI v.de,zI v.fe,zI v.pr,zI v.ch,zI v.un]) (.agg #[zI v.id,zI 0,zI 0,zI 0,zI 0,zI 0,zI v.un])).run Tryz.prog wz = .ok false wz:=fun wz=>(Hqg.o wz).trans (congrArg (fun b=>Result.ok b wz) hqg);clear Hqg;have Pqg:Hid (¬ (v.id=v.id∧v.te=0∧v.de=0∧v.fe=0∧v.pr=0∧v.ch=0∧v.un=v.un)):=fun hq=>absurd (pqg.2 hq) (by decide);clear hqg pqg
             have HV:Hid (Says false v):=by
              show (false=true)↔_;have zk1:=Pk1.o;have zk5:=Pk5.o;have zqd:=Pqd.o;have zk4:=Pk4.o;have zk3:=Pk3.o;have zqg:=Pqg.o;simp only [Bool.false_eq_true,false_iff];unfold EMay
              first | omega | (constructor <;> intro hh <;> first | omega | (exfalso;omega) | cases hh)
             go_wp2_with fail
             all_goals first
              | (rename_i q1 q2;exact absurd q1 (by simp [undef]))
              | (go_ret;exact ⟨_,rfl,HV.o,HB1.o⟩)
           ·have n3:(v.kd == 3)=false:=by simpa using hk3
            have Pk3:Hid (v.kd≠3):=hk3;clear hk3;by_cases hte:1≤v.te∧v.te≤100000000
            ·skip
             rw [decide_eq_true hte] at HIte;go_wp2_with fail;refine (HIte.o _).mono ?_;rintro e wz ⟨rfl,hwz⟩;subst wz;clear HIte;by_cases hde:0≤v.de∧v.de≤v.te
             ·skip
              rw [decide_eq_true hde] at HIde;go_wp2_with fail;refine (HIde.o _).mono ?_;rintro e wz ⟨rfl,hwz⟩;subst wz;clear HIde;by_cases hfe:0≤v.fe∧v.fe≤v.te
              ·skip
               rw [decide_eq_true hfe] at HIfe;go_wp2_with fail;refine (HIfe.o _).mono ?_;rintro e wz ⟨rfl,hwz⟩;subst wz;clear HIfe;by_cases hpr:0≤v.pr∧v.pr≤v.te
               ·skip
                rw [decide_eq_true hpr] at HIpr;go_wp2_with fail;refine (HIpr.o _).mono ?_;rintro e wz ⟨rfl,hwz⟩;subst wz;clear HIpr;by_cases hch:0≤v.ch∧v.ch≤v.te
                ·skip
                 rw [decide_eq_true hch] at HIch;go_wp2_with fail;refine (HIch.o _).mono ?_;rintro e wz ⟨rfl,hwz⟩;subst wz;clear HIch;by_cases hsm:v.de+v.fe+v.pr+v.ch=v.te
                 ·have n9:(v.de+v.fe+v.pr+v.ch == v.te)=true:=by simpa using hsm
                  have HV:Hid (Says true v):=by
                   show (true=true)↔_;have zk1:=Pk1.o;have zk5:=Pk5.o;have zqd:=Pqd.o;have zk4:=Pk4.o;have zk3:=Pk3.o;simp only [true_iff];unfold EMay
                   first | omega | (constructor <;> intro hh <;> first | omega | (exfalso;omega) | cases hh)
                  clear hsm;go_wp2_with fail
                  all_goals first
                   | (rename_i q1 q2;exact absurd q1 (by simp [undef]))
                   | (go_ret;exact ⟨_,rfl,HV.o,HB1.o⟩)
                 ·have n9:(v.de+v.fe+v.pr+v.ch == v.te)=false:=by simpa using hsm
                  have HV:Hid (Says false v):=by
                   show (false=true)↔_;have zk1:=Pk1.o;have zk5:=Pk5.o;have zqd:=Pqd.o;have zk4:=Pk4.o;have zk3:=Pk3.o;simp only [Bool.false_eq_true,false_iff];unfold EMay
                   first | omega | (constructor <;> intro hh <;> first | omega | (exfalso;omega) | cases hh)
                  clear hsm;go_wp2_with fail
                  all_goals first
                   | (rename_i q1 q2;exact absurd q1 (by simp [undef]))
                   | (go_ret;exact ⟨_,rfl,HV.o,HB1.o⟩)
                ·skip
                 have HV:Hid (Says false v):=by
                  show (false=true)↔_;have zk1:=Pk1.o;have zk5:=Pk5.o;have zqd:=Pqd.o;have zk4:=Pk4.o;have zk3:=Pk3.o;simp only [Bool.false_eq_true,false_iff];unfold EMay
                  first | omega | (constructor <;> intro hh <;> first | omega | (exfalso;omega) | cases hh)
                 rw [decide_eq_false hch] at HIch;go_wp2_with fail;refine (HIch.o _).mono ?_;rintro e wz ⟨rfl,hwz⟩;subst wz;clear HIch;go_wp2_with fail
                 all_goals first
                  | (rename_i q1 q2;exact absurd q1 (by simp [undef]))
                  | (go_ret;exact ⟨_,rfl,HV.o,HB1.o⟩)
               ·skip
                have HV:Hid (Says false v):=by
                 show (false=true)↔_;have zk1:=Pk1.o;have zk5:=Pk5.o;have zqd:=Pqd.o;have zk4:=Pk4.o;have zk3:=Pk3.o;simp only [Bool.false_eq_true,false_iff];unfold EMay
                 first | omega | (constructor <;> intro hh <;> first | omega | (exfalso;omega) | cases hh)
                rw [decide_eq_false hpr] at HIpr;go_wp2_with fail;refine (HIpr.o _).mono ?_;rintro e wz ⟨rfl,hwz⟩;subst wz;clear HIpr;go_wp2_with fail
                all_goals first
                 | (rename_i q1 q2;exact absurd q1 (by simp [undef]))
                 | (go_ret;exact ⟨_,rfl,HV.o,HB1.o⟩)
              ·skip
               have HV:Hid (Says false v):=by
                show (false=true)↔_;have zk1:=Pk1.o;have zk5:=Pk5.o;have zqd:=Pqd.o;have zk4:=Pk4.o;have zk3:=Pk3.o;simp only [Bool.false_eq_true,false_iff];unfold EMay
                first | omega | (constructor <;> intro hh <;> first | omega | (exfalso;omega) | cases hh)
               rw [decide_eq_false hfe] at HIfe;go_wp2_with fail;refine (HIfe.o _).mono ?_;rintro e wz ⟨rfl,hwz⟩;subst wz;clear HIfe;go_wp2_with fail
               all_goals first
                | (rename_i q1 q2;exact absurd q1 (by simp [undef]))
                | (go_ret;exact ⟨_,rfl,HV.o,HB1.o⟩)
             ·skip
              have HV:Hid (Says false v):=by
               show (false=true)↔_;have zk1:=Pk1.o;have zk5:=Pk5.o;have zqd:=Pqd.o;have zk4:=Pk4.o;have zk3:=Pk3.o;simp only [Bool.false_eq_true,false_iff];unfold EMay
               first | omega | (constructor <;> intro hh <;> first | omega | (exfalso;omega) | cases hh)
              rw [decide_eq_false hde] at HIde;go_wp2_with fail;refine (HIde.o _).mono ?_;rintro e wz ⟨rfl,hwz⟩;subst wz;clear HIde;go_wp2_with fail
              all_goals first
               | (rename_i q1 q2;exact absurd q1 (by simp [undef]))
               | (go_ret;exact ⟨_,rfl,HV.o,HB1.o⟩)
            ·skip
             have HV:Hid (Says false v):=by
              show (false=true)↔_;have zk1:=Pk1.o;have zk5:=Pk5.o;have zqd:=Pqd.o;have zk4:=Pk4.o;have zk3:=Pk3.o;simp only [Bool.false_eq_true,false_iff];unfold EMay
              first | omega | (constructor <;> intro hh <;> first | omega | (exfalso;omega) | cases hh)
             rw [decide_eq_false hte] at HIte;go_wp2_with fail;refine (HIte.o _).mono ?_;rintro e wz ⟨rfl,hwz⟩;subst wz;clear HIte;go_wp2_with fail
             all_goals first
              | (rename_i q1 q2;exact absurd q1 (by simp [undef]))
              | (go_ret;exact ⟨_,rfl,HV.o,HB1.o⟩)
          ·skip
           have HV:Hid (Says false v):=by
            show (false=true)↔_;have zk1:=Pk1.o;have zk5:=Pk5.o;have zqd:=Pqd.o;have zk4:=Pk4.o;simp only [Bool.false_eq_true,false_iff];unfold EMay
            first | omega | (constructor <;> intro hh <;> first | omega | (exfalso;omega) | cases hh)
           rw [decide_eq_false hun] at HIun;go_wp2_with fail;refine (HIun.o _).mono ?_;rintro e wz ⟨rfl,hwz⟩;subst wz;clear HIun;go_wp2_with fail
           all_goals first
            | (rename_i q1 q2;exact absurd q1 (by simp [undef]))
            | (go_ret;exact ⟨_,rfl,HV.o,HB1.o⟩)
         ·skip
          have HV:Hid (Says false v):=by
           show (false=true)↔_;have zk1:=Pk1.o;have zk5:=Pk5.o;have zqd:=Pqd.o;have zk4:=Pk4.o;simp only [Bool.false_eq_true,false_iff];unfold EMay
           first | omega | (constructor <;> intro hh <;> first | omega | (exfalso;omega) | cases hh)
          rw [decide_eq_false hmo] at HImo;go_wp2_with fail;refine (HImo.o _).mono ?_;rintro e wz ⟨rfl,hwz⟩;subst wz;clear HImo;go_wp2_with fail
          all_goals first
           | (rename_i q1 q2;exact absurd q1 (by simp [undef]))
           | (go_ret;exact ⟨_,rfl,HV.o,HB1.o⟩)
       ·skip
        have pqd:=qdB_iff v;rw [hqd] at pqd;have qd:∀ wz:World,(Op.equalIn 10000 70 (.agg #[zI v.ow,zI v.bp]) (.agg #[zI 0,zI 0])).run Tryz.prog wz = .ok false wz:=fun wz=>(Hqd.o wz).trans (congrArg (fun b=>Result.ok b wz) hqd);clear Hqd;have Pqd:Hid (¬ (v.ow=0∧v.bp=0)):=fun hq=>absurd (pqd.2 hq) (by decide);clear hqd pqd
        have HV:Hid (Says false v):=by
         show (false=true)↔_;have zk1:=Pk1.o;have zk5:=Pk5.o;have zqd:=Pqd.o;simp only [Bool.false_eq_true,false_iff];unfold EMay
         first | omega | (constructor <;> intro hh <;> first | omega | (exfalso;omega) | cases hh)
        go_wp2_with fail
        all_goals first
         | (rename_i q1 q2;exact absurd q1 (by simp [undef]))
         | (go_ret;exact ⟨_,rfl,HV.o,HB1.o⟩)
      ·skip
       have HV:Hid (Says false v):=by
        show (false=true)↔_;have zk1:=Pk1.o;have zk5:=Pk5.o;simp only [Bool.false_eq_true,false_iff];unfold EMay
        first | omega | (constructor <;> intro hh <;> first | omega | (exfalso;omega) | cases hh)
       rw [decide_eq_false htg] at HItg;go_wp2_with fail;refine (HItg.o _).mono ?_;rintro e wz ⟨rfl,hwz⟩;subst wz;clear HItg;go_wp2_with fail
       all_goals first
        | (rename_i q1 q2;exact absurd q1 (by simp [undef]))
        | (go_ret;exact ⟨_,rfl,HV.o,HB1.o⟩)
     ·skip
      have HV:Hid (Says false v):=by
       show (false=true)↔_;have zk1:=Pk1.o;have zk5:=Pk5.o;simp only [Bool.false_eq_true,false_iff];unfold EMay
       first | omega | (constructor <;> intro hh <;> first | omega | (exfalso;omega) | cases hh)
      rw [decide_eq_false hid] at HIid;go_wp2_with fail;refine (HIid.o _).mono ?_;rintro e wz ⟨rfl,hwz⟩;subst wz;clear HIid;go_wp2_with fail
      all_goals first
       | (rename_i q1 q2;exact absurd q1 (by simp [undef]))
       | (go_ret;exact ⟨_,rfl,HV.o,HB1.o⟩)
    ·skip
     have HV:Hid (Says false v):=by
      show (false=true)↔_;have zk1:=Pk1.o;have zk5:=Pk5.o;simp only [Bool.false_eq_true,false_iff];unfold EMay
      first | omega | (constructor <;> intro hh <;> first | omega | (exfalso;omega) | cases hh)
     rw [decide_eq_false hkd] at HIkd;go_wp2_with fail;refine (HIkd.o _).mono ?_;rintro e wz ⟨rfl,hwz⟩;subst wz;clear HIkd;go_wp2_with fail
     all_goals first
      | (rename_i q1 q2;exact absurd q1 (by simp [undef]))
      | (go_ret;exact ⟨_,rfl,HV.o,HB1.o⟩)
 ·skip
  have HV:Hid (Says false v):=by
   show (false=true)↔_;simp only [Bool.false_eq_true,false_iff];unfold EMay
   first | omega | (constructor <;> intro hh <;> first | omega | (exfalso;omega) | cases hh)
  rw [decide_eq_false hme] at HIme;go_wp2_with fail;refine (HIme.o _).mono ?_;rintro e wz ⟨rfl,hwz⟩;subst wz;clear HIme;go_wp2_with fail
  all_goals first
   | (rename_i q1 q2;exact absurd q1 (by simp [undef]))
   | (go_ret;exact ⟨_,rfl,HV.o,HB1.o⟩)
end book
end Go.Proofs.YtnpblpbohcegoaaGreatDoor
