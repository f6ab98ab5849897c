import Derived.Test.YtomibnggmhjdfaaGreatVVCes16
set_option linter.unusedVariables false
set_option linter.unusedSimpArgs false
namespace Go.Proofs.YtomibnggmhjdfaaGreat
namespace book
open Go.RowKit
set_option maxRecDepth 100000
def qrB (v : Ev) : Bool := decide (v.kd = 1 ∧ v.me = v.me ∧ v.mo = 0 ∧ v.id = 0 ∧ v.te = 0 ∧ v.de = 0 ∧ v.fe = 0 ∧ v.pr = 0 ∧ v.ch = 0 ∧ v.un = 0 ∧ v.tg = 0 ∧ v.ow = 0 ∧ v.bp = 0)
theorem qrB_iff (v : Ev) : qrB v = true ↔ (v.kd = 1 ∧ v.me = v.me ∧ v.mo = 0 ∧ v.id = 0 ∧ v.te = 0 ∧ v.de = 0 ∧ v.fe = 0 ∧ v.pr = 0 ∧ v.ch = 0 ∧ v.un = 0 ∧ v.tg = 0 ∧ v.ow = 0 ∧ v.bp = 0) := by unfold qrB; rw [decide_eq_true_iff]
theorem qr_run (v : Ev) : ∀ wz : World, (Op.equalIn 10000 71 (.agg #[.int .i64 v.kd, .int .i64 v.me, .int .i64 v.mo, .int .i64 v.id, .int .i64 v.te, .int .i64 v.de, .int .i64 v.fe, .int .i64 v.pr, .int .i64 v.ch, .int .i64 v.un, .int .i64 v.tg, .int .i64 v.ow, .int .i64 v.bp]) (.agg #[.int .i64 1, .int .i64 v.me, .int .i64 0, .int .i64 0, .int .i64 0, .int .i64 0, .int .i64 0, .int .i64 0, .int .i64 0, .int .i64 0, .int .i64 0, .int .i64 0, .int .i64 0])).run Tryz.prog wz = .ok (qrB v) wz := fun wz => by unfold qrB; rw [show (10000 : Nat) = 9997 + 3 from rfl, eqEv]
def qcB (v : Ev) : Bool := decide (v.kd = 5 ∧ v.me = v.me ∧ v.mo = 0 ∧ v.id = 0 ∧ v.te = 0 ∧ v.de = 0 ∧ v.fe = 0 ∧ v.pr = 0 ∧ v.ch = 0 ∧ v.un = 0 ∧ v.tg = 0 ∧ v.ow = v.ow ∧ v.bp = v.bp)
theorem qcB_iff (v : Ev) : qcB v = true ↔ (v.kd = 5 ∧ v.me = v.me ∧ v.mo = 0 ∧ v.id = 0 ∧ v.te = 0 ∧ v.de = 0 ∧ v.fe = 0 ∧ v.pr = 0 ∧ v.ch = 0 ∧ v.un = 0 ∧ v.tg = 0 ∧ v.ow = v.ow ∧ v.bp = v.bp) := by unfold qcB; rw [decide_eq_true_iff]
theorem qc_run (v : Ev) : ∀ wz : World, (Op.equalIn 10000 71 (.agg #[.int .i64 v.kd, .int .i64 v.me, .int .i64 v.mo, .int .i64 v.id, .int .i64 v.te, .int .i64 v.de, .int .i64 v.fe, .int .i64 v.pr, .int .i64 v.ch, .int .i64 v.un, .int .i64 v.tg, .int .i64 v.ow, .int .i64 v.bp]) (.agg #[.int .i64 5, .int .i64 v.me, .int .i64 0, .int .i64 0, .int .i64 0, .int .i64 0, .int .i64 0, .int .i64 0, .int .i64 0, .int .i64 0, .int .i64 0, .int .i64 v.ow, .int .i64 v.bp])).run Tryz.prog wz = .ok (qcB v) wz := fun wz => by unfold qcB; rw [show (10000 : Nat) = 9997 + 3 from rfl, eqEv]
def qkB (v : Ev) : Bool := decide (v.id = v.id ∧ v.te = 0 ∧ v.de = 0 ∧ v.fe = 0 ∧ v.pr = 0 ∧ v.ch = 0 ∧ v.un = 0)
theorem qkB_iff (v : Ev) : qkB v = true ↔ (v.id = v.id ∧ v.te = 0 ∧ v.de = 0 ∧ v.fe = 0 ∧ v.pr = 0 ∧ v.ch = 0 ∧ v.un = 0) := by unfold qkB; rw [decide_eq_true_iff]
theorem qk_run (v : Ev) : ∀ wz : World, (Op.equalIn 10000 69 (.agg #[.int .i64 v.id, .int .i64 v.te, .int .i64 v.de, .int .i64 v.fe, .int .i64 v.pr, .int .i64 v.ch, .int .i64 v.un]) (.agg #[.int .i64 v.id, .int .i64 0, .int .i64 0, .int .i64 0, .int .i64 0, .int .i64 0, .int .i64 0])).run Tryz.prog wz = .ok (qkB v) wz := fun wz => by unfold qkB; rw [show (10000 : Nat) = 9998 + 2 from rfl, eqBi]
def qgB (v : Ev) : Bool := decide (v.id = v.id ∧ v.te = 0 ∧ v.de = 0 ∧ v.fe = 0 ∧ v.pr = 0 ∧ v.ch = 0 ∧ v.un = v.un)
theorem qgB_iff (v : Ev) : qgB v = true ↔ (v.id = v.id ∧ v.te = 0 ∧ v.de = 0 ∧ v.fe = 0 ∧ v.pr = 0 ∧ v.ch = 0 ∧ v.un = v.un) := by unfold qgB; rw [decide_eq_true_iff]
theorem qg_run (v : Ev) : ∀ wz : World, (Op.equalIn 10000 69 (.agg #[.int .i64 v.id, .int .i64 v.te, .int .i64 v.de, .int .i64 v.fe, .int .i64 v.pr, .int .i64 v.ch, .int .i64 v.un]) (.agg #[.int .i64 v.id, .int .i64 0, .int .i64 0, .int .i64 0, .int .i64 0, .int .i64 0, .int .i64 v.un])).run Tryz.prog wz = .ok (qgB v) wz := fun wz => by unfold qgB; rw [show (10000 : Nat) = 9998 + 2 from rfl, eqBi]
def qdB (v : Ev) : Bool := decide (v.ow = 0 ∧ v.bp = 0)
theorem qdB_iff (v : Ev) : qdB v = true ↔ (v.ow = 0 ∧ v.bp = 0) := by unfold qdB; rw [decide_eq_true_iff]
theorem qd_run (v : Ev) : ∀ wz : World, (Op.equalIn 10000 43 (.agg #[.int .i64 v.ow, .int .i64 v.bp]) (.agg #[.int .i64 0, .int .i64 0])).run Tryz.prog wz = .ok (qdB v) wz := fun wz => by unfold qdB; rw [show (10000 : Nat) = 9998 + 2 from rfl, eqDe]
def Says (B : Bool) (v : Ev) : Prop := B = true ↔ EMay v
def MayPost (w : World) (v : Ev) (e : Ending) (w' : World) : Prop := ∃ B : Bool, e = .returned (.bool B) ∧ Says B v ∧ Below w.heap.size w w'
set_option maxHeartbeats 4000000 in
theorem rmay (v : Ev) (w : World) : Calls Tryz.prog 35 #[v.v] w fun e w' => MayPost w v e w' := by
 unfold Ev.v
 have HIme : Hid (∀ W, Calls Tryz.prog 25 #[.int .i64 v.me, .int .i64 0, .int .i64 49] W fun e w' => e = .returned (.bool (decide (0 ≤ v.me ∧ v.me ≤ 49))) ∧ w' = W) := fun W => cal.cin v.me 0 49 W
 have HIow : Hid (∀ W, Calls Tryz.prog 25 #[.int .i64 v.ow, .int .i64 1, .int .i64 1000000000] W fun e w' => e = .returned (.bool (decide (1 ≤ v.ow ∧ v.ow ≤ 1000000000))) ∧ w' = W) := fun W => cal.cin v.ow 1 1000000000 W
 have HIbp : Hid (∀ W, Calls Tryz.prog 25 #[.int .i64 v.bp, .int .i64 0, .int .i64 10000] W fun e w' => e = .returned (.bool (decide (0 ≤ v.bp ∧ v.bp ≤ 10000))) ∧ w' = W) := fun W => cal.cin v.bp 0 10000 W
 have HIkd : Hid (∀ W, Calls Tryz.prog 25 #[.int .i64 v.kd, .int .i64 2, .int .i64 4] W fun e w' => e = .returned (.bool (decide (2 ≤ v.kd ∧ v.kd ≤ 4))) ∧ w' = W) := fun W => cal.cin v.kd 2 4 W
 have HIid : Hid (∀ W, Calls Tryz.prog 25 #[.int .i64 v.id, .int .i64 1, .int .i64 1048575] W fun e w' => e = .returned (.bool (decide (1 ≤ v.id ∧ v.id ≤ 1048575))) ∧ w' = W) := fun W => cal.cin v.id 1 1048575 W
 have HItg : Hid (∀ W, Calls Tryz.prog 25 #[.int .i64 v.tg, .int .i64 0, .int .i64 65535] W fun e w' => e = .returned (.bool (decide (0 ≤ v.tg ∧ v.tg ≤ 65535))) ∧ w' = W) := fun W => cal.cin v.tg 0 65535 W
 have HImo : Hid (∀ W, Calls Tryz.prog 25 #[.int .i64 v.mo, .int .i64 0, .int .i64 2399] W fun e w' => e = .returned (.bool (decide (0 ≤ v.mo ∧ v.mo ≤ 2399))) ∧ w' = W) := fun W => cal.cin v.mo 0 2399 W
 have HIun : Hid (∀ W, Calls Tryz.prog 25 #[.int .i64 v.un, .int .i64 1, .int .i64 2097151] W fun e w' => e = .returned (.bool (decide (1 ≤ v.un ∧ v.un ≤ 2097151))) ∧ w' = W) := fun W => cal.cin v.un 1 2097151 W
 have HIte : Hid (∀ W, Calls Tryz.prog 25 #[.int .i64 v.te, .int .i64 1, .int .i64 100000000] W fun e w' => e = .returned (.bool (decide (1 ≤ v.te ∧ v.te ≤ 100000000))) ∧ w' = W) := fun W => cal.cin v.te 1 100000000 W
 have HIde : Hid (∀ W, Calls Tryz.prog 25 #[.int .i64 v.de, .int .i64 0, .int .i64 v.te] W fun e w' => e = .returned (.bool (decide (0 ≤ v.de ∧ v.de ≤ v.te))) ∧ w' = W) := fun W => cal.cin v.de 0 v.te W
 have HIfe : Hid (∀ W, Calls Tryz.prog 25 #[.int .i64 v.fe, .int .i64 0, .int .i64 v.te] W fun e w' => e = .returned (.bool (decide (0 ≤ v.fe ∧ v.fe ≤ v.te))) ∧ w' = W) := fun W => cal.cin v.fe 0 v.te W
 have HIpr : Hid (∀ W, Calls Tryz.prog 25 #[.int .i64 v.pr, .int .i64 0, .int .i64 v.te] W fun e w' => e = .returned (.bool (decide (0 ≤ v.pr ∧ v.pr ≤ v.te))) ∧ w' = W) := fun W => cal.cin v.pr 0 v.te W
 have HIch : Hid (∀ W, Calls Tryz.prog 25 #[.int .i64 v.ch, .int .i64 0, .int .i64 v.te] W fun e w' => e = .returned (.bool (decide (0 ≤ v.ch ∧ v.ch ≤ v.te))) ∧ w' = W) := fun W => cal.cin v.ch 0 v.te W
 have Hqr : Hid (∀ wz : World, (Op.equalIn 10000 71 (.agg #[.int .i64 v.kd, .int .i64 v.me, .int .i64 v.mo, .int .i64 v.id, .int .i64 v.te, .int .i64 v.de, .int .i64 v.fe, .int .i64 v.pr, .int .i64 v.ch, .int .i64 v.un, .int .i64 v.tg, .int .i64 v.ow, .int .i64 v.bp]) (.agg #[.int .i64 1, .int .i64 v.me, .int .i64 0, .int .i64 0, .int .i64 0, .int .i64 0, .int .i64 0, .int .i64 0, .int .i64 0, .int .i64 0, .int .i64 0, .int .i64 0, .int .i64 0])).run Tryz.prog wz = .ok (qrB v) wz) := qr_run v
 have Hqc : Hid (∀ wz : World, (Op.equalIn 10000 71 (.agg #[.int .i64 v.kd, .int .i64 v.me, .int .i64 v.mo, .int .i64 v.id, .int .i64 v.te, .int .i64 v.de, .int .i64 v.fe, .int .i64 v.pr, .int .i64 v.ch, .int .i64 v.un, .int .i64 v.tg, .int .i64 v.ow, .int .i64 v.bp]) (.agg #[.int .i64 5, .int .i64 v.me, .int .i64 0, .int .i64 0, .int .i64 0, .int .i64 0, .int .i64 0, .int .i64 0, .int .i64 0, .int .i64 0, .int .i64 0, .int .i64 v.ow, .int .i64 v.bp])).run Tryz.prog wz = .ok (qcB v) wz) := qc_run v
 have Hqk : Hid (∀ wz : World, (Op.equalIn 10000 69 (.agg #[.int .i64 v.id, .int .i64 v.te, .int .i64 v.de, .int .i64 v.fe, .int .i64 v.pr, .int .i64 v.ch, .int .i64 v.un]) (.agg #[.int .i64 v.id, .int .i64 0, .int .i64 0, .int .i64 0, .int .i64 0, .int .i64 0, .int .i64 0])).run Tryz.prog wz = .ok (qkB v) wz) := qk_run v
 have Hqg : Hid (∀ wz : World, (Op.equalIn 10000 69 (.agg #[.int .i64 v.id, .int .i64 v.te, .int .i64 v.de, .int .i64 v.fe, .int .i64 v.pr, .int .i64 v.ch, .int .i64 v.un]) (.agg #[.int .i64 v.id, .int .i64 0, .int .i64 0, .int .i64 0, .int .i64 0, .int .i64 0, .int .i64 v.un])).run Tryz.prog wz = .ok (qgB v) wz) := qg_run v
 have Hqd : Hid (∀ wz : World, (Op.equalIn 10000 43 (.agg #[.int .i64 v.ow, .int .i64 v.bp]) (.agg #[.int .i64 0, .int .i64 0])).run Tryz.prog wz = .ok (qdB v) wz) := qd_run v
 have HX0 : Hid (Blk (w.alloc (.cells #[.int .i64 v.kd, .int .i64 v.me, .int .i64 v.mo, .int .i64 v.id, .int .i64 v.te, .int .i64 v.de, .int .i64 v.fe, .int .i64 v.pr, .int .i64 v.ch, .int .i64 v.un, .int .i64 v.tg, .int .i64 v.ow, .int .i64 v.bp] 71)) w.heap.size #[.int .i64 v.kd, .int .i64 v.me, .int .i64 v.mo, .int .i64 v.id, .int .i64 v.te, .int .i64 v.de, .int .i64 v.fe, .int .i64 v.pr, .int .i64 v.ch, .int .i64 v.un, .int .i64 v.tg, .int .i64 v.ow, .int .i64 v.bp] 71) := Blk.new w _ _
 have HB0 : Hid (Below w.heap.size w (w.alloc (.cells #[.int .i64 v.kd, .int .i64 v.me, .int .i64 v.mo, .int .i64 v.id, .int .i64 v.te, .int .i64 v.de, .int .i64 v.fe, .int .i64 v.pr, .int .i64 v.ch, .int .i64 v.un, .int .i64 v.tg, .int .i64 v.ow, .int .i64 v.bp] 71))) := (Below.refl _ _).alloc (Nat.le_refl _) _
 have k0 : (w.alloc (.cells #[.int .i64 v.kd, .int .i64 v.me, .int .i64 v.mo, .int .i64 v.id, .int .i64 v.te, .int .i64 v.de, .int .i64 v.fe, .int .i64 v.pr, .int .i64 v.ch, .int .i64 v.un, .int .i64 v.tg, .int .i64 v.ow, .int .i64 v.bp] 71)).cell? ⟨w.heap.size, 3, none⟩ = some (.int .i64 v.id) := (Blk.new w _ _).cell 3
 have k1 : (w.alloc (.cells #[.int .i64 v.kd, .int .i64 v.me, .int .i64 v.mo, .int .i64 v.id, .int .i64 v.te, .int .i64 v.de, .int .i64 v.fe, .int .i64 v.pr, .int .i64 v.ch, .int .i64 v.un, .int .i64 v.tg, .int .i64 v.ow, .int .i64 v.bp] 71)).cell? ⟨w.heap.size, 4, none⟩ = some (.int .i64 v.te) := (Blk.new w _ _).cell 4
 have k2 : (w.alloc (.cells #[.int .i64 v.kd, .int .i64 v.me, .int .i64 v.mo, .int .i64 v.id, .int .i64 v.te, .int .i64 v.de, .int .i64 v.fe, .int .i64 v.pr, .int .i64 v.ch, .int .i64 v.un, .int .i64 v.tg, .int .i64 v.ow, .int .i64 v.bp] 71)).cell? ⟨w.heap.size, 5, none⟩ = some (.int .i64 v.de) := (Blk.new w _ _).cell 5
 have k3 : (w.alloc (.cells #[.int .i64 v.kd, .int .i64 v.me, .int .i64 v.mo, .int .i64 v.id, .int .i64 v.te, .int .i64 v.de, .int .i64 v.fe, .int .i64 v.pr, .int .i64 v.ch, .int .i64 v.un, .int .i64 v.tg, .int .i64 v.ow, .int .i64 v.bp] 71)).cell? ⟨w.heap.size, 6, none⟩ = some (.int .i64 v.fe) := (Blk.new w _ _).cell 6
 have k4 : (w.alloc (.cells #[.int .i64 v.kd, .int .i64 v.me, .int .i64 v.mo, .int .i64 v.id, .int .i64 v.te, .int .i64 v.de, .int .i64 v.fe, .int .i64 v.pr, .int .i64 v.ch, .int .i64 v.un, .int .i64 v.tg, .int .i64 v.ow, .int .i64 v.bp] 71)).cell? ⟨w.heap.size, 7, none⟩ = some (.int .i64 v.pr) := (Blk.new w _ _).cell 7
 have k5 : (w.alloc (.cells #[.int .i64 v.kd, .int .i64 v.me, .int .i64 v.mo, .int .i64 v.id, .int .i64 v.te, .int .i64 v.de, .int .i64 v.fe, .int .i64 v.pr, .int .i64 v.ch, .int .i64 v.un, .int .i64 v.tg, .int .i64 v.ow, .int .i64 v.bp] 71)).cell? ⟨w.heap.size, 8, none⟩ = some (.int .i64 v.ch) := (Blk.new w _ _).cell 8
 have k6 : (w.alloc (.cells #[.int .i64 v.kd, .int .i64 v.me, .int .i64 v.mo, .int .i64 v.id, .int .i64 v.te, .int .i64 v.de, .int .i64 v.fe, .int .i64 v.pr, .int .i64 v.ch, .int .i64 v.un, .int .i64 v.tg, .int .i64 v.ow, .int .i64 v.bp] 71)).cell? ⟨w.heap.size, 9, none⟩ = some (.int .i64 v.un) := (Blk.new w _ _).cell 9
 generalize hWW : (w.alloc (.cells #[.int .i64 v.kd, .int .i64 v.me, .int .i64 v.mo, .int .i64 v.id, .int .i64 v.te, .int .i64 v.de, .int .i64 v.fe, .int .i64 v.pr, .int .i64 v.ch, .int .i64 v.un, .int .i64 v.tg, .int .i64 v.ow, .int .i64 v.bp] 71)) = W0 at *
 have HWW : Hid ((w.alloc (.cells #[.int .i64 v.kd, .int .i64 v.me, .int .i64 v.mo, .int .i64 v.id, .int .i64 v.te, .int .i64 v.de, .int .i64 v.fe, .int .i64 v.pr, .int .i64 v.ch, .int .i64 v.un, .int .i64 v.tg, .int .i64 v.ow, .int .i64 v.bp] 71)) = W0) := hWW
 clear hWW
 go_enter Tryz.func35, Tryz.ntmps35
 go_upto_region 1 with fail
 rw [HWW.out]
 clear HWW
 obtain ⟨W1, HWW, HBB, HBB, -⟩ := sh1 W0 #[.int .i64 v.id, .int .i64 v.te, .int .i64 v.de, .int .i64 v.fe, .int .i64 v.pr, .int .i64 v.ch, .int .i64 v.un] 69
 have HV1 := shN HX0 HBB.out
 have HB1 := shB HB0 HBB.out
 go_upto_region 2 with fail
 rw [HWW.out]
 clear HWW HBB
 generalize W0.heap.size = gb at *
 clear k0 k1 k2 k3 k4 k5 k6 HX0 HB0
 have ckd : W1.cell? ⟨w.heap.size, 0, none⟩ = some (.int .i64 v.kd) := HV1.out.cell 0
 have cme : W1.cell? ⟨w.heap.size, 1, none⟩ = some (.int .i64 v.me) := HV1.out.cell 1
 have cmo : W1.cell? ⟨w.heap.size, 2, none⟩ = some (.int .i64 v.mo) := HV1.out.cell 2
 have cid : W1.cell? ⟨w.heap.size, 3, none⟩ = some (.int .i64 v.id) := HV1.out.cell 3
 have cte : W1.cell? ⟨w.heap.size, 4, none⟩ = some (.int .i64 v.te) := HV1.out.cell 4
 have cde : W1.cell? ⟨w.heap.size, 5, none⟩ = some (.int .i64 v.de) := HV1.out.cell 5
 have cfe : W1.cell? ⟨w.heap.size, 6, none⟩ = some (.int .i64 v.fe) := HV1.out.cell 6
 have cpr : W1.cell? ⟨w.heap.size, 7, none⟩ = some (.int .i64 v.pr) := HV1.out.cell 7
 have cch : W1.cell? ⟨w.heap.size, 8, none⟩ = some (.int .i64 v.ch) := HV1.out.cell 8
 have cun : W1.cell? ⟨w.heap.size, 9, none⟩ = some (.int .i64 v.un) := HV1.out.cell 9
 have ctg : W1.cell? ⟨w.heap.size, 10, none⟩ = some (.int .i64 v.tg) := HV1.out.cell 10
 have cow : W1.cell? ⟨w.heap.size, 11, none⟩ = some (.int .i64 v.ow) := HV1.out.cell 11
 have cbp : W1.cell? ⟨w.heap.size, 12, none⟩ = some (.int .i64 v.bp) := HV1.out.cell 12
 have bid : W1.cell? ⟨gb, 0, none⟩ = some (.int .i64 v.id) := HBB.out.cell 0
 have bte : W1.cell? ⟨gb, 1, none⟩ = some (.int .i64 v.te) := HBB.out.cell 1
 have bde : W1.cell? ⟨gb, 2, none⟩ = some (.int .i64 v.de) := HBB.out.cell 2
 have bfe : W1.cell? ⟨gb, 3, none⟩ = some (.int .i64 v.fe) := HBB.out.cell 3
 have bpr : W1.cell? ⟨gb, 4, none⟩ = some (.int .i64 v.pr) := HBB.out.cell 4
 have bch : W1.cell? ⟨gb, 5, none⟩ = some (.int .i64 v.ch) := HBB.out.cell 5
 have bun : W1.cell? ⟨gb, 6, none⟩ = some (.int .i64 v.un) := HBB.out.cell 6
 clear HV1 HBB
 by_cases hme : 0 ≤ v.me ∧ v.me ≤ 49
 ·skip
  rw [decide_eq_true hme] at HIme
  go_wp2_with fail
  refine (HIme.out _).mono ?_
  rintro e wz ⟨rfl, hwz⟩
  subst wz
  clear HIme
  by_cases hk1 : v.kd = 1
  ·have n1 : (v.kd == 1) = true := by simpa using hk1
   have Pk1 : Hid (v.kd = 1) := hk1
   clear hk1
   rcases Bool.eq_false_or_eq_true (qrB v) with hqr | hqr
   ·skip
    have pqr := qrB_iff v
    rw [hqr] at pqr
    have qr : ∀ wz : World, (Op.equalIn 10000 71 (.agg #[.int .i64 v.kd, .int .i64 v.me, .int .i64 v.mo, .int .i64 v.id, .int .i64 v.te, .int .i64 v.de, .int .i64 v.fe, .int .i64 v.pr, .int .i64 v.ch, .int .i64 v.un, .int .i64 v.tg, .int .i64 v.ow, .int .i64 v.bp]) (.agg #[.int .i64 1, .int .i64 v.me, .int .i64 0, .int .i64 0, .int .i64 0, .int .i64 0, .int .i64 0, .int .i64 0, .int .i64 0, .int .i64 0, .int .i64 0, .int .i64 0, .int .i64 0])).run Tryz.prog wz = .ok true wz := fun wz => (Hqr.out wz).trans (congrArg (fun b => Result.ok b wz) hqr)
    clear Hqr
    have Pqr : Hid ((v.kd = 1 ∧ v.me = v.me ∧ v.mo = 0 ∧ v.id = 0 ∧ v.te = 0 ∧ v.de = 0 ∧ v.fe = 0 ∧ v.pr = 0 ∧ v.ch = 0 ∧ v.un = 0 ∧ v.tg = 0 ∧ v.ow = 0 ∧ v.bp = 0)) := pqr.1 rfl
    clear hqr pqr
    have HV : Hid (Says true v) := by
     show (true = true) ↔ _
     have zk1 := Pk1.out
     have zqr := Pqr.out
     simp only [true_iff]
     unfold EMay
     first | omega | (constructor <;> intro hh <;> first | omega | (exfalso; omega) | cases hh)
    go_wp2_with (first | (refine wp_eqE (by rfl) 71 _ _ _ rfl #[.int .i64 v.kd, .int .i64 v.me, .int .i64 v.mo, .int .i64 v.id, .int .i64 v.te, .int .i64 v.de, .int .i64 v.fe, .int .i64 v.pr, .int .i64 v.ch, .int .i64 v.un, .int .i64 v.tg, .int .i64 v.ow, .int .i64 v.bp] #[.int .i64 1, .int .i64 v.me, .int .i64 0, .int .i64 0, .int .i64 0, .int .i64 0, .int .i64 0, .int .i64 0, .int .i64 0, .int .i64 0, .int .i64 0, .int .i64 0, .int .i64 0] rfl rfl (by kernel_rfl) true (qr _) _ rfl ?_) | fail)
    all_goals first
     | (rename_i q1 q2; exact absurd q1 (by simp [undef]))
     | (go_ret; exact ⟨_, rfl, HV.out, HB1.out⟩)
   ·skip
    have pqr := qrB_iff v
    rw [hqr] at pqr
    have qr : ∀ wz : World, (Op.equalIn 10000 71 (.agg #[.int .i64 v.kd, .int .i64 v.me, .int .i64 v.mo, .int .i64 v.id, .int .i64 v.te, .int .i64 v.de, .int .i64 v.fe, .int .i64 v.pr, .int .i64 v.ch, .int .i64 v.un, .int .i64 v.tg, .int .i64 v.ow, .int .i64 v.bp]) (.agg #[.int .i64 1, .int .i64 v.me, .int .i64 0, .int .i64 0, .int .i64 0, .int .i64 0, .int .i64 0, .int .i64 0, .int .i64 0, .int .i64 0, .int .i64 0, .int .i64 0, .int .i64 0])).run Tryz.prog wz = .ok false wz := fun wz => (Hqr.out wz).trans (congrArg (fun b => Result.ok b wz) hqr)
    clear Hqr
    have Pqr : Hid (¬ (v.kd = 1 ∧ v.me = v.me ∧ v.mo = 0 ∧ v.id = 0 ∧ v.te = 0 ∧ v.de = 0 ∧ v.fe = 0 ∧ v.pr = 0 ∧ v.ch = 0 ∧ v.un = 0 ∧ v.tg = 0 ∧ v.ow = 0 ∧ v.bp = 0)) := fun hq => absurd (pqr.2 hq) (by decide)
    clear hqr pqr
    have HV : Hid (Says false v) := by
     show (false = true) ↔ _
     have zk1 := Pk1.out
     have zqr := Pqr.out
     simp only [Bool.false_eq_true, false_iff]
     unfold EMay
     first | omega | (constructor <;> intro hh <;> first | omega | (exfalso; omega) | cases hh)
    go_wp2_with (first | (refine wp_eqE (by rfl) 71 _ _ _ rfl #[.int .i64 v.kd, .int .i64 v.me, .int .i64 v.mo, .int .i64 v.id, .int .i64 v.te, .int .i64 v.de, .int .i64 v.fe, .int .i64 v.pr, .int .i64 v.ch, .int .i64 v.un, .int .i64 v.tg, .int .i64 v.ow, .int .i64 v.bp] #[.int .i64 1, .int .i64 v.me, .int .i64 0, .int .i64 0, .int .i64 0, .int .i64 0, .int .i64 0, .int .i64 0, .int .i64 0, .int .i64 0, .int .i64 0, .int .i64 0, .int .i64 0] rfl rfl (by kernel_rfl) false (qr _) _ rfl ?_) | fail)
    all_goals first
     | (rename_i q1 q2; exact absurd q1 (by simp [undef]))
     | (go_ret; exact ⟨_, rfl, HV.out, HB1.out⟩)
  ·have n1 : (v.kd == 1) = false := by simpa using hk1
   have Pk1 : Hid (v.kd ≠ 1) := hk1
   clear hk1
   by_cases hk5 : v.kd = 5
   ·have n5 : (v.kd == 5) = true := by simpa using hk5
    have Pk5 : Hid (v.kd = 5) := hk5
    clear hk5
    rcases Bool.eq_false_or_eq_true (qcB v) with hqc | hqc
    ·skip
     have pqc := qcB_iff v
     rw [hqc] at pqc
     have qc : ∀ wz : World, (Op.equalIn 10000 71 (.agg #[.int .i64 v.kd, .int .i64 v.me, .int .i64 v.mo, .int .i64 v.id, .int .i64 v.te, .int .i64 v.de, .int .i64 v.fe, .int .i64 v.pr, .int .i64 v.ch, .int .i64 v.un, .int .i64 v.tg, .int .i64 v.ow, .int .i64 v.bp]) (.agg #[.int .i64 5, .int .i64 v.me, .int .i64 0, .int .i64 0, .int .i64 0, .int .i64 0, .int .i64 0, .int .i64 0, .int .i64 0, .int .i64 0, .int .i64 0, .int .i64 v.ow, .int .i64 v.bp])).run Tryz.prog wz = .ok true wz := fun wz => (Hqc.out wz).trans (congrArg (fun b => Result.ok b wz) hqc)
     clear Hqc
     have Pqc : Hid ((v.kd = 5 ∧ v.me = v.me ∧ v.mo = 0 ∧ v.id = 0 ∧ v.te = 0 ∧ v.de = 0 ∧ v.fe = 0 ∧ v.pr = 0 ∧ v.ch = 0 ∧ v.un = 0 ∧ v.tg = 0 ∧ v.ow = v.ow ∧ v.bp = v.bp)) := pqc.1 rfl
     clear hqc pqc
     by_cases how : 1 ≤ v.ow ∧ v.ow ≤ 1000000000
     ·skip
      rw [decide_eq_true how] at HIow
      go_wp2_with (first | (refine wp_eqE (by rfl) 71 _ _ _ rfl #[.int .i64 v.kd, .int .i64 v.me, .int .i64 v.mo, .int .i64 v.id, .int .i64 v.te, .int .i64 v.de, .int .i64 v.fe, .int .i64 v.pr, .int .i64 v.ch, .int .i64 v.un, .int .i64 v.tg, .int .i64 v.ow, .int .i64 v.bp] #[.int .i64 5, .int .i64 v.me, .int .i64 0, .int .i64 0, .int .i64 0, .int .i64 0, .int .i64 0, .int .i64 0, .int .i64 0, .int .i64 0, .int .i64 0, .int .i64 v.ow, .int .i64 v.bp] rfl rfl (by kernel_rfl) true (qc _) _ rfl ?_) | fail)
      refine (HIow.out _).mono ?_
      rintro e wz ⟨rfl, hwz⟩
      subst wz
      clear HIow
      by_cases hbp : 0 ≤ v.bp ∧ v.bp ≤ 10000
      ·skip
       rw [decide_eq_true hbp] at HIbp
       go_wp2_with (first | (refine wp_eqE (by rfl) 71 _ _ _ rfl #[.int .i64 v.kd, .int .i64 v.me, .int .i64 v.mo, .int .i64 v.id, .int .i64 v.te, .int .i64 v.de, .int .i64 v.fe, .int .i64 v.pr, .int .i64 v.ch, .int .i64 v.un, .int .i64 v.tg, .int .i64 v.ow, .int .i64 v.bp] #[.int .i64 5, .int .i64 v.me, .int .i64 0, .int .i64 0, .int .i64 0, .int .i64 0, .int .i64 0, .int .i64 0, .int .i64 0, .int .i64 0, .int .i64 0, .int .i64 v.ow, .int .i64 v.bp] rfl rfl (by kernel_rfl) true (qc _) _ rfl ?_) | fail)
       refine (HIbp.out _).mono ?_
       rintro e wz ⟨rfl, hwz⟩
       subst wz
       clear HIbp
       have HV : Hid (Says true v) := by
        show (true = true) ↔ _
        have zk1 := Pk1.out
        have zk5 := Pk5.out
        have zqc := Pqc.out
        simp only [true_iff]
        unfold EMay
        first | omega | (constructor <;> intro hh <;> first | omega | (exfalso; omega) | cases hh)
       go_wp2_with (first | (refine wp_eqE (by rfl) 71 _ _ _ rfl #[.int .i64 v.kd, .int .i64 v.me, .int .i64 v.mo, .int .i64 v.id, .int .i64 v.te, .int .i64 v.de, .int .i64 v.fe, .int .i64 v.pr, .int .i64 v.ch, .int .i64 v.un, .int .i64 v.tg, .int .i64 v.ow, .int .i64 v.bp] #[.int .i64 5, .int .i64 v.me, .int .i64 0, .int .i64 0, .int .i64 0, .int .i64 0, .int .i64 0, .int .i64 0, .int .i64 0, .int .i64 0, .int .i64 0, .int .i64 v.ow, .int .i64 v.bp] rfl rfl (by kernel_rfl) true (qc _) _ rfl ?_) | fail)
       all_goals first
        | (rename_i q1 q2; exact absurd q1 (by simp [undef]))
        | (go_ret; exact ⟨_, rfl, HV.out, HB1.out⟩)
      ·skip
       have HV : Hid (Says false v) := by
        show (false = true) ↔ _
        have zk1 := Pk1.out
        have zk5 := Pk5.out
        have zqc := Pqc.out
        simp only [Bool.false_eq_true, false_iff]
        unfold EMay
        first | omega | (constructor <;> intro hh <;> first | omega | (exfalso; omega) | cases hh)
       rw [decide_eq_false hbp] at HIbp
       go_wp2_with (first | (refine wp_eqE (by rfl) 71 _ _ _ rfl #[.int .i64 v.kd, .int .i64 v.me, .int .i64 v.mo, .int .i64 v.id, .int .i64 v.te, .int .i64 v.de, .int .i64 v.fe, .int .i64 v.pr, .int .i64 v.ch, .int .i64 v.un, .int .i64 v.tg, .int .i64 v.ow, .int .i64 v.bp] #[.int .i64 5, .int .i64 v.me, .int .i64 0, .int .i64 0, .int .i64 0, .int .i64 0, .int .i64 0, .int .i64 0, .int .i64 0, .int .i64 0, .int .i64 0, .int .i64 v.ow, .int .i64 v.bp] rfl rfl (by kernel_rfl) true (qc _) _ rfl ?_) | fail)
       refine (HIbp.out _).mono ?_
       rintro e wz ⟨rfl, hwz⟩
       subst wz
       clear HIbp
       go_wp2_with (first | (refine wp_eqE (by rfl) 71 _ _ _ rfl #[.int .i64 v.kd, .int .i64 v.me, .int .i64 v.mo, .int .i64 v.id, .int .i64 v.te, .int .i64 v.de, .int .i64 v.fe, .int .i64 v.pr, .int .i64 v.ch, .int .i64 v.un, .int .i64 v.tg, .int .i64 v.ow, .int .i64 v.bp] #[.int .i64 5, .int .i64 v.me, .int .i64 0, .int .i64 0, .int .i64 0, .int .i64 0, .int .i64 0, .int .i64 0, .int .i64 0, .int .i64 0, .int .i64 0, .int .i64 v.ow, .int .i64 v.bp] rfl rfl (by kernel_rfl) true (qc _) _ rfl ?_) | fail)
       all_goals first
        | (rename_i q1 q2; exact absurd q1 (by simp [undef]))
        | (go_ret; exact ⟨_, rfl, HV.out, HB1.out⟩)
     ·skip
      have HV : Hid (Says false v) := by
       show (false = true) ↔ _
       have zk1 := Pk1.out
       have zk5 := Pk5.out
       have zqc := Pqc.out
       simp only [Bool.false_eq_true, false_iff]
       unfold EMay
       first | omega | (constructor <;> intro hh <;> first | omega | (exfalso; omega) | cases hh)
      rw [decide_eq_false how] at HIow
      go_wp2_with (first | (refine wp_eqE (by rfl) 71 _ _ _ rfl #[.int .i64 v.kd, .int .i64 v.me, .int .i64 v.mo, .int .i64 v.id, .int .i64 v.te, .int .i64 v.de, .int .i64 v.fe, .int .i64 v.pr, .int .i64 v.ch, .int .i64 v.un, .int .i64 v.tg, .int .i64 v.ow, .int .i64 v.bp] #[.int .i64 5, .int .i64 v.me, .int .i64 0, .int .i64 0, .int .i64 0, .int .i64 0, .int .i64 0, .int .i64 0, .int .i64 0, .int .i64 0, .int .i64 0, .int .i64 v.ow, .int .i64 v.bp] rfl rfl (by kernel_rfl) true (qc _) _ rfl ?_) | fail)
      refine (HIow.out _).mono ?_
      rintro e wz ⟨rfl, hwz⟩
      subst wz
      clear HIow
      go_wp2_with (first | (refine wp_eqE (by rfl) 71 _ _ _ rfl #[.int .i64 v.kd, .int .i64 v.me, .int .i64 v.mo, .int .i64 v.id, .int .i64 v.te, .int .i64 v.de, .int .i64 v.fe, .int .i64 v.pr, .int .i64 v.ch, .int .i64 v.un, .int .i64 v.tg, .int .i64 v.ow, .int .i64 v.bp] #[.int .i64 5, .int .i64 v.me, .int .i64 0, .int .i64 0, .int .i64 0, .int .i64 0, .int .i64 0, .int .i64 0, .int .i64 0, .int .i64 0, .int .i64 0, .int .i64 v.ow, .int .i64 v.bp] rfl rfl (by kernel_rfl) true (qc _) _ rfl ?_) | fail)
      all_goals first
       | (rename_i q1 q2; exact absurd q1 (by simp [undef]))
       | (go_ret; exact ⟨_, rfl, HV.out, HB1.out⟩)
    ·skip
     have pqc := qcB_iff v
     rw [hqc] at pqc
     have qc : ∀ wz : World, (Op.equalIn 10000 71 (.agg #[.int .i64 v.kd, .int .i64 v.me, .int .i64 v.mo, .int .i64 v.id, .int .i64 v.te, .int .i64 v.de, .int .i64 v.fe, .int .i64 v.pr, .int .i64 v.ch, .int .i64 v.un, .int .i64 v.tg, .int .i64 v.ow, .int .i64 v.bp]) (.agg #[.int .i64 5, .int .i64 v.me, .int .i64 0, .int .i64 0, .int .i64 0, .int .i64 0, .int .i64 0, .int .i64 0, .int .i64 0, .int .i64 0, .int .i64 0, .int .i64 v.ow, .int .i64 v.bp])).run Tryz.prog wz = .ok false wz := fun wz => (Hqc.out wz).trans (congrArg (fun b => Result.ok b wz) hqc)
     clear Hqc
     have Pqc : Hid (¬ (v.kd = 5 ∧ v.me = v.me ∧ v.mo = 0 ∧ v.id = 0 ∧ v.te = 0 ∧ v.de = 0 ∧ v.fe = 0 ∧ v.pr = 0 ∧ v.ch = 0 ∧ v.un = 0 ∧ v.tg = 0 ∧ v.ow = v.ow ∧ v.bp = v.bp)) := fun hq => absurd (pqc.2 hq) (by decide)
     clear hqc pqc
     have HV : Hid (Says false v) := by
      show (false = true) ↔ _
      have zk1 := Pk1.out
      have zk5 := Pk5.out
      have zqc := Pqc.out
      simp only [Bool.false_eq_true, false_iff]
      unfold EMay
      first | omega | (constructor <;> intro hh <;> first | omega | (exfalso; omega) | cases hh)
     go_wp2_with (first | (refine wp_eqE (by rfl) 71 _ _ _ rfl #[.int .i64 v.kd, .int .i64 v.me, .int .i64 v.mo, .int .i64 v.id, .int .i64 v.te, .int .i64 v.de, .int .i64 v.fe, .int .i64 v.pr, .int .i64 v.ch, .int .i64 v.un, .int .i64 v.tg, .int .i64 v.ow, .int .i64 v.bp] #[.int .i64 5, .int .i64 v.me, .int .i64 0, .int .i64 0, .int .i64 0, .int .i64 0, .int .i64 0, .int .i64 0, .int .i64 0, .int .i64 0, .int .i64 0, .int .i64 v.ow, .int .i64 v.bp] rfl rfl (by kernel_rfl) false (qc _) _ rfl ?_) | fail)
     all_goals first
      | (rename_i q1 q2; exact absurd q1 (by simp [undef]))
      | (go_ret; exact ⟨_, rfl, HV.out, HB1.out⟩)
   ·have n5 : (v.kd == 5) = false := by simpa using hk5
    have Pk5 : Hid (v.kd ≠ 5) := hk5
    clear hk5
    by_cases hkd : 2 ≤ v.kd ∧ v.kd ≤ 4
    ·skip
     rw [decide_eq_true hkd] at HIkd
     go_wp2_with fail
     refine (HIkd.out _).mono ?_
     rintro e wz ⟨rfl, hwz⟩
     subst wz
     clear HIkd
     by_cases hid : 1 ≤ v.id ∧ v.id ≤ 1048575
     ·skip
      rw [decide_eq_true hid] at HIid
      go_wp2_with fail
      refine (HIid.out _).mono ?_
      rintro e wz ⟨rfl, hwz⟩
      subst wz
      clear HIid
      by_cases htg : 0 ≤ v.tg ∧ v.tg ≤ 65535
      ·skip
       rw [decide_eq_true htg] at HItg
       go_wp2_with fail
       refine (HItg.out _).mono ?_
       rintro e wz ⟨rfl, hwz⟩
       subst wz
       clear HItg
       rcases Bool.eq_false_or_eq_true (qdB v) with hqd | hqd
       ·skip
        have pqd := qdB_iff v
        rw [hqd] at pqd
        have qd : ∀ wz : World, (Op.equalIn 10000 43 (.agg #[.int .i64 v.ow, .int .i64 v.bp]) (.agg #[.int .i64 0, .int .i64 0])).run Tryz.prog wz = .ok true wz := fun wz => (Hqd.out wz).trans (congrArg (fun b => Result.ok b wz) hqd)
        clear Hqd
        have Pqd : Hid ((v.ow = 0 ∧ v.bp = 0)) := pqd.1 rfl
        clear hqd pqd
        by_cases hk4 : v.kd = 4
        ·have n4 : (v.kd == 4) = true := by simpa using hk4
         have Pk4 : Hid (v.kd = 4) := hk4
         clear hk4
         by_cases hmz : v.mo = 0
         ·have n0 : (v.mo == 0) = true := by simpa using hmz
          have Pm : Hid (v.mo = 0) := hmz
          clear hmz
          rcases Bool.eq_false_or_eq_true (qkB v) with hqk | hqk
          ·skip
           have pqk := qkB_iff v
           rw [hqk] at pqk
           have qk : ∀ wz : World, (Op.equalIn 10000 69 (.agg #[.int .i64 v.id, .int .i64 v.te, .int .i64 v.de, .int .i64 v.fe, .int .i64 v.pr, .int .i64 v.ch, .int .i64 v.un]) (.agg #[.int .i64 v.id, .int .i64 0, .int .i64 0, .int .i64 0, .int .i64 0, .int .i64 0, .int .i64 0])).run Tryz.prog wz = .ok true wz := fun wz => (Hqk.out wz).trans (congrArg (fun b => Result.ok b wz) hqk)
           clear Hqk
           have Pqk : Hid ((v.id = v.id ∧ v.te = 0 ∧ v.de = 0 ∧ v.fe = 0 ∧ v.pr = 0 ∧ v.ch = 0 ∧ v.un = 0)) := pqk.1 rfl
           clear hqk pqk
           have HV : Hid (Says true v) := by
            show (true = true) ↔ _
            have zk1 := Pk1.out
            have zk5 := Pk5.out
            have zqd := Pqd.out
            have zk4 := Pk4.out
            have zm := Pm.out
            have zqk := Pqk.out
            simp only [true_iff]
            unfold EMay
            first | omega | (constructor <;> intro hh <;> first | omega | (exfalso; omega) | cases hh)
           go_wp2_with fail
           all_goals first
            | (rename_i q1 q2; exact absurd q1 (by simp [undef]))
            | (go_ret; exact ⟨_, rfl, HV.out, HB1.out⟩)
          ·skip
           have pqk := qkB_iff v
           rw [hqk] at pqk
           have qk : ∀ wz : World, (Op.equalIn 10000 69 (.agg #[.int .i64 v.id, .int .i64 v.te, .int .i64 v.de, .int .i64 v.fe, .int .i64 v.pr, .int .i64 v.ch, .int .i64 v.un]) (.agg #[.int .i64 v.id, .int .i64 0, .int .i64 0, .int .i64 0, .int .i64 0, .int .i64 0, .int .i64 0])).run Tryz.prog wz = .ok false wz := fun wz => (Hqk.out wz).trans (congrArg (fun b => Result.ok b wz) hqk)
           clear Hqk
           have Pqk : Hid (¬ (v.id = v.id ∧ v.te = 0 ∧ v.de = 0 ∧ v.fe = 0 ∧ v.pr = 0 ∧ v.ch = 0 ∧ v.un = 0)) := fun hq => absurd (pqk.2 hq) (by decide)
           clear hqk pqk
           have HV : Hid (Says false v) := by
            show (false = true) ↔ _
            have zk1 := Pk1.out
            have zk5 := Pk5.out
            have zqd := Pqd.out
            have zk4 := Pk4.out
            have zm := Pm.out
            have zqk := Pqk.out
            simp only [Bool.false_eq_true, false_iff]
            unfold EMay
            first | omega | (constructor <;> intro hh <;> first | omega | (exfalso; omega) | cases hh)
           go_wp2_with fail
           all_goals first
            | (rename_i q1 q2; exact absurd q1 (by simp [undef]))
            | (go_ret; exact ⟨_, rfl, HV.out, HB1.out⟩)
         ·have n0 : (v.mo == 0) = false := by simpa using hmz
          have HV : Hid (Says false v) := by
           show (false = true) ↔ _
           have zk1 := Pk1.out
           have zk5 := Pk5.out
           have zqd := Pqd.out
           have zk4 := Pk4.out
           simp only [Bool.false_eq_true, false_iff]
           unfold EMay
           first | omega | (constructor <;> intro hh <;> first | omega | (exfalso; omega) | cases hh)
          go_wp2_with fail
          all_goals first
           | (rename_i q1 q2; exact absurd q1 (by simp [undef]))
           | (go_ret; exact ⟨_, rfl, HV.out, HB1.out⟩)
        ·have n4 : (v.kd == 4) = false := by simpa using hk4
         have Pk4 : Hid (v.kd ≠ 4) := hk4
         clear hk4
         by_cases hmo : 0 ≤ v.mo ∧ v.mo ≤ 2399
         ·skip
          rw [decide_eq_true hmo] at HImo
          go_wp2_with fail
          refine (HImo.out _).mono ?_
          rintro e wz ⟨rfl, hwz⟩
          subst wz
          clear HImo
          by_cases hun : 1 ≤ v.un ∧ v.un ≤ 2097151
          ·skip
           rw [decide_eq_true hun] at HIun
           go_wp2_with fail
           refine (HIun.out _).mono ?_
           rintro e wz ⟨rfl, hwz⟩
           subst wz
           clear HIun
           by_cases hk3 : v.kd = 3
           ·have n3 : (v.kd == 3) = true := by simpa using hk3
            have Pk3 : Hid (v.kd = 3) := hk3
            clear hk3
            rcases Bool.eq_false_or_eq_true (qgB v) with hqg | hqg
            ·skip
             have pqg := qgB_iff v
             rw [hqg] at pqg
             have qg : ∀ wz : World, (Op.equalIn 10000 69 (.agg #[.int .i64 v.id, .int .i64 v.te, .int .i64 v.de, .int .i64 v.fe, .int .i64 v.pr, .int .i64 v.ch, .int .i64 v.un]) (.agg #[.int .i64 v.id, .int .i64 0, .int .i64 0, .int .i64 0, .int .i64 0, .int .i64 0, .int .i64 v.un])).run Tryz.prog wz = .ok true wz := fun wz => (Hqg.out wz).trans (congrArg (fun b => Result.ok b wz) hqg)
             clear Hqg
             have Pqg : Hid ((v.id = v.id ∧ v.te = 0 ∧ v.de = 0 ∧ v.fe = 0 ∧ v.pr = 0 ∧ v.ch = 0 ∧ v.un = v.un)) := pqg.1 rfl
             clear hqg pqg
             have HV : Hid (Says true v) := by
              show (true = true) ↔ _
              have zk1 := Pk1.out
              have zk5 := Pk5.out
              have zqd := Pqd.out
              have zk4 := Pk4.out
              have zk3 := Pk3.out
              have zqg := Pqg.out
              simp only [true_iff]
              unfold EMay
              first | omega | (constructor <;> intro hh <;> first | omega | (exfalso; omega) | cases hh)
             go_wp2_with fail
             all_goals first
              | (rename_i q1 q2; exact absurd q1 (by simp [undef]))
              | (go_ret; exact ⟨_, rfl, HV.out, HB1.out⟩)
            ·skip
             have pqg := qgB_iff v
             rw [hqg] at pqg
             have qg : ∀ wz : World, (Op.equalIn 10000 69 (.agg #[.int .i64 v.id, .int .i64 v.te, .int .i64 v.de, .int .i64 v.fe, .int .i64 v.pr, .int .i64 v.ch, .int .i64 v.un]) (.agg #[.int .i64 v.id, .int .i64 0, .int .i64 0, .int .i64 0, .int .i64 0, .int .i64 0, .int .i64 v.un])).run Tryz.prog wz = .ok false wz := fun wz => (Hqg.out wz).trans (congrArg (fun b => Result.ok b wz) hqg)
             clear Hqg
             have Pqg : Hid (¬ (v.id = v.id ∧ v.te = 0 ∧ v.de = 0 ∧ v.fe = 0 ∧ v.pr = 0 ∧ v.ch = 0 ∧ v.un = v.un)) := fun hq => absurd (pqg.2 hq) (by decide)
             clear hqg pqg
             have HV : Hid (Says false v) := by
              show (false = true) ↔ _
              have zk1 := Pk1.out
              have zk5 := Pk5.out
              have zqd := Pqd.out
              have zk4 := Pk4.out
              have zk3 := Pk3.out
              have zqg := Pqg.out
              simp only [Bool.false_eq_true, false_iff]
              unfold EMay
              first | omega | (constructor <;> intro hh <;> first | omega | (exfalso; omega) | cases hh)
             go_wp2_with fail
             all_goals first
              | (rename_i q1 q2; exact absurd q1 (by simp [undef]))
              | (go_ret; exact ⟨_, rfl, HV.out, HB1.out⟩)
           ·have n3 : (v.kd == 3) = false := by simpa using hk3
            have Pk3 : Hid (v.kd ≠ 3) := hk3
            clear hk3
            by_cases hte : 1 ≤ v.te ∧ v.te ≤ 100000000
            ·skip
             rw [decide_eq_true hte] at HIte
             go_wp2_with fail
             refine (HIte.out _).mono ?_
             rintro e wz ⟨rfl, hwz⟩
             subst wz
             clear HIte
             by_cases hde : 0 ≤ v.de ∧ v.de ≤ v.te
             ·skip
              rw [decide_eq_true hde] at HIde
              go_wp2_with fail
              refine (HIde.out _).mono ?_
              rintro e wz ⟨rfl, hwz⟩
              subst wz
              clear HIde
              by_cases hfe : 0 ≤ v.fe ∧ v.fe ≤ v.te
              ·skip
               rw [decide_eq_true hfe] at HIfe
               go_wp2_with fail
               refine (HIfe.out _).mono ?_
               rintro e wz ⟨rfl, hwz⟩
               subst wz
               clear HIfe
               by_cases hpr : 0 ≤ v.pr ∧ v.pr ≤ v.te
               ·skip
                rw [decide_eq_true hpr] at HIpr
                go_wp2_with fail
                refine (HIpr.out _).mono ?_
                rintro e wz ⟨rfl, hwz⟩
                subst wz
                clear HIpr
                by_cases hch : 0 ≤ v.ch ∧ v.ch ≤ v.te
                ·skip
                 rw [decide_eq_true hch] at HIch
                 go_wp2_with fail
                 refine (HIch.out _).mono ?_
                 rintro e wz ⟨rfl, hwz⟩
                 subst wz
                 clear HIch
                 by_cases hsm : v.de + v.fe + v.pr + v.ch = v.te
                 ·have n9 : (v.de + v.fe + v.pr + v.ch == v.te) = true := by simpa using hsm
                  have HV : Hid (Says true v) := by
                   show (true = true) ↔ _
                   have zk1 := Pk1.out
                   have zk5 := Pk5.out
                   have zqd := Pqd.out
                   have zk4 := Pk4.out
                   have zk3 := Pk3.out
                   simp only [true_iff]
                   unfold EMay
                   first | omega | (constructor <;> intro hh <;> first | omega | (exfalso; omega) | cases hh)
                  clear hsm
                  go_wp2_with fail
                  all_goals first
                   | (rename_i q1 q2; exact absurd q1 (by simp [undef]))
                   | (go_ret; exact ⟨_, rfl, HV.out, HB1.out⟩)
                 ·have n9 : (v.de + v.fe + v.pr + v.ch == v.te) = false := by simpa using hsm
                  have HV : Hid (Says false v) := by
                   show (false = true) ↔ _
                   have zk1 := Pk1.out
                   have zk5 := Pk5.out
                   have zqd := Pqd.out
                   have zk4 := Pk4.out
                   have zk3 := Pk3.out
                   simp only [Bool.false_eq_true, false_iff]
                   unfold EMay
                   first | omega | (constructor <;> intro hh <;> first | omega | (exfalso; omega) | cases hh)
                  clear hsm
                  go_wp2_with fail
                  all_goals first
                   | (rename_i q1 q2; exact absurd q1 (by simp [undef]))
                   | (go_ret; exact ⟨_, rfl, HV.out, HB1.out⟩)
                ·skip
                 have HV : Hid (Says false v) := by
                  show (false = true) ↔ _
                  have zk1 := Pk1.out
                  have zk5 := Pk5.out
                  have zqd := Pqd.out
                  have zk4 := Pk4.out
                  have zk3 := Pk3.out
                  simp only [Bool.false_eq_true, false_iff]
                  unfold EMay
                  first | omega | (constructor <;> intro hh <;> first | omega | (exfalso; omega) | cases hh)
                 rw [decide_eq_false hch] at HIch
                 go_wp2_with fail
                 refine (HIch.out _).mono ?_
                 rintro e wz ⟨rfl, hwz⟩
                 subst wz
                 clear HIch
                 go_wp2_with fail
                 all_goals first
                  | (rename_i q1 q2; exact absurd q1 (by simp [undef]))
                  | (go_ret; exact ⟨_, rfl, HV.out, HB1.out⟩)
               ·skip
                have HV : Hid (Says false v) := by
                 show (false = true) ↔ _
                 have zk1 := Pk1.out
                 have zk5 := Pk5.out
                 have zqd := Pqd.out
                 have zk4 := Pk4.out
                 have zk3 := Pk3.out
                 simp only [Bool.false_eq_true, false_iff]
                 unfold EMay
                 first | omega | (constructor <;> intro hh <;> first | omega | (exfalso; omega) | cases hh)
                rw [decide_eq_false hpr] at HIpr
                go_wp2_with fail
                refine (HIpr.out _).mono ?_
                rintro e wz ⟨rfl, hwz⟩
                subst wz
                clear HIpr
                go_wp2_with fail
                all_goals first
                 | (rename_i q1 q2; exact absurd q1 (by simp [undef]))
                 | (go_ret; exact ⟨_, rfl, HV.out, HB1.out⟩)
              ·skip
               have HV : Hid (Says false v) := by
                show (false = true) ↔ _
                have zk1 := Pk1.out
                have zk5 := Pk5.out
                have zqd := Pqd.out
                have zk4 := Pk4.out
                have zk3 := Pk3.out
                simp only [Bool.false_eq_true, false_iff]
                unfold EMay
                first | omega | (constructor <;> intro hh <;> first | omega | (exfalso; omega) | cases hh)
               rw [decide_eq_false hfe] at HIfe
               go_wp2_with fail
               refine (HIfe.out _).mono ?_
               rintro e wz ⟨rfl, hwz⟩
               subst wz
               clear HIfe
               go_wp2_with fail
               all_goals first
                | (rename_i q1 q2; exact absurd q1 (by simp [undef]))
                | (go_ret; exact ⟨_, rfl, HV.out, HB1.out⟩)
             ·skip
              have HV : Hid (Says false v) := by
               show (false = true) ↔ _
               have zk1 := Pk1.out
               have zk5 := Pk5.out
               have zqd := Pqd.out
               have zk4 := Pk4.out
               have zk3 := Pk3.out
               simp only [Bool.false_eq_true, false_iff]
               unfold EMay
               first | omega | (constructor <;> intro hh <;> first | omega | (exfalso; omega) | cases hh)
              rw [decide_eq_false hde] at HIde
              go_wp2_with fail
              refine (HIde.out _).mono ?_
              rintro e wz ⟨rfl, hwz⟩
              subst wz
              clear HIde
              go_wp2_with fail
              all_goals first
               | (rename_i q1 q2; exact absurd q1 (by simp [undef]))
               | (go_ret; exact ⟨_, rfl, HV.out, HB1.out⟩)
            ·skip
             have HV : Hid (Says false v) := by
              show (false = true) ↔ _
              have zk1 := Pk1.out
              have zk5 := Pk5.out
              have zqd := Pqd.out
              have zk4 := Pk4.out
              have zk3 := Pk3.out
              simp only [Bool.false_eq_true, false_iff]
              unfold EMay
              first | omega | (constructor <;> intro hh <;> first | omega | (exfalso; omega) | cases hh)
             rw [decide_eq_false hte] at HIte
             go_wp2_with fail
             refine (HIte.out _).mono ?_
             rintro e wz ⟨rfl, hwz⟩
             subst wz
             clear HIte
             go_wp2_with fail
             all_goals first
              | (rename_i q1 q2; exact absurd q1 (by simp [undef]))
              | (go_ret; exact ⟨_, rfl, HV.out, HB1.out⟩)
          ·skip
           have HV : Hid (Says false v) := by
            show (false = true) ↔ _
            have zk1 := Pk1.out
            have zk5 := Pk5.out
            have zqd := Pqd.out
            have zk4 := Pk4.out
            simp only [Bool.false_eq_true, false_iff]
            unfold EMay
            first | omega | (constructor <;> intro hh <;> first | omega | (exfalso; omega) | cases hh)
           rw [decide_eq_false hun] at HIun
           go_wp2_with fail
           refine (HIun.out _).mono ?_
           rintro e wz ⟨rfl, hwz⟩
           subst wz
           clear HIun
           go_wp2_with fail
           all_goals first
            | (rename_i q1 q2; exact absurd q1 (by simp [undef]))
            | (go_ret; exact ⟨_, rfl, HV.out, HB1.out⟩)
         ·skip
          have HV : Hid (Says false v) := by
           show (false = true) ↔ _
           have zk1 := Pk1.out
           have zk5 := Pk5.out
           have zqd := Pqd.out
           have zk4 := Pk4.out
           simp only [Bool.false_eq_true, false_iff]
           unfold EMay
           first | omega | (constructor <;> intro hh <;> first | omega | (exfalso; omega) | cases hh)
          rw [decide_eq_false hmo] at HImo
          go_wp2_with fail
          refine (HImo.out _).mono ?_
          rintro e wz ⟨rfl, hwz⟩
          subst wz
          clear HImo
          go_wp2_with fail
          all_goals first
           | (rename_i q1 q2; exact absurd q1 (by simp [undef]))
           | (go_ret; exact ⟨_, rfl, HV.out, HB1.out⟩)
       ·skip
        have pqd := qdB_iff v
        rw [hqd] at pqd
        have qd : ∀ wz : World, (Op.equalIn 10000 43 (.agg #[.int .i64 v.ow, .int .i64 v.bp]) (.agg #[.int .i64 0, .int .i64 0])).run Tryz.prog wz = .ok false wz := fun wz => (Hqd.out wz).trans (congrArg (fun b => Result.ok b wz) hqd)
        clear Hqd
        have Pqd : Hid (¬ (v.ow = 0 ∧ v.bp = 0)) := fun hq => absurd (pqd.2 hq) (by decide)
        clear hqd pqd
        have HV : Hid (Says false v) := by
         show (false = true) ↔ _
         have zk1 := Pk1.out
         have zk5 := Pk5.out
         have zqd := Pqd.out
         simp only [Bool.false_eq_true, false_iff]
         unfold EMay
         first | omega | (constructor <;> intro hh <;> first | omega | (exfalso; omega) | cases hh)
        go_wp2_with fail
        all_goals first
         | (rename_i q1 q2; exact absurd q1 (by simp [undef]))
         | (go_ret; exact ⟨_, rfl, HV.out, HB1.out⟩)
      ·skip
       have HV : Hid (Says false v) := by
        show (false = true) ↔ _
        have zk1 := Pk1.out
        have zk5 := Pk5.out
        simp only [Bool.false_eq_true, false_iff]
        unfold EMay
        first | omega | (constructor <;> intro hh <;> first | omega | (exfalso; omega) | cases hh)
       rw [decide_eq_false htg] at HItg
       go_wp2_with fail
       refine (HItg.out _).mono ?_
       rintro e wz ⟨rfl, hwz⟩
       subst wz
       clear HItg
       go_wp2_with fail
       all_goals first
        | (rename_i q1 q2; exact absurd q1 (by simp [undef]))
        | (go_ret; exact ⟨_, rfl, HV.out, HB1.out⟩)
     ·skip
      have HV : Hid (Says false v) := by
       show (false = true) ↔ _
       have zk1 := Pk1.out
       have zk5 := Pk5.out
       simp only [Bool.false_eq_true, false_iff]
       unfold EMay
       first | omega | (constructor <;> intro hh <;> first | omega | (exfalso; omega) | cases hh)
      rw [decide_eq_false hid] at HIid
      go_wp2_with fail
      refine (HIid.out _).mono ?_
      rintro e wz ⟨rfl, hwz⟩
      subst wz
      clear HIid
      go_wp2_with fail
      all_goals first
       | (rename_i q1 q2; exact absurd q1 (by simp [undef]))
       | (go_ret; exact ⟨_, rfl, HV.out, HB1.out⟩)
    ·skip
     have HV : Hid (Says false v) := by
      show (false = true) ↔ _
      have zk1 := Pk1.out
      have zk5 := Pk5.out
      simp only [Bool.false_eq_true, false_iff]
      unfold EMay
      first | omega | (constructor <;> intro hh <;> first | omega | (exfalso; omega) | cases hh)
     rw [decide_eq_false hkd] at HIkd
     go_wp2_with fail
     refine (HIkd.out _).mono ?_
     rintro e wz ⟨rfl, hwz⟩
     subst wz
     clear HIkd
     go_wp2_with fail
     all_goals first
      | (rename_i q1 q2; exact absurd q1 (by simp [undef]))
      | (go_ret; exact ⟨_, rfl, HV.out, HB1.out⟩)
 ·skip
  have HV : Hid (Says false v) := by
   show (false = true) ↔ _
   simp only [Bool.false_eq_true, false_iff]
   unfold EMay
   first | omega | (constructor <;> intro hh <;> first | omega | (exfalso; omega) | cases hh)
  rw [decide_eq_false hme] at HIme
  go_wp2_with fail
  refine (HIme.out _).mono ?_
  rintro e wz ⟨rfl, hwz⟩
  subst wz
  clear HIme
  go_wp2_with fail
  all_goals first
   | (rename_i q1 q2; exact absurd q1 (by simp [undef]))
   | (go_ret; exact ⟨_, rfl, HV.out, HB1.out⟩)
end book
end Go.Proofs.YtomibnggmhjdfaaGreat
