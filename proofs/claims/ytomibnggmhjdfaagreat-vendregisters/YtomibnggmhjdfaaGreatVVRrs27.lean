import Derived.Test.YtomibnggmhjdfaaGreatVVRrs26
set_option linter.unusedVariables false
set_option linter.unusedSimpArgs false
namespace Go.Proofs.YtomibnggmhjdfaaGreat
namespace book
open Go.RowKit
set_option maxRecDepth 100000
def refV (f : Int) : Value := .iface 127 (.agg #[.int .i64 f])
def thrown (f : Int) : List PanicEntry := [{ v := refV f, recovered := false }]
theorem insist_ok (w : World) : Calls Tryz.prog 87 #[.int .i64 0] w fun e w' => e = .returned (.tuple #[]) ∧ w' = w := by
 go_enter Tryz.func87, Tryz.ntmps87
 go_wp2
 go_end0
 exact ⟨rfl, rfl⟩
theorem insist_no (f : Int) (hf : f ≠ 0) (w : World) : Calls Tryz.prog 87 #[.int .i64 f] w fun e w' => e = .panicked (thrown f) ∧ w' = w := by
 have nf : (f != 0) = true := by simpa using hf
 clear hf
 go_enter Tryz.func87, Tryz.ntmps87
 go_wp2
 exact ⟨rfl, rfl, rfl⟩
theorem reason_nil (w : World) : Calls Tryz.prog 53 #[.nilIface] w fun e w' => e = .returned (.int .i64 0) ∧ w' = w := by
 have hq : ∀ w : World, (binOp BinOp.eql 20 .nilIface .nilIface).run Tryz.prog w = .ok (.bool true) w := fun _ => by kernel_rfl
 go_enter Tryz.func53, Tryz.ntmps53
 go_wp2
 go_ret
 exact ⟨rfl, rfl⟩
theorem reason_is (f : Int) (w : World) : Calls Tryz.prog 53 #[refV f] w fun e w' => e = .returned (.int .i64 f) ∧ Below w.heap.size w w' := by
 have hq : ∀ w : World, (binOp BinOp.eql 20 (refV f) .nilIface).run Tryz.prog w = .ok (.bool false) w := fun _ => by kernel_rfl
 have h1 : ∀ w : World, (Instr.typeAssert (refV f) 20 125 false).run Tryz.prog w = .ok (refV f) w := fun _ => by kernel_rfl
 have h2 : ∀ w : World, (Instr.typeAssert (refV f) 125 127 true).run Tryz.prog w = .ok (.tuple #[.agg #[.int .i64 f], .bool true]) w := fun _ => by kernel_rfl
 have HB : Hid (Below w.heap.size w (w.alloc (.cells #[.int .i64 f] 127))) := (Below.refl _ _).alloc (Nat.le_refl _) _
 unfold refV at *
 go_enter Tryz.func53, Tryz.ntmps53
 go_wp2
 go_ret
 exact ⟨rfl, HB.out⟩
set_option maxHeartbeats 1000000 in
theorem encode_caught (g : Nat) (f0 f : Int) (w : World) (hb : Blk w g #[.int .i64 f0] 30) :
  CallsD Tryz.prog 62 #[.pointer (some ⟨g, 0, none⟩)] (.panicking (thrown f)) w fun e u' w' => e = .returned (.tuple #[]) ∧ settle u' = .returning ∧ ∃ W, Below w.heap.size w W ∧ Upd W w' g #[.int .i64 f] 30 := by
 refine callsD_of_wpS Tryz.func62 rfl fun c₀ cs hu => ?_
 apply wpS_region
 simp only [thrown] at hu
 simp [wpOpsS, go_sem, recoverD, hu, Tryz.ntmps62, Exit.thenS]
 refine (reason_is f w).mono ?_
 rintro e w1 ⟨rfl, hb1⟩
 have hB := hb.next hb1
 have hc : w1.cell? ⟨g, 0, none⟩ = some (.int .i64 f0) := hB.cell 0
 have hz : w1.frozen? ⟨g, 0, none⟩ = false := hB.free 0
 have hU : Upd w1 (w1.setCell ⟨g, 0, none⟩ (.int .i64 f)) g #[.int .i64 f] 30 := upd_cells g _ [.int .i64 f] 0 w1 _ hB
 simp [go_sem, hc, hz, bodyPostS, results, Tryz.results62, settle]
 exact ⟨w1, hb1, hU⟩
set_option maxHeartbeats 1000000 in
theorem encode_idle (g : Nat) (f0 : Int) (w : World) (hb : Blk w g #[.int .i64 f0] 30) :
  CallsD Tryz.prog 62 #[.pointer (some ⟨g, 0, none⟩)] .returning w fun e u' w' => e = .returned (.tuple #[]) ∧ settle u' = .returning ∧ ∃ W, Below w.heap.size w W ∧ Upd W w' g #[.int .i64 0] 30 := by
 refine callsD_of_wpS Tryz.func62 rfl fun c₀ cs hu => ?_
 apply wpS_region
 simp [wpOpsS, go_sem, recoverD, hu, Tryz.ntmps62, Exit.thenS]
 refine (reason_nil w).mono ?_
 rintro e w1 ⟨rfl, rfl⟩
 have hc : w1.cell? ⟨g, 0, none⟩ = some (.int .i64 f0) := hb.cell 0
 have hz : w1.frozen? ⟨g, 0, none⟩ = false := hb.free 0
 have hU : Upd w1 (w1.setCell ⟨g, 0, none⟩ (.int .i64 0)) g #[.int .i64 0] 30 := upd_cells g _ [.int .i64 0] 0 w1 _ hb
 simp [go_sem, hc, hz, bodyPostS, results, Tryz.results62, hu, settle]
 exact ⟨.returning, (by cases c₀; simp_all), rfl, w1, Below.refl _ _, hU⟩
set_option maxHeartbeats 1000000 in
theorem decode_caught (g : Nat) (f0 f : Int) (w : World) (hb : Blk w g #[.int .i64 f0] 30) :
  CallsD Tryz.prog 73 #[.pointer (some ⟨g, 0, none⟩)] (.panicking (thrown f)) w fun e u' w' => e = .returned (.tuple #[]) ∧ settle u' = .returning ∧ ∃ W, Below w.heap.size w W ∧ Upd W w' g #[.int .i64 f] 30 := by
 refine callsD_of_wpS Tryz.func73 rfl fun c₀ cs hu => ?_
 apply wpS_region
 simp only [thrown] at hu
 simp [wpOpsS, go_sem, recoverD, hu, Tryz.ntmps73, Exit.thenS]
 refine (reason_is f w).mono ?_
 rintro e w1 ⟨rfl, hb1⟩
 have hB := hb.next hb1
 have hc : w1.cell? ⟨g, 0, none⟩ = some (.int .i64 f0) := hB.cell 0
 have hz : w1.frozen? ⟨g, 0, none⟩ = false := hB.free 0
 have hU : Upd w1 (w1.setCell ⟨g, 0, none⟩ (.int .i64 f)) g #[.int .i64 f] 30 := upd_cells g _ [.int .i64 f] 0 w1 _ hB
 simp [go_sem, hc, hz, bodyPostS, results, Tryz.results73, settle]
 exact ⟨w1, hb1, hU⟩
set_option maxHeartbeats 1000000 in
theorem decode_idle (g : Nat) (f0 : Int) (w : World) (hb : Blk w g #[.int .i64 f0] 30) :
  CallsD Tryz.prog 73 #[.pointer (some ⟨g, 0, none⟩)] .returning w fun e u' w' => e = .returned (.tuple #[]) ∧ settle u' = .returning ∧ ∃ W, Below w.heap.size w W ∧ Upd W w' g #[.int .i64 0] 30 := by
 refine callsD_of_wpS Tryz.func73 rfl fun c₀ cs hu => ?_
 apply wpS_region
 simp [wpOpsS, go_sem, recoverD, hu, Tryz.ntmps73, Exit.thenS]
 refine (reason_nil w).mono ?_
 rintro e w1 ⟨rfl, rfl⟩
 have hc : w1.cell? ⟨g, 0, none⟩ = some (.int .i64 f0) := hb.cell 0
 have hz : w1.frozen? ⟨g, 0, none⟩ = false := hb.free 0
 have hU : Upd w1 (w1.setCell ⟨g, 0, none⟩ (.int .i64 0)) g #[.int .i64 0] 30 := upd_cells g _ [.int .i64 0] 0 w1 _ hb
 simp [go_sem, hc, hz, bodyPostS, results, Tryz.results73, hu, settle]
 exact ⟨.returning, (by cases c₀; simp_all), rfl, w1, Below.refl _ _, hU⟩
end book
section
open Go.RowKit
theorem run_neOp {P : Program} {o : Oper} {a : Act} {w : World} (ty rt : TypeId) (x y : Operand) (ho : o.op = .binOp .neq ty x y rt) (ca cb : Array Value) (hx : a.eval x = .agg ca) (hy : a.eval y = .agg cb) (hg : P.eqGuardType P.depth ty = false) (b : Bool)
  (hr : (Op.equalIn 10000 ty (.agg ca) (.agg cb)).run P w = .ok b w) : (execOp a.eval o).run P w = .ok (.value (.bool (!b))) w := by
 have hr' : (Op.equal ty (.agg ca) (.agg cb)).run P w = .ok b w := hr
 unfold execOp
 simp only [ho, hx, hy]
 have hp : ∀ w' : World, (program : Sem Program).run P w' = .ok P w' := fun _ => rfl
 simp [eqGuard, hg, binOp, hr', hp, Sem.run_bind]
theorem wp_neE {P : Program} {ops : Array Oper} {rest : List Oper} {o : Oper} {a : Act} {w : World} {Q : Exit → Act → World → Prop} (hw : Region.wanted o (yielded ops a.tmps) = true) (ty rt : TypeId) (x y : Operand) (ho : o.op = .binOp .neq ty x y rt) (ca cb : Array Value) (hx : a.eval x = .agg ca) (hy : a.eval y = .agg cb) (hg : P.eqGuardType P.depth ty = false) (b : Bool)
  (hr : (Op.equalIn 10000 ty (.agg ca) (.agg cb)).run P w = .ok b w) (d : Nat) (hd : o.dst = some d) (h : wpList P ops Q rest (a.put (some d) (.bool (!b))) w) : wpList P ops Q (o :: rest) a w :=
 wpList_step fun K hK => by
  rw [if_pos hw]
  exact wp_runOp d hd (run_neOp ty rt x y ho ca cb hx hy hg b hr) (hK _ _ h)
end
namespace book
open Go.RowKit
set_option maxRecDepth 100000
def MustPost (w : World) (v : Ev) (e : Ending) (w' : World) : Prop := ((EMay v ∧ e = .returned (.tuple #[])) ∨ (¬ EMay v ∧ e = .panicked (thrown 5))) ∧ Below w.heap.size w w'
theorem eqEv_any (a b : Ev) (w : World) : ∃ B, (Op.equalIn 10000 71 (.agg a.cs) (.agg b.cs)).run Tryz.prog w = .ok B w ∧ (B = true ↔ a = b) := by
 obtain ⟨a0, a1, a2, a3, a4, a5, a6, a7, a8, a9, a10, a11, a12⟩ := a
 obtain ⟨b0, b1, b2, b3, b4, b5, b6, b7, b8, b9, b10, b11, b12⟩ := b
 refine ⟨_, eqEv 9997 a0 a1 a2 a3 a4 a5 a6 a7 a8 a9 a10 a11 a12 b0 b1 b2 b3 b4 b5 b6 b7 b8 b9 b10 b11 b12 w, ?_⟩
 rw [decide_eq_true_iff]
 constructor
 ·rintro ⟨rfl, rfl, rfl, rfl, rfl, rfl, rfl, rfl, rfl, rfl, rfl, rfl, rfl⟩; rfl
 ·intro h; cases h; exact ⟨rfl, rfl, rfl, rfl, rfl, rfl, rfl, rfl, rfl, rfl, rfl, rfl, rfl⟩
set_option maxHeartbeats 4000000 in
theorem bmust (v : Ev) (w : World) : Calls Tryz.prog 63 #[.agg #[.int .i64 v.kd, .int .i64 v.me, .int .i64 v.mo, .int .i64 v.id, .int .i64 v.te, .int .i64 v.de, .int .i64 v.fe, .int .i64 v.pr, .int .i64 v.ch, .int .i64 v.un, .int .i64 v.tg, .int .i64 v.ow, .int .i64 v.bp]] w fun e w' => MustPost w v e w' := by
 have HMI : Hid (EMay v ↔ (0 ≤ v.me ∧ v.me ≤ 49) ∧ KindR v ∧ leftE v = ev0) := may_iff v
 obtain ⟨W0, HWW, HX0, HB0, -⟩ := sh1 w #[.int .i64 v.kd, .int .i64 v.me, .int .i64 v.mo, .int .i64 v.id, .int .i64 v.te, .int .i64 v.de, .int .i64 v.fe, .int .i64 v.pr, .int .i64 v.ch, .int .i64 v.un, .int .i64 v.tg, .int .i64 v.ow, .int .i64 v.bp] 71
 have HNO : Hid (∀ W, Calls Tryz.prog 87 #[.int .i64 5] W fun e w' => e = .panicked (thrown 5) ∧ w' = W) := fun W => insist_no 5 (by decide) W
 have HKR : Hid (∀ W, Calls Tryz.prog 85 #[.agg #[.int .i64 v.kd, .int .i64 v.me, .int .i64 v.mo, .int .i64 v.id, .int .i64 v.te, .int .i64 v.de, .int .i64 v.fe, .int .i64 v.pr, .int .i64 v.ch, .int .i64 v.un, .int .i64 v.tg, .int .i64 v.ow, .int .i64 v.bp]] W fun e w' => YN W (KindR v) e w') := fun W => bkind v.kd v.me v.mo v.id v.te v.de v.fe v.pr v.ch v.un v.tg v.ow v.bp W
 have HLE : Hid (∀ W, Calls Tryz.prog 86 #[.agg #[.int .i64 v.kd, .int .i64 v.me, .int .i64 v.mo, .int .i64 v.id, .int .i64 v.te, .int .i64 v.de, .int .i64 v.fe, .int .i64 v.pr, .int .i64 v.ch, .int .i64 v.un, .int .i64 v.tg, .int .i64 v.ow, .int .i64 v.bp]] W fun e w' => e = .returned (leftE v).v ∧ Below W.heap.size W w') := fun W => bleft v W
 go_enter Tryz.func63, Tryz.ntmps63
 go_upto_region 1 with fail
 rw [HWW.out]
 clear HWW
 obtain ⟨c0, c1, c2, c3, c4, c5, c6, c7, c8, c9, c10, c11, c12⟩ := scl13 HX0
 have HW : Hid (Calls Tryz.prog 84 #[.int .i64 0, .int .i64 49, .slice (some ⟨W0.heap.size, 0, none⟩) 1 1] (W0.alloc (.cells #[.int .i64 v.me] 3)) fun e w' => e = .returned (.bool (decide (0 ≤ v.me ∧ v.me ≤ 49))) ∧ w' = (W0.alloc (.cells #[.int .i64 v.me] 3))) := bki.within_one 0 49 v.me W0 _ rfl
 have HB1 : Hid (Below w.heap.size w (W0.alloc (.cells #[.int .i64 v.me] 3))) := HB0.out.alloc HB0.out.size _
 have HX1 : Hid (Blk (W0.alloc (.cells #[.int .i64 v.me] 3)) w.heap.size #[.int .i64 v.kd, .int .i64 v.me, .int .i64 v.mo, .int .i64 v.id, .int .i64 v.te, .int .i64 v.de, .int .i64 v.fe, .int .i64 v.pr, .int .i64 v.ch, .int .i64 v.un, .int .i64 v.tg, .int .i64 v.ow, .int .i64 v.bp] 71) := HX0.out.alloc _
 by_cases h0 : 0 ≤ v.me ∧ v.me ≤ 49
 case neg =>
  rw [decide_eq_false h0] at HW
  have HN : Hid (¬ EMay v) := fun q => h0 (HMI.out.1 q).1
  clear h0
  go_wp2_with fail
  refine HW.out.mono ?_
  rintro e W ⟨rfl, hw⟩
  subst hw
  clear HW
  clear HX0 HB0 c0 c1 c2 c3 c4 c5 c6 c7 c8 c9 c10 c11 c12
  generalize (W0.alloc (.cells #[.int .i64 v.me] 3)) = W1 at *
  obtain ⟨c0, c1, c2, c3, c4, c5, c6, c7, c8, c9, c10, c11, c12⟩ := scl13 HX1
  go_wp2_with fail
  refine (HNO.out _).mono ?_
  rintro e W9 ⟨rfl, rfl⟩
  exact ⟨rfl, .inr ⟨HN.out, rfl⟩, HB1.out⟩
 rw [decide_eq_true h0] at HW
 have H0 : Hid (0 ≤ v.me ∧ v.me ≤ 49) := h0
 clear h0
 go_wp2_with fail
 refine HW.out.mono ?_
 rintro e W ⟨rfl, hw⟩
 subst hw
 clear HW HX0 HB0
 clear c0 c1 c2 c3 c4 c5 c6 c7 c8 c9 c10 c11 c12
 generalize (W0.alloc (.cells #[.int .i64 v.me] 3)) = W1 at *
 obtain ⟨c0, c1, c2, c3, c4, c5, c6, c7, c8, c9, c10, c11, c12⟩ := scl13 HX1
 go_wp2_with fail
 refine (HKR.out _).mono ?_
 rintro e W2 ⟨B, rfl, hB, hb⟩
 have HB2 := shB HB1 hb
 have HX2 := shN HX1 hb
 clear hb HKR HB1 HX1
 clear c0 c1 c2 c3 c4 c5 c6 c7 c8 c9 c10 c11 c12
 obtain ⟨c0, c1, c2, c3, c4, c5, c6, c7, c8, c9, c10, c11, c12⟩ := scl13 HX2
 cases B
 case false =>
  have HN : Hid (¬ EMay v) := fun q => absurd (hB.2 (HMI.out.1 q).2.1) (by decide)
  clear hB
  go_wp2_with fail
  refine (HNO.out _).mono ?_
  rintro e W9 ⟨rfl, rfl⟩
  exact ⟨rfl, .inr ⟨HN.out, rfl⟩, HB2.out⟩
 have HK : Hid (KindR v) := hB.1 rfl
 clear hB
 go_wp2_with fail
 refine (HLE.out _).mono ?_
 rintro e W3 ⟨rfl, hb⟩
 have HB3 := shB HB2 hb
 clear hb HLE HB2 HX2
 clear c0 c1 c2 c3 c4 c5 c6 c7 c8 c9 c10 c11 c12
 obtain ⟨B, hB, hBi⟩ := eqEv_any (leftE v) ev0 W3
 have HEQ : Hid ((Op.equalIn 10000 71 (.agg (leftE v).cs) (.agg ev0.cs)).run Tryz.prog W3 = .ok B W3) := hB
 have HBI : Hid (B = true ↔ leftE v = ev0) := hBi
 clear hB hBi
 unfold Ev.v
 cases B
 case false =>
  have HN : Hid (¬ EMay v) := fun q => absurd (HBI.out.2 (HMI.out.1 q).2.2) (by decide)
  go_wp2_with (first | (refine wp_neE (by rfl) 71 _ _ _ rfl (leftE v).cs ev0.cs rfl rfl (by kernel_rfl) false HEQ.out _ rfl ?_) | fail)
  go_wp2_with fail
  refine (HNO.out _).mono ?_
  rintro e W9 ⟨rfl, rfl⟩
  exact ⟨rfl, .inr ⟨HN.out, rfl⟩, HB3.out⟩
 case true =>
  have HY : Hid (EMay v) := HMI.out.2 ⟨H0.out, HK.out, HBI.out.1 rfl⟩
  go_wp2_with (first | (refine wp_neE (by rfl) 71 _ _ _ rfl (leftE v).cs ev0.cs rfl rfl (by kernel_rfl) true HEQ.out _ rfl ?_) | fail)
  go_end0
  exact ⟨.inl ⟨HY.out, rfl⟩, HB3.out⟩
open cell
def cellsK (l : List Int) (k : Nat) : Array Value := ((l.take k ++ List.replicate (13 - k) 0).map (fun x => Value.int .i64 x)).toArray
theorem cellsK_size (l : List Int) (h : l.length = 13) (k : Nat) (hk : k ≤ 13) : (cellsK l k).size = 13 := by simp [cellsK, h]; omega
theorem cellsK_next (l : List Int) (h : l.length = 13) (k : Nat) (hk : k < 13) : (cellsK l k).setIfInBounds k (.int .i64 (l.getD k 0)) = cellsK l (k + 1) := by
 match l, h with
 | [a0, a1, a2, a3, a4, a5, a6, a7, a8, a9, a10, a11, a12], _ =>
  match k, hk with
  | 0, _ => rfl
  | 1, _ => rfl
  | 2, _ => rfl
  | 3, _ => rfl
  | 4, _ => rfl
  | 5, _ => rfl
  | 6, _ => rfl
  | 7, _ => rfl
  | 8, _ => rfl
  | 9, _ => rfl
  | 10, _ => rfl
  | 11, _ => rfl
  | 12, _ => rfl
theorem cellsK_all (l : List Int) (h : l.length = 13) : cellsK l 13 = (evOf l).cs := by
 match l, h with
 | [a0, a1, a2, a3, a4, a5, a6, a7, a8, a9, a10, a11, a12], _ => rfl
theorem indexP_0 (g : Nat) (W : World) : (Instr.index 149 (.agg #[.pointer (some ⟨g, 0, none⟩), .pointer (some ⟨g, 1, none⟩), .pointer (some ⟨g, 2, none⟩), .pointer (some ⟨g, 3, none⟩), .pointer (some ⟨g, 4, none⟩), .pointer (some ⟨g, 5, none⟩), .pointer (some ⟨g, 6, none⟩), .pointer (some ⟨g, 7, none⟩), .pointer (some ⟨g, 8, none⟩), .pointer (some ⟨g, 9, none⟩), .pointer (some ⟨g, 10, none⟩), .pointer (some ⟨g, 11, none⟩), .pointer (some ⟨g, 12, none⟩)]) (.int .i64 0)).run Tryz.prog W = .ok (.pointer (some ⟨g, 0, none⟩)) W := by kernel_rfl
theorem indexP_1 (g : Nat) (W : World) : (Instr.index 149 (.agg #[.pointer (some ⟨g, 0, none⟩), .pointer (some ⟨g, 1, none⟩), .pointer (some ⟨g, 2, none⟩), .pointer (some ⟨g, 3, none⟩), .pointer (some ⟨g, 4, none⟩), .pointer (some ⟨g, 5, none⟩), .pointer (some ⟨g, 6, none⟩), .pointer (some ⟨g, 7, none⟩), .pointer (some ⟨g, 8, none⟩), .pointer (some ⟨g, 9, none⟩), .pointer (some ⟨g, 10, none⟩), .pointer (some ⟨g, 11, none⟩), .pointer (some ⟨g, 12, none⟩)]) (.int .i64 1)).run Tryz.prog W = .ok (.pointer (some ⟨g, 1, none⟩)) W := by kernel_rfl
theorem indexP_2 (g : Nat) (W : World) : (Instr.index 149 (.agg #[.pointer (some ⟨g, 0, none⟩), .pointer (some ⟨g, 1, none⟩), .pointer (some ⟨g, 2, none⟩), .pointer (some ⟨g, 3, none⟩), .pointer (some ⟨g, 4, none⟩), .pointer (some ⟨g, 5, none⟩), .pointer (some ⟨g, 6, none⟩), .pointer (some ⟨g, 7, none⟩), .pointer (some ⟨g, 8, none⟩), .pointer (some ⟨g, 9, none⟩), .pointer (some ⟨g, 10, none⟩), .pointer (some ⟨g, 11, none⟩), .pointer (some ⟨g, 12, none⟩)]) (.int .i64 2)).run Tryz.prog W = .ok (.pointer (some ⟨g, 2, none⟩)) W := by kernel_rfl
theorem indexP_3 (g : Nat) (W : World) : (Instr.index 149 (.agg #[.pointer (some ⟨g, 0, none⟩), .pointer (some ⟨g, 1, none⟩), .pointer (some ⟨g, 2, none⟩), .pointer (some ⟨g, 3, none⟩), .pointer (some ⟨g, 4, none⟩), .pointer (some ⟨g, 5, none⟩), .pointer (some ⟨g, 6, none⟩), .pointer (some ⟨g, 7, none⟩), .pointer (some ⟨g, 8, none⟩), .pointer (some ⟨g, 9, none⟩), .pointer (some ⟨g, 10, none⟩), .pointer (some ⟨g, 11, none⟩), .pointer (some ⟨g, 12, none⟩)]) (.int .i64 3)).run Tryz.prog W = .ok (.pointer (some ⟨g, 3, none⟩)) W := by kernel_rfl
theorem indexP_4 (g : Nat) (W : World) : (Instr.index 149 (.agg #[.pointer (some ⟨g, 0, none⟩), .pointer (some ⟨g, 1, none⟩), .pointer (some ⟨g, 2, none⟩), .pointer (some ⟨g, 3, none⟩), .pointer (some ⟨g, 4, none⟩), .pointer (some ⟨g, 5, none⟩), .pointer (some ⟨g, 6, none⟩), .pointer (some ⟨g, 7, none⟩), .pointer (some ⟨g, 8, none⟩), .pointer (some ⟨g, 9, none⟩), .pointer (some ⟨g, 10, none⟩), .pointer (some ⟨g, 11, none⟩), .pointer (some ⟨g, 12, none⟩)]) (.int .i64 4)).run Tryz.prog W = .ok (.pointer (some ⟨g, 4, none⟩)) W := by kernel_rfl
theorem indexP_5 (g : Nat) (W : World) : (Instr.index 149 (.agg #[.pointer (some ⟨g, 0, none⟩), .pointer (some ⟨g, 1, none⟩), .pointer (some ⟨g, 2, none⟩), .pointer (some ⟨g, 3, none⟩), .pointer (some ⟨g, 4, none⟩), .pointer (some ⟨g, 5, none⟩), .pointer (some ⟨g, 6, none⟩), .pointer (some ⟨g, 7, none⟩), .pointer (some ⟨g, 8, none⟩), .pointer (some ⟨g, 9, none⟩), .pointer (some ⟨g, 10, none⟩), .pointer (some ⟨g, 11, none⟩), .pointer (some ⟨g, 12, none⟩)]) (.int .i64 5)).run Tryz.prog W = .ok (.pointer (some ⟨g, 5, none⟩)) W := by kernel_rfl
theorem indexP_6 (g : Nat) (W : World) : (Instr.index 149 (.agg #[.pointer (some ⟨g, 0, none⟩), .pointer (some ⟨g, 1, none⟩), .pointer (some ⟨g, 2, none⟩), .pointer (some ⟨g, 3, none⟩), .pointer (some ⟨g, 4, none⟩), .pointer (some ⟨g, 5, none⟩), .pointer (some ⟨g, 6, none⟩), .pointer (some ⟨g, 7, none⟩), .pointer (some ⟨g, 8, none⟩), .pointer (some ⟨g, 9, none⟩), .pointer (some ⟨g, 10, none⟩), .pointer (some ⟨g, 11, none⟩), .pointer (some ⟨g, 12, none⟩)]) (.int .i64 6)).run Tryz.prog W = .ok (.pointer (some ⟨g, 6, none⟩)) W := by kernel_rfl
theorem indexP_7 (g : Nat) (W : World) : (Instr.index 149 (.agg #[.pointer (some ⟨g, 0, none⟩), .pointer (some ⟨g, 1, none⟩), .pointer (some ⟨g, 2, none⟩), .pointer (some ⟨g, 3, none⟩), .pointer (some ⟨g, 4, none⟩), .pointer (some ⟨g, 5, none⟩), .pointer (some ⟨g, 6, none⟩), .pointer (some ⟨g, 7, none⟩), .pointer (some ⟨g, 8, none⟩), .pointer (some ⟨g, 9, none⟩), .pointer (some ⟨g, 10, none⟩), .pointer (some ⟨g, 11, none⟩), .pointer (some ⟨g, 12, none⟩)]) (.int .i64 7)).run Tryz.prog W = .ok (.pointer (some ⟨g, 7, none⟩)) W := by kernel_rfl
theorem indexP_8 (g : Nat) (W : World) : (Instr.index 149 (.agg #[.pointer (some ⟨g, 0, none⟩), .pointer (some ⟨g, 1, none⟩), .pointer (some ⟨g, 2, none⟩), .pointer (some ⟨g, 3, none⟩), .pointer (some ⟨g, 4, none⟩), .pointer (some ⟨g, 5, none⟩), .pointer (some ⟨g, 6, none⟩), .pointer (some ⟨g, 7, none⟩), .pointer (some ⟨g, 8, none⟩), .pointer (some ⟨g, 9, none⟩), .pointer (some ⟨g, 10, none⟩), .pointer (some ⟨g, 11, none⟩), .pointer (some ⟨g, 12, none⟩)]) (.int .i64 8)).run Tryz.prog W = .ok (.pointer (some ⟨g, 8, none⟩)) W := by kernel_rfl
theorem indexP_9 (g : Nat) (W : World) : (Instr.index 149 (.agg #[.pointer (some ⟨g, 0, none⟩), .pointer (some ⟨g, 1, none⟩), .pointer (some ⟨g, 2, none⟩), .pointer (some ⟨g, 3, none⟩), .pointer (some ⟨g, 4, none⟩), .pointer (some ⟨g, 5, none⟩), .pointer (some ⟨g, 6, none⟩), .pointer (some ⟨g, 7, none⟩), .pointer (some ⟨g, 8, none⟩), .pointer (some ⟨g, 9, none⟩), .pointer (some ⟨g, 10, none⟩), .pointer (some ⟨g, 11, none⟩), .pointer (some ⟨g, 12, none⟩)]) (.int .i64 9)).run Tryz.prog W = .ok (.pointer (some ⟨g, 9, none⟩)) W := by kernel_rfl
theorem indexP_10 (g : Nat) (W : World) : (Instr.index 149 (.agg #[.pointer (some ⟨g, 0, none⟩), .pointer (some ⟨g, 1, none⟩), .pointer (some ⟨g, 2, none⟩), .pointer (some ⟨g, 3, none⟩), .pointer (some ⟨g, 4, none⟩), .pointer (some ⟨g, 5, none⟩), .pointer (some ⟨g, 6, none⟩), .pointer (some ⟨g, 7, none⟩), .pointer (some ⟨g, 8, none⟩), .pointer (some ⟨g, 9, none⟩), .pointer (some ⟨g, 10, none⟩), .pointer (some ⟨g, 11, none⟩), .pointer (some ⟨g, 12, none⟩)]) (.int .i64 10)).run Tryz.prog W = .ok (.pointer (some ⟨g, 10, none⟩)) W := by kernel_rfl
theorem indexP_11 (g : Nat) (W : World) : (Instr.index 149 (.agg #[.pointer (some ⟨g, 0, none⟩), .pointer (some ⟨g, 1, none⟩), .pointer (some ⟨g, 2, none⟩), .pointer (some ⟨g, 3, none⟩), .pointer (some ⟨g, 4, none⟩), .pointer (some ⟨g, 5, none⟩), .pointer (some ⟨g, 6, none⟩), .pointer (some ⟨g, 7, none⟩), .pointer (some ⟨g, 8, none⟩), .pointer (some ⟨g, 9, none⟩), .pointer (some ⟨g, 10, none⟩), .pointer (some ⟨g, 11, none⟩), .pointer (some ⟨g, 12, none⟩)]) (.int .i64 11)).run Tryz.prog W = .ok (.pointer (some ⟨g, 11, none⟩)) W := by kernel_rfl
theorem indexP_12 (g : Nat) (W : World) : (Instr.index 149 (.agg #[.pointer (some ⟨g, 0, none⟩), .pointer (some ⟨g, 1, none⟩), .pointer (some ⟨g, 2, none⟩), .pointer (some ⟨g, 3, none⟩), .pointer (some ⟨g, 4, none⟩), .pointer (some ⟨g, 5, none⟩), .pointer (some ⟨g, 6, none⟩), .pointer (some ⟨g, 7, none⟩), .pointer (some ⟨g, 8, none⟩), .pointer (some ⟨g, 9, none⟩), .pointer (some ⟨g, 10, none⟩), .pointer (some ⟨g, 11, none⟩), .pointer (some ⟨g, 12, none⟩)]) (.int .i64 12)).run Tryz.prog W = .ok (.pointer (some ⟨g, 12, none⟩)) W := by kernel_rfl
theorem indexP (g : Nat) (k : Nat) (hk : k < 13) (W : World) : (Instr.index 149 (.agg #[.pointer (some ⟨g, 0, none⟩), .pointer (some ⟨g, 1, none⟩), .pointer (some ⟨g, 2, none⟩), .pointer (some ⟨g, 3, none⟩), .pointer (some ⟨g, 4, none⟩), .pointer (some ⟨g, 5, none⟩), .pointer (some ⟨g, 6, none⟩), .pointer (some ⟨g, 7, none⟩), .pointer (some ⟨g, 8, none⟩), .pointer (some ⟨g, 9, none⟩), .pointer (some ⟨g, 10, none⟩), .pointer (some ⟨g, 11, none⟩), .pointer (some ⟨g, 12, none⟩)]) (.int .i64 (k : Int))).run Tryz.prog W = .ok (.pointer (some ⟨g, k, none⟩)) W := by
 match k, hk with
 | 0, _ => exact indexP_0 g W
 | 1, _ => exact indexP_1 g W
 | 2, _ => exact indexP_2 g W
 | 3, _ => exact indexP_3 g W
 | 4, _ => exact indexP_4 g W
 | 5, _ => exact indexP_5 g W
 | 6, _ => exact indexP_6 g W
 | 7, _ => exact indexP_7 g W
 | 8, _ => exact indexP_8 g W
 | 9, _ => exact indexP_9 g W
 | 10, _ => exact indexP_10 g W
 | 11, _ => exact indexP_11 g W
 | 12, _ => exact indexP_12 g W
set_option maxHeartbeats 4000000 in
theorem bevent (a : Option Addr) (cap : Nat) (l : List Int) (w : World) (hr : RowU w a 13 l) (hm : ∀ x ∈ l, 0 ≤ x ∧ x < 4294967296) : Calls Tryz.prog 74 #[.slice a 13 cap] w fun e w' => e = .returned (evOf l).v ∧ Below w.heap.size w w' := by
 have hlen := hr.1
 obtain ⟨b, off, rfl, lb, hc⟩ := hr.at (by decide)
 have HM : Hid (∀ k, k < 13 → 0 ≤ l.getD k 0 ∧ l.getD k 0 < 4294967296) := fun k hk => hm _ (by
  have hl : k < l.length := by omega
  rw [show l.getD k 0 = l[k] by simp [List.getD, List.getElem?_eq_getElem hl]]
  exact List.getElem_mem _)
 have HC : Hid (∀ W, Below w.heap.size w W → ∀ k, k < 13 → W.cell? ⟨b, off + k, none⟩ = some (.int .u32 (l.getD k 0))) := fun W hB k hk => (hB.cell (p := ⟨b, off + k, none⟩) lb).trans (hc k hk)
 have HIX : Hid (∀ k : Nat, k < 13 → ∀ W, (Instr.index 149 (.agg #[.pointer (some ⟨w.heap.size + 1, 0, none⟩), .pointer (some ⟨w.heap.size + 1, 1, none⟩), .pointer (some ⟨w.heap.size + 1, 2, none⟩), .pointer (some ⟨w.heap.size + 1, 3, none⟩), .pointer (some ⟨w.heap.size + 1, 4, none⟩), .pointer (some ⟨w.heap.size + 1, 5, none⟩), .pointer (some ⟨w.heap.size + 1, 6, none⟩), .pointer (some ⟨w.heap.size + 1, 7, none⟩), .pointer (some ⟨w.heap.size + 1, 8, none⟩), .pointer (some ⟨w.heap.size + 1, 9, none⟩), .pointer (some ⟨w.heap.size + 1, 10, none⟩), .pointer (some ⟨w.heap.size + 1, 11, none⟩), .pointer (some ⟨w.heap.size + 1, 12, none⟩)]) (.int .i64 (k : Int))).run Tryz.prog W = .ok (.pointer (some ⟨w.heap.size + 1, k, none⟩)) W) := fun k hk W => indexP _ k hk W
 have HL : Hid (l.length = 13) := hlen
 clear hm hc hr lb hlen
 obtain ⟨W0, HWW, HR0, HV0, HP0, HB0, -⟩ := sh3 w #[.int .i64 0, .int .i64 0, .int .i64 0, .int .i64 0, .int .i64 0, .int .i64 0, .int .i64 0, .int .i64 0, .int .i64 0, .int .i64 0, .int .i64 0, .int .i64 0, .int .i64 0] 71 #[.int .i64 0, .int .i64 0, .int .i64 0, .int .i64 0, .int .i64 0, .int .i64 0, .int .i64 0, .int .i64 0, .int .i64 0, .int .i64 0, .int .i64 0, .int .i64 0, .int .i64 0] 71 #[.pointer (some ⟨w.heap.size + 1, 0, none⟩), .pointer (some ⟨w.heap.size + 1, 1, none⟩), .pointer (some ⟨w.heap.size + 1, 2, none⟩), .pointer (some ⟨w.heap.size + 1, 3, none⟩), .pointer (some ⟨w.heap.size + 1, 4, none⟩), .pointer (some ⟨w.heap.size + 1, 5, none⟩), .pointer (some ⟨w.heap.size + 1, 6, none⟩), .pointer (some ⟨w.heap.size + 1, 7, none⟩), .pointer (some ⟨w.heap.size + 1, 8, none⟩), .pointer (some ⟨w.heap.size + 1, 9, none⟩), .pointer (some ⟨w.heap.size + 1, 10, none⟩), .pointer (some ⟨w.heap.size + 1, 11, none⟩), .pointer (some ⟨w.heap.size + 1, 12, none⟩)] 149
 go_enter Tryz.func74, Tryz.ntmps74
 go_upto_region 3 with fail
 rw [HWW.out]
 clear HWW
 have p0 : W0.cell? ⟨w.heap.size + 1 + 1, 0, none⟩ = some (.pointer (some ⟨w.heap.size + 1, 0, none⟩)) := HP0.out.cell 0
 have p1 : W0.cell? ⟨w.heap.size + 1 + 1, 1, none⟩ = some (.pointer (some ⟨w.heap.size + 1, 1, none⟩)) := HP0.out.cell 1
 have p2 : W0.cell? ⟨w.heap.size + 1 + 1, 2, none⟩ = some (.pointer (some ⟨w.heap.size + 1, 2, none⟩)) := HP0.out.cell 2
 have p3 : W0.cell? ⟨w.heap.size + 1 + 1, 3, none⟩ = some (.pointer (some ⟨w.heap.size + 1, 3, none⟩)) := HP0.out.cell 3
 have p4 : W0.cell? ⟨w.heap.size + 1 + 1, 4, none⟩ = some (.pointer (some ⟨w.heap.size + 1, 4, none⟩)) := HP0.out.cell 4
 have p5 : W0.cell? ⟨w.heap.size + 1 + 1, 5, none⟩ = some (.pointer (some ⟨w.heap.size + 1, 5, none⟩)) := HP0.out.cell 5
 have p6 : W0.cell? ⟨w.heap.size + 1 + 1, 6, none⟩ = some (.pointer (some ⟨w.heap.size + 1, 6, none⟩)) := HP0.out.cell 6
 have p7 : W0.cell? ⟨w.heap.size + 1 + 1, 7, none⟩ = some (.pointer (some ⟨w.heap.size + 1, 7, none⟩)) := HP0.out.cell 7
 have p8 : W0.cell? ⟨w.heap.size + 1 + 1, 8, none⟩ = some (.pointer (some ⟨w.heap.size + 1, 8, none⟩)) := HP0.out.cell 8
 have p9 : W0.cell? ⟨w.heap.size + 1 + 1, 9, none⟩ = some (.pointer (some ⟨w.heap.size + 1, 9, none⟩)) := HP0.out.cell 9
 have p10 : W0.cell? ⟨w.heap.size + 1 + 1, 10, none⟩ = some (.pointer (some ⟨w.heap.size + 1, 10, none⟩)) := HP0.out.cell 10
 have p11 : W0.cell? ⟨w.heap.size + 1 + 1, 11, none⟩ = some (.pointer (some ⟨w.heap.size + 1, 11, none⟩)) := HP0.out.cell 11
 have p12 : W0.cell? ⟨w.heap.size + 1 + 1, 12, none⟩ = some (.pointer (some ⟨w.heap.size + 1, 12, none⟩)) := HP0.out.cell 12
 go_wp2_with fail
 clear HP0 p0 p1 p2 p3 p4 p5 p6 p7 p8 p9 p10 p11 p12
 go_loopw [31] (fun v31 wr => ∃ (k : Nat), k ≤ 13 ∧ v31 = .int .i64 (k : Int) ∧ Blk wr w.heap.size #[.int .i64 0, .int .i64 0, .int .i64 0, .int .i64 0, .int .i64 0, .int .i64 0, .int .i64 0, .int .i64 0, .int .i64 0, .int .i64 0, .int .i64 0, .int .i64 0, .int .i64 0] 71 ∧ Blk wr (w.heap.size + 1) (cellsK l k) 71 ∧ Below w.heap.size w wr) (fun v31 _ => 13 - (intOf v31).toNat)
 case atStart => exact ⟨0, Nat.zero_le _, rfl, HR0.out, HV0.out, HB0.out⟩
 case round =>
  obtain ⟨k, hk, rfl, hR, hV, hbl⟩ := hrel
  have HR : Hid (Blk wr w.heap.size #[.int .i64 0, .int .i64 0, .int .i64 0, .int .i64 0, .int .i64 0, .int .i64 0, .int .i64 0, .int .i64 0, .int .i64 0, .int .i64 0, .int .i64 0, .int .i64 0, .int .i64 0] 71) := hR
  have HV : Hid (Blk wr (w.heap.size + 1) (cellsK l k) 71) := hV
  have HBL : Hid (Below w.heap.size w wr) := hbl
  clear hR hV hbl HR0 HV0 HB0
  by_cases hkm : k < 13
  ·have hix := HIX.out k hkm
   have hz := HM.out k hkm
   have hcl := HC.out wr HBL.out k hkm
   have HNX : Hid ((cellsK l k).setIfInBounds k (.int .i64 (l.getD k 0)) = cellsK l (k + 1)) := cellsK_next l HL.out k hkm
   have hks : k < (cellsK l k).size := by rw [cellsK_size l HL.out k hk]; exact hkm
   clear HIX HM HC
   generalize l.getD k 0 = z at *
   have hwz : IntKind.i64.wrap z = z := by rw [IntKind.wrap_i64]; omega
   have hdl : decide ((k : Int) < 13) = true := decide_eq_true (by omega)
   have hb13 : (0 : Int) ≤ (k : Int) ∧ (k : Int) < ((13 : Nat) : Int) := by omega
   clear hz
   go_wp2_with (first | (refine wp_let1 rfl 3 _ _ rfl (w.heap.size + 1) k rfl .i64 z rfl (by kernel_rfl) (cellsK l k) 71 HV.out hks ?_) | fail)
   intro W3 hU
   have H3 : Hid (Blk W3 (w.heap.size + 1) (cellsK l (k + 1)) 71) := by show Blk _ _ _ _; rw [← HNX.out]; exact hU.blk
   have HR3 := shK hU HR (by omega)
   have HB3 := shV hU HBL (by omega)
   clear hU hcl
   go_wp2_with fail
   go_roundw
   case rel => exact ⟨k + 1, by omega, by go_num, HR3.out, H3.out, HB3.out⟩
   case measure => simp [intOf]; omega
  ·obtain rfl : k = 13 := by omega
   have hdl : decide (((13 : Nat) : Int) < 13) = false := decide_eq_false (by omega)
   have HFN : Hid (Blk wr (w.heap.size + 1) (evOf l).cs 71) := by
    show Blk _ _ _ _
    rw [← cellsK_all l HL.out]; exact HV.out
   clear HV
   obtain ⟨v, hv⟩ : ∃ v, v = evOf l := ⟨_, rfl⟩
   have HVE : Hid (v = evOf l) := hv
   rw [← hv] at HFN
   clear hv
   unfold Ev.cs at HFN
   have c0 : wr.cell? ⟨w.heap.size + 1, 0, none⟩ = some (.int .i64 v.kd) := HFN.out.cell 0
   have c1 : wr.cell? ⟨w.heap.size + 1, 1, none⟩ = some (.int .i64 v.me) := HFN.out.cell 1
   have c2 : wr.cell? ⟨w.heap.size + 1, 2, none⟩ = some (.int .i64 v.mo) := HFN.out.cell 2
   have c3 : wr.cell? ⟨w.heap.size + 1, 3, none⟩ = some (.int .i64 v.id) := HFN.out.cell 3
   have c4 : wr.cell? ⟨w.heap.size + 1, 4, none⟩ = some (.int .i64 v.te) := HFN.out.cell 4
   have c5 : wr.cell? ⟨w.heap.size + 1, 5, none⟩ = some (.int .i64 v.de) := HFN.out.cell 5
   have c6 : wr.cell? ⟨w.heap.size + 1, 6, none⟩ = some (.int .i64 v.fe) := HFN.out.cell 6
   have c7 : wr.cell? ⟨w.heap.size + 1, 7, none⟩ = some (.int .i64 v.pr) := HFN.out.cell 7
   have c8 : wr.cell? ⟨w.heap.size + 1, 8, none⟩ = some (.int .i64 v.ch) := HFN.out.cell 8
   have c9 : wr.cell? ⟨w.heap.size + 1, 9, none⟩ = some (.int .i64 v.un) := HFN.out.cell 9
   have c10 : wr.cell? ⟨w.heap.size + 1, 10, none⟩ = some (.int .i64 v.tg) := HFN.out.cell 10
   have c11 : wr.cell? ⟨w.heap.size + 1, 11, none⟩ = some (.int .i64 v.ow) := HFN.out.cell 11
   have c12 : wr.cell? ⟨w.heap.size + 1, 12, none⟩ = some (.int .i64 v.bp) := HFN.out.cell 12
   go_wp2_with (first | (refine zql rfl rfl rfl rfl zqu71 (by simp [Value.oneCell']) HR rfl ?_) | fail)
   intro W3 hU
   have HRV : Hid (Blk W3 w.heap.size #[.int .i64 v.kd, .int .i64 v.me, .int .i64 v.mo, .int .i64 v.id, .int .i64 v.te, .int .i64 v.de, .int .i64 v.fe, .int .i64 v.pr, .int .i64 v.ch, .int .i64 v.un, .int .i64 v.tg, .int .i64 v.ow, .int .i64 v.bp] 71) := hU.blk
   have HB3 := shV hU HBL (by omega)
   clear hU c0 c1 c2 c3 c4 c5 c6 c7 c8 c9 c10 c11 c12
   obtain ⟨r0, r1, r2, r3, r4, r5, r6, r7, r8, r9, r10, r11, r12⟩ := scl13 HRV
   go_wp2_with fail
   exact bodyPost_ret (v := .agg #[.int .i64 v.kd, .int .i64 v.me, .int .i64 v.mo, .int .i64 v.id, .int .i64 v.te, .int .i64 v.de, .int .i64 v.fe, .int .i64 v.pr, .int .i64 v.ch, .int .i64 v.un, .int .i64 v.tg, .int .i64 v.ow, .int .i64 v.bp]) (by simp [results, Tryz.results74, r0, r1, r2, r3, r4, r5, r6, r7, r8, r9, r10, r11, r12, go_sem]) rfl ⟨by rw [← HVE.out]; rfl, HB3.out⟩
def DecGot (w : World) (l : List Int) (e : Ending) (w' : World) : Prop := ∃ v f, e = .returned (.tuple #[Ev.v v, .int .i64 f]) ∧ DecIs l v f ∧ Below w.heap.size w w'
def KDec : Prop := ∀ (W : World) (a : Option Addr) (n cap : Nat) (l : List Int), RowU W a n l → (a = none → cap = 0) → n ≤ cap → n * 4 ≤ 140737488351232 → (∀ x ∈ l, 0 ≤ x ∧ x < 4294967296) → Calls Tryz.prog 50 #[.slice a n cap] W fun e w' => DecGot W l e w'
end book
end Go.Proofs.YtomibnggmhjdfaaGreat
