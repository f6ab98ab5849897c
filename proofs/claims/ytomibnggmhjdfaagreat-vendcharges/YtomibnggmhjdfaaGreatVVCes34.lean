import Derived.Test.YtomibnggmhjdfaaGreatVVCes28
import Derived.Test.YtomibnggmhjdfaaGreatVVCes33
set_option linter.unusedVariables false
set_option linter.unusedSimpArgs false
namespace Go.Proofs.YtomibnggmhjdfaaGreat
namespace book
open Go.RowKit
set_option maxRecDepth 100000
set_option maxHeartbeats 4000000 in
theorem bleft2 (kd me mo id te de fe pr ch un tg ow bp : Int) (w : World) (q2 : (kd == 2) = true) : Calls Tryz.prog 86 #[.agg #[.int .i64 kd, .int .i64 me, .int .i64 mo, .int .i64 id, .int .i64 te, .int .i64 de, .int .i64 fe, .int .i64 pr, .int .i64 ch, .int .i64 un, .int .i64 tg, .int .i64 ow, .int .i64 bp]] w fun e w' => e = .returned (.agg #[.int .i64 0, .int .i64 0, .int .i64 0, .int .i64 0, .int .i64 0, .int .i64 0, .int .i64 0, .int .i64 0, .int .i64 0, .int .i64 0, .int .i64 0, .int .i64 ow, .int .i64 bp]) ∧ Below w.heap.size w w' := by
 go_enter Tryz.func86, Tryz.ntmps86
 go_wp2
 exact bodyPost_ret (v := .agg #[.int .i64 0, .int .i64 0, .int .i64 0, .int .i64 0, .int .i64 0, .int .i64 0, .int .i64 0, .int .i64 0, .int .i64 0, .int .i64 0, .int .i64 0, .int .i64 ow, .int .i64 bp]) (by simp [results, Tryz.results86, go_sem]) rfl ⟨rfl, bki.bel2 _ _ _⟩
set_option maxHeartbeats 4000000 in
theorem bleft3 (kd me mo id te de fe pr ch un tg ow bp : Int) (w : World) (q2 : (kd == 2) = false) (q3 : (kd == 3) = true) : Calls Tryz.prog 86 #[.agg #[.int .i64 kd, .int .i64 me, .int .i64 mo, .int .i64 id, .int .i64 te, .int .i64 de, .int .i64 fe, .int .i64 pr, .int .i64 ch, .int .i64 un, .int .i64 tg, .int .i64 ow, .int .i64 bp]] w fun e w' => e = .returned (.agg #[.int .i64 0, .int .i64 0, .int .i64 0, .int .i64 0, .int .i64 te, .int .i64 de, .int .i64 fe, .int .i64 pr, .int .i64 ch, .int .i64 0, .int .i64 0, .int .i64 ow, .int .i64 bp]) ∧ Below w.heap.size w w' := by
 go_enter Tryz.func86, Tryz.ntmps86
 go_wp2
 exact bodyPost_ret (v := .agg #[.int .i64 0, .int .i64 0, .int .i64 0, .int .i64 0, .int .i64 te, .int .i64 de, .int .i64 fe, .int .i64 pr, .int .i64 ch, .int .i64 0, .int .i64 0, .int .i64 ow, .int .i64 bp]) (by simp [results, Tryz.results86, go_sem]) rfl ⟨rfl, bki.bel2 _ _ _⟩
set_option maxHeartbeats 4000000 in
theorem bleft4 (kd me mo id te de fe pr ch un tg ow bp : Int) (w : World) (q2 : (kd == 2) = false) (q3 : (kd == 3) = false) (q4 : (kd == 4) = true) : Calls Tryz.prog 86 #[.agg #[.int .i64 kd, .int .i64 me, .int .i64 mo, .int .i64 id, .int .i64 te, .int .i64 de, .int .i64 fe, .int .i64 pr, .int .i64 ch, .int .i64 un, .int .i64 tg, .int .i64 ow, .int .i64 bp]] w fun e w' => e = .returned (.agg #[.int .i64 0, .int .i64 0, .int .i64 mo, .int .i64 0, .int .i64 te, .int .i64 de, .int .i64 fe, .int .i64 pr, .int .i64 ch, .int .i64 un, .int .i64 0, .int .i64 ow, .int .i64 bp]) ∧ Below w.heap.size w w' := by
 go_enter Tryz.func86, Tryz.ntmps86
 go_wp2
 exact bodyPost_ret (v := .agg #[.int .i64 0, .int .i64 0, .int .i64 mo, .int .i64 0, .int .i64 te, .int .i64 de, .int .i64 fe, .int .i64 pr, .int .i64 ch, .int .i64 un, .int .i64 0, .int .i64 ow, .int .i64 bp]) (by simp [results, Tryz.results86, go_sem]) rfl ⟨rfl, bki.bel2 _ _ _⟩
set_option maxHeartbeats 4000000 in
theorem bleft5 (kd me mo id te de fe pr ch un tg ow bp : Int) (w : World) (q2 : (kd == 2) = false) (q3 : (kd == 3) = false) (q4 : (kd == 4) = false) (q5 : (kd == 5) = true) : Calls Tryz.prog 86 #[.agg #[.int .i64 kd, .int .i64 me, .int .i64 mo, .int .i64 id, .int .i64 te, .int .i64 de, .int .i64 fe, .int .i64 pr, .int .i64 ch, .int .i64 un, .int .i64 tg, .int .i64 ow, .int .i64 bp]] w fun e w' => e = .returned (.agg #[.int .i64 0, .int .i64 0, .int .i64 mo, .int .i64 id, .int .i64 te, .int .i64 de, .int .i64 fe, .int .i64 pr, .int .i64 ch, .int .i64 un, .int .i64 tg, .int .i64 0, .int .i64 0]) ∧ Below w.heap.size w w' := by
 go_enter Tryz.func86, Tryz.ntmps86
 go_wp2
 exact bodyPost_ret (v := .agg #[.int .i64 0, .int .i64 0, .int .i64 mo, .int .i64 id, .int .i64 te, .int .i64 de, .int .i64 fe, .int .i64 pr, .int .i64 ch, .int .i64 un, .int .i64 tg, .int .i64 0, .int .i64 0]) (by simp [results, Tryz.results86, go_sem]) rfl ⟨rfl, bki.bel2 _ _ _⟩
set_option maxHeartbeats 4000000 in
theorem bleft0 (kd me mo id te de fe pr ch un tg ow bp : Int) (w : World) (q2 : (kd == 2) = false) (q3 : (kd == 3) = false) (q4 : (kd == 4) = false) (q5 : (kd == 5) = false) : Calls Tryz.prog 86 #[.agg #[.int .i64 kd, .int .i64 me, .int .i64 mo, .int .i64 id, .int .i64 te, .int .i64 de, .int .i64 fe, .int .i64 pr, .int .i64 ch, .int .i64 un, .int .i64 tg, .int .i64 ow, .int .i64 bp]] w fun e w' => e = .returned (.agg #[.int .i64 0, .int .i64 0, .int .i64 mo, .int .i64 id, .int .i64 te, .int .i64 de, .int .i64 fe, .int .i64 pr, .int .i64 ch, .int .i64 un, .int .i64 tg, .int .i64 ow, .int .i64 bp]) ∧ Below w.heap.size w w' := by
 go_enter Tryz.func86, Tryz.ntmps86
 go_wp2
 exact bodyPost_ret (v := .agg #[.int .i64 0, .int .i64 0, .int .i64 mo, .int .i64 id, .int .i64 te, .int .i64 de, .int .i64 fe, .int .i64 pr, .int .i64 ch, .int .i64 un, .int .i64 tg, .int .i64 ow, .int .i64 bp]) (by simp [results, Tryz.results86, go_sem]) rfl ⟨rfl, bki.bel2 _ _ _⟩
theorem bleft (v : Ev) (w : World) : Calls Tryz.prog 86 #[v.v] w fun e w' => e = .returned (leftE v).v ∧ Below w.heap.size w w' := by
 obtain ⟨kd, me, mo, id, te, de, fe, pr, ch, un, tg, ow, bp⟩ := v
 unfold leftE Ev.v
 simp only
 by_cases k2 : kd = 2
 ·rw [if_pos k2]
  exact bleft2 kd me mo id te de fe pr ch un tg ow bp w (by simpa using k2)
 rw [if_neg k2]
 by_cases k3 : kd = 3
 ·rw [if_pos k3]
  exact bleft3 kd me mo id te de fe pr ch un tg ow bp w (by simpa using k2) (by simpa using k3)
 rw [if_neg k3]
 by_cases k4 : kd = 4
 ·rw [if_pos k4]
  exact bleft4 kd me mo id te de fe pr ch un tg ow bp w (by simpa using k2) (by simpa using k3) (by simpa using k4)
 rw [if_neg k4]
 by_cases k5 : kd = 5
 ·rw [if_pos k5]
  exact bleft5 kd me mo id te de fe pr ch un tg ow bp w (by simpa using k2) (by simpa using k3) (by simpa using k4) (by simpa using k5)
 rw [if_neg k5]
 exact bleft0 kd me mo id te de fe pr ch un tg ow bp w (by simpa using k2) (by simpa using k3) (by simpa using k4) (by simpa using k5)
def MustPost (w : World) (v : Ev) (e : Ending) (w' : World) : Prop := ((EMay v ∧ e = .returned (.tuple #[])) ∨ (¬ EMay v ∧ e = .panicked (thrown 5))) ∧ Below w.heap.size w w'
theorem eqEv_any (a b : Ev) (w : World) : ∃ B, (Op.equalIn 10000 71 (.agg a.cs) (.agg b.cs)).run Tryz.prog w = .ok B w ∧ (B = true ↔ a = b) := by
 obtain ⟨a0, a1, a2, a3, a4, a5, a6, a7, a8, a9, a10, a11, a12⟩ := a
 obtain ⟨b0, b1, b2, b3, b4, b5, b6, b7, b8, b9, b10, b11, b12⟩ := b
 refine ⟨_, eqEv 9997 a0 a1 a2 a3 a4 a5 a6 a7 a8 a9 a10 a11 a12 b0 b1 b2 b3 b4 b5 b6 b7 b8 b9 b10 b11 b12 w, ?_⟩
 rw [decide_eq_true_iff]
 constructor
 ·rintro ⟨rfl, rfl, rfl, rfl, rfl, rfl, rfl, rfl, rfl, rfl, rfl, rfl, rfl⟩; rfl
 ·intro h; cases h; exact ⟨rfl, rfl, rfl, rfl, rfl, rfl, rfl, rfl, rfl, rfl, rfl, rfl, rfl⟩
set_option maxHeartbeats 4000000 in
theorem bmust (v : Ev) (w : World) : Calls Tryz.prog 63 #[.agg #[.int .i64 v.kd, .int .i64 v.me, .int .i64 v.mo, .int .i64 v.id, .int .i64 v.te, .int .i64 v.de, .int .i64 v.fe, .int .i64 v.pr, .int .i64 v.ch, .int .i64 v.un, .int .i64 v.tg, .int .i64 v.ow, .int .i64 v.bp]] w fun e w' => MustPost w v e w' := by
 have HMI : Hid (EMay v ↔ (0 ≤ v.me ∧ v.me ≤ 49) ∧ KindR v ∧ leftE v = ev0) := may_iff v
 obtain ⟨W0, HWW, HX0, HB0, -⟩ := sh1 w #[.int .i64 v.kd, .int .i64 v.me, .int .i64 v.mo, .int .i64 v.id, .int .i64 v.te, .int .i64 v.de, .int .i64 v.fe, .int .i64 v.pr, .int .i64 v.ch, .int .i64 v.un, .int .i64 v.tg, .int .i64 v.ow, .int .i64 v.bp] 71
 have HNO : Hid (∀ W, Calls Tryz.prog 87 #[.int .i64 5] W fun e w' => e = .panicked (thrown 5) ∧ w' = W) := fun W => insist_no 5 (by decide) W
 have HKR : Hid (∀ W, Calls Tryz.prog 85 #[.agg #[.int .i64 v.kd, .int .i64 v.me, .int .i64 v.mo, .int .i64 v.id, .int .i64 v.te, .int .i64 v.de, .int .i64 v.fe, .int .i64 v.pr, .int .i64 v.ch, .int .i64 v.un, .int .i64 v.tg, .int .i64 v.ow, .int .i64 v.bp]] W fun e w' => YN W (KindR v) e w') := fun W => bkind v.kd v.me v.mo v.id v.te v.de v.fe v.pr v.ch v.un v.tg v.ow v.bp W
 have HLE : Hid (∀ W, Calls Tryz.prog 86 #[.agg #[.int .i64 v.kd, .int .i64 v.me, .int .i64 v.mo, .int .i64 v.id, .int .i64 v.te, .int .i64 v.de, .int .i64 v.fe, .int .i64 v.pr, .int .i64 v.ch, .int .i64 v.un, .int .i64 v.tg, .int .i64 v.ow, .int .i64 v.bp]] W fun e w' => e = .returned (leftE v).v ∧ Below W.heap.size W w') := fun W => bleft v W
 go_enter Tryz.func63, Tryz.ntmps63
 go_upto_region 1 with fail
 rw [HWW.out]
 clear HWW
 obtain ⟨c0, c1, c2, c3, c4, c5, c6, c7, c8, c9, c10, c11, c12⟩ := scl13 HX0
 have HW : Hid (Calls Tryz.prog 84 #[.int .i64 0, .int .i64 49, .slice (some ⟨W0.heap.size, 0, none⟩) 1 1] (W0.alloc (.cells #[.int .i64 v.me] 3)) fun e w' => e = .returned (.bool (decide (0 ≤ v.me ∧ v.me ≤ 49))) ∧ w' = (W0.alloc (.cells #[.int .i64 v.me] 3))) := bki.within_one 0 49 v.me W0 _ rfl
 have HB1 : Hid (Below w.heap.size w (W0.alloc (.cells #[.int .i64 v.me] 3))) := HB0.out.alloc HB0.out.size _
 have HX1 : Hid (Blk (W0.alloc (.cells #[.int .i64 v.me] 3)) w.heap.size #[.int .i64 v.kd, .int .i64 v.me, .int .i64 v.mo, .int .i64 v.id, .int .i64 v.te, .int .i64 v.de, .int .i64 v.fe, .int .i64 v.pr, .int .i64 v.ch, .int .i64 v.un, .int .i64 v.tg, .int .i64 v.ow, .int .i64 v.bp] 71) := HX0.out.alloc _
 by_cases h0 : 0 ≤ v.me ∧ v.me ≤ 49
 case neg =>
  rw [decide_eq_false h0] at HW
  have HN : Hid (¬ EMay v) := fun q => h0 (HMI.out.1 q).1
  clear h0
  go_wp2_with fail
  refine HW.out.mono ?_
  rintro e W ⟨rfl, hw⟩
  subst hw
  clear HW
  clear HX0 HB0 c0 c1 c2 c3 c4 c5 c6 c7 c8 c9 c10 c11 c12
  generalize (W0.alloc (.cells #[.int .i64 v.me] 3)) = W1 at *
  obtain ⟨c0, c1, c2, c3, c4, c5, c6, c7, c8, c9, c10, c11, c12⟩ := scl13 HX1
  go_wp2_with fail
  refine (HNO.out _).mono ?_
  rintro e W9 ⟨rfl, rfl⟩
  exact ⟨rfl, .inr ⟨HN.out, rfl⟩, HB1.out⟩
 rw [decide_eq_true h0] at HW
 have H0 : Hid (0 ≤ v.me ∧ v.me ≤ 49) := h0
 clear h0
 go_wp2_with fail
 refine HW.out.mono ?_
 rintro e W ⟨rfl, hw⟩
 subst hw
 clear HW HX0 HB0
 clear c0 c1 c2 c3 c4 c5 c6 c7 c8 c9 c10 c11 c12
 generalize (W0.alloc (.cells #[.int .i64 v.me] 3)) = W1 at *
 obtain ⟨c0, c1, c2, c3, c4, c5, c6, c7, c8, c9, c10, c11, c12⟩ := scl13 HX1
 go_wp2_with fail
 refine (HKR.out _).mono ?_
 rintro e W2 ⟨B, rfl, hB, hb⟩
 have HB2 := shB HB1 hb
 have HX2 := shN HX1 hb
 clear hb HKR HB1 HX1
 clear c0 c1 c2 c3 c4 c5 c6 c7 c8 c9 c10 c11 c12
 obtain ⟨c0, c1, c2, c3, c4, c5, c6, c7, c8, c9, c10, c11, c12⟩ := scl13 HX2
 cases B
 case false =>
  have HN : Hid (¬ EMay v) := fun q => absurd (hB.2 (HMI.out.1 q).2.1) (by decide)
  clear hB
  go_wp2_with fail
  refine (HNO.out _).mono ?_
  rintro e W9 ⟨rfl, rfl⟩
  exact ⟨rfl, .inr ⟨HN.out, rfl⟩, HB2.out⟩
 have HK : Hid (KindR v) := hB.1 rfl
 clear hB
 go_wp2_with fail
 refine (HLE.out _).mono ?_
 rintro e W3 ⟨rfl, hb⟩
 have HB3 := shB HB2 hb
 clear hb HLE HB2 HX2
 clear c0 c1 c2 c3 c4 c5 c6 c7 c8 c9 c10 c11 c12
 obtain ⟨B, hB, hBi⟩ := eqEv_any (leftE v) ev0 W3
 have HEQ : Hid ((Op.equalIn 10000 71 (.agg (leftE v).cs) (.agg ev0.cs)).run Tryz.prog W3 = .ok B W3) := hB
 have HBI : Hid (B = true ↔ leftE v = ev0) := hBi
 clear hB hBi
 unfold Ev.v
 cases B
 case false =>
  have HN : Hid (¬ EMay v) := fun q => absurd (HBI.out.2 (HMI.out.1 q).2.2) (by decide)
  go_wp2_with (first | (refine wp_neE (by rfl) 71 _ _ _ rfl (leftE v).cs ev0.cs rfl rfl (by kernel_rfl) false HEQ.out _ rfl ?_) | fail)
  go_wp2_with fail
  refine (HNO.out _).mono ?_
  rintro e W9 ⟨rfl, rfl⟩
  exact ⟨rfl, .inr ⟨HN.out, rfl⟩, HB3.out⟩
 case true =>
  have HY : Hid (EMay v) := HMI.out.2 ⟨H0.out, HK.out, HBI.out.1 rfl⟩
  go_wp2_with (first | (refine wp_neE (by rfl) 71 _ _ _ rfl (leftE v).cs ev0.cs rfl rfl (by kernel_rfl) true HEQ.out _ rfl ?_) | fail)
  go_end0
  exact ⟨.inl ⟨HY.out, rfl⟩, HB3.out⟩
open cell
set_option maxHeartbeats 4000000 in
theorem kdec : KDec := by
 intro w a n cap l hr hnil hle hbytes hm
 have hmf : ∀ (fn : Fn) (first cap : Array Value) (w : World), (Instr.makeFunc fn first cap).run Tryz.prog w = .ok (.func fn first cap) w := fun _ _ _ _ => rfl
 have HLN : Hid (l.length = n) := hr.1
 have HR1 : Hid (Blk ((w.alloc (.cells #[.int .i64 0, .int .i64 0, .int .i64 0, .int .i64 0, .int .i64 0, .int .i64 0, .int .i64 0, .int .i64 0, .int .i64 0, .int .i64 0, .int .i64 0, .int .i64 0, .int .i64 0] 71)).alloc (.cells #[.int .i64 0] 30)) w.heap.size #[.int .i64 0, .int .i64 0, .int .i64 0, .int .i64 0, .int .i64 0, .int .i64 0, .int .i64 0, .int .i64 0, .int .i64 0, .int .i64 0, .int .i64 0, .int .i64 0, .int .i64 0] 71) := (Blk.new _ _ _).alloc _
 have HE1 : Hid (Blk ((w.alloc (.cells #[.int .i64 0, .int .i64 0, .int .i64 0, .int .i64 0, .int .i64 0, .int .i64 0, .int .i64 0, .int .i64 0, .int .i64 0, .int .i64 0, .int .i64 0, .int .i64 0, .int .i64 0] 71)).alloc (.cells #[.int .i64 0] 30)) (w.heap.size + 1) #[.int .i64 0] 30) := Blk.new1 _ _ _ _
 have HB1 : Hid (Below w.heap.size w ((w.alloc (.cells #[.int .i64 0, .int .i64 0, .int .i64 0, .int .i64 0, .int .i64 0, .int .i64 0, .int .i64 0, .int .i64 0, .int .i64 0, .int .i64 0, .int .i64 0, .int .i64 0, .int .i64 0] 71)).alloc (.cells #[.int .i64 0] 30))) := ((Below.refl _ _).alloc (Nat.le_refl _) _).alloc (by simp) _
 by_cases hn : n = 13
 case neg =>
  have nn : ((n : Int) != 13) = true := by simp; omega
  have HNL : Hid (l.length ≠ 13) := by show _ ≠ _; rw [HLN.out]; exact hn
  clear hn hr hm
  go_enter_defers Tryz.func50, Tryz.ntmps50
  go_upto_region 2 with fail
  generalize ((w.alloc (.cells #[.int .i64 0, .int .i64 0, .int .i64 0, .int .i64 0, .int .i64 0, .int .i64 0, .int .i64 0, .int .i64 0, .int .i64 0, .int .i64 0, .int .i64 0, .int .i64 0, .int .i64 0] 71)).alloc (.cells #[.int .i64 0] 30)) = W1 at *
  go_wp2_with (first | (refine zql rfl rfl rfl rfl zqu71 (by simp [Value.oneCell']) HR1 rfl ?_) | fail)
  intro W2 hU
  have HR2 : Hid (Blk W2 w.heap.size #[.int .i64 0, .int .i64 0, .int .i64 0, .int .i64 0, .int .i64 0, .int .i64 0, .int .i64 0, .int .i64 0, .int .i64 0, .int .i64 0, .int .i64 0, .int .i64 0, .int .i64 0] 71) := hU.blk
  have HE2 := shK hU HE1 (by omega)
  have HB2 : Hid (Below w.heap.size w W2) := hU.bel _ _ (Nat.le_refl _) HB1.out
  clear hU HR1 HE1 HB1
  go_wp2_with (first | (refine wp_let1 rfl 30 _ _ rfl (w.heap.size + 1) 0 rfl .i64 1 rfl (by kernel_rfl) #[.int .i64 0] 30 HE2.out (by decide) ?_) | fail)
  intro W3 hU
  have HR3 := shK hU HR2 (by omega)
  have r13 : W3.cell? ⟨w.heap.size + 1, 0, none⟩ = some (.int .i64 1) := hU.blk.cell 0
  have HB3 := shV hU HB2 (by omega)
  clear hU
  go_wp2_with fail
  obtain ⟨r0, r1, r2, r3, r4, r5, r6, r7, r8, r9, r10, r11, r12⟩ := scl13 HR3
  show Leaves _ _ _ _ [] .returning W3
  refine ⟨.tuple #[.agg #[.int .i64 0, .int .i64 0, .int .i64 0, .int .i64 0, .int .i64 0, .int .i64 0, .int .i64 0, .int .i64 0, .int .i64 0, .int .i64 0, .int .i64 0, .int .i64 0, .int .i64 0], .int .i64 1], by simp [results, Tryz.results50, r0, r1, r2, r3, r4, r5, r6, r7, r8, r9, r10, r11, r12, r13, go_sem], ?_⟩
  exact ⟨ev0, 1, rfl, .inl ⟨HNL.out, rfl, rfl⟩, HB3.out⟩
 subst hn
 have HEV : Hid (∀ W, Below w.heap.size w W → Calls Tryz.prog 74 #[.slice a 13 cap] W fun e w' => e = .returned (evOf l).v ∧ Below W.heap.size W w') := fun W hB => bevent a cap l W (hr.below hB) hm
 clear hr hm
 obtain ⟨v, hv⟩ : ∃ v, v = evOf l := ⟨_, rfl⟩
 have HVE : Hid (v = evOf l) := hv
 rw [← hv] at HEV
 clear hv
 have HMU : Hid (∀ W, Calls Tryz.prog 63 #[.agg #[.int .i64 v.kd, .int .i64 v.me, .int .i64 v.mo, .int .i64 v.id, .int .i64 v.te, .int .i64 v.de, .int .i64 v.fe, .int .i64 v.pr, .int .i64 v.ch, .int .i64 v.un, .int .i64 v.tg, .int .i64 v.ow, .int .i64 v.bp]] W fun e w' => MustPost W v e w') := fun W => bmust v W
 have nn : (((13 : Nat) : Int) != 13) = false := by decide
 go_enter_defers Tryz.func50, Tryz.ntmps50
 go_upto_region 4 with fail
 generalize ((w.alloc (.cells #[.int .i64 0, .int .i64 0, .int .i64 0, .int .i64 0, .int .i64 0, .int .i64 0, .int .i64 0, .int .i64 0, .int .i64 0, .int .i64 0, .int .i64 0, .int .i64 0, .int .i64 0] 71)).alloc (.cells #[.int .i64 0] 30)) = W1 at *
 have HE := HEV.out W1 HB1.out
 have HE' : Hid (Calls Tryz.prog 74 #[.slice a 13 cap] W1 fun e w' => e = .returned v.v ∧ Below W1.heap.size W1 w') := HE
 clear HE HEV
 go_wp2_with fail
 refine HE'.out.mono ?_
 rintro e W2 ⟨rfl, hb⟩
 have HR2 : Hid (Blk (W2.alloc (.cells #[.int .i64 v.kd, .int .i64 v.me, .int .i64 v.mo, .int .i64 v.id, .int .i64 v.te, .int .i64 v.de, .int .i64 v.fe, .int .i64 v.pr, .int .i64 v.ch, .int .i64 v.un, .int .i64 v.tg, .int .i64 v.ow, .int .i64 v.bp] 71)) w.heap.size #[.int .i64 0, .int .i64 0, .int .i64 0, .int .i64 0, .int .i64 0, .int .i64 0, .int .i64 0, .int .i64 0, .int .i64 0, .int .i64 0, .int .i64 0, .int .i64 0, .int .i64 0] 71) := (HR1.out.next hb).alloc _
 have HE2 : Hid (Blk (W2.alloc (.cells #[.int .i64 v.kd, .int .i64 v.me, .int .i64 v.mo, .int .i64 v.id, .int .i64 v.te, .int .i64 v.de, .int .i64 v.fe, .int .i64 v.pr, .int .i64 v.ch, .int .i64 v.un, .int .i64 v.tg, .int .i64 v.ow, .int .i64 v.bp] 71)) (w.heap.size + 1) #[.int .i64 0] 30) := (HE1.out.next hb).alloc _
 have HT2 : Hid (Blk (W2.alloc (.cells #[.int .i64 v.kd, .int .i64 v.me, .int .i64 v.mo, .int .i64 v.id, .int .i64 v.te, .int .i64 v.de, .int .i64 v.fe, .int .i64 v.pr, .int .i64 v.ch, .int .i64 v.un, .int .i64 v.tg, .int .i64 v.ow, .int .i64 v.bp] 71)) W2.heap.size #[.int .i64 v.kd, .int .i64 v.me, .int .i64 v.mo, .int .i64 v.id, .int .i64 v.te, .int .i64 v.de, .int .i64 v.fe, .int .i64 v.pr, .int .i64 v.ch, .int .i64 v.un, .int .i64 v.tg, .int .i64 v.ow, .int .i64 v.bp] 71) := Blk.new _ _ _
 have HB2 : Hid (Below w.heap.size w (W2.alloc (.cells #[.int .i64 v.kd, .int .i64 v.me, .int .i64 v.mo, .int .i64 v.id, .int .i64 v.te, .int .i64 v.de, .int .i64 v.fe, .int .i64 v.pr, .int .i64 v.ch, .int .i64 v.un, .int .i64 v.tg, .int .i64 v.ow, .int .i64 v.bp] 71))) := (bel_step HB1.out hb).alloc (bel_step HB1.out hb).size _
 have HG2 : Hid (w.heap.size + 1 < W2.heap.size) := (HE1.out.next hb).lt
 clear hb HR1 HE1 HB1 HE'
 unfold Ev.v
 go_upto_region 5 with fail
 generalize (W2.alloc (.cells #[.int .i64 v.kd, .int .i64 v.me, .int .i64 v.mo, .int .i64 v.id, .int .i64 v.te, .int .i64 v.de, .int .i64 v.fe, .int .i64 v.pr, .int .i64 v.ch, .int .i64 v.un, .int .i64 v.tg, .int .i64 v.ow, .int .i64 v.bp] 71)) = W3 at *
 generalize W2.heap.size = g at *
 obtain ⟨c0, c1, c2, c3, c4, c5, c6, c7, c8, c9, c10, c11, c12⟩ := scl13 HT2
 go_wp2_with fail
 refine (HMU.out _).mono ?_
 rintro e W4 ⟨hm, hb⟩
 have HR4 := shN HR2 hb
 have HE4 := shN HE2 hb
 have HT4 := shN HT2 hb
 have HB4 := shB HB2 hb
 clear hb HR2 HE2 HT2 HB2 HMU c0 c1 c2 c3 c4 c5 c6 c7 c8 c9 c10 c11 c12
 rcases hm with ⟨hm, rfl⟩ | ⟨hm, rfl⟩
 ·have HY : Hid (EMay v) := hm
  clear hm
  obtain ⟨c0, c1, c2, c3, c4, c5, c6, c7, c8, c9, c10, c11, c12⟩ := scl13 HT4
  go_wp2_with (first | (refine zql rfl rfl rfl rfl zqu71 (by simp [Value.oneCell']) HR4 rfl ?_) | fail)
  intro W5 hU
  have HR5 : Hid (Blk W5 w.heap.size #[.int .i64 v.kd, .int .i64 v.me, .int .i64 v.mo, .int .i64 v.id, .int .i64 v.te, .int .i64 v.de, .int .i64 v.fe, .int .i64 v.pr, .int .i64 v.ch, .int .i64 v.un, .int .i64 v.tg, .int .i64 v.ow, .int .i64 v.bp] 71) := hU.blk
  have HE5 := shK hU HE4 (by omega)
  have HB5 : Hid (Below w.heap.size w W5) := hU.bel _ _ (Nat.le_refl _) HB4.out
  clear hU HR4 HE4 HB4 HT4 c0 c1 c2 c3 c4 c5 c6 c7 c8 c9 c10 c11 c12
  go_wp2_with (first | (refine wp_let1 rfl 30 _ _ rfl (w.heap.size + 1) 0 rfl .i64 0 rfl (by kernel_rfl) #[.int .i64 0] 30 HE5.out (by decide) ?_) | fail)
  intro W6 hU
  have HR6 := shK hU HR5 (by omega)
  have HE6 : Hid (Blk W6 (w.heap.size + 1) #[.int .i64 0] 30) := hU.blk
  have HB6 := shV hU HB5 (by omega)
  clear hU HR5 HE5 HB5
  go_wp2_with fail
  refine leaves_cons (f := 73) (args := #[.pointer (some ⟨w.heap.size + 1, 0, none⟩)]) (by simp) (by simp [go_sem]) ?_
  refine (decode_idle (w.heap.size + 1) 0 _ HE6.out).mono ?_
  rintro e u' w5 ⟨rfl, hs, W, hb, hU⟩
  have HR7 : Blk w5 w.heap.size #[.int .i64 v.kd, .int .i64 v.me, .int .i64 v.mo, .int .i64 v.id, .int .i64 v.te, .int .i64 v.de, .int .i64 v.fe, .int .i64 v.pr, .int .i64 v.ch, .int .i64 v.un, .int .i64 v.tg, .int .i64 v.ow, .int .i64 v.bp] 71 := hU.keep (HR6.out.next hb) (by omega)
  have r13 : w5.cell? ⟨w.heap.size + 1, 0, none⟩ = some (.int .i64 0) := hU.blk.cell 0
  have HB7 : Below w.heap.size w w5 := hU.bel _ _ (by omega) (bel_step HB6.out hb)
  have r0 : w5.cell? ⟨w.heap.size, 0, none⟩ = some (.int .i64 v.kd) := HR7.cell 0
  have r1 : w5.cell? ⟨w.heap.size, 1, none⟩ = some (.int .i64 v.me) := HR7.cell 1
  have r2 : w5.cell? ⟨w.heap.size, 2, none⟩ = some (.int .i64 v.mo) := HR7.cell 2
  have r3 : w5.cell? ⟨w.heap.size, 3, none⟩ = some (.int .i64 v.id) := HR7.cell 3
  have r4 : w5.cell? ⟨w.heap.size, 4, none⟩ = some (.int .i64 v.te) := HR7.cell 4
  have r5 : w5.cell? ⟨w.heap.size, 5, none⟩ = some (.int .i64 v.de) := HR7.cell 5
  have r6 : w5.cell? ⟨w.heap.size, 6, none⟩ = some (.int .i64 v.fe) := HR7.cell 6
  have r7 : w5.cell? ⟨w.heap.size, 7, none⟩ = some (.int .i64 v.pr) := HR7.cell 7
  have r8 : w5.cell? ⟨w.heap.size, 8, none⟩ = some (.int .i64 v.ch) := HR7.cell 8
  have r9 : w5.cell? ⟨w.heap.size, 9, none⟩ = some (.int .i64 v.un) := HR7.cell 9
  have r10 : w5.cell? ⟨w.heap.size, 10, none⟩ = some (.int .i64 v.tg) := HR7.cell 10
  have r11 : w5.cell? ⟨w.heap.size, 11, none⟩ = some (.int .i64 v.ow) := HR7.cell 11
  have r12 : w5.cell? ⟨w.heap.size, 12, none⟩ = some (.int .i64 v.bp) := HR7.cell 12
  show Leaves _ _ _ _ [] (settle u') w5
  rw [hs]
  refine ⟨.tuple #[.agg #[.int .i64 v.kd, .int .i64 v.me, .int .i64 v.mo, .int .i64 v.id, .int .i64 v.te, .int .i64 v.de, .int .i64 v.fe, .int .i64 v.pr, .int .i64 v.ch, .int .i64 v.un, .int .i64 v.tg, .int .i64 v.ow, .int .i64 v.bp], .int .i64 0], by simp [results, Tryz.results50, r0, r1, r2, r3, r4, r5, r6, r7, r8, r9, r10, r11, r12, r13, go_sem], ?_⟩
  exact ⟨v, 0, rfl, .inr (.inr ⟨HLN.out, by rw [← HVE.out]; exact HY.out, HVE.out, rfl⟩), HB7⟩
 ·have HN : Hid (¬ EMay v) := hm
  clear hm
  refine leaves_cons (f := 73) (args := #[.pointer (some ⟨w.heap.size + 1, 0, none⟩)]) (by simp) (by simp [go_sem]) ?_
  refine (decode_caught (w.heap.size + 1) 0 5 _ HE4.out).mono ?_
  rintro e u' w5 ⟨rfl, hs, W, hb, hU⟩
  have HR7 : Blk w5 w.heap.size #[.int .i64 0, .int .i64 0, .int .i64 0, .int .i64 0, .int .i64 0, .int .i64 0, .int .i64 0, .int .i64 0, .int .i64 0, .int .i64 0, .int .i64 0, .int .i64 0, .int .i64 0] 71 := hU.keep (HR4.out.next hb) (by omega)
  have r13 : w5.cell? ⟨w.heap.size + 1, 0, none⟩ = some (.int .i64 5) := hU.blk.cell 0
  have HB7 : Below w.heap.size w w5 := hU.bel _ _ (by omega) (bel_step HB4.out hb)
  have r0 : w5.cell? ⟨w.heap.size, 0, none⟩ = some (.int .i64 0) := HR7.cell 0
  have r1 : w5.cell? ⟨w.heap.size, 1, none⟩ = some (.int .i64 0) := HR7.cell 1
  have r2 : w5.cell? ⟨w.heap.size, 2, none⟩ = some (.int .i64 0) := HR7.cell 2
  have r3 : w5.cell? ⟨w.heap.size, 3, none⟩ = some (.int .i64 0) := HR7.cell 3
  have r4 : w5.cell? ⟨w.heap.size, 4, none⟩ = some (.int .i64 0) := HR7.cell 4
  have r5 : w5.cell? ⟨w.heap.size, 5, none⟩ = some (.int .i64 0) := HR7.cell 5
  have r6 : w5.cell? ⟨w.heap.size, 6, none⟩ = some (.int .i64 0) := HR7.cell 6
  have r7 : w5.cell? ⟨w.heap.size, 7, none⟩ = some (.int .i64 0) := HR7.cell 7
  have r8 : w5.cell? ⟨w.heap.size, 8, none⟩ = some (.int .i64 0) := HR7.cell 8
  have r9 : w5.cell? ⟨w.heap.size, 9, none⟩ = some (.int .i64 0) := HR7.cell 9
  have r10 : w5.cell? ⟨w.heap.size, 10, none⟩ = some (.int .i64 0) := HR7.cell 10
  have r11 : w5.cell? ⟨w.heap.size, 11, none⟩ = some (.int .i64 0) := HR7.cell 11
  have r12 : w5.cell? ⟨w.heap.size, 12, none⟩ = some (.int .i64 0) := HR7.cell 12
  show Leaves _ _ _ _ [] (settle u') w5
  rw [hs]
  refine ⟨.tuple #[.agg #[.int .i64 0, .int .i64 0, .int .i64 0, .int .i64 0, .int .i64 0, .int .i64 0, .int .i64 0, .int .i64 0, .int .i64 0, .int .i64 0, .int .i64 0, .int .i64 0, .int .i64 0], .int .i64 5], by simp [results, Tryz.results50, r0, r1, r2, r3, r4, r5, r6, r7, r8, r9, r10, r11, r12, r13, go_sem], ?_⟩
  exact ⟨ev0, 5, rfl, .inr (.inl ⟨HLN.out, by rw [← HVE.out]; exact HN.out, rfl, rfl⟩), HB7⟩
end book
end Go.Proofs.YtomibnggmhjdfaaGreat
