/- An event that may be, or it is given up. -/
import Derived.Test.YtfhlokjpdkmdjaaBpK
import Derived.Test.YtfhlokjpdkmdjaaBpL
import Derived.Test.YtfhlokjpdkmdjaaBpT
import Derived.Test.YtfhlokjpdkmdjaaBkE
import Derived.Test.YtfhlokjpdkmdjaaWpNe
import Derived.WalkKit
import Derived.Deep.DeepCutAuto
namespace Go.Proofs.Ytfhlokjpdkmdjaa.book
open Go.RowKit
set_option maxRecDepth 100000
set_option linter.unusedVariables false
set_option linter.unusedSimpArgs false

def MustPost (w : World) (v : Ev) (e : Ending) (w' : World) : Prop := ((EMay v ∧ e = .returned (.tuple #[])) ∨ (¬ EMay v ∧ e = .panicked (thrown 5))) ∧ Below w.heap.size w w'
theorem eqEv_any (a b : Ev) (w : World) : ∃ B, (Op.equalIn 10000 27 (.agg a.cs) (.agg b.cs)).run Try.prog w = .ok B w ∧ (B = true ↔ a = b) := by
  obtain ⟨a0, a1, a2, a3, a4, a5, a6, a7, a8, a9, a10, a11, a12⟩ := a
  obtain ⟨b0, b1, b2, b3, b4, b5, b6, b7, b8, b9, b10, b11, b12⟩ := b
  refine ⟨_, eqEv 9997 a0 a1 a2 a3 a4 a5 a6 a7 a8 a9 a10 a11 a12 b0 b1 b2 b3 b4 b5 b6 b7 b8 b9 b10 b11 b12 w, ?_⟩
  rw [decide_eq_true_iff]
  constructor
  · rintro ⟨rfl, rfl, rfl, rfl, rfl, rfl, rfl, rfl, rfl, rfl, rfl, rfl, rfl⟩; rfl
  · intro h; cases h; exact ⟨rfl, rfl, rfl, rfl, rfl, rfl, rfl, rfl, rfl, rfl, rfl, rfl, rfl⟩
set_option maxHeartbeats 4000000 in
theorem bmust (v : Ev) (w : World) : Calls Try.prog 27 #[.agg #[.int .i64 v.kd, .int .i64 v.me, .int .i64 v.mo, .int .i64 v.id, .int .i64 v.te, .int .i64 v.de, .int .i64 v.fe, .int .i64 v.pr, .int .i64 v.ch, .int .i64 v.un, .int .i64 v.tg, .int .i64 v.ow, .int .i64 v.bp]] w fun e w' => MustPost w v e w' := by
  have HMI : Hid (EMay v ↔ (0 ≤ v.me ∧ v.me ≤ 49) ∧ KindR v ∧ leftE v = ev0) := may_iff v
  have HX0 : Hid (Blk (w.alloc (.cells #[.int .i64 v.kd, .int .i64 v.me, .int .i64 v.mo, .int .i64 v.id, .int .i64 v.te, .int .i64 v.de, .int .i64 v.fe, .int .i64 v.pr, .int .i64 v.ch, .int .i64 v.un, .int .i64 v.tg, .int .i64 v.ow, .int .i64 v.bp] 27)) w.heap.size #[.int .i64 v.kd, .int .i64 v.me, .int .i64 v.mo, .int .i64 v.id, .int .i64 v.te, .int .i64 v.de, .int .i64 v.fe, .int .i64 v.pr, .int .i64 v.ch, .int .i64 v.un, .int .i64 v.tg, .int .i64 v.ow, .int .i64 v.bp] 27) := Blk.new _ _ _
  have HB0 : Hid (Below w.heap.size w (w.alloc (.cells #[.int .i64 v.kd, .int .i64 v.me, .int .i64 v.mo, .int .i64 v.id, .int .i64 v.te, .int .i64 v.de, .int .i64 v.fe, .int .i64 v.pr, .int .i64 v.ch, .int .i64 v.un, .int .i64 v.tg, .int .i64 v.ow, .int .i64 v.bp] 27))) := (Below.refl _ _).alloc (Nat.le_refl _) _
  have HNO : Hid (∀ W, Calls Try.prog 46 #[.int .i64 5] W fun e w' => e = .panicked (thrown 5) ∧ w' = W) := fun W => insist_no 5 (by decide) W
  have HKR : Hid (∀ W, Calls Try.prog 44 #[.agg #[.int .i64 v.kd, .int .i64 v.me, .int .i64 v.mo, .int .i64 v.id, .int .i64 v.te, .int .i64 v.de, .int .i64 v.fe, .int .i64 v.pr, .int .i64 v.ch, .int .i64 v.un, .int .i64 v.tg, .int .i64 v.ow, .int .i64 v.bp]] W fun e w' => YN W (KindR v) e w') := fun W => bkind v.kd v.me v.mo v.id v.te v.de v.fe v.pr v.ch v.un v.tg v.ow v.bp W
  have HLE : Hid (∀ W, Calls Try.prog 45 #[.agg #[.int .i64 v.kd, .int .i64 v.me, .int .i64 v.mo, .int .i64 v.id, .int .i64 v.te, .int .i64 v.de, .int .i64 v.fe, .int .i64 v.pr, .int .i64 v.ch, .int .i64 v.un, .int .i64 v.tg, .int .i64 v.ow, .int .i64 v.bp]] W fun e w' => e = .returned (leftE v).v ∧ Below W.heap.size W w') := fun W => bleft v W
  generalize hWW : (w.alloc (.cells #[.int .i64 v.kd, .int .i64 v.me, .int .i64 v.mo, .int .i64 v.id, .int .i64 v.te, .int .i64 v.de, .int .i64 v.fe, .int .i64 v.pr, .int .i64 v.ch, .int .i64 v.un, .int .i64 v.tg, .int .i64 v.ow, .int .i64 v.bp] 27)) = W0 at *
  have HWW : Hid ((w.alloc (.cells #[.int .i64 v.kd, .int .i64 v.me, .int .i64 v.mo, .int .i64 v.id, .int .i64 v.te, .int .i64 v.de, .int .i64 v.fe, .int .i64 v.pr, .int .i64 v.ch, .int .i64 v.un, .int .i64 v.tg, .int .i64 v.ow, .int .i64 v.bp] 27)) = W0) := hWW
  clear hWW
  go_enter Try.func27, Try.ntmps27
  go_upto_region 1 with fail
  rw [HWW.out]
  clear HWW
  have c0 : W0.cell? ⟨w.heap.size, 0, none⟩ = some (.int .i64 v.kd) := HX0.out.cell 0
  have c1 : W0.cell? ⟨w.heap.size, 1, none⟩ = some (.int .i64 v.me) := HX0.out.cell 1
  have c2 : W0.cell? ⟨w.heap.size, 2, none⟩ = some (.int .i64 v.mo) := HX0.out.cell 2
  have c3 : W0.cell? ⟨w.heap.size, 3, none⟩ = some (.int .i64 v.id) := HX0.out.cell 3
  have c4 : W0.cell? ⟨w.heap.size, 4, none⟩ = some (.int .i64 v.te) := HX0.out.cell 4
  have c5 : W0.cell? ⟨w.heap.size, 5, none⟩ = some (.int .i64 v.de) := HX0.out.cell 5
  have c6 : W0.cell? ⟨w.heap.size, 6, none⟩ = some (.int .i64 v.fe) := HX0.out.cell 6
  have c7 : W0.cell? ⟨w.heap.size, 7, none⟩ = some (.int .i64 v.pr) := HX0.out.cell 7
  have c8 : W0.cell? ⟨w.heap.size, 8, none⟩ = some (.int .i64 v.ch) := HX0.out.cell 8
  have c9 : W0.cell? ⟨w.heap.size, 9, none⟩ = some (.int .i64 v.un) := HX0.out.cell 9
  have c10 : W0.cell? ⟨w.heap.size, 10, none⟩ = some (.int .i64 v.tg) := HX0.out.cell 10
  have c11 : W0.cell? ⟨w.heap.size, 11, none⟩ = some (.int .i64 v.ow) := HX0.out.cell 11
  have c12 : W0.cell? ⟨w.heap.size, 12, none⟩ = some (.int .i64 v.bp) := HX0.out.cell 12
  have HW : Hid (Calls Try.prog 43 #[.int .i64 0, .int .i64 49, .slice (some ⟨W0.heap.size, 0, none⟩) 1 1] (W0.alloc (.cells #[.int .i64 v.me] 3)) fun e w' => e = .returned (.bool (decide (0 ≤ v.me ∧ v.me ≤ 49))) ∧ w' = (W0.alloc (.cells #[.int .i64 v.me] 3))) := bki.within_one 0 49 v.me W0 _ rfl
  have HB1 : Hid (Below w.heap.size w (W0.alloc (.cells #[.int .i64 v.me] 3))) := HB0.out.alloc HB0.out.size _
  have HX1 : Hid (Blk (W0.alloc (.cells #[.int .i64 v.me] 3)) w.heap.size #[.int .i64 v.kd, .int .i64 v.me, .int .i64 v.mo, .int .i64 v.id, .int .i64 v.te, .int .i64 v.de, .int .i64 v.fe, .int .i64 v.pr, .int .i64 v.ch, .int .i64 v.un, .int .i64 v.tg, .int .i64 v.ow, .int .i64 v.bp] 27) := HX0.out.alloc _
  by_cases h0 : 0 ≤ v.me ∧ v.me ≤ 49
  case neg =>
    rw [decide_eq_false h0] at HW
    have HN : Hid (¬ EMay v) := fun q => h0 (HMI.out.1 q).1
    clear h0
    go_wp2_with fail
    refine HW.out.mono ?_
    rintro e W ⟨rfl, hw⟩
    subst hw
    clear HW
    clear HX0 HB0 c0 c1 c2 c3 c4 c5 c6 c7 c8 c9 c10 c11 c12
    generalize (W0.alloc (.cells #[.int .i64 v.me] 3)) = W1 at *
    have c0 : W1.cell? ⟨w.heap.size, 0, none⟩ = some (.int .i64 v.kd) := HX1.out.cell 0
    have c1 : W1.cell? ⟨w.heap.size, 1, none⟩ = some (.int .i64 v.me) := HX1.out.cell 1
    have c2 : W1.cell? ⟨w.heap.size, 2, none⟩ = some (.int .i64 v.mo) := HX1.out.cell 2
    have c3 : W1.cell? ⟨w.heap.size, 3, none⟩ = some (.int .i64 v.id) := HX1.out.cell 3
    have c4 : W1.cell? ⟨w.heap.size, 4, none⟩ = some (.int .i64 v.te) := HX1.out.cell 4
    have c5 : W1.cell? ⟨w.heap.size, 5, none⟩ = some (.int .i64 v.de) := HX1.out.cell 5
    have c6 : W1.cell? ⟨w.heap.size, 6, none⟩ = some (.int .i64 v.fe) := HX1.out.cell 6
    have c7 : W1.cell? ⟨w.heap.size, 7, none⟩ = some (.int .i64 v.pr) := HX1.out.cell 7
    have c8 : W1.cell? ⟨w.heap.size, 8, none⟩ = some (.int .i64 v.ch) := HX1.out.cell 8
    have c9 : W1.cell? ⟨w.heap.size, 9, none⟩ = some (.int .i64 v.un) := HX1.out.cell 9
    have c10 : W1.cell? ⟨w.heap.size, 10, none⟩ = some (.int .i64 v.tg) := HX1.out.cell 10
    have c11 : W1.cell? ⟨w.heap.size, 11, none⟩ = some (.int .i64 v.ow) := HX1.out.cell 11
    have c12 : W1.cell? ⟨w.heap.size, 12, none⟩ = some (.int .i64 v.bp) := HX1.out.cell 12
    go_wp2_with fail
    refine (HNO.out _).mono ?_
    rintro e W9 ⟨rfl, rfl⟩
    exact ⟨rfl, .inr ⟨HN.out, rfl⟩, HB1.out⟩
  rw [decide_eq_true h0] at HW
  have H0 : Hid (0 ≤ v.me ∧ v.me ≤ 49) := h0
  clear h0
  go_wp2_with fail
  refine HW.out.mono ?_
  rintro e W ⟨rfl, hw⟩
  subst hw
  clear HW HX0 HB0
  clear c0 c1 c2 c3 c4 c5 c6 c7 c8 c9 c10 c11 c12
  generalize (W0.alloc (.cells #[.int .i64 v.me] 3)) = W1 at *
  have c0 : W1.cell? ⟨w.heap.size, 0, none⟩ = some (.int .i64 v.kd) := HX1.out.cell 0
  have c1 : W1.cell? ⟨w.heap.size, 1, none⟩ = some (.int .i64 v.me) := HX1.out.cell 1
  have c2 : W1.cell? ⟨w.heap.size, 2, none⟩ = some (.int .i64 v.mo) := HX1.out.cell 2
  have c3 : W1.cell? ⟨w.heap.size, 3, none⟩ = some (.int .i64 v.id) := HX1.out.cell 3
  have c4 : W1.cell? ⟨w.heap.size, 4, none⟩ = some (.int .i64 v.te) := HX1.out.cell 4
  have c5 : W1.cell? ⟨w.heap.size, 5, none⟩ = some (.int .i64 v.de) := HX1.out.cell 5
  have c6 : W1.cell? ⟨w.heap.size, 6, none⟩ = some (.int .i64 v.fe) := HX1.out.cell 6
  have c7 : W1.cell? ⟨w.heap.size, 7, none⟩ = some (.int .i64 v.pr) := HX1.out.cell 7
  have c8 : W1.cell? ⟨w.heap.size, 8, none⟩ = some (.int .i64 v.ch) := HX1.out.cell 8
  have c9 : W1.cell? ⟨w.heap.size, 9, none⟩ = some (.int .i64 v.un) := HX1.out.cell 9
  have c10 : W1.cell? ⟨w.heap.size, 10, none⟩ = some (.int .i64 v.tg) := HX1.out.cell 10
  have c11 : W1.cell? ⟨w.heap.size, 11, none⟩ = some (.int .i64 v.ow) := HX1.out.cell 11
  have c12 : W1.cell? ⟨w.heap.size, 12, none⟩ = some (.int .i64 v.bp) := HX1.out.cell 12
  go_wp2_with fail
  refine (HKR.out _).mono ?_
  rintro e W2 ⟨B, rfl, hB, hb⟩
  have HB2 : Hid (Below w.heap.size w W2) := bel_step HB1.out hb
  have HX2 : Hid (Blk W2 w.heap.size #[.int .i64 v.kd, .int .i64 v.me, .int .i64 v.mo, .int .i64 v.id, .int .i64 v.te, .int .i64 v.de, .int .i64 v.fe, .int .i64 v.pr, .int .i64 v.ch, .int .i64 v.un, .int .i64 v.tg, .int .i64 v.ow, .int .i64 v.bp] 27) := HX1.out.next hb
  clear hb HKR HB1 HX1
  clear c0 c1 c2 c3 c4 c5 c6 c7 c8 c9 c10 c11 c12
  have c0 : W2.cell? ⟨w.heap.size, 0, none⟩ = some (.int .i64 v.kd) := HX2.out.cell 0
  have c1 : W2.cell? ⟨w.heap.size, 1, none⟩ = some (.int .i64 v.me) := HX2.out.cell 1
  have c2 : W2.cell? ⟨w.heap.size, 2, none⟩ = some (.int .i64 v.mo) := HX2.out.cell 2
  have c3 : W2.cell? ⟨w.heap.size, 3, none⟩ = some (.int .i64 v.id) := HX2.out.cell 3
  have c4 : W2.cell? ⟨w.heap.size, 4, none⟩ = some (.int .i64 v.te) := HX2.out.cell 4
  have c5 : W2.cell? ⟨w.heap.size, 5, none⟩ = some (.int .i64 v.de) := HX2.out.cell 5
  have c6 : W2.cell? ⟨w.heap.size, 6, none⟩ = some (.int .i64 v.fe) := HX2.out.cell 6
  have c7 : W2.cell? ⟨w.heap.size, 7, none⟩ = some (.int .i64 v.pr) := HX2.out.cell 7
  have c8 : W2.cell? ⟨w.heap.size, 8, none⟩ = some (.int .i64 v.ch) := HX2.out.cell 8
  have c9 : W2.cell? ⟨w.heap.size, 9, none⟩ = some (.int .i64 v.un) := HX2.out.cell 9
  have c10 : W2.cell? ⟨w.heap.size, 10, none⟩ = some (.int .i64 v.tg) := HX2.out.cell 10
  have c11 : W2.cell? ⟨w.heap.size, 11, none⟩ = some (.int .i64 v.ow) := HX2.out.cell 11
  have c12 : W2.cell? ⟨w.heap.size, 12, none⟩ = some (.int .i64 v.bp) := HX2.out.cell 12
  cases B
  case false =>
    have HN : Hid (¬ EMay v) := fun q => absurd (hB.2 (HMI.out.1 q).2.1) (by decide)
    clear hB
    go_wp2_with fail
    refine (HNO.out _).mono ?_
    rintro e W9 ⟨rfl, rfl⟩
    exact ⟨rfl, .inr ⟨HN.out, rfl⟩, HB2.out⟩
  have HK : Hid (KindR v) := hB.1 rfl
  clear hB
  go_wp2_with fail
  refine (HLE.out _).mono ?_
  rintro e W3 ⟨rfl, hb⟩
  have HB3 : Hid (Below w.heap.size w W3) := bel_step HB2.out hb
  clear hb HLE HB2 HX2
  clear c0 c1 c2 c3 c4 c5 c6 c7 c8 c9 c10 c11 c12
  obtain ⟨B, hB, hBi⟩ := eqEv_any (leftE v) ev0 W3
  have HEQ : Hid ((Op.equalIn 10000 27 (.agg (leftE v).cs) (.agg ev0.cs)).run Try.prog W3 = .ok B W3) := hB
  have HBI : Hid (B = true ↔ leftE v = ev0) := hBi
  clear hB hBi
  unfold Ev.v
  cases B
  case false =>
    have HN : Hid (¬ EMay v) := fun q => absurd (HBI.out.2 (HMI.out.1 q).2.2) (by decide)
    go_wp2_with (first | (refine wp_neE (by rfl) 27 _ _ _ rfl (leftE v).cs ev0.cs rfl rfl (by kernel_rfl) false HEQ.out _ rfl ?_) | fail)
    go_wp2_with fail
    refine (HNO.out _).mono ?_
    rintro e W9 ⟨rfl, rfl⟩
    exact ⟨rfl, .inr ⟨HN.out, rfl⟩, HB3.out⟩
  case true =>
    have HY : Hid (EMay v) := HMI.out.2 ⟨H0.out, HK.out, HBI.out.1 rfl⟩
    go_wp2_with (first | (refine wp_neE (by rfl) 27 _ _ _ rfl (leftE v).cs ev0.cs rfl rfl (by kernel_rfl) true HEQ.out _ rfl ?_) | fail)
    go_end0
    exact ⟨.inl ⟨HY.out, rfl⟩, HB3.out⟩

end Go.Proofs.Ytfhlokjpdkmdjaa.book
