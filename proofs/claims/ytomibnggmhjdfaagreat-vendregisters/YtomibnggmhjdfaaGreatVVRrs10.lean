import Derived.Test.YtomibnggmhjdfaaGreatVVRrs9
set_option linter.unusedVariables false
set_option linter.unusedSimpArgs false
namespace Go.Proofs.YtomibnggmhjdfaaGreat
namespace acc
open tar (Du du0 Came RowD Ld PairT)
open Go.RowKit
set_option maxRecDepth 100000
set_option maxHeartbeats 2000000 in
theorem amay0 (x : Ac) (p : Option Addr) (len cap : Nat) (w : World) (h : RowD w p len x.ds) (hl : len ≤ maxLen) (hd : ¬ deb.Mays x.ds) : Calls Tryz.prog 47 #[.agg #[.int .i64 x.me, .int .i64 x.rv, .int .i64 x.nx, .int .i64 x.mo, .int .i64 x.bo, .int .i64 x.fr, .slice p len cap]] w fun e w' => e = .returned (.bool false) ∧ Below w.heap.size w w' := by
 obtain ⟨WW, HWW, HBK, HBA, -⟩ := sh1 w #[.int .i64 x.me, .int .i64 x.rv, .int .i64 x.nx, .int .i64 x.mo, .int .i64 x.bo, .int .i64 x.fr, .slice p len cap] 59
 have HRA : Hid (RowD WW p len x.ds) := h.below HBA.out
 obtain ⟨c0, c1, c2, c3, c4, c5, c6⟩ := scl7 HBK
 have HFA : Hid (Calls Tryz.prog 70 #[.slice p len cap] WW fun e w' => ∃ f, e = .returned (.int .i64 f) ∧ deb.FaultIs x.ds f ∧ w' = WW) := deb.rfault p len cap x.ds _ HRA.out hl
 have HD : Hid (¬ deb.Mays x.ds) := hd
 clear h hl hd HRA HBK
 go_enter Tryz.func47, Tryz.ntmps47
 go_upto_region 1 with fail
 rw [HWW.out]
 clear HWW
 go_wp2_with fail
 refine HFA.out.mono ?_
 rintro e w1 ⟨f, rfl, hf, hw1⟩
 subst hw1
 have hne : (f != 0) = true := by simpa using fun e => HD.out (hf.ok.1 e)
 clear hf HFA
 go_wp2_with fail
 all_goals first
  | (rename_i q1 q2; exact absurd q1 (by simp [undef]))
  | (go_ret; exact ⟨rfl, HBA.out⟩)
set_option maxHeartbeats 2000000 in
theorem amay1 (x : Ac) (p : Option Addr) (len cap : Nat) (w : World) (h : RowD w p len x.ds) (hl : len ≤ maxLen) (hd : deb.Mays x.ds) (h1 : ¬ (0 ≤ x.me ∧ x.me ≤ 49)) : Calls Tryz.prog 47 #[.agg #[.int .i64 x.me, .int .i64 x.rv, .int .i64 x.nx, .int .i64 x.mo, .int .i64 x.bo, .int .i64 x.fr, .slice p len cap]] w fun e w' => e = .returned (.bool false) ∧ Below w.heap.size w w' := by
 obtain ⟨WW, HWW, HBK, HBA, -⟩ := sh1 w #[.int .i64 x.me, .int .i64 x.rv, .int .i64 x.nx, .int .i64 x.mo, .int .i64 x.bo, .int .i64 x.fr, .slice p len cap] 59
 have HRA : Hid (RowD WW p len x.ds) := h.below HBA.out
 obtain ⟨c0, c1, c2, c3, c4, c5, c6⟩ := scl7 HBK
 have HFA : Hid (Calls Tryz.prog 70 #[.slice p len cap] WW fun e w' => ∃ f, e = .returned (.int .i64 f) ∧ deb.FaultIs x.ds f ∧ w' = WW) := deb.rfault p len cap x.ds _ HRA.out hl
 have HI1 : Hid (∀ W, Calls Tryz.prog 25 #[.int .i64 x.me, .int .i64 0, .int .i64 49] W fun e w' => e = .returned (.bool (decide (0 ≤ x.me ∧ x.me ≤ 49))) ∧ w' = W) := fun W => cal.cin x.me 0 49 W
 rw [decide_eq_false h1] at HI1
 have HD : Hid (deb.Mays x.ds) := hd
 clear h hl hd HRA HBK h1
 go_enter Tryz.func47, Tryz.ntmps47
 go_upto_region 1 with fail
 rw [HWW.out]
 clear HWW
 go_wp2_with fail
 refine HFA.out.mono ?_
 rintro e w1 ⟨f, rfl, hf, hw1⟩
 subst hw1
 obtain rfl : f = 0 := hf.ok.2 HD.out
 clear hf HFA
 go_wp2_with fail
 refine (HI1.out _).mono ?_
 rintro e w2 ⟨rfl, hw2⟩
 subst hw2
 go_wp2_with fail
 all_goals first
  | (rename_i q1 q2; exact absurd q1 (by simp [undef]))
  | (go_ret; exact ⟨rfl, HBA.out⟩)
set_option maxHeartbeats 2000000 in
theorem amay2 (x : Ac) (p : Option Addr) (len cap : Nat) (w : World) (h : RowD w p len x.ds) (hl : len ≤ maxLen) (hd : deb.Mays x.ds) (h1 : 0 ≤ x.me ∧ x.me ≤ 49) (h2 : ¬ (0 ≤ x.rv ∧ x.rv ≤ 15)) : Calls Tryz.prog 47 #[.agg #[.int .i64 x.me, .int .i64 x.rv, .int .i64 x.nx, .int .i64 x.mo, .int .i64 x.bo, .int .i64 x.fr, .slice p len cap]] w fun e w' => e = .returned (.bool false) ∧ Below w.heap.size w w' := by
 obtain ⟨WW, HWW, HBK, HBA, -⟩ := sh1 w #[.int .i64 x.me, .int .i64 x.rv, .int .i64 x.nx, .int .i64 x.mo, .int .i64 x.bo, .int .i64 x.fr, .slice p len cap] 59
 have HRA : Hid (RowD WW p len x.ds) := h.below HBA.out
 obtain ⟨c0, c1, c2, c3, c4, c5, c6⟩ := scl7 HBK
 have HFA : Hid (Calls Tryz.prog 70 #[.slice p len cap] WW fun e w' => ∃ f, e = .returned (.int .i64 f) ∧ deb.FaultIs x.ds f ∧ w' = WW) := deb.rfault p len cap x.ds _ HRA.out hl
 have HI1 : Hid (∀ W, Calls Tryz.prog 25 #[.int .i64 x.me, .int .i64 0, .int .i64 49] W fun e w' => e = .returned (.bool (decide (0 ≤ x.me ∧ x.me ≤ 49))) ∧ w' = W) := fun W => cal.cin x.me 0 49 W
 rw [decide_eq_true h1] at HI1
 have HI2 : Hid (∀ W, Calls Tryz.prog 25 #[.int .i64 x.rv, .int .i64 0, .int .i64 15] W fun e w' => e = .returned (.bool (decide (0 ≤ x.rv ∧ x.rv ≤ 15))) ∧ w' = W) := fun W => cal.cin x.rv 0 15 W
 rw [decide_eq_false h2] at HI2
 have HD : Hid (deb.Mays x.ds) := hd
 clear h hl hd HRA HBK h1 h2
 go_enter Tryz.func47, Tryz.ntmps47
 go_upto_region 1 with fail
 rw [HWW.out]
 clear HWW
 go_wp2_with fail
 refine HFA.out.mono ?_
 rintro e w1 ⟨f, rfl, hf, hw1⟩
 subst hw1
 obtain rfl : f = 0 := hf.ok.2 HD.out
 clear hf HFA
 go_wp2_with fail
 refine (HI1.out _).mono ?_
 rintro e w2 ⟨rfl, hw2⟩
 subst hw2
 go_wp2_with fail
 refine (HI2.out _).mono ?_
 rintro e w2 ⟨rfl, hw2⟩
 subst hw2
 go_wp2_with fail
 all_goals first
  | (rename_i q1 q2; exact absurd q1 (by simp [undef]))
  | (go_ret; exact ⟨rfl, HBA.out⟩)
set_option maxHeartbeats 2000000 in
theorem amay3 (x : Ac) (p : Option Addr) (len cap : Nat) (w : World) (h : RowD w p len x.ds) (hl : len ≤ maxLen) (hd : deb.Mays x.ds) (h1 : 0 ≤ x.me ∧ x.me ≤ 49) (h2 : 0 ≤ x.rv ∧ x.rv ≤ 15) (h3 : ¬ (1 ≤ x.nx ∧ x.nx ≤ 1048576)) : Calls Tryz.prog 47 #[.agg #[.int .i64 x.me, .int .i64 x.rv, .int .i64 x.nx, .int .i64 x.mo, .int .i64 x.bo, .int .i64 x.fr, .slice p len cap]] w fun e w' => e = .returned (.bool false) ∧ Below w.heap.size w w' := by
 obtain ⟨WW, HWW, HBK, HBA, -⟩ := sh1 w #[.int .i64 x.me, .int .i64 x.rv, .int .i64 x.nx, .int .i64 x.mo, .int .i64 x.bo, .int .i64 x.fr, .slice p len cap] 59
 have HRA : Hid (RowD WW p len x.ds) := h.below HBA.out
 obtain ⟨c0, c1, c2, c3, c4, c5, c6⟩ := scl7 HBK
 have HFA : Hid (Calls Tryz.prog 70 #[.slice p len cap] WW fun e w' => ∃ f, e = .returned (.int .i64 f) ∧ deb.FaultIs x.ds f ∧ w' = WW) := deb.rfault p len cap x.ds _ HRA.out hl
 have HI1 : Hid (∀ W, Calls Tryz.prog 25 #[.int .i64 x.me, .int .i64 0, .int .i64 49] W fun e w' => e = .returned (.bool (decide (0 ≤ x.me ∧ x.me ≤ 49))) ∧ w' = W) := fun W => cal.cin x.me 0 49 W
 rw [decide_eq_true h1] at HI1
 have HI2 : Hid (∀ W, Calls Tryz.prog 25 #[.int .i64 x.rv, .int .i64 0, .int .i64 15] W fun e w' => e = .returned (.bool (decide (0 ≤ x.rv ∧ x.rv ≤ 15))) ∧ w' = W) := fun W => cal.cin x.rv 0 15 W
 rw [decide_eq_true h2] at HI2
 have HI3 : Hid (∀ W, Calls Tryz.prog 25 #[.int .i64 x.nx, .int .i64 1, .int .i64 1048576] W fun e w' => e = .returned (.bool (decide (1 ≤ x.nx ∧ x.nx ≤ 1048576))) ∧ w' = W) := fun W => cal.cin x.nx 1 1048576 W
 rw [decide_eq_false h3] at HI3
 have HD : Hid (deb.Mays x.ds) := hd
 clear h hl hd HRA HBK h1 h2 h3
 go_enter Tryz.func47, Tryz.ntmps47
 go_upto_region 1 with fail
 rw [HWW.out]
 clear HWW
 go_wp2_with fail
 refine HFA.out.mono ?_
 rintro e w1 ⟨f, rfl, hf, hw1⟩
 subst hw1
 obtain rfl : f = 0 := hf.ok.2 HD.out
 clear hf HFA
 go_wp2_with fail
 refine (HI1.out _).mono ?_
 rintro e w2 ⟨rfl, hw2⟩
 subst hw2
 go_wp2_with fail
 refine (HI2.out _).mono ?_
 rintro e w2 ⟨rfl, hw2⟩
 subst hw2
 go_wp2_with fail
 refine (HI3.out _).mono ?_
 rintro e w2 ⟨rfl, hw2⟩
 subst hw2
 go_wp2_with fail
 all_goals first
  | (rename_i q1 q2; exact absurd q1 (by simp [undef]))
  | (go_ret; exact ⟨rfl, HBA.out⟩)
set_option maxHeartbeats 2000000 in
theorem amay4 (x : Ac) (p : Option Addr) (len cap : Nat) (w : World) (h : RowD w p len x.ds) (hl : len ≤ maxLen) (hd : deb.Mays x.ds) (h1 : 0 ≤ x.me ∧ x.me ≤ 49) (h2 : 0 ≤ x.rv ∧ x.rv ≤ 15) (h3 : 1 ≤ x.nx ∧ x.nx ≤ 1048576) (h4 : ¬ (0 ≤ x.mo ∧ x.mo ≤ 2399)) : Calls Tryz.prog 47 #[.agg #[.int .i64 x.me, .int .i64 x.rv, .int .i64 x.nx, .int .i64 x.mo, .int .i64 x.bo, .int .i64 x.fr, .slice p len cap]] w fun e w' => e = .returned (.bool false) ∧ Below w.heap.size w w' := by
 obtain ⟨WW, HWW, HBK, HBA, -⟩ := sh1 w #[.int .i64 x.me, .int .i64 x.rv, .int .i64 x.nx, .int .i64 x.mo, .int .i64 x.bo, .int .i64 x.fr, .slice p len cap] 59
 have HRA : Hid (RowD WW p len x.ds) := h.below HBA.out
 obtain ⟨c0, c1, c2, c3, c4, c5, c6⟩ := scl7 HBK
 have HFA : Hid (Calls Tryz.prog 70 #[.slice p len cap] WW fun e w' => ∃ f, e = .returned (.int .i64 f) ∧ deb.FaultIs x.ds f ∧ w' = WW) := deb.rfault p len cap x.ds _ HRA.out hl
 have HI1 : Hid (∀ W, Calls Tryz.prog 25 #[.int .i64 x.me, .int .i64 0, .int .i64 49] W fun e w' => e = .returned (.bool (decide (0 ≤ x.me ∧ x.me ≤ 49))) ∧ w' = W) := fun W => cal.cin x.me 0 49 W
 rw [decide_eq_true h1] at HI1
 have HI2 : Hid (∀ W, Calls Tryz.prog 25 #[.int .i64 x.rv, .int .i64 0, .int .i64 15] W fun e w' => e = .returned (.bool (decide (0 ≤ x.rv ∧ x.rv ≤ 15))) ∧ w' = W) := fun W => cal.cin x.rv 0 15 W
 rw [decide_eq_true h2] at HI2
 have HI3 : Hid (∀ W, Calls Tryz.prog 25 #[.int .i64 x.nx, .int .i64 1, .int .i64 1048576] W fun e w' => e = .returned (.bool (decide (1 ≤ x.nx ∧ x.nx ≤ 1048576))) ∧ w' = W) := fun W => cal.cin x.nx 1 1048576 W
 rw [decide_eq_true h3] at HI3
 have HI4 : Hid (∀ W, Calls Tryz.prog 25 #[.int .i64 x.mo, .int .i64 0, .int .i64 2399] W fun e w' => e = .returned (.bool (decide (0 ≤ x.mo ∧ x.mo ≤ 2399))) ∧ w' = W) := fun W => cal.cin x.mo 0 2399 W
 rw [decide_eq_false h4] at HI4
 have HD : Hid (deb.Mays x.ds) := hd
 clear h hl hd HRA HBK h1 h2 h3 h4
 go_enter Tryz.func47, Tryz.ntmps47
 go_upto_region 1 with fail
 rw [HWW.out]
 clear HWW
 go_wp2_with fail
 refine HFA.out.mono ?_
 rintro e w1 ⟨f, rfl, hf, hw1⟩
 subst hw1
 obtain rfl : f = 0 := hf.ok.2 HD.out
 clear hf HFA
 go_wp2_with fail
 refine (HI1.out _).mono ?_
 rintro e w2 ⟨rfl, hw2⟩
 subst hw2
 go_wp2_with fail
 refine (HI2.out _).mono ?_
 rintro e w2 ⟨rfl, hw2⟩
 subst hw2
 go_wp2_with fail
 refine (HI3.out _).mono ?_
 rintro e w2 ⟨rfl, hw2⟩
 subst hw2
 go_wp2_with fail
 refine (HI4.out _).mono ?_
 rintro e w2 ⟨rfl, hw2⟩
 subst hw2
 go_wp2_with fail
 all_goals first
  | (rename_i q1 q2; exact absurd q1 (by simp [undef]))
  | (go_ret; exact ⟨rfl, HBA.out⟩)
set_option maxHeartbeats 2000000 in
theorem amay5 (x : Ac) (p : Option Addr) (len cap : Nat) (w : World) (h : RowD w p len x.ds) (hl : len ≤ maxLen) (hd : deb.Mays x.ds) (h1 : 0 ≤ x.me ∧ x.me ≤ 49) (h2 : 0 ≤ x.rv ∧ x.rv ≤ 15) (h3 : 1 ≤ x.nx ∧ x.nx ≤ 1048576) (h4 : 0 ≤ x.mo ∧ x.mo ≤ 2399) (h5 : ¬ (0 ≤ x.bo ∧ x.bo ≤ 10000000)) : Calls Tryz.prog 47 #[.agg #[.int .i64 x.me, .int .i64 x.rv, .int .i64 x.nx, .int .i64 x.mo, .int .i64 x.bo, .int .i64 x.fr, .slice p len cap]] w fun e w' => e = .returned (.bool false) ∧ Below w.heap.size w w' := by
 obtain ⟨WW, HWW, HBK, HBA, -⟩ := sh1 w #[.int .i64 x.me, .int .i64 x.rv, .int .i64 x.nx, .int .i64 x.mo, .int .i64 x.bo, .int .i64 x.fr, .slice p len cap] 59
 have HRA : Hid (RowD WW p len x.ds) := h.below HBA.out
 obtain ⟨c0, c1, c2, c3, c4, c5, c6⟩ := scl7 HBK
 have HFA : Hid (Calls Tryz.prog 70 #[.slice p len cap] WW fun e w' => ∃ f, e = .returned (.int .i64 f) ∧ deb.FaultIs x.ds f ∧ w' = WW) := deb.rfault p len cap x.ds _ HRA.out hl
 have HI1 : Hid (∀ W, Calls Tryz.prog 25 #[.int .i64 x.me, .int .i64 0, .int .i64 49] W fun e w' => e = .returned (.bool (decide (0 ≤ x.me ∧ x.me ≤ 49))) ∧ w' = W) := fun W => cal.cin x.me 0 49 W
 rw [decide_eq_true h1] at HI1
 have HI2 : Hid (∀ W, Calls Tryz.prog 25 #[.int .i64 x.rv, .int .i64 0, .int .i64 15] W fun e w' => e = .returned (.bool (decide (0 ≤ x.rv ∧ x.rv ≤ 15))) ∧ w' = W) := fun W => cal.cin x.rv 0 15 W
 rw [decide_eq_true h2] at HI2
 have HI3 : Hid (∀ W, Calls Tryz.prog 25 #[.int .i64 x.nx, .int .i64 1, .int .i64 1048576] W fun e w' => e = .returned (.bool (decide (1 ≤ x.nx ∧ x.nx ≤ 1048576))) ∧ w' = W) := fun W => cal.cin x.nx 1 1048576 W
 rw [decide_eq_true h3] at HI3
 have HI4 : Hid (∀ W, Calls Tryz.prog 25 #[.int .i64 x.mo, .int .i64 0, .int .i64 2399] W fun e w' => e = .returned (.bool (decide (0 ≤ x.mo ∧ x.mo ≤ 2399))) ∧ w' = W) := fun W => cal.cin x.mo 0 2399 W
 rw [decide_eq_true h4] at HI4
 have HI5 : Hid (∀ W, Calls Tryz.prog 25 #[.int .i64 x.bo, .int .i64 0, .int .i64 10000000] W fun e w' => e = .returned (.bool (decide (0 ≤ x.bo ∧ x.bo ≤ 10000000))) ∧ w' = W) := fun W => cal.cin x.bo 0 10000000 W
 rw [decide_eq_false h5] at HI5
 have HD : Hid (deb.Mays x.ds) := hd
 clear h hl hd HRA HBK h1 h2 h3 h4 h5
 go_enter Tryz.func47, Tryz.ntmps47
 go_upto_region 1 with fail
 rw [HWW.out]
 clear HWW
 go_wp2_with fail
 refine HFA.out.mono ?_
 rintro e w1 ⟨f, rfl, hf, hw1⟩
 subst hw1
 obtain rfl : f = 0 := hf.ok.2 HD.out
 clear hf HFA
 go_wp2_with fail
 refine (HI1.out _).mono ?_
 rintro e w2 ⟨rfl, hw2⟩
 subst hw2
 go_wp2_with fail
 refine (HI2.out _).mono ?_
 rintro e w2 ⟨rfl, hw2⟩
 subst hw2
 go_wp2_with fail
 refine (HI3.out _).mono ?_
 rintro e w2 ⟨rfl, hw2⟩
 subst hw2
 go_wp2_with fail
 refine (HI4.out _).mono ?_
 rintro e w2 ⟨rfl, hw2⟩
 subst hw2
 go_wp2_with fail
 refine (HI5.out _).mono ?_
 rintro e w2 ⟨rfl, hw2⟩
 subst hw2
 go_wp2_with fail
 all_goals first
  | (rename_i q1 q2; exact absurd q1 (by simp [undef]))
  | (go_ret; exact ⟨rfl, HBA.out⟩)
set_option maxHeartbeats 2000000 in
theorem amay6 (x : Ac) (p : Option Addr) (len cap : Nat) (w : World) (h : RowD w p len x.ds) (hl : len ≤ maxLen) (hd : deb.Mays x.ds) (h1 : 0 ≤ x.me ∧ x.me ≤ 49) (h2 : 0 ≤ x.rv ∧ x.rv ≤ 15) (h3 : 1 ≤ x.nx ∧ x.nx ≤ 1048576) (h4 : 0 ≤ x.mo ∧ x.mo ≤ 2399) (h5 : 0 ≤ x.bo ∧ x.bo ≤ 10000000) (h6 : ¬ (-1 ≤ x.fr ∧ x.fr ≤ x.mo)) : Calls Tryz.prog 47 #[.agg #[.int .i64 x.me, .int .i64 x.rv, .int .i64 x.nx, .int .i64 x.mo, .int .i64 x.bo, .int .i64 x.fr, .slice p len cap]] w fun e w' => e = .returned (.bool false) ∧ Below w.heap.size w w' := by
 obtain ⟨WW, HWW, HBK, HBA, -⟩ := sh1 w #[.int .i64 x.me, .int .i64 x.rv, .int .i64 x.nx, .int .i64 x.mo, .int .i64 x.bo, .int .i64 x.fr, .slice p len cap] 59
 have HRA : Hid (RowD WW p len x.ds) := h.below HBA.out
 obtain ⟨c0, c1, c2, c3, c4, c5, c6⟩ := scl7 HBK
 have HFA : Hid (Calls Tryz.prog 70 #[.slice p len cap] WW fun e w' => ∃ f, e = .returned (.int .i64 f) ∧ deb.FaultIs x.ds f ∧ w' = WW) := deb.rfault p len cap x.ds _ HRA.out hl
 have HI1 : Hid (∀ W, Calls Tryz.prog 25 #[.int .i64 x.me, .int .i64 0, .int .i64 49] W fun e w' => e = .returned (.bool (decide (0 ≤ x.me ∧ x.me ≤ 49))) ∧ w' = W) := fun W => cal.cin x.me 0 49 W
 rw [decide_eq_true h1] at HI1
 have HI2 : Hid (∀ W, Calls Tryz.prog 25 #[.int .i64 x.rv, .int .i64 0, .int .i64 15] W fun e w' => e = .returned (.bool (decide (0 ≤ x.rv ∧ x.rv ≤ 15))) ∧ w' = W) := fun W => cal.cin x.rv 0 15 W
 rw [decide_eq_true h2] at HI2
 have HI3 : Hid (∀ W, Calls Tryz.prog 25 #[.int .i64 x.nx, .int .i64 1, .int .i64 1048576] W fun e w' => e = .returned (.bool (decide (1 ≤ x.nx ∧ x.nx ≤ 1048576))) ∧ w' = W) := fun W => cal.cin x.nx 1 1048576 W
 rw [decide_eq_true h3] at HI3
 have HI4 : Hid (∀ W, Calls Tryz.prog 25 #[.int .i64 x.mo, .int .i64 0, .int .i64 2399] W fun e w' => e = .returned (.bool (decide (0 ≤ x.mo ∧ x.mo ≤ 2399))) ∧ w' = W) := fun W => cal.cin x.mo 0 2399 W
 rw [decide_eq_true h4] at HI4
 have HI5 : Hid (∀ W, Calls Tryz.prog 25 #[.int .i64 x.bo, .int .i64 0, .int .i64 10000000] W fun e w' => e = .returned (.bool (decide (0 ≤ x.bo ∧ x.bo ≤ 10000000))) ∧ w' = W) := fun W => cal.cin x.bo 0 10000000 W
 rw [decide_eq_true h5] at HI5
 have HI6 : Hid (∀ W, Calls Tryz.prog 25 #[.int .i64 x.fr, .int .i64 (-1), .int .i64 x.mo] W fun e w' => e = .returned (.bool (decide (-1 ≤ x.fr ∧ x.fr ≤ x.mo))) ∧ w' = W) := fun W => cal.cin x.fr (-1) x.mo W
 rw [decide_eq_false h6] at HI6
 have HD : Hid (deb.Mays x.ds) := hd
 clear h hl hd HRA HBK h1 h2 h3 h4 h5 h6
 go_enter Tryz.func47, Tryz.ntmps47
 go_upto_region 1 with fail
 rw [HWW.out]
 clear HWW
 go_wp2_with fail
 refine HFA.out.mono ?_
 rintro e w1 ⟨f, rfl, hf, hw1⟩
 subst hw1
 obtain rfl : f = 0 := hf.ok.2 HD.out
 clear hf HFA
 go_wp2_with fail
 refine (HI1.out _).mono ?_
 rintro e w2 ⟨rfl, hw2⟩
 subst hw2
 go_wp2_with fail
 refine (HI2.out _).mono ?_
 rintro e w2 ⟨rfl, hw2⟩
 subst hw2
 go_wp2_with fail
 refine (HI3.out _).mono ?_
 rintro e w2 ⟨rfl, hw2⟩
 subst hw2
 go_wp2_with fail
 refine (HI4.out _).mono ?_
 rintro e w2 ⟨rfl, hw2⟩
 subst hw2
 go_wp2_with fail
 refine (HI5.out _).mono ?_
 rintro e w2 ⟨rfl, hw2⟩
 subst hw2
 go_wp2_with fail
 refine (HI6.out _).mono ?_
 rintro e w2 ⟨rfl, hw2⟩
 subst hw2
 go_wp2_with fail
 all_goals first
  | (rename_i q1 q2; exact absurd q1 (by simp [undef]))
  | (go_ret; exact ⟨rfl, HBA.out⟩)
set_option maxHeartbeats 2000000 in
theorem amay7 (x : Ac) (p : Option Addr) (len cap : Nat) (w : World) (h : RowD w p len x.ds) (hl : len ≤ maxLen) (hd : deb.Mays x.ds) (h1 : 0 ≤ x.me ∧ x.me ≤ 49) (h2 : 0 ≤ x.rv ∧ x.rv ≤ 15) (h3 : 1 ≤ x.nx ∧ x.nx ≤ 1048576) (h4 : 0 ≤ x.mo ∧ x.mo ≤ 2399) (h5 : 0 ≤ x.bo ∧ x.bo ≤ 10000000) (h6 : (-1 ≤ x.fr ∧ x.fr ≤ x.mo)) : Calls Tryz.prog 47 #[.agg #[.int .i64 x.me, .int .i64 x.rv, .int .i64 x.nx, .int .i64 x.mo, .int .i64 x.bo, .int .i64 x.fr, .slice p len cap]] w fun e w' => e = .returned (.bool true) ∧ Below w.heap.size w w' := by
 obtain ⟨WW, HWW, HBK, HBA, -⟩ := sh1 w #[.int .i64 x.me, .int .i64 x.rv, .int .i64 x.nx, .int .i64 x.mo, .int .i64 x.bo, .int .i64 x.fr, .slice p len cap] 59
 have HRA : Hid (RowD WW p len x.ds) := h.below HBA.out
 obtain ⟨c0, c1, c2, c3, c4, c5, c6⟩ := scl7 HBK
 have HFA : Hid (Calls Tryz.prog 70 #[.slice p len cap] WW fun e w' => ∃ f, e = .returned (.int .i64 f) ∧ deb.FaultIs x.ds f ∧ w' = WW) := deb.rfault p len cap x.ds _ HRA.out hl
 have HI1 : Hid (∀ W, Calls Tryz.prog 25 #[.int .i64 x.me, .int .i64 0, .int .i64 49] W fun e w' => e = .returned (.bool (decide (0 ≤ x.me ∧ x.me ≤ 49))) ∧ w' = W) := fun W => cal.cin x.me 0 49 W
 rw [decide_eq_true h1] at HI1
 have HI2 : Hid (∀ W, Calls Tryz.prog 25 #[.int .i64 x.rv, .int .i64 0, .int .i64 15] W fun e w' => e = .returned (.bool (decide (0 ≤ x.rv ∧ x.rv ≤ 15))) ∧ w' = W) := fun W => cal.cin x.rv 0 15 W
 rw [decide_eq_true h2] at HI2
 have HI3 : Hid (∀ W, Calls Tryz.prog 25 #[.int .i64 x.nx, .int .i64 1, .int .i64 1048576] W fun e w' => e = .returned (.bool (decide (1 ≤ x.nx ∧ x.nx ≤ 1048576))) ∧ w' = W) := fun W => cal.cin x.nx 1 1048576 W
 rw [decide_eq_true h3] at HI3
 have HI4 : Hid (∀ W, Calls Tryz.prog 25 #[.int .i64 x.mo, .int .i64 0, .int .i64 2399] W fun e w' => e = .returned (.bool (decide (0 ≤ x.mo ∧ x.mo ≤ 2399))) ∧ w' = W) := fun W => cal.cin x.mo 0 2399 W
 rw [decide_eq_true h4] at HI4
 have HI5 : Hid (∀ W, Calls Tryz.prog 25 #[.int .i64 x.bo, .int .i64 0, .int .i64 10000000] W fun e w' => e = .returned (.bool (decide (0 ≤ x.bo ∧ x.bo ≤ 10000000))) ∧ w' = W) := fun W => cal.cin x.bo 0 10000000 W
 rw [decide_eq_true h5] at HI5
 have HI6 : Hid (∀ W, Calls Tryz.prog 25 #[.int .i64 x.fr, .int .i64 (-1), .int .i64 x.mo] W fun e w' => e = .returned (.bool (decide (-1 ≤ x.fr ∧ x.fr ≤ x.mo))) ∧ w' = W) := fun W => cal.cin x.fr (-1) x.mo W
 rw [decide_eq_true h6] at HI6
 have HD : Hid (deb.Mays x.ds) := hd
 clear h hl hd HRA HBK h1 h2 h3 h4 h5 h6
 go_enter Tryz.func47, Tryz.ntmps47
 go_upto_region 1 with fail
 rw [HWW.out]
 clear HWW
 go_wp2_with fail
 refine HFA.out.mono ?_
 rintro e w1 ⟨f, rfl, hf, hw1⟩
 subst hw1
 obtain rfl : f = 0 := hf.ok.2 HD.out
 clear hf HFA
 go_wp2_with fail
 refine (HI1.out _).mono ?_
 rintro e w2 ⟨rfl, hw2⟩
 subst hw2
 go_wp2_with fail
 refine (HI2.out _).mono ?_
 rintro e w2 ⟨rfl, hw2⟩
 subst hw2
 go_wp2_with fail
 refine (HI3.out _).mono ?_
 rintro e w2 ⟨rfl, hw2⟩
 subst hw2
 go_wp2_with fail
 refine (HI4.out _).mono ?_
 rintro e w2 ⟨rfl, hw2⟩
 subst hw2
 go_wp2_with fail
 refine (HI5.out _).mono ?_
 rintro e w2 ⟨rfl, hw2⟩
 subst hw2
 go_wp2_with fail
 refine (HI6.out _).mono ?_
 rintro e w2 ⟨rfl, hw2⟩
 subst hw2
 go_wp2_with fail
 all_goals first
  | (rename_i q1 q2; exact absurd q1 (by simp [undef]))
  | (go_ret; exact ⟨rfl, HBA.out⟩)
theorem ramay (x : Ac) (p : Option Addr) (len cap : Nat) (w : World) (h : RowD w p len x.ds) (hl : len ≤ maxLen) (hm : AMay x) : Calls Tryz.prog 47 #[.agg #[.int .i64 x.me, .int .i64 x.rv, .int .i64 x.nx, .int .i64 x.mo, .int .i64 x.bo, .int .i64 x.fr, .slice p len cap]] w fun e w' => e = .returned (.bool true) ∧ Below w.heap.size w w' := by
 obtain ⟨h1, h2, h3, h4, h5, h6, h7⟩ := hm
 exact amay7 x p len cap w h hl h1 h2 h3 h4 h5 h6 h7
theorem ranot (x : Ac) (p : Option Addr) (len cap : Nat) (w : World) (h : RowD w p len x.ds) (hl : len ≤ maxLen) (hm : ¬ AMay x) : Calls Tryz.prog 47 #[.agg #[.int .i64 x.me, .int .i64 x.rv, .int .i64 x.nx, .int .i64 x.mo, .int .i64 x.bo, .int .i64 x.fr, .slice p len cap]] w fun e w' => e = .returned (.bool false) ∧ Below w.heap.size w w' := by
 by_cases hd : deb.Mays x.ds
 ·by_cases h1 : 0 ≤ x.me ∧ x.me ≤ 49
  ·by_cases h2 : 0 ≤ x.rv ∧ x.rv ≤ 15
   ·by_cases h3 : 1 ≤ x.nx ∧ x.nx ≤ 1048576
    ·by_cases h4 : 0 ≤ x.mo ∧ x.mo ≤ 2399
     ·by_cases h5 : 0 ≤ x.bo ∧ x.bo ≤ 10000000
      ·by_cases h6 : -1 ≤ x.fr ∧ x.fr ≤ x.mo
       ·exact absurd ⟨hd, h1, h2, h3, h4, h5, h6⟩ hm
       ·exact amay6 x p len cap w h hl hd h1 h2 h3 h4 h5 h6
      ·exact amay5 x p len cap w h hl hd h1 h2 h3 h4 h5
     ·exact amay4 x p len cap w h hl hd h1 h2 h3 h4
    ·exact amay3 x p len cap w h hl hd h1 h2 h3
   ·exact amay2 x p len cap w h hl hd h1 h2
  ·exact amay1 x p len cap w h hl hd h1
 ·exact amay0 x p len cap w h hl hd
theorem grown_blk {w w' : World} {own : Option Nat} {G : Nat} {cs : Array Value} {t : TypeId} (h : Blk w G cs t) (hg : w.grownBy w' own) (hne : some G ≠ own) : Blk w' G cs t := by
 unfold Blk at *
 rw [hg.block G (Blk.lt h) hne]
 exact h
end acc
end Go.Proofs.YtomibnggmhjdfaaGreat
