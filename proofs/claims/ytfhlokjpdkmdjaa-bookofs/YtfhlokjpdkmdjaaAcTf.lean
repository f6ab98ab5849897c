/- What is wrong with terms, as the document has it. -/
import Derived.Test.YtfhlokjpdkmdjaaSh
import Derived.Test.YtfhlokjpdkmdjaaAcD
import Derived.Test.YtfhlokjpdkmdjaaTfF
import Derived.Test.YtfhlokjpdkmdjaaBlk
import Derived.Deep.DeepCutAuto
namespace Go.Proofs.Ytfhlokjpdkmdjaa.acc
open Go.Proofs.Ytfhlokjpdkmdjaa.tar (Du du0 Came RowD Ld PairT)
open Go.RowKit
set_option maxRecDepth 100000
set_option linter.unusedVariables false
set_option linter.unusedSimpArgs false

set_option maxHeartbeats 2000000 in
theorem tfa0 (t : Tm) (p : Option Addr) (len cap : Nat) (w : World) (h : RowD w p len t.ts) (hl : len ≤ maxLen) (hr : ¬ tar.Right t.ts) : Calls Try.prog 36 #[.agg #[.slice p len cap, .int .i64 t.ff, .int .i64 t.fb, .int .i64 t.db, .int .i64 t.al]] w fun e w' => tar.ErrPost w (TFault t) e w' := by
  obtain ⟨WW, HWW, HBK, HBA, hsz⟩ := sh1 w #[.slice p len cap, .int .i64 t.ff, .int .i64 t.fb, .int .i64 t.db, .int .i64 t.al] 40
  have HRA : Hid (RowD WW p len t.ts) := h.below HBA.out
  have c0 : WW.cell? ⟨w.heap.size, 0, none⟩ = some (.slice p len cap) := HBK.out.cell 0
  have HFA : Hid (Calls Try.prog 54 #[.slice p len cap] WW fun e w' => tar.ErrPost WW (tar.FaultIs t.ts) e w') := tar.rfault p len cap t.ts _ HRA.out hl
  have HN : Hid (¬ tar.Right t.ts) := hr
  clear h hl hr HRA
  go_enter Try.func36, Try.ntmps36
  go_upto_region 1 with fail
  rw [HWW.out]
  clear HWW
  go_wp2_with fail
  refine HFA.out.mono ?_
  rintro e w1 ⟨f, rfl, hf, hb1⟩
  have HB1 : Hid (Below w.heap.size w w1) := HBA.out.trans (hb1.mono (Nat.le_of_lt hsz))
  have HK1 : Hid (Blk w1 w.heap.size #[.slice p len cap, .int .i64 t.ff, .int .i64 t.fb, .int .i64 t.db, .int .i64 t.al] 40) := HBK.out.below hb1 hsz
  have d1 : w1.cell? ⟨w.heap.size, 1, none⟩ = some (.int .i64 t.ff) := HK1.out.cell 1
  have d2 : w1.cell? ⟨w.heap.size, 2, none⟩ = some (.int .i64 t.fb) := HK1.out.cell 2
  have d3 : w1.cell? ⟨w.heap.size, 3, none⟩ = some (.int .i64 t.db) := HK1.out.cell 3
  have d4 : w1.cell? ⟨w.heap.size, 4, none⟩ = some (.int .i64 t.al) := HK1.out.cell 4
  have HF : Hid (tar.FaultIs t.ts f) := hf
  have hne : (f != 0) = true := by simpa using fun e => HN.out (hf.ok.1 e)
  clear hf HFA hb1 c0 HBK HK1 hsz
  go_wp2_with fail
  all_goals first
    | (rename_i q1 q2; exact absurd q1 (by simp [undef]))
    | (go_ret; exact ⟨_, rfl, .inl ⟨HN.out, HF.out⟩, HB1.out⟩)
set_option maxHeartbeats 2000000 in
theorem tfa1 (t : Tm) (p : Option Addr) (len cap : Nat) (w : World) (h : RowD w p len t.ts) (hl : len ≤ maxLen) (hr : tar.Right t.ts) (h1 : ¬ (0 ≤ t.ff ∧ t.ff ≤ 100000)) : Calls Try.prog 36 #[.agg #[.slice p len cap, .int .i64 t.ff, .int .i64 t.fb, .int .i64 t.db, .int .i64 t.al]] w fun e w' => tar.ErrPost w (TFault t) e w' := by
  obtain ⟨WW, HWW, HBK, HBA, hsz⟩ := sh1 w #[.slice p len cap, .int .i64 t.ff, .int .i64 t.fb, .int .i64 t.db, .int .i64 t.al] 40
  have HRA : Hid (RowD WW p len t.ts) := h.below HBA.out
  have c0 : WW.cell? ⟨w.heap.size, 0, none⟩ = some (.slice p len cap) := HBK.out.cell 0
  have HFA : Hid (Calls Try.prog 54 #[.slice p len cap] WW fun e w' => tar.ErrPost WW (tar.FaultIs t.ts) e w') := tar.rfault p len cap t.ts _ HRA.out hl
  have HI1 : Hid (∀ W, Calls Try.prog 47 #[.int .i64 t.ff, .int .i64 0, .int .i64 100000] W fun e w' => e = .returned (.bool (decide (0 ≤ t.ff ∧ t.ff ≤ 100000))) ∧ w' = W) := fun W => cal.cin t.ff 0 100000 W
  rw [decide_eq_false h1] at HI1
  have HX : Hid (¬ TOk t) := fun hh => h1 hh.1
  have HN : Hid (tar.Right t.ts) := hr
  clear h hl hr HRA h1
  go_enter Try.func36, Try.ntmps36
  go_upto_region 1 with fail
  rw [HWW.out]
  clear HWW
  go_wp2_with fail
  refine HFA.out.mono ?_
  rintro e w1 ⟨f, rfl, hf, hb1⟩
  have HB1 : Hid (Below w.heap.size w w1) := HBA.out.trans (hb1.mono (Nat.le_of_lt hsz))
  have HK1 : Hid (Blk w1 w.heap.size #[.slice p len cap, .int .i64 t.ff, .int .i64 t.fb, .int .i64 t.db, .int .i64 t.al] 40) := HBK.out.below hb1 hsz
  have d1 : w1.cell? ⟨w.heap.size, 1, none⟩ = some (.int .i64 t.ff) := HK1.out.cell 1
  have d2 : w1.cell? ⟨w.heap.size, 2, none⟩ = some (.int .i64 t.fb) := HK1.out.cell 2
  have d3 : w1.cell? ⟨w.heap.size, 3, none⟩ = some (.int .i64 t.db) := HK1.out.cell 3
  have d4 : w1.cell? ⟨w.heap.size, 4, none⟩ = some (.int .i64 t.al) := HK1.out.cell 4
  obtain rfl : f = 0 := hf.ok.2 HN.out
  clear hf HFA hb1 c0 HBK HK1 hsz
  go_wp2_with fail
  refine (HI1.out _).mono ?_
  rintro e w2 ⟨rfl, hw2⟩
  subst hw2
  go_wp2_with fail
  all_goals first
    | (rename_i q1 q2; exact absurd q1 (by simp [undef]))
    | (go_ret; exact ⟨_, rfl, .inr (.inl ⟨HN.out, HX.out, rfl⟩), HB1.out⟩)
set_option maxHeartbeats 2000000 in
theorem tfa2 (t : Tm) (p : Option Addr) (len cap : Nat) (w : World) (h : RowD w p len t.ts) (hl : len ≤ maxLen) (hr : tar.Right t.ts) (h1 : 0 ≤ t.ff ∧ t.ff ≤ 100000) (h2 : ¬ (0 ≤ t.fb ∧ t.fb ≤ 10000)) : Calls Try.prog 36 #[.agg #[.slice p len cap, .int .i64 t.ff, .int .i64 t.fb, .int .i64 t.db, .int .i64 t.al]] w fun e w' => tar.ErrPost w (TFault t) e w' := by
  obtain ⟨WW, HWW, HBK, HBA, hsz⟩ := sh1 w #[.slice p len cap, .int .i64 t.ff, .int .i64 t.fb, .int .i64 t.db, .int .i64 t.al] 40
  have HRA : Hid (RowD WW p len t.ts) := h.below HBA.out
  have c0 : WW.cell? ⟨w.heap.size, 0, none⟩ = some (.slice p len cap) := HBK.out.cell 0
  have HFA : Hid (Calls Try.prog 54 #[.slice p len cap] WW fun e w' => tar.ErrPost WW (tar.FaultIs t.ts) e w') := tar.rfault p len cap t.ts _ HRA.out hl
  have HI1 : Hid (∀ W, Calls Try.prog 47 #[.int .i64 t.ff, .int .i64 0, .int .i64 100000] W fun e w' => e = .returned (.bool (decide (0 ≤ t.ff ∧ t.ff ≤ 100000))) ∧ w' = W) := fun W => cal.cin t.ff 0 100000 W
  rw [decide_eq_true h1] at HI1
  have HI2 : Hid (∀ W, Calls Try.prog 47 #[.int .i64 t.fb, .int .i64 0, .int .i64 10000] W fun e w' => e = .returned (.bool (decide (0 ≤ t.fb ∧ t.fb ≤ 10000))) ∧ w' = W) := fun W => cal.cin t.fb 0 10000 W
  rw [decide_eq_false h2] at HI2
  have HX : Hid (¬ TOk t) := fun hh => h2 hh.2.1
  have HN : Hid (tar.Right t.ts) := hr
  clear h hl hr HRA h1 h2
  go_enter Try.func36, Try.ntmps36
  go_upto_region 1 with fail
  rw [HWW.out]
  clear HWW
  go_wp2_with fail
  refine HFA.out.mono ?_
  rintro e w1 ⟨f, rfl, hf, hb1⟩
  have HB1 : Hid (Below w.heap.size w w1) := HBA.out.trans (hb1.mono (Nat.le_of_lt hsz))
  have HK1 : Hid (Blk w1 w.heap.size #[.slice p len cap, .int .i64 t.ff, .int .i64 t.fb, .int .i64 t.db, .int .i64 t.al] 40) := HBK.out.below hb1 hsz
  have d1 : w1.cell? ⟨w.heap.size, 1, none⟩ = some (.int .i64 t.ff) := HK1.out.cell 1
  have d2 : w1.cell? ⟨w.heap.size, 2, none⟩ = some (.int .i64 t.fb) := HK1.out.cell 2
  have d3 : w1.cell? ⟨w.heap.size, 3, none⟩ = some (.int .i64 t.db) := HK1.out.cell 3
  have d4 : w1.cell? ⟨w.heap.size, 4, none⟩ = some (.int .i64 t.al) := HK1.out.cell 4
  obtain rfl : f = 0 := hf.ok.2 HN.out
  clear hf HFA hb1 c0 HBK HK1 hsz
  go_wp2_with fail
  refine (HI1.out _).mono ?_
  rintro e w2 ⟨rfl, hw2⟩
  subst hw2
  go_wp2_with fail
  refine (HI2.out _).mono ?_
  rintro e w2 ⟨rfl, hw2⟩
  subst hw2
  go_wp2_with fail
  all_goals first
    | (rename_i q1 q2; exact absurd q1 (by simp [undef]))
    | (go_ret; exact ⟨_, rfl, .inr (.inl ⟨HN.out, HX.out, rfl⟩), HB1.out⟩)
set_option maxHeartbeats 2000000 in
theorem tfa3 (t : Tm) (p : Option Addr) (len cap : Nat) (w : World) (h : RowD w p len t.ts) (hl : len ≤ maxLen) (hr : tar.Right t.ts) (h1 : 0 ≤ t.ff ∧ t.ff ≤ 100000) (h2 : 0 ≤ t.fb ∧ t.fb ≤ 10000) (h3 : ¬ (0 ≤ t.db ∧ t.db ≤ 10000)) : Calls Try.prog 36 #[.agg #[.slice p len cap, .int .i64 t.ff, .int .i64 t.fb, .int .i64 t.db, .int .i64 t.al]] w fun e w' => tar.ErrPost w (TFault t) e w' := by
  obtain ⟨WW, HWW, HBK, HBA, hsz⟩ := sh1 w #[.slice p len cap, .int .i64 t.ff, .int .i64 t.fb, .int .i64 t.db, .int .i64 t.al] 40
  have HRA : Hid (RowD WW p len t.ts) := h.below HBA.out
  have c0 : WW.cell? ⟨w.heap.size, 0, none⟩ = some (.slice p len cap) := HBK.out.cell 0
  have HFA : Hid (Calls Try.prog 54 #[.slice p len cap] WW fun e w' => tar.ErrPost WW (tar.FaultIs t.ts) e w') := tar.rfault p len cap t.ts _ HRA.out hl
  have HI1 : Hid (∀ W, Calls Try.prog 47 #[.int .i64 t.ff, .int .i64 0, .int .i64 100000] W fun e w' => e = .returned (.bool (decide (0 ≤ t.ff ∧ t.ff ≤ 100000))) ∧ w' = W) := fun W => cal.cin t.ff 0 100000 W
  rw [decide_eq_true h1] at HI1
  have HI2 : Hid (∀ W, Calls Try.prog 47 #[.int .i64 t.fb, .int .i64 0, .int .i64 10000] W fun e w' => e = .returned (.bool (decide (0 ≤ t.fb ∧ t.fb ≤ 10000))) ∧ w' = W) := fun W => cal.cin t.fb 0 10000 W
  rw [decide_eq_true h2] at HI2
  have HI3 : Hid (∀ W, Calls Try.prog 47 #[.int .i64 t.db, .int .i64 0, .int .i64 10000] W fun e w' => e = .returned (.bool (decide (0 ≤ t.db ∧ t.db ≤ 10000))) ∧ w' = W) := fun W => cal.cin t.db 0 10000 W
  rw [decide_eq_false h3] at HI3
  have HX : Hid (¬ TOk t) := fun hh => h3 hh.2.2.1
  have HN : Hid (tar.Right t.ts) := hr
  clear h hl hr HRA h1 h2 h3
  go_enter Try.func36, Try.ntmps36
  go_upto_region 1 with fail
  rw [HWW.out]
  clear HWW
  go_wp2_with fail
  refine HFA.out.mono ?_
  rintro e w1 ⟨f, rfl, hf, hb1⟩
  have HB1 : Hid (Below w.heap.size w w1) := HBA.out.trans (hb1.mono (Nat.le_of_lt hsz))
  have HK1 : Hid (Blk w1 w.heap.size #[.slice p len cap, .int .i64 t.ff, .int .i64 t.fb, .int .i64 t.db, .int .i64 t.al] 40) := HBK.out.below hb1 hsz
  have d1 : w1.cell? ⟨w.heap.size, 1, none⟩ = some (.int .i64 t.ff) := HK1.out.cell 1
  have d2 : w1.cell? ⟨w.heap.size, 2, none⟩ = some (.int .i64 t.fb) := HK1.out.cell 2
  have d3 : w1.cell? ⟨w.heap.size, 3, none⟩ = some (.int .i64 t.db) := HK1.out.cell 3
  have d4 : w1.cell? ⟨w.heap.size, 4, none⟩ = some (.int .i64 t.al) := HK1.out.cell 4
  obtain rfl : f = 0 := hf.ok.2 HN.out
  clear hf HFA hb1 c0 HBK HK1 hsz
  go_wp2_with fail
  refine (HI1.out _).mono ?_
  rintro e w2 ⟨rfl, hw2⟩
  subst hw2
  go_wp2_with fail
  refine (HI2.out _).mono ?_
  rintro e w2 ⟨rfl, hw2⟩
  subst hw2
  go_wp2_with fail
  refine (HI3.out _).mono ?_
  rintro e w2 ⟨rfl, hw2⟩
  subst hw2
  go_wp2_with fail
  all_goals first
    | (rename_i q1 q2; exact absurd q1 (by simp [undef]))
    | (go_ret; exact ⟨_, rfl, .inr (.inl ⟨HN.out, HX.out, rfl⟩), HB1.out⟩)
set_option maxHeartbeats 2000000 in
theorem tfa4 (t : Tm) (p : Option Addr) (len cap : Nat) (w : World) (h : RowD w p len t.ts) (hl : len ≤ maxLen) (hr : tar.Right t.ts) (h1 : 0 ≤ t.ff ∧ t.ff ≤ 100000) (h2 : 0 ≤ t.fb ∧ t.fb ≤ 10000) (h3 : 0 ≤ t.db ∧ t.db ≤ 10000) (h4 : ¬ (0 ≤ t.al ∧ t.al ≤ 2097151)) : Calls Try.prog 36 #[.agg #[.slice p len cap, .int .i64 t.ff, .int .i64 t.fb, .int .i64 t.db, .int .i64 t.al]] w fun e w' => tar.ErrPost w (TFault t) e w' := by
  obtain ⟨WW, HWW, HBK, HBA, hsz⟩ := sh1 w #[.slice p len cap, .int .i64 t.ff, .int .i64 t.fb, .int .i64 t.db, .int .i64 t.al] 40
  have HRA : Hid (RowD WW p len t.ts) := h.below HBA.out
  have c0 : WW.cell? ⟨w.heap.size, 0, none⟩ = some (.slice p len cap) := HBK.out.cell 0
  have HFA : Hid (Calls Try.prog 54 #[.slice p len cap] WW fun e w' => tar.ErrPost WW (tar.FaultIs t.ts) e w') := tar.rfault p len cap t.ts _ HRA.out hl
  have HI1 : Hid (∀ W, Calls Try.prog 47 #[.int .i64 t.ff, .int .i64 0, .int .i64 100000] W fun e w' => e = .returned (.bool (decide (0 ≤ t.ff ∧ t.ff ≤ 100000))) ∧ w' = W) := fun W => cal.cin t.ff 0 100000 W
  rw [decide_eq_true h1] at HI1
  have HI2 : Hid (∀ W, Calls Try.prog 47 #[.int .i64 t.fb, .int .i64 0, .int .i64 10000] W fun e w' => e = .returned (.bool (decide (0 ≤ t.fb ∧ t.fb ≤ 10000))) ∧ w' = W) := fun W => cal.cin t.fb 0 10000 W
  rw [decide_eq_true h2] at HI2
  have HI3 : Hid (∀ W, Calls Try.prog 47 #[.int .i64 t.db, .int .i64 0, .int .i64 10000] W fun e w' => e = .returned (.bool (decide (0 ≤ t.db ∧ t.db ≤ 10000))) ∧ w' = W) := fun W => cal.cin t.db 0 10000 W
  rw [decide_eq_true h3] at HI3
  have HI4 : Hid (∀ W, Calls Try.prog 47 #[.int .i64 t.al, .int .i64 0, .int .i64 2097151] W fun e w' => e = .returned (.bool (decide (0 ≤ t.al ∧ t.al ≤ 2097151))) ∧ w' = W) := fun W => cal.cin t.al 0 2097151 W
  rw [decide_eq_false h4] at HI4
  have HX : Hid (¬ TOk t) := fun hh => h4 hh.2.2.2
  have HN : Hid (tar.Right t.ts) := hr
  clear h hl hr HRA h1 h2 h3 h4
  go_enter Try.func36, Try.ntmps36
  go_upto_region 1 with fail
  rw [HWW.out]
  clear HWW
  go_wp2_with fail
  refine HFA.out.mono ?_
  rintro e w1 ⟨f, rfl, hf, hb1⟩
  have HB1 : Hid (Below w.heap.size w w1) := HBA.out.trans (hb1.mono (Nat.le_of_lt hsz))
  have HK1 : Hid (Blk w1 w.heap.size #[.slice p len cap, .int .i64 t.ff, .int .i64 t.fb, .int .i64 t.db, .int .i64 t.al] 40) := HBK.out.below hb1 hsz
  have d1 : w1.cell? ⟨w.heap.size, 1, none⟩ = some (.int .i64 t.ff) := HK1.out.cell 1
  have d2 : w1.cell? ⟨w.heap.size, 2, none⟩ = some (.int .i64 t.fb) := HK1.out.cell 2
  have d3 : w1.cell? ⟨w.heap.size, 3, none⟩ = some (.int .i64 t.db) := HK1.out.cell 3
  have d4 : w1.cell? ⟨w.heap.size, 4, none⟩ = some (.int .i64 t.al) := HK1.out.cell 4
  obtain rfl : f = 0 := hf.ok.2 HN.out
  clear hf HFA hb1 c0 HBK HK1 hsz
  go_wp2_with fail
  refine (HI1.out _).mono ?_
  rintro e w2 ⟨rfl, hw2⟩
  subst hw2
  go_wp2_with fail
  refine (HI2.out _).mono ?_
  rintro e w2 ⟨rfl, hw2⟩
  subst hw2
  go_wp2_with fail
  refine (HI3.out _).mono ?_
  rintro e w2 ⟨rfl, hw2⟩
  subst hw2
  go_wp2_with fail
  refine (HI4.out _).mono ?_
  rintro e w2 ⟨rfl, hw2⟩
  subst hw2
  go_wp2_with fail
  all_goals first
    | (rename_i q1 q2; exact absurd q1 (by simp [undef]))
    | (go_ret; exact ⟨_, rfl, .inr (.inl ⟨HN.out, HX.out, rfl⟩), HB1.out⟩)
set_option maxHeartbeats 2000000 in
theorem tfa5 (t : Tm) (p : Option Addr) (len cap : Nat) (w : World) (h : RowD w p len t.ts) (hl : len ≤ maxLen) (hr : tar.Right t.ts) (h1 : 0 ≤ t.ff ∧ t.ff ≤ 100000) (h2 : 0 ≤ t.fb ∧ t.fb ≤ 10000) (h3 : 0 ≤ t.db ∧ t.db ≤ 10000) (h4 : 0 ≤ t.al ∧ t.al ≤ 2097151) : Calls Try.prog 36 #[.agg #[.slice p len cap, .int .i64 t.ff, .int .i64 t.fb, .int .i64 t.db, .int .i64 t.al]] w fun e w' => tar.ErrPost w (TFault t) e w' := by
  obtain ⟨WW, HWW, HBK, HBA, hsz⟩ := sh1 w #[.slice p len cap, .int .i64 t.ff, .int .i64 t.fb, .int .i64 t.db, .int .i64 t.al] 40
  have HRA : Hid (RowD WW p len t.ts) := h.below HBA.out
  have c0 : WW.cell? ⟨w.heap.size, 0, none⟩ = some (.slice p len cap) := HBK.out.cell 0
  have HFA : Hid (Calls Try.prog 54 #[.slice p len cap] WW fun e w' => tar.ErrPost WW (tar.FaultIs t.ts) e w') := tar.rfault p len cap t.ts _ HRA.out hl
  have HI1 : Hid (∀ W, Calls Try.prog 47 #[.int .i64 t.ff, .int .i64 0, .int .i64 100000] W fun e w' => e = .returned (.bool (decide (0 ≤ t.ff ∧ t.ff ≤ 100000))) ∧ w' = W) := fun W => cal.cin t.ff 0 100000 W
  rw [decide_eq_true h1] at HI1
  have HI2 : Hid (∀ W, Calls Try.prog 47 #[.int .i64 t.fb, .int .i64 0, .int .i64 10000] W fun e w' => e = .returned (.bool (decide (0 ≤ t.fb ∧ t.fb ≤ 10000))) ∧ w' = W) := fun W => cal.cin t.fb 0 10000 W
  rw [decide_eq_true h2] at HI2
  have HI3 : Hid (∀ W, Calls Try.prog 47 #[.int .i64 t.db, .int .i64 0, .int .i64 10000] W fun e w' => e = .returned (.bool (decide (0 ≤ t.db ∧ t.db ≤ 10000))) ∧ w' = W) := fun W => cal.cin t.db 0 10000 W
  rw [decide_eq_true h3] at HI3
  have HI4 : Hid (∀ W, Calls Try.prog 47 #[.int .i64 t.al, .int .i64 0, .int .i64 2097151] W fun e w' => e = .returned (.bool (decide (0 ≤ t.al ∧ t.al ≤ 2097151))) ∧ w' = W) := fun W => cal.cin t.al 0 2097151 W
  rw [decide_eq_true h4] at HI4
  have HX : Hid (TOk t) := ⟨h1, h2, h3, h4⟩
  have HN : Hid (tar.Right t.ts) := hr
  clear h hl hr HRA h1 h2 h3 h4
  go_enter Try.func36, Try.ntmps36
  go_upto_region 1 with fail
  rw [HWW.out]
  clear HWW
  go_wp2_with fail
  refine HFA.out.mono ?_
  rintro e w1 ⟨f, rfl, hf, hb1⟩
  have HB1 : Hid (Below w.heap.size w w1) := HBA.out.trans (hb1.mono (Nat.le_of_lt hsz))
  have HK1 : Hid (Blk w1 w.heap.size #[.slice p len cap, .int .i64 t.ff, .int .i64 t.fb, .int .i64 t.db, .int .i64 t.al] 40) := HBK.out.below hb1 hsz
  have d1 : w1.cell? ⟨w.heap.size, 1, none⟩ = some (.int .i64 t.ff) := HK1.out.cell 1
  have d2 : w1.cell? ⟨w.heap.size, 2, none⟩ = some (.int .i64 t.fb) := HK1.out.cell 2
  have d3 : w1.cell? ⟨w.heap.size, 3, none⟩ = some (.int .i64 t.db) := HK1.out.cell 3
  have d4 : w1.cell? ⟨w.heap.size, 4, none⟩ = some (.int .i64 t.al) := HK1.out.cell 4
  obtain rfl : f = 0 := hf.ok.2 HN.out
  clear hf HFA hb1 c0 HBK HK1 hsz
  go_wp2_with fail
  refine (HI1.out _).mono ?_
  rintro e w2 ⟨rfl, hw2⟩
  subst hw2
  go_wp2_with fail
  refine (HI2.out _).mono ?_
  rintro e w2 ⟨rfl, hw2⟩
  subst hw2
  go_wp2_with fail
  refine (HI3.out _).mono ?_
  rintro e w2 ⟨rfl, hw2⟩
  subst hw2
  go_wp2_with fail
  refine (HI4.out _).mono ?_
  rintro e w2 ⟨rfl, hw2⟩
  subst hw2
  go_wp2_with fail
  all_goals first
    | (rename_i q1 q2; exact absurd q1 (by simp [undef]))
    | (go_ret; exact ⟨_, rfl, .inr (.inr ⟨⟨HN.out, HX.out⟩, rfl⟩), HB1.out⟩)
theorem rterms (t : Tm) (p : Option Addr) (len cap : Nat) (w : World) (h : RowD w p len t.ts) (hl : len ≤ maxLen) : Calls Try.prog 36 #[.agg #[.slice p len cap, .int .i64 t.ff, .int .i64 t.fb, .int .i64 t.db, .int .i64 t.al]] w fun e w' => tar.ErrPost w (TFault t) e w' := by
  by_cases hr : tar.Right t.ts
  · by_cases h1 : 0 ≤ t.ff ∧ t.ff ≤ 100000
    · by_cases h2 : 0 ≤ t.fb ∧ t.fb ≤ 10000
      · by_cases h3 : 0 ≤ t.db ∧ t.db ≤ 10000
        · by_cases h4 : 0 ≤ t.al ∧ t.al ≤ 2097151
          · exact tfa5 t p len cap w h hl hr h1 h2 h3 h4
          · exact tfa4 t p len cap w h hl hr h1 h2 h3 h4
        · exact tfa3 t p len cap w h hl hr h1 h2 h3
      · exact tfa2 t p len cap w h hl hr h1 h2
    · exact tfa1 t p len cap w h hl hr h1
  · exact tfa0 t p len cap w h hl hr

end Go.Proofs.Ytfhlokjpdkmdjaa.acc
