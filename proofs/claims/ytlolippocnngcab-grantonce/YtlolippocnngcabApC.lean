/- account.Check. -/
import Derived.Test.YtlolippocnngcabApI
import Derived.Test.YtlolippocnngcabKcC
import Derived.Test.YtlolippocnngcabTpC
import Derived.Test.YtlolippocnngcabBlk
import Derived.Deep.DeepCutAuto
namespace Go.Proofs.Ytlolippocnngcab.acc
open Go.Proofs.Ytlolippocnngcab.tar (Du du0 Came RowD Ld PairT)
open Go.RowKit
set_option maxRecDepth 100000
set_option linter.unusedVariables false
set_option linter.unusedSimpArgs false

set_option maxHeartbeats 4000000 in
theorem kcheck : KcCheck := by
  intro w t pt lt ct hc
  have h := hc.ts
  unfold Tm.v
  have HI0 : Hid (∀ W, Calls Try.prog 49 #[.int .i64 0, .int .i64 100000, .int .i64 t.ff] W fun e w' => e = .returned (.bool (decide (0 ≤ t.ff ∧ t.ff ≤ 100000))) ∧ w' = W) := fun W => awithin 0 100000 t.ff W
  have HI1 : Hid (∀ W, Calls Try.prog 49 #[.int .i64 0, .int .i64 10000, .int .i64 t.fb] W fun e w' => e = .returned (.bool (decide (0 ≤ t.fb ∧ t.fb ≤ 10000))) ∧ w' = W) := fun W => awithin 0 10000 t.fb W
  have HI2 : Hid (∀ W, Calls Try.prog 49 #[.int .i64 0, .int .i64 10000, .int .i64 t.db] W fun e w' => e = .returned (.bool (decide (0 ≤ t.db ∧ t.db ≤ 10000))) ∧ w' = W) := fun W => awithin 0 10000 t.db W
  have HI3 : Hid (∀ W, Calls Try.prog 49 #[.int .i64 0, .int .i64 2097151, .int .i64 t.al] W fun e w' => e = .returned (.bool (decide (0 ≤ t.al ∧ t.al ≤ 2097151))) ∧ w' = W) := fun W => awithin 0 2097151 t.al W
  have HBA : Hid (Below w.heap.size w (w.alloc (.cells #[.slice pt lt ct, .int .i64 t.ff, .int .i64 t.fb, .int .i64 t.db, .int .i64 t.al] 42))) := (Below.refl w.heap.size w).alloc (by simp) _
  have HTO : Hid (Calls Try.prog 53 #[.slice pt lt ct] (w.alloc (.cells #[.slice pt lt ct, .int .i64 t.ff, .int .i64 t.fb, .int .i64 t.db, .int .i64 t.al] 42)) fun e w' => tar.ErrPost (w.alloc (.cells #[.slice pt lt ct, .int .i64 t.ff, .int .i64 t.fb, .int .i64 t.db, .int .i64 t.al] 42)) (tar.FaultIs t.ts) e w') := tar.kcheck _ pt lt ct t.ts (h.below HBA.out)
  have HBK : Hid (Blk (w.alloc (.cells #[.slice pt lt ct, .int .i64 t.ff, .int .i64 t.fb, .int .i64 t.db, .int .i64 t.al] 42)) w.heap.size #[.slice pt lt ct, .int .i64 t.ff, .int .i64 t.fb, .int .i64 t.db, .int .i64 t.al] 42) := Blk.new w _ _
  have c0 : (w.alloc (.cells #[.slice pt lt ct, .int .i64 t.ff, .int .i64 t.fb, .int .i64 t.db, .int .i64 t.al] 42)).cell? ⟨w.heap.size, 0, none⟩ = some (.slice pt lt ct) := HBK.out.cell 0
  clear h hc
  generalize hWW : (w.alloc (.cells #[.slice pt lt ct, .int .i64 t.ff, .int .i64 t.fb, .int .i64 t.db, .int .i64 t.al] 42)) = WW at *
  have HWW : Hid ((w.alloc (.cells #[.slice pt lt ct, .int .i64 t.ff, .int .i64 t.fb, .int .i64 t.db, .int .i64 t.al] 42)) = WW) := hWW
  clear hWW
  go_enter Try.func56, Try.ntmps56
  go_upto_region 1 with fail
  rw [HWW.out]
  clear HWW
  go_wp2_with fail
  refine HTO.out.mono ?_
  rintro e w1 ⟨f, rfl, hf, hb1⟩
  have HB1 : Hid (Below w.heap.size w w1) := HBA.out.trans (hb1.mono HBA.out.size)
  have HK1 : Hid (Blk w1 w.heap.size #[.slice pt lt ct, .int .i64 t.ff, .int .i64 t.fb, .int .i64 t.db, .int .i64 t.al] 42) := HBK.out.next hb1
  have HF : Hid (tar.FaultIs t.ts f) := hf
  clear hf hb1 HTO HBA HBK c0
  have c0 : w1.cell? ⟨w.heap.size, 0, none⟩ = some (.slice pt lt ct) := HK1.out.cell 0
  have c1 : w1.cell? ⟨w.heap.size, 1, none⟩ = some (.int .i64 t.ff) := HK1.out.cell 1
  have c2 : w1.cell? ⟨w.heap.size, 2, none⟩ = some (.int .i64 t.fb) := HK1.out.cell 2
  have c3 : w1.cell? ⟨w.heap.size, 3, none⟩ = some (.int .i64 t.db) := HK1.out.cell 3
  have c4 : w1.cell? ⟨w.heap.size, 4, none⟩ = some (.int .i64 t.al) := HK1.out.cell 4
  by_cases h0 : f = 0
  · have HR : Hid (tar.Right t.ts) := HF.out.ok.1 h0
    subst h0
    by_cases g0 : 0 ≤ t.ff ∧ t.ff ≤ 100000
    · rw [decide_eq_true g0] at HI0
      go_wp2_with fail
      refine (HI0.out _).mono ?_
      rintro e w2 ⟨rfl, hw2⟩
      subst w2
      by_cases g1 : 0 ≤ t.fb ∧ t.fb ≤ 10000
      · rw [decide_eq_true g1] at HI1
        go_wp2_with fail
        refine (HI1.out _).mono ?_
        rintro e w2 ⟨rfl, hw2⟩
        subst w2
        by_cases g2 : 0 ≤ t.db ∧ t.db ≤ 10000
        · rw [decide_eq_true g2] at HI2
          go_wp2_with fail
          refine (HI2.out _).mono ?_
          rintro e w2 ⟨rfl, hw2⟩
          subst w2
          by_cases g3 : 0 ≤ t.al ∧ t.al ≤ 2097151
          · rw [decide_eq_true g3] at HI3
            go_wp2_with fail
            refine (HI3.out _).mono ?_
            rintro e w2 ⟨rfl, hw2⟩
            subst w2
            have HV : Hid (TFault t 0) := .inr (.inr ⟨⟨HR.out, g0, g1, g2, g3⟩, rfl⟩)
            clear g0 g1 g2 g3
            go_wp2_with fail
            go_ret
            exact ⟨0, rfl, HV.out, HB1.out⟩
          · rw [decide_eq_false g3] at HI3
            have HV : Hid (TFault t 2) := .inr (.inl ⟨HR.out, fun h => g3 h.2.2.2, rfl⟩)
            clear g3
            go_wp2_with fail
            refine (HI3.out _).mono ?_
            rintro e w2 ⟨rfl, hw2⟩
            subst w2
            go_wp2_with fail
            all_goals first
              | (rename_i q1 q2; exact absurd q1 (by simp [undef]))
              | (go_ret; exact ⟨2, rfl, HV.out, HB1.out⟩)
        · rw [decide_eq_false g2] at HI2
          have HV : Hid (TFault t 2) := .inr (.inl ⟨HR.out, fun h => g2 h.2.2.1, rfl⟩)
          clear g2
          go_wp2_with fail
          refine (HI2.out _).mono ?_
          rintro e w2 ⟨rfl, hw2⟩
          subst w2
          go_wp2_with fail
          all_goals first
            | (rename_i q1 q2; exact absurd q1 (by simp [undef]))
            | (go_ret; exact ⟨2, rfl, HV.out, HB1.out⟩)
      · rw [decide_eq_false g1] at HI1
        have HV : Hid (TFault t 2) := .inr (.inl ⟨HR.out, fun h => g1 h.2.1, rfl⟩)
        clear g1
        go_wp2_with fail
        refine (HI1.out _).mono ?_
        rintro e w2 ⟨rfl, hw2⟩
        subst w2
        go_wp2_with fail
        all_goals first
          | (rename_i q1 q2; exact absurd q1 (by simp [undef]))
          | (go_ret; exact ⟨2, rfl, HV.out, HB1.out⟩)
    · rw [decide_eq_false g0] at HI0
      have HV : Hid (TFault t 2) := .inr (.inl ⟨HR.out, fun h => g0 h.1, rfl⟩)
      clear g0
      go_wp2_with fail
      refine (HI0.out _).mono ?_
      rintro e w2 ⟨rfl, hw2⟩
      subst w2
      go_wp2_with fail
      all_goals first
        | (rename_i q1 q2; exact absurd q1 (by simp [undef]))
        | (go_ret; exact ⟨2, rfl, HV.out, HB1.out⟩)
  · have d0 : (f != 0) = true := by simpa using h0
    have HV : Hid (TFault t f) := .inl ⟨fun h => h0 (HF.out.ok.2 h), HF.out⟩
    clear h0
    go_wp2_with fail
    go_ret
    exact ⟨f, rfl, HV.out, HB1.out⟩

end Go.Proofs.Ytlolippocnngcab.acc
