/- May an account be, in the program. -/
import Derived.Test.YtlolippocnngcacApI
import Derived.Test.YtlolippocnngcacKdT
import Derived.Test.YtlolippocnngcacDpT
import Derived.Test.YtlolippocnngcacBlk
import Derived.Deep.DeepCutAuto
namespace Go.Proofs.Ytlolippocnngcac.acc
open Go.Proofs.Ytlolippocnngcac.tar (Du du0 Came RowD Ld PairT)
open Go.RowKit
set_option maxRecDepth 100000
set_option linter.unusedVariables false
set_option linter.unusedSimpArgs false

def MayPost (w : World) (x : Ac) (e : Ending) (w' : World) : Prop := ∃ r, e = .returned (.bool r) ∧ (r = true ↔ AMay x) ∧ Below w.heap.size w w'
set_option maxHeartbeats 4000000 in
theorem pmay (x : Ac) (p : Option Addr) (len cap : Nat) (w : World) (h : Came w p len cap x.ds) : Calls Try.prog 13 #[.agg #[.int .i64 x.me, .int .i64 x.rv, .int .i64 x.nx, .int .i64 x.mo, .int .i64 x.bo, .int .i64 x.fr, .slice p len cap]] w fun e w' => MayPost w x e w' := by
  have HI0 : Hid (∀ W, Calls Try.prog 14 #[.int .i64 0, .int .i64 49, .int .i64 x.me] W fun e w' => e = .returned (.bool (decide (0 ≤ x.me ∧ x.me ≤ 49))) ∧ w' = W) := fun W => awithin 0 49 x.me W
  have HI1 : Hid (∀ W, Calls Try.prog 14 #[.int .i64 0, .int .i64 15, .int .i64 x.rv] W fun e w' => e = .returned (.bool (decide (0 ≤ x.rv ∧ x.rv ≤ 15))) ∧ w' = W) := fun W => awithin 0 15 x.rv W
  have HI2 : Hid (∀ W, Calls Try.prog 14 #[.int .i64 1, .int .i64 1048576, .int .i64 x.nx] W fun e w' => e = .returned (.bool (decide (1 ≤ x.nx ∧ x.nx ≤ 1048576))) ∧ w' = W) := fun W => awithin 1 1048576 x.nx W
  have HI3 : Hid (∀ W, Calls Try.prog 14 #[.int .i64 0, .int .i64 2399, .int .i64 x.mo] W fun e w' => e = .returned (.bool (decide (0 ≤ x.mo ∧ x.mo ≤ 2399))) ∧ w' = W) := fun W => awithin 0 2399 x.mo W
  have HI4 : Hid (∀ W, Calls Try.prog 14 #[.int .i64 0, .int .i64 10000000, .int .i64 x.bo] W fun e w' => e = .returned (.bool (decide (0 ≤ x.bo ∧ x.bo ≤ 10000000))) ∧ w' = W) := fun W => awithin 0 10000000 x.bo W
  have HI5 : Hid (∀ W, Calls Try.prog 14 #[.int .i64 (-1), .int .i64 x.mo, .int .i64 x.fr] W fun e w' => e = .returned (.bool (decide (-1 ≤ x.fr ∧ x.fr ≤ x.mo))) ∧ w' = W) := fun W => awithin (-1) x.mo x.fr W
  have HBA : Hid (Below w.heap.size w (w.alloc (.cells #[.int .i64 x.me, .int .i64 x.rv, .int .i64 x.nx, .int .i64 x.mo, .int .i64 x.bo, .int .i64 x.fr, .slice p len cap] 27))) := (Below.refl w.heap.size w).alloc (by simp) _
  have HTO : Hid (Calls Try.prog 16 #[.slice p len cap] (w.alloc (.cells #[.int .i64 x.me, .int .i64 x.rv, .int .i64 x.nx, .int .i64 x.mo, .int .i64 x.bo, .int .i64 x.fr, .slice p len cap] 27)) fun e w' => tar.TwoPost (w.alloc (.cells #[.int .i64 x.me, .int .i64 x.rv, .int .i64 x.nx, .int .i64 x.mo, .int .i64 x.bo, .int .i64 x.fr, .slice p len cap] 27)) (deb.OwedIs x.ds) e w') := deb.ktotal _ p len cap x.ds (h.below HBA.out)
  have HBK : Hid (Blk (w.alloc (.cells #[.int .i64 x.me, .int .i64 x.rv, .int .i64 x.nx, .int .i64 x.mo, .int .i64 x.bo, .int .i64 x.fr, .slice p len cap] 27)) w.heap.size #[.int .i64 x.me, .int .i64 x.rv, .int .i64 x.nx, .int .i64 x.mo, .int .i64 x.bo, .int .i64 x.fr, .slice p len cap] 27) := Blk.new w _ _
  have c6 : (w.alloc (.cells #[.int .i64 x.me, .int .i64 x.rv, .int .i64 x.nx, .int .i64 x.mo, .int .i64 x.bo, .int .i64 x.fr, .slice p len cap] 27)).cell? ⟨w.heap.size, 6, none⟩ = some (.slice p len cap) := HBK.out.cell 6
  clear h
  generalize hWW : (w.alloc (.cells #[.int .i64 x.me, .int .i64 x.rv, .int .i64 x.nx, .int .i64 x.mo, .int .i64 x.bo, .int .i64 x.fr, .slice p len cap] 27)) = WW at *
  have HWW : Hid ((w.alloc (.cells #[.int .i64 x.me, .int .i64 x.rv, .int .i64 x.nx, .int .i64 x.mo, .int .i64 x.bo, .int .i64 x.fr, .slice p len cap] 27)) = WW) := hWW
  clear hWW
  go_enter Try.func13, Try.ntmps13
  go_upto_region 1 with fail
  rw [HWW.out]
  clear HWW
  go_wp2_with fail
  refine HTO.out.mono ?_
  rintro e w1 ⟨tt, f, rfl, hf, hb1⟩
  have HB1 : Hid (Below w.heap.size w w1) := HBA.out.trans (hb1.mono HBA.out.size)
  have HK1 : Hid (Blk w1 w.heap.size #[.int .i64 x.me, .int .i64 x.rv, .int .i64 x.nx, .int .i64 x.mo, .int .i64 x.bo, .int .i64 x.fr, .slice p len cap] 27) := HBK.out.next hb1
  have HF : Hid (f = 0 ↔ deb.Mays x.ds) := hf.1.ok
  clear hf hb1 HTO HBA HBK c6
  have c0 : w1.cell? ⟨w.heap.size, 0, none⟩ = some (.int .i64 x.me) := HK1.out.cell 0
  have c1 : w1.cell? ⟨w.heap.size, 1, none⟩ = some (.int .i64 x.rv) := HK1.out.cell 1
  have c2 : w1.cell? ⟨w.heap.size, 2, none⟩ = some (.int .i64 x.nx) := HK1.out.cell 2
  have c3 : w1.cell? ⟨w.heap.size, 3, none⟩ = some (.int .i64 x.mo) := HK1.out.cell 3
  have c4 : w1.cell? ⟨w.heap.size, 4, none⟩ = some (.int .i64 x.bo) := HK1.out.cell 4
  have c5 : w1.cell? ⟨w.heap.size, 5, none⟩ = some (.int .i64 x.fr) := HK1.out.cell 5
  have c6 : w1.cell? ⟨w.heap.size, 6, none⟩ = some (.slice p len cap) := HK1.out.cell 6
  by_cases h0 : f = 0
  · have HM : Hid (deb.Mays x.ds) := HF.out.1 h0
    subst h0
    by_cases g0 : 0 ≤ x.me ∧ x.me ≤ 49
    · rw [decide_eq_true g0] at HI0
      go_wp2_with fail
      refine (HI0.out _).mono ?_
      rintro e w2 ⟨rfl, hw2⟩
      subst w2
      by_cases g1 : 0 ≤ x.rv ∧ x.rv ≤ 15
      · rw [decide_eq_true g1] at HI1
        go_wp2_with fail
        refine (HI1.out _).mono ?_
        rintro e w2 ⟨rfl, hw2⟩
        subst w2
        by_cases g2 : 1 ≤ x.nx ∧ x.nx ≤ 1048576
        · rw [decide_eq_true g2] at HI2
          go_wp2_with fail
          refine (HI2.out _).mono ?_
          rintro e w2 ⟨rfl, hw2⟩
          subst w2
          by_cases g3 : 0 ≤ x.mo ∧ x.mo ≤ 2399
          · rw [decide_eq_true g3] at HI3
            go_wp2_with fail
            refine (HI3.out _).mono ?_
            rintro e w2 ⟨rfl, hw2⟩
            subst w2
            by_cases g4 : 0 ≤ x.bo ∧ x.bo ≤ 10000000
            · rw [decide_eq_true g4] at HI4
              go_wp2_with fail
              refine (HI4.out _).mono ?_
              rintro e w2 ⟨rfl, hw2⟩
              subst w2
              by_cases g5 : -1 ≤ x.fr ∧ x.fr ≤ x.mo
              · rw [decide_eq_true g5] at HI5
                go_wp2_with fail
                refine (HI5.out _).mono ?_
                rintro e w2 ⟨rfl, hw2⟩
                subst w2
                have HY : Hid (AMay x) := ⟨HM.out, g0, g1, g2, g3, g4, g5⟩
                go_wp2_with fail
                go_ret
                exact ⟨true, rfl, ⟨fun _ => HY.out, fun _ => rfl⟩, HB1.out⟩
              · rw [decide_eq_false g5] at HI5
                have HN : Hid (¬ AMay x) := fun h => g5 h.2.2.2.2.2.2
                clear g5
                go_wp2_with fail
                refine (HI5.out _).mono ?_
                rintro e w2 ⟨rfl, hw2⟩
                subst w2
                go_wp2_with fail
                all_goals first
                  | (rename_i q1 q2; exact absurd q1 (by simp [undef]))
                  | (go_ret; exact ⟨false, rfl, ⟨fun h => absurd h (by decide), fun h => absurd h HN.out⟩, HB1.out⟩)
            · rw [decide_eq_false g4] at HI4
              have HN : Hid (¬ AMay x) := fun h => g4 h.2.2.2.2.2.1
              clear g4
              go_wp2_with fail
              refine (HI4.out _).mono ?_
              rintro e w2 ⟨rfl, hw2⟩
              subst w2
              go_wp2_with fail
              all_goals first
                | (rename_i q1 q2; exact absurd q1 (by simp [undef]))
                | (go_ret; exact ⟨false, rfl, ⟨fun h => absurd h (by decide), fun h => absurd h HN.out⟩, HB1.out⟩)
          · rw [decide_eq_false g3] at HI3
            have HN : Hid (¬ AMay x) := fun h => g3 h.2.2.2.2.1
            clear g3
            go_wp2_with fail
            refine (HI3.out _).mono ?_
            rintro e w2 ⟨rfl, hw2⟩
            subst w2
            go_wp2_with fail
            all_goals first
              | (rename_i q1 q2; exact absurd q1 (by simp [undef]))
              | (go_ret; exact ⟨false, rfl, ⟨fun h => absurd h (by decide), fun h => absurd h HN.out⟩, HB1.out⟩)
        · rw [decide_eq_false g2] at HI2
          have HN : Hid (¬ AMay x) := fun h => g2 h.2.2.2.1
          clear g2
          go_wp2_with fail
          refine (HI2.out _).mono ?_
          rintro e w2 ⟨rfl, hw2⟩
          subst w2
          go_wp2_with fail
          all_goals first
            | (rename_i q1 q2; exact absurd q1 (by simp [undef]))
            | (go_ret; exact ⟨false, rfl, ⟨fun h => absurd h (by decide), fun h => absurd h HN.out⟩, HB1.out⟩)
      · rw [decide_eq_false g1] at HI1
        have HN : Hid (¬ AMay x) := fun h => g1 h.2.2.1
        clear g1
        go_wp2_with fail
        refine (HI1.out _).mono ?_
        rintro e w2 ⟨rfl, hw2⟩
        subst w2
        go_wp2_with fail
        all_goals first
          | (rename_i q1 q2; exact absurd q1 (by simp [undef]))
          | (go_ret; exact ⟨false, rfl, ⟨fun h => absurd h (by decide), fun h => absurd h HN.out⟩, HB1.out⟩)
    · rw [decide_eq_false g0] at HI0
      have HN : Hid (¬ AMay x) := fun h => g0 h.2.1
      clear g0
      go_wp2_with fail
      refine (HI0.out _).mono ?_
      rintro e w2 ⟨rfl, hw2⟩
      subst w2
      go_wp2_with fail
      all_goals first
        | (rename_i q1 q2; exact absurd q1 (by simp [undef]))
        | (go_ret; exact ⟨false, rfl, ⟨fun h => absurd h (by decide), fun h => absurd h HN.out⟩, HB1.out⟩)
  · have d0 : (f == 0) = false := by simpa using h0
    have HN : Hid (¬ AMay x) := fun h => h0 (HF.out.2 h.1)
    clear h0
    go_wp2_with fail
    all_goals first
      | (rename_i q1 q2; exact absurd q1 (by simp [undef]))
      | (go_ret; exact ⟨false, rfl, ⟨fun h => absurd h (by decide), fun h => absurd h HN.out⟩, HB1.out⟩)

end Go.Proofs.Ytlolippocnngcac.acc
