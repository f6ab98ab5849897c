/- The program's meters: whether one may be. -/
import Derived.Test.YtnhidiefchamlaaDoorMtD
import Derived.Test.YtnhidiefchamlaaDoorWnPj
namespace Go.Proofs.YtnhidiefchamlaaDoor.met
open Go.RowKit
set_option maxRecDepth 100000
set_option linter.unusedVariables false
set_option linter.unusedSimpArgs false

theorem judge_may {h : Int} {b : Nat} {id c : Int} (hj : win.JudgeIs h b id c) : c ≠ 5 ↔ win.May h b := by
  rcases hj with ⟨h1, h⟩ | ⟨h1, _, h⟩ | ⟨h1, _, _, h⟩ | ⟨h1, _, _, _, h⟩ | ⟨h1, _, _, _, h⟩ <;> subst h <;> simp [h1]

set_option maxHeartbeats 4000000 in
theorem pmay_any (m : Mt) (w : World) (hb : m.b < 18446744073709551616) :
    Calls Tryd.prog 25 #[m.v] w fun e w' => Told w m.may e w' := by
  have HMI : Hid (m.may ↔ ((0 ≤ m.me ∧ m.me ≤ 49) ∧ (0 ≤ m.rev ∧ m.rev ≤ 15) ∧ (0 ≤ m.cr ∧ m.cr ≤ 99999999) ∧ (0 ≤ m.bad ∧ m.bad ≤ 4) ∧ (0 ≤ m.lock ∧ m.lock ≤ 30) ∧ ¬ (m.bad ≠ 0 ∧ m.lock ≠ 0) ∧ win.May m.h m.b)) :=
    ⟨fun h => ⟨h.me, h.rev, h.cr, h.bad, h.lock, h.one, h.win⟩, fun ⟨h1, h2, h3, h4, h5, h6, h7⟩ => ⟨h1, h2, h3, h4, h5, h6, h7⟩⟩
  have HJ : Hid (∀ W, Calls Tryd.prog 40 #[.agg #[.int .i64 m.h, .int .u64 (m.b : Int)], .int .i64 1] W fun e w' => win.JudgePost W m.h m.b 1 e w') := fun W => win.pjudge m.h m.b 1 W hb
  clear hb
  obtain ⟨me, rev, cr, h, b, bad, lock⟩ := m
  unfold Mt.v Mt.cells
  simp only [] at HMI HJ ⊢
  generalize Mt.may _ = MAY at *
  have HN : Hid (Blk (w.alloc (.cells #[.int .i64 me, .int .i64 rev, .int .i64 cr, .int .i64 h, .int .u64 (b : Int), .int .i64 bad, .int .i64 lock] 26)) w.heap.size #[.int .i64 me, .int .i64 rev, .int .i64 cr, .int .i64 h, .int .u64 (b : Int), .int .i64 bad, .int .i64 lock] 26) := Blk.new w _ _
  have HB : Hid (Below w.heap.size w (w.alloc (.cells #[.int .i64 me, .int .i64 rev, .int .i64 cr, .int .i64 h, .int .u64 (b : Int), .int .i64 bad, .int .i64 lock] 26))) := (Below.refl _ _).alloc (Nat.le_refl _) _
  have c0 := HN.out.cell 0
  have c1 := HN.out.cell 1
  have c2 := HN.out.cell 2
  have c3 := HN.out.cell 3
  have c4 := HN.out.cell 4
  have c5 := HN.out.cell 5
  have c6 := HN.out.cell 6
  by_cases h1 : 0 ≤ me
  · have d1 : decide (0 ≤ me) = true := by simp [h1]
    by_cases h2 : me < 50
    · have d2 : decide (me < 50) = true := by simp [h2]
      by_cases h3 : 0 ≤ rev
      · have d3 : decide (0 ≤ rev) = true := by simp [h3]
        by_cases h4 : rev ≤ 15
        · have d4 : decide (rev ≤ 15) = true := by simp [h4]
          by_cases h5 : 0 ≤ cr
          · have d5 : decide (0 ≤ cr) = true := by simp [h5]
            by_cases h6 : cr ≤ 99999999
            · have d6 : decide (cr ≤ 99999999) = true := by simp [h6]
              go_enter Tryd.func25, Tryd.ntmps25
              go_wp2_with fail
              refine (HJ.out _).mono ?_
              rintro e w1 ⟨c, rfl, hj, hb1⟩
              have HN1 : Hid (Blk w1 w.heap.size #[.int .i64 me, .int .i64 rev, .int .i64 cr, .int .i64 h, .int .u64 (b : Int), .int .i64 bad, .int .i64 lock] 26) := HN.out.next hb1
              have HB1 : Hid (Below w.heap.size w w1) := bel_step HB.out hb1
              have HJM : Hid (c ≠ 5 ↔ win.May h b) := judge_may hj
              clear hb1 hj c0 c1 c2 c3 c4 c5 c6 HN HB HJ
              have c0 := HN1.out.cell 0
              have c1 := HN1.out.cell 1
              have c2 := HN1.out.cell 2
              have c3 := HN1.out.cell 3
              have c4 := HN1.out.cell 4
              have c5 := HN1.out.cell 5
              have c6 := HN1.out.cell 6
              by_cases hc : c ≠ 5
              · have dj : (c != 5) = true := by simp [hc]
                have HWM : Hid (win.May h b) := HJM.out.1 hc
                by_cases h7 : 0 ≤ bad
                · have d7 : decide (0 ≤ bad) = true := by simp [h7]
                  by_cases h8 : bad < 5
                  · have d8 : decide (bad < 5) = true := by simp [h8]
                    by_cases h9 : 0 ≤ lock
                    · have d9 : decide (0 ≤ lock) = true := by simp [h9]
                      by_cases h10 : lock ≤ 30
                      · have d10 : decide (lock ≤ 30) = true := by simp [h10]
                        by_cases h11 : bad = 0
                        · have d11 : (bad == 0) = true := by simp [h11]
                          have HY : Hid MAY := HMI.out.2 ⟨⟨by omega, by omega⟩, ⟨by omega, by omega⟩, ⟨by omega, by omega⟩, ⟨by omega, by omega⟩, ⟨by omega, by omega⟩, (fun hx => by omega), HWM.out⟩
                          clear h1 h2 h3 h4 h5 h6 h7 h8 h9 h10 h11 hc HMI
                          go_wp2_with fail
                          go_ret
                          exact Told.yes HY.out HB1.out
                        · have d11 : (bad == 0) = false := by simp [h11]
                          by_cases h12 : lock = 0
                          · have d12 : (lock == 0) = true := by simp [h12]
                            have HY : Hid MAY := HMI.out.2 ⟨⟨by omega, by omega⟩, ⟨by omega, by omega⟩, ⟨by omega, by omega⟩, ⟨by omega, by omega⟩, ⟨by omega, by omega⟩, (fun hx => by omega), HWM.out⟩
                            clear h1 h2 h3 h4 h5 h6 h7 h8 h9 h10 h11 h12 hc HMI
                            go_wp2_with fail
                            go_ret
                            exact Told.yes HY.out HB1.out
                          · have d12 : (lock == 0) = false := by simp [h12]
                            have HN2 : Hid (¬ MAY) := fun hx => by have hx := HMI.out.1 hx; omega
                            clear hc h1 h2 h3 h4 h5 h6 h7 h8 h9 h10 h11 h12 HMI
                            go_wp2_with fail
                            all_goals first
                              | (rename_i q1 q2; exact absurd q1 (by simp [undef]))
                              | (go_ret; exact Told.no HN2.out HB1.out)
                      · have d10 : decide (lock ≤ 30) = false := by simp; omega
                        have HN2 : Hid (¬ MAY) := fun hx => by have hx := HMI.out.1 hx; omega
                        clear hc h1 h2 h3 h4 h5 h6 h7 h8 h9 h10 HMI
                        go_wp2_with fail
                        all_goals first
                          | (rename_i q1 q2; exact absurd q1 (by simp [undef]))
                          | (go_ret; exact Told.no HN2.out HB1.out)
                    · have d9 : decide (0 ≤ lock) = false := by simp; omega
                      have HN2 : Hid (¬ MAY) := fun hx => by have hx := HMI.out.1 hx; omega
                      clear hc h1 h2 h3 h4 h5 h6 h7 h8 h9 HMI
                      go_wp2_with fail
                      all_goals first
                        | (rename_i q1 q2; exact absurd q1 (by simp [undef]))
                        | (go_ret; exact Told.no HN2.out HB1.out)
                  · have d8 : decide (bad < 5) = false := by simp; omega
                    have HN2 : Hid (¬ MAY) := fun hx => by have hx := HMI.out.1 hx; omega
                    clear hc h1 h2 h3 h4 h5 h6 h7 h8 HMI
                    go_wp2_with fail
                    all_goals first
                      | (rename_i q1 q2; exact absurd q1 (by simp [undef]))
                      | (go_ret; exact Told.no HN2.out HB1.out)
                · have d7 : decide (0 ≤ bad) = false := by simp; omega
                  have HN2 : Hid (¬ MAY) := fun hx => by have hx := HMI.out.1 hx; omega
                  clear hc h1 h2 h3 h4 h5 h6 h7 HMI
                  go_wp2_with fail
                  all_goals first
                    | (rename_i q1 q2; exact absurd q1 (by simp [undef]))
                    | (go_ret; exact Told.no HN2.out HB1.out)
              · have dj : (c != 5) = false := by simp; omega
                have HN2 : Hid (¬ MAY) := fun hx => hc (HJM.out.2 (HMI.out.1 hx).2.2.2.2.2.2)
                clear hc h1 h2 h3 h4 h5 h6 HMI
                go_wp2_with fail
                all_goals first
                  | (rename_i q1 q2; exact absurd q1 (by simp [undef]))
                  | (go_ret; exact Told.no HN2.out HB1.out)
            · have d6 : decide (cr ≤ 99999999) = false := by simp; omega
              have HN2 : Hid (¬ MAY) := fun hx => by have hx := HMI.out.1 hx; omega
              clear h1 h2 h3 h4 h5 h6 HMI
              go_enter Tryd.func25, Tryd.ntmps25
              go_wp2_with fail
              all_goals first
                | (rename_i q1 q2; exact absurd q1 (by simp [undef]))
                | (go_ret; exact Told.no HN2.out HB.out)
          · have d5 : decide (0 ≤ cr) = false := by simp; omega
            have HN2 : Hid (¬ MAY) := fun hx => by have hx := HMI.out.1 hx; omega
            clear h1 h2 h3 h4 h5 HMI
            go_enter Tryd.func25, Tryd.ntmps25
            go_wp2_with fail
            all_goals first
              | (rename_i q1 q2; exact absurd q1 (by simp [undef]))
              | (go_ret; exact Told.no HN2.out HB.out)
        · have d4 : decide (rev ≤ 15) = false := by simp; omega
          have HN2 : Hid (¬ MAY) := fun hx => by have hx := HMI.out.1 hx; omega
          clear h1 h2 h3 h4 HMI
          go_enter Tryd.func25, Tryd.ntmps25
          go_wp2_with fail
          all_goals first
            | (rename_i q1 q2; exact absurd q1 (by simp [undef]))
            | (go_ret; exact Told.no HN2.out HB.out)
      · have d3 : decide (0 ≤ rev) = false := by simp; omega
        have HN2 : Hid (¬ MAY) := fun hx => by have hx := HMI.out.1 hx; omega
        clear h1 h2 h3 HMI
        go_enter Tryd.func25, Tryd.ntmps25
        go_wp2_with fail
        all_goals first
          | (rename_i q1 q2; exact absurd q1 (by simp [undef]))
          | (go_ret; exact Told.no HN2.out HB.out)
    · have d2 : decide (me < 50) = false := by simp; omega
      have HN2 : Hid (¬ MAY) := fun hx => by have hx := HMI.out.1 hx; omega
      clear h1 h2 HMI
      go_enter Tryd.func25, Tryd.ntmps25
      go_wp2_with fail
      all_goals first
        | (rename_i q1 q2; exact absurd q1 (by simp [undef]))
        | (go_ret; exact Told.no HN2.out HB.out)
  · have d1 : decide (0 ≤ me) = false := by simp; omega
    have HN2 : Hid (¬ MAY) := fun hx => by have hx := HMI.out.1 hx; omega
    clear h1 HMI
    go_enter Tryd.func25, Tryd.ntmps25
    go_wp2_with fail
    all_goals first
      | (rename_i q1 q2; exact absurd q1 (by simp [undef]))
      | (go_ret; exact Told.no HN2.out HB.out)

end Go.Proofs.YtnhidiefchamlaaDoor.met
