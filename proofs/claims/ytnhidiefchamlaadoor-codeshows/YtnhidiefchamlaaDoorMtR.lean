/- Meters: what the document says of them. -/
import Derived.Test.YtnhidiefchamlaaDoorMtD
import Derived.Test.YtnhidiefchamlaaDoorWnS0
namespace Go.Proofs.YtnhidiefchamlaaDoor.met
open Go.RowKit Go.Proofs.YtnhidiefchamlaaDoor.irow
set_option maxRecDepth 100000
set_option linter.unusedVariables false

theorem in_told (n lo hi : Int) (w : World) : Calls Tryd.prog 33 #[.int .i64 n, .int .i64 lo, .int .i64 hi] w fun e w' => e = .returned (.bool (decide (lo ≤ n ∧ n ≤ hi))) ∧ w' = w := by
  by_cases h : lo ≤ n ∧ n ≤ hi
  · rw [decide_eq_true h]; exact win.in_yes n lo hi w h.1 h.2
  · rw [decide_eq_false h]; exact win.in_no n lo hi w (by omega)

set_option maxHeartbeats 2000000 in
theorem mmay_any (m : Mt) (w : World) (hb : m.b < 18446744073709551616) :
    Calls Tryd.prog 19 #[m.v] w fun e w' => Told w m.may e w' := by
  have HMI : Hid (m.may ↔ ((0 ≤ m.me ∧ m.me ≤ 49) ∧ (0 ≤ m.rev ∧ m.rev ≤ 15) ∧ (0 ≤ m.cr ∧ m.cr ≤ 99999999) ∧ (0 ≤ m.bad ∧ m.bad ≤ 4) ∧ (0 ≤ m.lock ∧ m.lock ≤ 30) ∧ ¬ (m.bad ≠ 0 ∧ m.lock ≠ 0) ∧ win.May m.h m.b)) :=
    ⟨fun h => ⟨h.me, h.rev, h.cr, h.bad, h.lock, h.one, h.win⟩, fun ⟨h1, h2, h3, h4, h5, h6, h7⟩ => ⟨h1, h2, h3, h4, h5, h6, h7⟩⟩
  have HWM : Hid (∀ W, Calls Tryd.prog 34 #[.agg #[.int .i64 m.h, .int .u64 (m.b : Int)]] W fun e w' => win.MayPost W m.h m.b e w') := fun W => win.wmay_any m.h m.b W hb
  clear hb
  obtain ⟨me, rev, cr, h, b, bad, lock⟩ := m
  unfold Mt.v Mt.cells
  simp only [] at HMI HWM ⊢
  generalize Mt.may _ = MAY at *
  have hN := Blk.new w #[.int .i64 me, .int .i64 rev, .int .i64 cr, .int .i64 h, .int .u64 (b : Int), .int .i64 bad, .int .i64 lock] 26
  have c0 := hN.cell 0
  have c1 := hN.cell 1
  have c2 := hN.cell 2
  have c3 := hN.cell 3
  have c4 := hN.cell 4
  have c5 := hN.cell 5
  have c6 := hN.cell 6
  have HB : Hid (Below w.heap.size w (w.alloc (.cells #[.int .i64 me, .int .i64 rev, .int .i64 cr, .int .i64 h, .int .u64 (b : Int), .int .i64 bad, .int .i64 lock] 26))) := (Below.refl _ _).alloc (Nat.le_refl _) _
  clear hN
  by_cases h1 : 0 ≤ me ∧ me ≤ 49
  · have H1 : Hid (∀ W, Calls Tryd.prog 33 #[.int .i64 me, .int .i64 0, .int .i64 49] W fun e w' => e = .returned (.bool true) ∧ w' = W) := fun W => win.in_yes _ _ _ W h1.1 h1.2
    by_cases h2 : 0 ≤ rev ∧ rev ≤ 15
    · have H2 : Hid (∀ W, Calls Tryd.prog 33 #[.int .i64 rev, .int .i64 0, .int .i64 15] W fun e w' => e = .returned (.bool true) ∧ w' = W) := fun W => win.in_yes _ _ _ W h2.1 h2.2
      by_cases h3 : 0 ≤ cr ∧ cr ≤ 99999999
      · have H3 : Hid (∀ W, Calls Tryd.prog 33 #[.int .i64 cr, .int .i64 0, .int .i64 99999999] W fun e w' => e = .returned (.bool true) ∧ w' = W) := fun W => win.in_yes _ _ _ W h3.1 h3.2
        by_cases h4 : 0 ≤ bad ∧ bad ≤ 4
        · have H4 : Hid (∀ W, Calls Tryd.prog 33 #[.int .i64 bad, .int .i64 0, .int .i64 4] W fun e w' => e = .returned (.bool true) ∧ w' = W) := fun W => win.in_yes _ _ _ W h4.1 h4.2
          by_cases h5 : 0 ≤ lock ∧ lock ≤ 30
          · have H5 : Hid (∀ W, Calls Tryd.prog 33 #[.int .i64 lock, .int .i64 0, .int .i64 30] W fun e w' => e = .returned (.bool true) ∧ w' = W) := fun W => win.in_yes _ _ _ W h5.1 h5.2
            by_cases h6 : bad ≠ 0 ∧ lock ≠ 0
            · have q1 : (bad != 0) = true := by simp [h6.1]
              have q2 : (lock != 0) = true := by simp [h6.2]
              have HM : Hid (¬ MAY) := fun hm => (HMI.out.1 hm).2.2.2.2.2.1 h6
              clear h1 h2 h3 h4 h5 h6
              go_enter Tryd.func19, Tryd.ntmps19
              go_wp2_with fail
              refine (H1.out _).mono ?_
              rintro e w1 ⟨rfl, rfl⟩
              go_wp2_with fail
              refine (H2.out _).mono ?_
              rintro e w2 ⟨rfl, rfl⟩
              go_wp2_with fail
              refine (H3.out _).mono ?_
              rintro e w3 ⟨rfl, rfl⟩
              go_wp2_with fail
              refine (H4.out _).mono ?_
              rintro e w4 ⟨rfl, rfl⟩
              go_wp2_with fail
              refine (H5.out _).mono ?_
              rintro e w5 ⟨rfl, rfl⟩
              go_wp2_with fail
              go_ret
              exact Told.no HM.out HB.out
            · have HMW : Hid (MAY ↔ win.May h b) := ⟨fun hm => (HMI.out.1 hm).2.2.2.2.2.2, fun hw => HMI.out.2 ⟨h1, h2, h3, h4, h5, h6, hw⟩⟩
              by_cases h7 : bad = 0
              · have q1 : (bad != 0) = false := by simp [h7]
                clear h1 h2 h3 h4 h5 h6 h7
                go_enter Tryd.func19, Tryd.ntmps19
                go_wp2_with fail
                refine (H1.out _).mono ?_
                rintro e w1 ⟨rfl, rfl⟩
                go_wp2_with fail
                refine (H2.out _).mono ?_
                rintro e w2 ⟨rfl, rfl⟩
                go_wp2_with fail
                refine (H3.out _).mono ?_
                rintro e w3 ⟨rfl, rfl⟩
                go_wp2_with fail
                refine (H4.out _).mono ?_
                rintro e w4 ⟨rfl, rfl⟩
                go_wp2_with fail
                refine (H5.out _).mono ?_
                rintro e w5 ⟨rfl, rfl⟩
                go_wp2_with fail
                refine (HWM.out _).mono ?_
                rintro e w6 ⟨r, rfl, hr, hb6⟩
                have HF : Hid ((r = true ↔ MAY) ∧ Below w.heap.size w w6) := ⟨hr.trans HMW.out.symm, bel_step HB.out hb6⟩
                clear hr hb6
                go_wp2_with fail
                go_ret
                exact ⟨r, rfl, HF.out.1, HF.out.2⟩
              · have q1 : (bad != 0) = true := by simp [h7]
                have q2 : (lock != 0) = false := by simp only [bne_eq_false_iff_eq]; omega
                clear h1 h2 h3 h4 h5 h6 h7
                go_enter Tryd.func19, Tryd.ntmps19
                go_wp2_with fail
                refine (H1.out _).mono ?_
                rintro e w1 ⟨rfl, rfl⟩
                go_wp2_with fail
                refine (H2.out _).mono ?_
                rintro e w2 ⟨rfl, rfl⟩
                go_wp2_with fail
                refine (H3.out _).mono ?_
                rintro e w3 ⟨rfl, rfl⟩
                go_wp2_with fail
                refine (H4.out _).mono ?_
                rintro e w4 ⟨rfl, rfl⟩
                go_wp2_with fail
                refine (H5.out _).mono ?_
                rintro e w5 ⟨rfl, rfl⟩
                go_wp2_with fail
                refine (HWM.out _).mono ?_
                rintro e w6 ⟨r, rfl, hr, hb6⟩
                have HF : Hid ((r = true ↔ MAY) ∧ Below w.heap.size w w6) := ⟨hr.trans HMW.out.symm, bel_step HB.out hb6⟩
                clear hr hb6
                go_wp2_with fail
                go_ret
                exact ⟨r, rfl, HF.out.1, HF.out.2⟩
          · have H5 : Hid (∀ W, Calls Tryd.prog 33 #[.int .i64 lock, .int .i64 0, .int .i64 30] W fun e w' => e = .returned (.bool false) ∧ w' = W) := fun W => win.in_no _ _ _ W (by omega)
            have HM : Hid (¬ MAY) := fun hm => h5 (HMI.out.1 hm).2.2.2.2.1
            clear h1 h2 h3 h4 h5
            go_enter Tryd.func19, Tryd.ntmps19
            go_wp2_with fail
            refine (H1.out _).mono ?_
            rintro e w1 ⟨rfl, rfl⟩
            go_wp2_with fail
            refine (H2.out _).mono ?_
            rintro e w2 ⟨rfl, rfl⟩
            go_wp2_with fail
            refine (H3.out _).mono ?_
            rintro e w3 ⟨rfl, rfl⟩
            go_wp2_with fail
            refine (H4.out _).mono ?_
            rintro e w4 ⟨rfl, rfl⟩
            go_wp2_with fail
            refine (H5.out _).mono ?_
            rintro e w5 ⟨rfl, rfl⟩
            go_wp2_with fail
            go_ret
            exact Told.no HM.out HB.out
        · have H4 : Hid (∀ W, Calls Tryd.prog 33 #[.int .i64 bad, .int .i64 0, .int .i64 4] W fun e w' => e = .returned (.bool false) ∧ w' = W) := fun W => win.in_no _ _ _ W (by omega)
          have HM : Hid (¬ MAY) := fun hm => h4 (HMI.out.1 hm).2.2.2.1
          clear h1 h2 h3 h4
          go_enter Tryd.func19, Tryd.ntmps19
          go_wp2_with fail
          refine (H1.out _).mono ?_
          rintro e w1 ⟨rfl, rfl⟩
          go_wp2_with fail
          refine (H2.out _).mono ?_
          rintro e w2 ⟨rfl, rfl⟩
          go_wp2_with fail
          refine (H3.out _).mono ?_
          rintro e w3 ⟨rfl, rfl⟩
          go_wp2_with fail
          refine (H4.out _).mono ?_
          rintro e w4 ⟨rfl, rfl⟩
          go_wp2_with fail
          go_ret
          exact Told.no HM.out HB.out
      · have H3 : Hid (∀ W, Calls Tryd.prog 33 #[.int .i64 cr, .int .i64 0, .int .i64 99999999] W fun e w' => e = .returned (.bool false) ∧ w' = W) := fun W => win.in_no _ _ _ W (by omega)
        have HM : Hid (¬ MAY) := fun hm => h3 (HMI.out.1 hm).2.2.1
        clear h1 h2 h3
        go_enter Tryd.func19, Tryd.ntmps19
        go_wp2_with fail
        refine (H1.out _).mono ?_
        rintro e w1 ⟨rfl, rfl⟩
        go_wp2_with fail
        refine (H2.out _).mono ?_
        rintro e w2 ⟨rfl, rfl⟩
        go_wp2_with fail
        refine (H3.out _).mono ?_
        rintro e w3 ⟨rfl, rfl⟩
        go_wp2_with fail
        go_ret
        exact Told.no HM.out HB.out
    · have H2 : Hid (∀ W, Calls Tryd.prog 33 #[.int .i64 rev, .int .i64 0, .int .i64 15] W fun e w' => e = .returned (.bool false) ∧ w' = W) := fun W => win.in_no _ _ _ W (by omega)
      have HM : Hid (¬ MAY) := fun hm => h2 (HMI.out.1 hm).2.1
      clear h1 h2
      go_enter Tryd.func19, Tryd.ntmps19
      go_wp2_with fail
      refine (H1.out _).mono ?_
      rintro e w1 ⟨rfl, rfl⟩
      go_wp2_with fail
      refine (H2.out _).mono ?_
      rintro e w2 ⟨rfl, rfl⟩
      go_wp2_with fail
      go_ret
      exact Told.no HM.out HB.out
  · have H1 : Hid (∀ W, Calls Tryd.prog 33 #[.int .i64 me, .int .i64 0, .int .i64 49] W fun e w' => e = .returned (.bool false) ∧ w' = W) := fun W => win.in_no _ _ _ W (by omega)
    have HM : Hid (¬ MAY) := fun hm => h1 (HMI.out.1 hm).1
    clear h1
    go_enter Tryd.func19, Tryd.ntmps19
    go_wp2_with fail
    refine (H1.out _).mono ?_
    rintro e w1 ⟨rfl, rfl⟩
    go_wp2_with fail
    go_ret
    exact Told.no HM.out HB.out

end Go.Proofs.YtnhidiefchamlaaDoor.met
