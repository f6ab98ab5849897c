/- The program's oracle: pairs. -/
import Derived.Test.YtgipkpkjoicehabDoorOrPm
namespace Go.Proofs.YtgipkpkjoicehabDoor.ora
open Go.RowKit
set_option maxRecDepth 100000
set_option linter.unusedVariables false
set_option linter.unusedSimpArgs false

theorem of_any (m r b t : Int) (w : World) :
    Calls Tryd.prog 51 #[.agg #[.int .i64 m, .int .i64 r, .int .i64 b, .int .i64 t]] w fun e w' => e = .returned (.agg #[.int .i64 m, .int .i64 r, .int .i64 b]) ∧ Below w.heap.size w w' := by
  have hN := (Blk.new w #[.int .i64 m, .int .i64 r, .int .i64 b, .int .i64 t] 109).alloc (.cells #[.int .i64 0, .int .i64 0, .int .i64 0] 113)
  have c0 := hN.cell 0
  have c1 := hN.cell 1
  have c2 := hN.cell 2
  have hM := Blk.new1 w (.cells #[.int .i64 m, .int .i64 r, .int .i64 b, .int .i64 t] 109) #[.int .i64 0, .int .i64 0, .int .i64 0] 113
  have HM : Hid (Blk _ _ _ _) := hM
  have HB : Hid (Below w.heap.size w ((w.alloc (.cells #[.int .i64 m, .int .i64 r, .int .i64 b, .int .i64 t] 109)).alloc (.cells #[.int .i64 0, .int .i64 0, .int .i64 0] 113))) := ((Below.refl _ _).alloc (Nat.le_refl _) _).alloc (by simp) _
  clear hN hM
  go_enter Tryd.func51, Tryd.ntmps51
  go_wp2_with (first
    | (refine wp_letAll rfl 113 _ _ rfl (w.heap.size + 1) rfl _ rfl (by kernel_rfl) (by simp [Value.oneCell']) _ _ HM.out rfl ?_; intro W hu)
    | fail)
  have d0 := hu.blk.cell 0
  have d1 := hu.blk.cell 1
  have d2 := hu.blk.cell 2
  have HBB : Hid (Below w.heap.size w W) := hu.bel _ _ (by omega) HB.out
  clear hu HM HB c0 c1 c2
  go_wp2_with fail
  exact bodyPost_ret (v := .agg #[.int .i64 m, .int .i64 r, .int .i64 b]) (by simp [results, Tryd.results51, d0, d1, d2, go_sem]) rfl ⟨rfl, HBB.out⟩
set_option maxHeartbeats 1000000 in
theorem within_any (m r b t : Int) (w : World) :
    Calls Tryd.prog 50 #[.agg #[.int .i64 m, .int .i64 r, .int .i64 b, .int .i64 t]] w fun e w' => Told w (Pr.mk m r b t).may e w' := by
  have hN := Blk.new w #[.int .i64 m, .int .i64 r, .int .i64 b, .int .i64 t] 109
  have c0 := hN.cell 0
  have c1 := hN.cell 1
  have c2 := hN.cell 2
  have c3 := hN.cell 3
  have HB : Hid (Below w.heap.size w (w.alloc (.cells #[.int .i64 m, .int .i64 r, .int .i64 b, .int .i64 t] 109))) := (Below.refl _ _).alloc (Nat.le_refl _) _
  clear hN
  by_cases h0 : 0 ≤ m
  · skip
    by_cases h1 : m < 50
    · skip
      by_cases h2 : 0 ≤ r
      · skip
        by_cases h3 : r ≤ 15
        · skip
          by_cases h4 : 0 ≤ b
          · skip
            by_cases h5 : b ≤ 8796093022207
            · skip
              by_cases h6 : 0 ≤ t
              · skip
                by_cases h7 : t ≤ 65535
                · skip
                  have HF : Hid ((Pr.mk m r b t).may) := ⟨⟨h0, by show m ≤ 49; omega⟩, ⟨h2, h3⟩, ⟨h4, h5⟩, ⟨h6, h7⟩⟩
                  have q0 : decide (0 ≤ m) = true := by simp; omega
                  have q1 : decide (m < 50) = true := by simp; omega
                  have q2 : decide (0 ≤ r) = true := by simp; omega
                  have q3 : decide (r ≤ 15) = true := by simp; omega
                  have q4 : decide (0 ≤ b) = true := by simp; omega
                  have q5 : decide (b ≤ 8796093022207) = true := by simp; omega
                  have q6 : decide (0 ≤ t) = true := by simp; omega
                  have q7 : decide (t ≤ 65535) = true := by simp; omega
                  clear h0 h1 h2 h3 h4 h5 h6 h7
                  go_enter Tryd.func50, Tryd.ntmps50
                  go_wp2_with fail
                  go_ret
                  exact Told.yes HF.out HB.out
                · have q7 : decide (t ≤ 65535) = false := by simp; omega
                  have HF : Hid (¬ (Pr.mk m r b t).may) := fun h => by unfold Pr.may at h; simp only at h; omega
                  have q0 : decide (0 ≤ m) = true := by simp; omega
                  have q1 : decide (m < 50) = true := by simp; omega
                  have q2 : decide (0 ≤ r) = true := by simp; omega
                  have q3 : decide (r ≤ 15) = true := by simp; omega
                  have q4 : decide (0 ≤ b) = true := by simp; omega
                  have q5 : decide (b ≤ 8796093022207) = true := by simp; omega
                  have q6 : decide (0 ≤ t) = true := by simp; omega
                  clear h0 h1 h2 h3 h4 h5 h6 h7
                  go_enter Tryd.func50, Tryd.ntmps50
                  go_wp2_with fail
                  go_ret
                  exact Told.no HF.out HB.out
              · have q6 : decide (0 ≤ t) = false := by simp; omega
                have HF : Hid (¬ (Pr.mk m r b t).may) := fun h => by unfold Pr.may at h; simp only at h; omega
                have q0 : decide (0 ≤ m) = true := by simp; omega
                have q1 : decide (m < 50) = true := by simp; omega
                have q2 : decide (0 ≤ r) = true := by simp; omega
                have q3 : decide (r ≤ 15) = true := by simp; omega
                have q4 : decide (0 ≤ b) = true := by simp; omega
                have q5 : decide (b ≤ 8796093022207) = true := by simp; omega
                clear h0 h1 h2 h3 h4 h5 h6
                go_enter Tryd.func50, Tryd.ntmps50
                go_wp2_with fail
                go_ret
                exact Told.no HF.out HB.out
            · have q5 : decide (b ≤ 8796093022207) = false := by simp; omega
              have HF : Hid (¬ (Pr.mk m r b t).may) := fun h => by unfold Pr.may at h; simp only at h; omega
              have q0 : decide (0 ≤ m) = true := by simp; omega
              have q1 : decide (m < 50) = true := by simp; omega
              have q2 : decide (0 ≤ r) = true := by simp; omega
              have q3 : decide (r ≤ 15) = true := by simp; omega
              have q4 : decide (0 ≤ b) = true := by simp; omega
              clear h0 h1 h2 h3 h4 h5
              go_enter Tryd.func50, Tryd.ntmps50
              go_wp2_with fail
              go_ret
              exact Told.no HF.out HB.out
          · have q4 : decide (0 ≤ b) = false := by simp; omega
            have HF : Hid (¬ (Pr.mk m r b t).may) := fun h => by unfold Pr.may at h; simp only at h; omega
            have q0 : decide (0 ≤ m) = true := by simp; omega
            have q1 : decide (m < 50) = true := by simp; omega
            have q2 : decide (0 ≤ r) = true := by simp; omega
            have q3 : decide (r ≤ 15) = true := by simp; omega
            clear h0 h1 h2 h3 h4
            go_enter Tryd.func50, Tryd.ntmps50
            go_wp2_with fail
            go_ret
            exact Told.no HF.out HB.out
        · have q3 : decide (r ≤ 15) = false := by simp; omega
          have HF : Hid (¬ (Pr.mk m r b t).may) := fun h => by unfold Pr.may at h; simp only at h; omega
          have q0 : decide (0 ≤ m) = true := by simp; omega
          have q1 : decide (m < 50) = true := by simp; omega
          have q2 : decide (0 ≤ r) = true := by simp; omega
          clear h0 h1 h2 h3
          go_enter Tryd.func50, Tryd.ntmps50
          go_wp2_with fail
          go_ret
          exact Told.no HF.out HB.out
      · have q2 : decide (0 ≤ r) = false := by simp; omega
        have HF : Hid (¬ (Pr.mk m r b t).may) := fun h => by unfold Pr.may at h; simp only at h; omega
        have q0 : decide (0 ≤ m) = true := by simp; omega
        have q1 : decide (m < 50) = true := by simp; omega
        clear h0 h1 h2
        go_enter Tryd.func50, Tryd.ntmps50
        go_wp2_with fail
        go_ret
        exact Told.no HF.out HB.out
    · have q1 : decide (m < 50) = false := by simp; omega
      have HF : Hid (¬ (Pr.mk m r b t).may) := fun h => by unfold Pr.may at h; simp only at h; omega
      have q0 : decide (0 ≤ m) = true := by simp; omega
      clear h0 h1
      go_enter Tryd.func50, Tryd.ntmps50
      go_wp2_with fail
      go_ret
      exact Told.no HF.out HB.out
  · have q0 : decide (0 ≤ m) = false := by simp; omega
    have HF : Hid (¬ (Pr.mk m r b t).may) := fun h => by unfold Pr.may at h; simp only at h; omega
    clear h0
    go_enter Tryd.func50, Tryd.ntmps50
    go_wp2_with fail
    go_ret
    exact Told.no HF.out HB.out

end Go.Proofs.YtgipkpkjoicehabDoor.ora
