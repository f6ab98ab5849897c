/- Windows: the document's own judging and taking. -/
import Derived.Test.YtnhidiefchamlaaDoorWnR
namespace Go.Proofs.YtnhidiefchamlaaDoor.win
open Go.RowKit Go.Proofs.YtnhidiefchamlaaDoor.irow
set_option maxRecDepth 100000
set_option linter.unusedVariables false

set_option maxHeartbeats 2000000 in
theorem wmay_any (h : Int) (b : Nat) (w : World) (hb : b < 18446744073709551616) :
    Calls Tryd.prog 34 #[.agg #[.int .i64 h, .int .u64 (b : Int)]] w fun e w' => MayPost w h b e w' := by
  have hW := Blk.new w #[.int .i64 h, .int .u64 (b : Int)] 24
  have c0 := hW.cell 0
  have c1 := hW.cell 1
  have HB0 : Hid (Below w.heap.size w (w.alloc (.cells #[.int .i64 h, .int .u64 (b : Int)] 24))) := (Below.refl _ _).alloc (Nat.le_refl _) _
  by_cases h0 : h = 0
  · subst h0
    have hz : ((0 : Int) == 0) = true := by decide
    clear hW
    by_cases hb0 : b = 0
    · have hq : ((b : Int) == 0) = true := by simp; omega
      have HM : Hid (May 0 b) := (may_zero b).2 hb0
      clear hb0
      go_enter Tryd.func34, Tryd.ntmps34
      go_wp2_with fail
      go_ret
      exact MayPost.yes HM.out HB0.out
    · have hq : ((b : Int) == 0) = false := by simp; omega
      have HM : Hid (¬ May 0 b) := fun hm => hb0 ((may_zero b).1 hm)
      clear hb0
      go_enter Tryd.func34, Tryd.ntmps34
      go_wp2_with fail
      go_ret
      exact MayPost.no HM.out HB0.out
  · have hz : (h == 0) = false := by simp [h0]
    by_cases h1 : 1 ≤ h ∧ h ≤ 1048575
    · obtain ⟨h1, h2⟩ := h1
      have HI : Hid (∀ W, Calls Tryd.prog 33 #[.int .i64 h, .int .i64 1, .int .i64 1048575] W fun e w' => e = .returned (.bool true) ∧ w' = W) := fun W => in_yes _ _ _ W h1 h2
      have HME : Hid (∀ W, Calls Tryd.prog 47 #[.agg #[.int .i64 h, .int .u64 (b : Int)]] W fun e w' => GaveI W (mem h b 64) e w') := fun W => members_any h b W hb (by omega) h2
      have HMI : Hid (May h b ↔ 0 < (mem h b 64).length ∧ 1 ≤ (mem h b 64).getD 0 0 ∧ (mem h b 64).getD ((mem h b 64).length - 1) 0 = h) := may_iff h b h1 h2
      have HLN := mem_len h b 64
      have HWB : Hid (∀ W', Below (w.alloc (.cells #[.int .i64 h, .int .u64 (b : Int)] 24)).heap.size (w.alloc (.cells #[.int .i64 h, .int .u64 (b : Int)] 24)) W' → W'.cell? ⟨w.heap.size, 0, none⟩ = some (.int .i64 h)) := fun W' hb' => (hW.next hb').cell 0
      clear hW
      generalize mem h b 64 = l at *
      go_enter Tryd.func34, Tryd.ntmps34
      go_wp2_with fail
      refine (HI.out _).mono ?_
      rintro e w1 ⟨rfl, rfl⟩
      go_wp2_with fail
      refine (HME.out _).mono ?_
      rintro e w2 ⟨v, rfl, hv, hb2⟩
      obtain ⟨a, cap, rfl, hr, _, _⟩ := hv.row
      have d0 := HWB.out w2 hb2
      have HB2 : Hid (Below w.heap.size w w2) := bel_step HB0.out hb2
      obtain ⟨n, hn⟩ : ∃ n, l.length = n := ⟨_, rfl⟩
      rw [hn] at hr HMI HLN
      rw [hn]
      clear hv hb2 hn c0 c1 HWB
      cases n with
      | zero =>
        have HM : Hid (¬ May h b) := fun hm => by have := (HMI.out.1 hm).1; omega
        clear hr
        go_wp2_with fail
        go_quiet (fail)
        go_wp2_with fail
        go_ret
        exact MayPost.no HM.out (bel_drew HB2.out _)
      | succ m =>
        obtain ⟨bl, off, rfl, _, hc⟩ := hr.at (by omega)
        have g0 : w2.cell? ⟨bl, off, none⟩ = some (.int .i64 (l.getD 0 0)) := hc 0 (by omega)
        have g1 : w2.cell? ⟨bl, off + m, none⟩ = some (.int .i64 (l.getD m 0)) := hc m (by omega)
        have HMI' : Hid (May h b ↔ 1 ≤ l.getD 0 0 ∧ l.getD m 0 = h) := by
          show _ ↔ _
          rw [HMI.out, show m + 1 - 1 = m by omega]
          simp
        clear hc hr HMI
        generalize l.getD 0 0 = x at *
        generalize l.getD m 0 = y at *
        by_cases hx : 1 ≤ x
        · have dx : decide (1 ≤ x) = true := by simp [hx]
          by_cases hy : y = h
          · have dy : (y == h) = true := by simp [hy]
            have HM : Hid (May h b) := HMI'.out.2 ⟨hx, hy⟩
            clear hy HMI'
            go_wp2_with fail
            go_quiet (fail)
            go_wp2_with fail
            go_ret
            exact MayPost.yes HM.out (bel_drew HB2.out _)
          · have dy : (y == h) = false := by simp [hy]
            have HM : Hid (¬ May h b) := fun hm => hy (HMI'.out.1 hm).2
            clear hy HMI'
            go_wp2_with fail
            go_quiet (fail)
            go_wp2_with fail
            go_ret
            exact MayPost.no HM.out (bel_drew HB2.out _)
        · have dx : decide (1 ≤ x) = false := by simp [hx]
          have HM : Hid (¬ May h b) := fun hm => hx (HMI'.out.1 hm).1
          clear HMI'
          go_wp2_with fail
          go_quiet (fail)
          go_wp2_with fail
          go_ret
          exact MayPost.no HM.out (bel_drew HB2.out _)
    · have HI : Hid (∀ W, Calls Tryd.prog 33 #[.int .i64 h, .int .i64 1, .int .i64 1048575] W fun e w' => e = .returned (.bool false) ∧ w' = W) := fun W => in_no _ _ _ W (by omega)
      have HM : Hid (¬ May h b) := may_out h0 (by omega)
      clear h1 hW
      go_enter Tryd.func34, Tryd.ntmps34
      go_wp2_with fail
      refine (HI.out _).mono ?_
      rintro e w1 ⟨rfl, rfl⟩
      go_wp2_with fail
      go_ret
      exact MayPost.no HM.out HB0.out

end Go.Proofs.YtnhidiefchamlaaDoor.win
