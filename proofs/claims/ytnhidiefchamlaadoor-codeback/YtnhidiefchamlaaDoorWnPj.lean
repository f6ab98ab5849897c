/- The program's windows: judging. -/
import Derived.Test.YtnhidiefchamlaaDoorWnP0
import Derived.Test.YtnhidiefchamlaaDoorWnBox
namespace Go.Proofs.YtnhidiefchamlaaDoor.win
open Go.RowKit
set_option maxRecDepth 100000
set_option linter.unusedVariables false
set_option linter.unusedSimpArgs false

set_option maxHeartbeats 2000000 in
theorem pjudge (h : Int) (b : Nat) (id : Int) (w : World) (hb : b < 18446744073709551616) :
    Calls Tryd.prog 40 #[.agg #[.int .i64 h, .int .u64 (b : Int)], .int .i64 id] w fun e w' => JudgePost w h b id e w' := by
  have HMY : Hid (∀ W, Calls Tryd.prog 53 #[.agg #[.int .i64 h, .int .u64 (b : Int)]] W fun e w' => MayPost W h b e w') := fun W => maybe_any h b W hb
  have HX : Hid (Box w (w.alloc (.cells #[.int .i64 h, .int .u64 (b : Int)] 24)) h b) := Box.new w h b
  have c0 := HX.out.win.cell 0
  have c1 := HX.out.win.cell 1
  go_enter Tryd.func40, Tryd.ntmps40
  go_wp2_with fail
  refine (HMY.out _).mono ?_
  rintro e w1 ⟨r, rfl, hr, hb1⟩
  have HX1 : Hid (Box w w1 h b) := HX.out.next hb1
  clear hb1 c0 c1 HX HMY
  have c0 := HX1.out.win.cell 0
  have c1 := HX1.out.win.cell 1
  cases r with
  | false =>
    have HM : Hid (¬ May h b) := fun hm => by have := hr.2 hm; cases this
    clear hr
    go_wp2_with fail
    go_ret
    exact JudgePost.mk (.inl ⟨HM.out, rfl⟩) HX1.out.bel
  | true =>
    have HM : Hid (May h b) := hr.1 rfl
    clear hr
    obtain ⟨l1, l2⟩ := may_low HM.out
    by_cases h1 : id < 1
    · have HID : Hid (¬ (1 ≤ id ∧ id ≤ 1048575)) := fun hx => by omega
      go_wp2_with fail
      go_ret
      exact JudgePost.mk (.inr (.inl ⟨HM.out, HID.out, rfl⟩)) HX1.out.bel
    · have d1 : decide (id < 1) = false := by simp; omega
      by_cases h2 : 1048575 < id
      · have HID : Hid (¬ (1 ≤ id ∧ id ≤ 1048575)) := fun hx => by omega
        have d2 : decide (1048575 < id) = true := by simp [h2]
        go_wp2_with fail
        go_ret
        exact JudgePost.mk (.inr (.inl ⟨HM.out, HID.out, rfl⟩)) HX1.out.bel
      · have d2 : decide (1048575 < id) = false := by simp [h2]
        have HID : Hid (1 ≤ id ∧ id ≤ 1048575) := ⟨by omega, by omega⟩
        have HOLD : Hid (∀ W, Calls Tryd.prog 54 #[.agg #[.int .i64 h, .int .u64 (b : Int)]] W fun e w' => e = .returned (.int .i64 (h - 63)) ∧ Below W.heap.size W w') := fun W => oldest_any h b W l1 l2
        by_cases h3 : id ≤ h - 64
        · have d3 : decide (id < h - 63) = true := by simp; omega
          have H3 : Hid (id ≤ h - 64) := h3
          clear h1 h2 h3
          go_wp2_with fail
          refine (HOLD.out _).mono ?_
          rintro e w2 ⟨rfl, hb2⟩
          have HX2 : Hid (Box w w2 h b) := HX1.out.next hb2
          clear hb2 c0 c1 HX1
          go_wp2_with fail
          go_ret
          exact JudgePost.mk (.inr (.inr (.inl ⟨HM.out, HID.out, H3.out, rfl⟩))) HX2.out.bel
        · have d3 : decide (id < h - 63) = false := by simp; omega
          have H3 : Hid (¬ id ≤ h - 64) := h3
          have HTK : Hid (∀ W, Calls Tryd.prog 55 #[.agg #[.int .i64 h, .int .u64 (b : Int)], .int .i64 id] W fun e w' => e = .returned (.bool (decide (id ∈ mem h b 64))) ∧ Below W.heap.size W w') := fun W => taken_any h b id W hb h3
          have HC : Hid ((id ∈ mem h b 64 → JudgeIs h b id 14) ∧ (id ∉ mem h b 64 → JudgeIs h b id 0)) := ⟨fun hx => .inr (.inr (.inr (.inl ⟨HM.out, HID.out, h3, hx, rfl⟩))), fun hx => .inr (.inr (.inr (.inr ⟨HM.out, HID.out, h3, hx, rfl⟩)))⟩
          clear h1 h2 h3
          go_wp2_with fail
          refine (HOLD.out _).mono ?_
          rintro e w2 ⟨rfl, hb2⟩
          have HX2 : Hid (Box w w2 h b) := HX1.out.next hb2
          clear hb2 c0 c1 HX1
          have c0 := HX2.out.win.cell 0
          have c1 := HX2.out.win.cell 1
          go_wp2_with fail
          refine (HTK.out _).mono ?_
          rintro e w3 ⟨rfl, hb3⟩
          have HX3 : Hid (Box w w3 h b) := HX2.out.next hb3
          clear hb3 c0 c1 HX2
          by_cases h4 : id ∈ mem h b 64
          · have HF : Hid (JudgeIs h b id 14) := HC.out.1 h4
            rw [decide_eq_true h4]
            clear h4 HC HTK
            go_wp2_with fail
            go_ret
            exact JudgePost.mk HF.out HX3.out.bel
          · have HF : Hid (JudgeIs h b id 0) := HC.out.2 h4
            rw [decide_eq_false h4]
            clear h4 HC HTK
            go_wp2_with fail
            go_ret
            exact JudgePost.mk HF.out HX3.out.bel

end Go.Proofs.YtnhidiefchamlaaDoor.win
