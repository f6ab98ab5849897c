/- May so many units be asked for, as the document has it. -/
import Derived.Test.YtfhlokjpdkmdjaaTfF
namespace Go.Proofs.Ytfhlokjpdkmdjaa.tar
open Go.RowKit
set_option maxRecDepth 100000
set_option linter.unusedVariables false
set_option linter.unusedSimpArgs false

set_option maxHeartbeats 2000000 in
theorem rmay (a : Option Addr) (len cap : Nat) (ls : List Du) (x n : Int) (w : World) (hr : RowD w a len ls) (hl : len ≤ maxLen) : Calls Try.prog 84 #[.slice a len cap, .int .i64 x, .int .i64 n] w fun e w' => ErrPost w (MayIs ls x n) e w' := by
  have HIX : Hid (∀ W, Calls Try.prog 47 #[.int .i64 x, .int .i64 0, .int .i64 10000000] W fun e w' => e = .returned (.bool (decide (0 ≤ x ∧ x ≤ 10000000))) ∧ w' = W) := fun W => cal.cin x 0 10000000 W
  have HIN : Hid (∀ W, Calls Try.prog 47 #[.int .i64 n, .int .i64 0, .int .i64 2097151] W fun e w' => e = .returned (.bool (decide (0 ≤ n ∧ n ≤ 2097151))) ∧ w' = W) := fun W => cal.cin n 0 2097151 W
  have HFA : Hid (Calls Try.prog 54 #[.slice a len cap] w fun e w' => ErrPost w (FaultIs ls) e w') := rfault a len cap ls w hr hl
  clear hr hl
  go_enter Try.func84, Try.ntmps84
  go_wp2_with fail
  refine HFA.out.mono ?_
  rintro e w1 ⟨f, rfl, hf, hb⟩
  have HB : Hid (Below w.heap.size w w1) := hb
  have HF : Hid (FaultIs ls f) := hf
  clear hb HFA
  by_cases h0 : f = 0
  · subst h0
    have HR : Hid (Right ls) := hf.ok.1 rfl
    clear hf
    by_cases hx : 0 ≤ x ∧ x ≤ 10000000
    · rw [decide_eq_true hx] at HIX
      obtain ⟨hx0, hx1⟩ := hx
      by_cases hn : 0 ≤ n ∧ n ≤ 2097151
      · rw [decide_eq_true hn] at HIN
        obtain ⟨hn0, hn1⟩ := hn
        by_cases hs : x + n ≤ 10000000
        · have HV : Hid (MayIs ls x n 0) := .inr (.inr ⟨HR.out, ⟨⟨hx0, hx1⟩, ⟨hn0, hn1⟩, hs⟩, rfl⟩)
          have hd : decide (10000000 < x + n) = false := decide_eq_false (by omega)
          go_wp2_with fail
          refine (HIX.out _).mono ?_
          rintro e w2 ⟨rfl, hw2⟩
          subst hw2
          go_wp2_with fail
          refine (HIN.out _).mono ?_
          rintro e w2 ⟨rfl, hw2⟩
          subst hw2
          go_wp2_with fail
          go_ret
          exact ⟨_, rfl, HV.out, HB.out⟩
        · have HV : Hid (MayIs ls x n 2) := .inr (.inl ⟨HR.out, fun h => hs h.2.2, rfl⟩)
          have hd : decide (10000000 < x + n) = true := decide_eq_true (by omega)
          clear hs
          go_wp2_with fail
          refine (HIX.out _).mono ?_
          rintro e w2 ⟨rfl, hw2⟩
          subst hw2
          go_wp2_with fail
          refine (HIN.out _).mono ?_
          rintro e w2 ⟨rfl, hw2⟩
          subst hw2
          go_wp2_with fail
          go_ret
          exact ⟨_, rfl, HV.out, HB.out⟩
      · rw [decide_eq_false hn] at HIN
        have HV : Hid (MayIs ls x n 2) := .inr (.inl ⟨HR.out, fun h => hn h.2.1, rfl⟩)
        clear hn
        go_wp2_with fail
        refine (HIX.out _).mono ?_
        rintro e w2 ⟨rfl, hw2⟩
        subst hw2
        go_wp2_with fail
        refine (HIN.out _).mono ?_
        rintro e w2 ⟨rfl, hw2⟩
        subst hw2
        go_wp2_with fail
        all_goals first
          | (rename_i q1 q2; exact absurd q1 (by simp [undef]))
          | (go_ret; exact ⟨_, rfl, HV.out, HB.out⟩)
    · rw [decide_eq_false hx] at HIX
      have HV : Hid (MayIs ls x n 2) := .inr (.inl ⟨HR.out, fun h => hx h.1, rfl⟩)
      clear hx
      go_wp2_with fail
      refine (HIX.out _).mono ?_
      rintro e w2 ⟨rfl, hw2⟩
      subst hw2
      go_wp2_with fail
      all_goals first
        | (rename_i q1 q2; exact absurd q1 (by simp [undef]))
        | (go_ret; exact ⟨_, rfl, HV.out, HB.out⟩)
  · have hne : (f != 0) = true := by simpa using h0
    have HV : Hid (MayIs ls x n f) := .inl ⟨fun h => h0 (hf.ok.2 h), hf⟩
    clear hf h0
    go_wp2_with fail
    go_ret
    exact ⟨_, rfl, HV.out, HB.out⟩

end Go.Proofs.Ytfhlokjpdkmdjaa.tar
