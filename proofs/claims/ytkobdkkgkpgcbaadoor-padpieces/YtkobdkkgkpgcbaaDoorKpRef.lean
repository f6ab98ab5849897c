/- The document's answer to a key: the same as the program's. Pads and entries are compared. -/
import Derived.Test.YtkobdkkgkpgcbaaDoorKpRefQ
import Derived.Laws.StructEq
import Derived.Deep.QuietTactic
import Derived.BigQuiet
namespace Go.Proofs.YtkobdkkgkpgcbaaDoor.keypad
open Go.Proofs.YtkobdkkgkpgcbaaDoor.check
open Go.RowKit
set_option linter.unusedSimpArgs false
set_option maxRecDepth 100000

theorem rpress_any (p : Pad) (r : Int) (w : World) (h : p.ok) (hlo : -2147483648 ≤ r) (hhi : r ≤ 2147483647) :
    Calls Tryd.prog 10 #[p.v, .int .i32 r] w fun e w' => PressPost w p r e w' := by
  have HM : Hid (∀ W, Calls Tryd.prog 22 #[p.v] W fun e w' => e = .returned (.bool true) ∧ Below W.heap.size W w') := fun W => by
    have := padMay_any p W
    rwa [okB_ok.2 h] at this
  have HK : Hid (∀ W, Calls Tryd.prog 23 #[.int .i32 r] W fun e w' => e = .returned (.int .i64 (keyD r)) ∧ w' = W) := fun W => keyDigit_any r W hlo hhi
  have hs := h.s
  obtain ⟨s, b⟩ := p
  unfold PressPost
  have hk := keyD_bd r
  by_cases hd : 0 ≤ keyD r
  · have h35 : r ≠ 35 := by intro e; subst e; revert hd; decide
    have hE : ents ⟨s, b⟩ r = [] := if_neg h35
    rw [hE]
    by_cases hz : s.size = 30
    · have e0 : pad ⟨s, b⟩ r = ⟨s, true⟩ := by unfold pad; rw [if_pos hd, if_pos hz]
      rw [e0]
      have h1 : r ≠ 32 := by intro e; subst e; revert hd; decide
      have h2 : r ≠ 45 := by intro e; subst e; revert hd; decide
      have h3 : r ≠ 160 := by intro e; subst e; revert hd; decide
      have h4 : r ≠ 42 := by intro e; subst e; revert hd; decide
      exact rp_bad s b r (keyD r) w (.inr (by omega)) (by simpa using h1) (by simpa using h2) (by simpa using h3) (by simpa using h4) (by simpa using h35) HM HK
    · have e0 : pad ⟨s, b⟩ r = ⟨s ++ one (keyD r), b⟩ := by unfold pad; rw [if_pos hd, if_neg hz]
      rw [e0]
      exact rp_dig s b r (keyD r) (one (keyD r)) w hd (by have : s.size ≤ 30 := hs; omega) (one_size _ hd hk.2) HM HK (fun W => dec_one (keyD r) W hd hk.2)
  · have hn : keyD r < 0 := by omega
    by_cases h35 : r = 35
    · subst h35
      have e0 : pad ⟨s, b⟩ 35 = noPad := rfl
      rw [e0]
      cases b
      · by_cases hz : s.size = 0
        · have hE : ents ⟨s, false⟩ 35 = [] := by unfold ents ended; rw [if_pos rfl, if_neg (by simp), if_pos hz]
          rw [hE]
          exact rp_35n s (keyD 35) w hn hz HM HK
        · have hE : ents ⟨s, false⟩ 35 = [⟨s, 0⟩] := by unfold ents ended; rw [if_pos rfl, if_neg (by simp), if_neg hz]
          rw [hE]
          exact rp_35t s (keyD 35) w hn (by omega) HM HK
      · exact rp_35b s (keyD 35) w hn HM HK
    · have hE : ents ⟨s, b⟩ r = [] := if_neg h35
      rw [hE]
      by_cases h1 : r = 32 ∨ r = 45 ∨ r = 160
      · have e0 : pad ⟨s, b⟩ r = ⟨s, b⟩ := by unfold pad; rw [if_neg hd, if_pos h1]
        rw [e0]
        rcases h1 with rfl | rfl | rfl
        · exact rp_32 s b (keyD 32) w hn HM HK
        · exact rp_45 s b (keyD 45) w hn HM HK
        · exact rp_160 s b (keyD 160) w hn HM HK
      · by_cases h2 : r = 42
        · subst h2
          have e0 : pad ⟨s, b⟩ 42 = ⟨s.extract 0 (s.size - 1), b⟩ := rfl
          rw [e0]
          by_cases hz : s.size = 0
          · have := rp_42e s b (keyD 42) w hn hz HM HK
            rw [emp hz] at this ⊢
            exact this
          · exact rp_42 s b (keyD 42) w hn (by omega) hs HM HK
        · have e0 : pad ⟨s, b⟩ r = ⟨s, true⟩ := by unfold pad; rw [if_neg hd, if_neg h1, if_neg h2, if_neg h35]
          rw [e0]
          exact rp_bad s b r (keyD r) w (.inl hn) (beq_eq_false_iff_ne.2 (by omega)) (beq_eq_false_iff_ne.2 (by omega)) (beq_eq_false_iff_ne.2 (by omega)) (beq_eq_false_iff_ne.2 h2) (beq_eq_false_iff_ne.2 h35) HM HK

/-! Pads and entries, compared. -/
theorem eqS (d : Nat) (a b : ByteArray) (w : World) : (Op.equalIn (d + 1) 9 (.string a) (.string b)).run Tryd.prog w = .ok (a.toList == b.toList) w := run_equalIn_string w d _ a b Tryd.underlying9
theorem eqB (d : Nat) (a b : Bool) (w : World) : (Op.equalIn (d + 1) 4 (.bool a) (.bool b)).run Tryd.prog w = .ok (a == b) w := run_equalIn_bool w d _ a b Tryd.underlying4
theorem eqE (d : Nat) (a b : Int) (w : World) : (Op.equalIn (d + 1) 25 (.int .i64 a) (.int .i64 b)).run Tryd.prog w = .ok (a == b) w := run_equalIn_int w d _ _ _ a b Tryd.underlying25
theorem pt0 (s : ByteArray) (b : Bool) (w : World) : (part 9 #[.string s, .bool b] 0).run Tryd.prog w = .ok (.string s) w := by kernel_rfl
theorem pt1 (s : ByteArray) (b : Bool) (w : World) : (part 4 #[.string s, .bool b] 1).run Tryd.prog w = .ok (.bool b) w := by kernel_rfl
theorem et0 (s : ByteArray) (c : Int) (w : World) : (part 9 #[.string s, .int .i64 c] 0).run Tryd.prog w = .ok (.string s) w := by kernel_rfl
theorem et1 (s : ByteArray) (c : Int) (w : World) : (part 25 #[.string s, .int .i64 c] 1).run Tryd.prog w = .ok (.int .i64 c) w := by kernel_rfl
theorem eqP (s t : ByteArray) (b c : Bool) (w : World) :
    (Op.equalIn 10000 23 (.agg #[.string s, .bool b]) (.agg #[.string t, .bool c])).run Tryd.prog w = .ok (s.toList == t.toList && b == c) w := by
  rw [show (10000 : Nat) = 9999 + 1 from rfl, run_equalIn_agg w 9999 23 _ _ (by kernel_rfl) (by kernel_rfl)]
  simp only [Program.fieldsOf, Tryd.underlying23, Op.eqFields, Sem.run_bind, Sem.run_ite]
  by_cases h1 : (s.toList == t.toList) = true <;> by_cases h2 : (b == c) = true <;> simp [pt0, pt1, show (9999 : Nat) = 9998 + 1 from rfl, eqS, eqB, h1, h2]
theorem eqN (s t : ByteArray) (b c : Int) (w : World) :
    (Op.equalIn 10000 40 (.agg #[.string s, .int .i64 b]) (.agg #[.string t, .int .i64 c])).run Tryd.prog w = .ok (s.toList == t.toList && b == c) w := by
  rw [show (10000 : Nat) = 9999 + 1 from rfl, run_equalIn_agg w 9999 40 _ _ (by kernel_rfl) (by kernel_rfl)]
  simp only [Program.fieldsOf, Tryd.underlying40, Op.eqFields, Sem.run_bind, Sem.run_ite]
  by_cases h1 : (s.toList == t.toList) = true <;> by_cases h2 : (b == c) = true <;> simp [et0, et1, show (9999 : Nat) = 9998 + 1 from rfl, eqS, eqE, h1, h2]

end Go.Proofs.YtkobdkkgkpgcbaaDoor.keypad
