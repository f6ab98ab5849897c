/- How often, as the document has it. -/
import Derived.Test.YtodnlecccgiogaaDbO
import Derived.Test.YtodnlecccgiogaaDbSh
namespace Go.Proofs.Ytodnlecccgiogaa.deb
open Go.Proofs.Ytodnlecccgiogaa.tar (Du du0 Came RowD Ld ErrPost TwoPost PairT GaveD)
open Go.RowKit
set_option maxRecDepth 100000
set_option linter.unusedVariables false
set_option linter.unusedSimpArgs false

set_option maxHeartbeats 4000000 in
theorem rtimes (a : Option Addr) (len cap : Nat) (ls : List Du) (t bp : Int) (w : World) (hr : RowD w a len ls) (hl : len ≤ maxLen) : Calls Try.prog 18 #[.slice a len cap, .int .i64 t, .int .i64 bp] w fun e w' => TwoPost w (TimesIs ls t bp) e w' := by
  have HOW : Hid (Calls Try.prog 11 #[.slice a len cap] w fun e w' => ∃ x f, e = .returned (.tuple #[.int .i64 x, .int .i64 f]) ∧ OwedIs ls x f ∧ w' = w) := rowed a len cap ls w hr hl
  have HSH : Hid (∀ W, Calls Try.prog 27 #[.int .i64 t, .int .i64 bp] W fun e w' => ∃ s f, e = .returned (.tuple #[.int .i64 s, .int .i64 f]) ∧ ShareIs t bp s f ∧ w' = W) := fun W => rshare t bp W
  clear hr hl
  go_enter Try.func18, Try.ntmps18
  go_wp2_with fail
  refine HOW.out.mono ?_
  rintro e w1 ⟨x, f, rfl, hf, hw1⟩
  subst hw1
  by_cases h0 : f = 0
  · subst h0
    have hm := hf.1.ok.1 rfl
    have hx := (hf.got hm).1
    have hsd := sumD_pos (mem_fits hm.2)
    have hx0 : 0 ≤ x := by rw [hx]; exact hsd.1
    have hx1 : x ≤ 8000000000 := by have := hm.1; rw [hx]; omega
    have HM : Hid (Mays ls) := hm
    have HX : Hid (x = sumD ls) := hx
    clear hf hm HOW hx hsd
    go_wp2_with fail
    refine (HSH.out _).mono ?_
    rintro e w2 ⟨s, g, rfl, hs, hw2⟩
    subst hw2
    rcases hs with ⟨ht, hse, hg⟩ | ⟨ht, hse, hg⟩
    · have HT : Hid (TMay t bp) := ht
      have hsb := share_bd ht
      rw [← hse] at hsb
      have HSE : Hid (s = t * bp / 10000) := hse
      subst hg
      clear ht hse HSH
      by_cases hz : x = 0
      · have hz1 : (x == 0) = true := by simpa using hz
        have HV : Hid (TimesIs ls t bp 0 0) := .inr (.inr (.inl ⟨HM.out, HT.out, by rw [← HX.out]; exact hz, rfl, rfl⟩))
        clear hz
        go_wp2_with fail
        go_ret2
        exact ⟨_, _, rfl, HV.out, Below.refl _ _⟩
      · have hz1 : (x == 0) = false := by simpa using hz
        by_cases hs0 : s = 0
        · have hs1 : (s == 0) = true := by simpa using hs0
          have HV : Hid (TimesIs ls t bp 0 4) := .inr (.inr (.inr (.inl ⟨HM.out, HT.out, by rw [← HX.out]; exact hz, by rw [← HSE.out]; exact hs0, rfl, rfl⟩)))
          clear hz hs0
          go_wp2_with fail
          go_ret2
          exact ⟨_, _, rfl, HV.out, Below.refl _ _⟩
        · have hs1 : (s == 0) = false := by simpa using hs0
          have hcd := ceil_div (x := x) (s := s) hx0 (by omega)
          have HC : Hid (∀ n, CeilIs x s n → TimesIs ls t bp n 0) := fun n hn => .inr (.inr (.inr (.inr ⟨HM.out, HT.out, by rw [← HX.out]; exact hz, by rw [← HSE.out]; exact hs0, rfl, by rw [← HX.out, ← HSE.out]; exact hn⟩)))
          have hq : Int.tdiv x s = x / s := Int.tdiv_eq_ediv_of_nonneg hx0
          have hqb := Int.mul_ediv_self_le (x := x) (k := s) (by omega)
          have hq0 : 0 ≤ x / s := Int.ediv_nonneg hx0 (by omega)
          have hq1 : x / s ≤ x := Int.ediv_le_self _ hx0
          have hqp := Int.mul_nonneg hq0 hsb.1
          rw [Int.mul_comm] at hqb
          generalize x / s = d at *
          have hwm : IntKind.i64.wrap (d * s) = d * s := by rw [IntKind.wrap_i64]; omega
          by_cases hlt : d * s < x
          · have hdl : decide (d * s < x) = true := decide_eq_true hlt
            have HV : Hid (TimesIs ls t bp (d + 1) 0) := HC.out _ (hcd.1 hlt)
            clear hlt hcd hz hqb hqp HC
            go_wp2_with fail
            go_ret2
            exact ⟨_, _, rfl, HV.out, Below.refl _ _⟩
          · have hdl : decide (d * s < x) = false := decide_eq_false hlt
            have HV : Hid (TimesIs ls t bp d 0) := HC.out _ (hcd.2 hlt)
            clear hlt hcd hz hqb hqp HC
            go_wp2_with fail
            go_ret2
            exact ⟨_, _, rfl, HV.out, Below.refl _ _⟩
    · subst hse hg
      have HT : Hid (¬ TMay t bp) := ht
      clear ht HSH
      go_wp2_with fail
      go_ret2
      exact ⟨_, _, rfl, .inr (.inl ⟨HM.out, HT.out, rfl, rfl⟩), Below.refl _ _⟩
  · have hne : (f != 0) = true := by simpa using h0
    have HF : Hid (FaultIs ls f) := hf.1
    have HN : Hid (¬ Mays ls) := fun h => h0 (hf.1.ok.2 h)
    clear hf h0 HOW HSH
    go_wp2_with fail
    go_ret2
    exact ⟨_, _, rfl, .inl ⟨HN.out, HF.out, rfl⟩, Below.refl _ _⟩

end Go.Proofs.Ytodnlecccgiogaa.deb
