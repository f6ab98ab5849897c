/- The share of what is handed over, in the program. -/
import Derived.Test.YtodnlecccgiogaaDpC
import Derived.Test.YtodnlecccgiogaaPart
namespace Go.Proofs.Ytodnlecccgiogaa.deb
open Go.Proofs.Ytodnlecccgiogaa.tar (Du du0 Came RowD Ld ErrPost TwoPost PairT GaveD)
open Go.RowKit
set_option maxRecDepth 100000
set_option linter.unusedVariables false
set_option linter.unusedSimpArgs false

/-- What shareFor gives back. -/
def SharePost (ls : List Du) (t bp : Int) (w : World) (e : Ending) (w' : World) : Prop := ∃ s f, e = .returned (.tuple #[.int .i64 s, .int .i64 f]) ∧ ((¬ Mays ls ∧ FaultIs ls f ∧ s = 0) ∨ (Mays ls ∧ ShareIs t bp s f)) ∧ Below w.heap.size w w'
set_option maxHeartbeats 2000000 in
theorem pshare (a : Option Addr) (len cap : Nat) (ls : List Du) (t bp : Int) (w : World) (hr : RowD w a len ls) (hl : len ≤ maxLen) : Calls Try.prog 26 #[.slice a len cap, .int .i64 t, .int .i64 bp] w fun e w' => SharePost ls t bp w e w' := by
  have HFA : Hid (Calls Try.prog 23 #[.slice a len cap] w fun e w' => ∃ f, e = .returned (.int .i64 f) ∧ FaultIs ls f ∧ Below w.heap.size w w') := pcheck a len cap ls w hr hl
  have HIT : Hid (∀ W, Calls Try.prog 28 #[.int .i64 0, .int .i64 100000000, .int .i64 t] W fun e w' => e = .returned (.bool (decide (0 ≤ t ∧ t ≤ 100000000))) ∧ w' = W) := fun W => dwithin 0 100000000 t W
  clear hr hl
  go_enter Try.func26, Try.ntmps26
  go_wp2_with fail
  refine HFA.out.mono ?_
  rintro e w1 ⟨f, rfl, hf, hb1⟩
  have HB1 : Hid (Below w.heap.size w w1) := hb1
  have HF : Hid (FaultIs ls f) := hf
  clear hb1 HFA
  by_cases h0 : f = 0
  · subst h0
    have HM : Hid (Mays ls) := hf.ok.1 rfl
    clear hf HF
    by_cases ht : 0 ≤ t ∧ t ≤ 100000000
    · rw [decide_eq_true ht] at HIT
      by_cases hb : 0 ≤ bp ∧ bp ≤ 10000
      · have HPA : Hid (∀ W, Calls Try.prog 21 #[.int .i64 t, .int .i64 bp] W fun e w' => e = .returned (.tuple #[.int .i64 (t * bp / 10000), .int .i64 0]) ∧ Below W.heap.size W w') := fun W => cents.part_yes t bp W ht.1 (by omega) hb.1 hb.2
        have HT : Hid (TMay t bp) := ⟨ht, hb⟩
        clear ht hb
        go_wp2_with fail
        refine (HIT.out _).mono ?_
        rintro e w2 ⟨rfl, hw2⟩
        subst hw2
        go_wp2_with fail
        refine (HPA.out _).mono ?_
        rintro e w3 ⟨rfl, hb3⟩
        have HB3 : Hid (Below w.heap.size w w3) := HB1.out.trans (hb3.mono HB1.out.size)
        clear hb3
        go_wp2_with fail
        go_ret2
        exact ⟨_, _, rfl, .inr ⟨HM.out, .inl ⟨HT.out, rfl, rfl⟩⟩, HB3.out⟩
      · have HPA : Hid (∀ W, Calls Try.prog 21 #[.int .i64 t, .int .i64 bp] W fun e w' => e = .returned (.tuple #[.int .i64 0, .int .i64 2]) ∧ Below W.heap.size W w') := fun W => cents.part_no t bp W (.inr (by omega))
        have HT : Hid (¬ TMay t bp) := fun h => hb h.2
        clear ht hb
        go_wp2_with fail
        refine (HIT.out _).mono ?_
        rintro e w2 ⟨rfl, hw2⟩
        subst hw2
        go_wp2_with fail
        refine (HPA.out _).mono ?_
        rintro e w3 ⟨rfl, hb3⟩
        have HB3 : Hid (Below w.heap.size w w3) := HB1.out.trans (hb3.mono HB1.out.size)
        clear hb3
        go_wp2_with fail
        go_ret2
        exact ⟨_, _, rfl, .inr ⟨HM.out, .inr ⟨HT.out, rfl, rfl⟩⟩, HB3.out⟩
    · rw [decide_eq_false ht] at HIT
      have HT : Hid (¬ TMay t bp) := fun h => ht h.1
      clear ht
      go_wp2_with fail
      refine (HIT.out _).mono ?_
      rintro e w2 ⟨rfl, hw2⟩
      subst hw2
      go_wp2_with fail
      go_ret2
      exact ⟨_, _, rfl, .inr ⟨HM.out, .inr ⟨HT.out, rfl, rfl⟩⟩, HB1.out⟩
  · have hne : (f != 0) = true := by simpa using h0
    have HN : Hid (¬ Mays ls) := fun h => h0 (hf.ok.2 h)
    clear hf h0 HIT
    go_wp2_with fail
    go_ret2
    exact ⟨_, _, rfl, .inl ⟨HN.out, HF.out, rfl⟩, HB1.out⟩

end Go.Proofs.Ytodnlecccgiogaa.deb
