/- debt.Total. -/
import Derived.Test.YtlolippocnngcacKdT
import Derived.Test.YtlolippocnngcacDpC
import Derived.Test.YtlolippocnngcacDpO
namespace Go.Proofs.Ytlolippocnngcac.deb
open Go.Proofs.Ytlolippocnngcac.tar (Du du0 Came RowD Ld ErrPost TwoPost PairT GaveD)
open Go.RowKit
set_option maxRecDepth 100000
set_option linter.unusedVariables false
set_option linter.unusedSimpArgs false

set_option maxHeartbeats 2000000 in
theorem ktotal : KdTotal := by
  intro w a len cap ls hcame
  have hr := hcame.row
  have HFA : Hid (Calls Try.prog 17 #[.slice a len cap] w fun e w' => ∃ f, e = .returned (.int .i64 f) ∧ FaultIs ls f ∧ Below w.heap.size w w') := pcheck a len cap ls w hr hcame.most
  have HOW : Hid (Mays ls → ∀ W, Below w.heap.size w W → Calls Try.prog 20 #[.slice a len cap] W fun e w' => e = .returned (.int .i64 (sumD ls)) ∧ Below W.heap.size W w') := fun hm W hW => powed a len cap ls W (hr.below hW) hm
  clear hcame hr
  go_enter Try.func16, Try.ntmps16
  go_wp2_with fail
  refine HFA.out.mono ?_
  rintro e w1 ⟨f, rfl, hf, hb1⟩
  have HB1 : Hid (Below w.heap.size w w1) := hb1
  have HF : Hid (FaultIs ls f) := hf
  clear hb1 HFA
  by_cases h0 : f = 0
  · subst h0
    have hm := hf.ok.1 rfl
    have HO2 : Hid (Calls Try.prog 20 #[.slice a len cap] w1 fun e w' => e = .returned (.int .i64 (sumD ls)) ∧ Below w1.heap.size w1 w') := HOW.out hm w1 HB1.out
    clear hf hm HOW
    go_wp2_with fail
    refine HO2.out.mono ?_
    rintro e w2 ⟨rfl, hb2⟩
    have HB2 : Hid (Below w.heap.size w w2) := HB1.out.trans (hb2.mono HB1.out.size)
    clear hb2 HO2
    go_wp2_with fail
    go_ret2
    exact ⟨_, _, rfl, ⟨HF.out, .inl ⟨rfl, rfl⟩⟩, HB2.out⟩
  · have hne : (f != 0) = true := by simpa using h0
    have HN : Hid (f ≠ 0) := h0
    clear hf h0 HOW
    go_wp2_with fail
    go_ret2
    exact ⟨_, _, rfl, ⟨HF.out, .inr ⟨HN.out, rfl⟩⟩, HB1.out⟩

end Go.Proofs.Ytlolippocnngcac.deb
