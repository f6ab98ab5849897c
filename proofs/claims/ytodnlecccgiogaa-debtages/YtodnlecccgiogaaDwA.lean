/- The statement DebtAges. -/
import Derived.Test.YtodnlecccgiogaaKdA
import Derived.Test.YtodnlecccgiogaaDbA
import Derived.Test.YtodnlecccgiogaaDbS
namespace Go.Proofs.Ytodnlecccgiogaa.deb
open Go.Proofs.Ytodnlecccgiogaa.tar (Du du0 Came RowD Ld TwoPost GaveD)
open Go.RowKit
set_option maxRecDepth 100000
set_option linter.unusedVariables false
set_option linter.unusedSimpArgs false

set_option maxHeartbeats 2000000 in
theorem DebtAges_walk (K : KdAge) (a : Option Addr) (len cap : Nat) (ls : List Du) (m : Int) (w : World) (h : Came w a len cap ls) (hm : (Lit.int .i64 m).wf = true) : Calls Try.prog 5 #[.slice a len cap, .int .i64 m] w fun e w' => e = .returned (.bool true) ∧ Below w.heap.size w w' := by
  have hlen : ls.length = len := h.row.1
  have HST : Hid (Calls Try.prog 9 #[.slice a len cap] w fun e w' => GaveD 43 w ls e w') := debts_any a len cap ls w h
  have H1 : Hid (∀ W a' cap', Came W a' len cap' ls → Calls Try.prog 15 #[.slice a' len cap', .int .i64 m] W fun e w' => AgePost W ls m e w') := fun W a' cap' hc => K W a' len cap' ls m hc hm
  have H2 : Hid (∀ W, Below w.heap.size w W → Calls Try.prog 16 #[.slice a len cap, .int .i64 m] W fun e w' => AgePost W ls m e w') := fun W hb => rages a len cap ls m W (h.below hb).row h.most
  have HSA : Hid (∀ W a' cap', RowD W a' len ls → Below w.heap.size w W → Calls Try.prog 12 #[.slice a' len cap', .slice a len cap] W fun e w' => e = .returned (.bool true) ∧ Below W.heap.size W w') := fun W a' cap' hr hb => same_debts a' a len cap' cap ls W hr (h.below hb).row h.most
  have HCM : Hid (∀ W v, Ld 43 W w.heap.size v ls → ∃ a' cap', v = .slice a' len cap' ∧ Came W a' len cap' ls) := fun W v hv => by
    have := hv.came (by rw [hlen]; exact h.bytes) h.wf
    rwa [hlen] at this
  clear h K hlen
  go_enter Try.func5, Try.ntmps5
  go_wp2_with fail
  refine HST.out.mono ?_
  rintro e w1 ⟨v1, rfl, hv1, hb1⟩
  obtain ⟨a1, cap1, rfl, hc1⟩ := HCM.out _ _ hv1
  have HC1 : Hid (Came w1 a1 len cap1 ls) := hc1
  have B1 : Hid (Below w.heap.size w w1) := hb1
  clear hv1 hc1 hb1 HST HCM
  go_wp2_with fail
  refine (H1.out _ _ _ HC1.out).mono ?_
  rintro e w2 ⟨L1, n1, C1, z1, f1, rfl, hi1, hL1, hb2⟩
  have B2 : Hid (Below w.heap.size w w2) := B1.out.trans (hb2.mono B1.out.size)
  have HC2 : Hid (Came w2 a1 len cap1 ls) := HC1.out.below hb2
  have HI : Hid (AgeIs ls m z1 f1) := hi1
  have HL1a : Hid (Came w2 L1 n1 C1 z1) := hL1.came
  clear hi1 hL1
  clear hb2 H1 HC1
  go_wp2_with fail
  refine (H2.out _ B2.out).mono ?_
  rintro e w3 ⟨L2, n2, C2, z2, f2, rfl, hi2, hL2, hb3⟩
  have B3 : Hid (Below w.heap.size w w3) := B2.out.trans (hb3.mono B2.out.size)
  have HR3 : Hid (RowD w3 a1 len ls) := (HC2.out.below hb3).row
  obtain ⟨rfl, rfl⟩ := HI.out.one hi2
  have HL1 : Hid (Came w3 L1 n1 C1 z1) := HL1a.out.below hb3
  have HL2 : Hid (Came w3 L2 n2 C2 z1) := hL2.came
  obtain rfl : n1 = n2 := by rw [← HL1.out.row.1, ← HL2.out.row.1]
  clear hi2 HI hL2 HL1a
  clear hb3 H2 HC2
  have e_f1 : (f1 == f1) = true := by simp
  go_wp2_with fail
  refine (same_debts L1 L2 n1 C1 C2 z1 w3 HL1.out.row HL2.out.row HL1.out.most).mono ?_
  rintro e w4 ⟨rfl, hb4⟩
  have B4 : Hid (Below w.heap.size w w4) := B3.out.trans (hb4.mono B3.out.size)
  have HR4 : Hid (RowD w4 a1 len ls) := HR3.out.below hb4
  clear hb4
  go_wp2_with fail
  refine (HSA.out _ _ _ HR4.out B4.out).mono ?_
  rintro e w5 ⟨rfl, hb5⟩
  have B5 : Hid (Below w.heap.size w w5) := B4.out.trans (hb5.mono B4.out.size)
  clear hb5
  go_wp2_with fail
  go_ret
  exact ⟨rfl, B5.out⟩

end Go.Proofs.Ytodnlecccgiogaa.deb
