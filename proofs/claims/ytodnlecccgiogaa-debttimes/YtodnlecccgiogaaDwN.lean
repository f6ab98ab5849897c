/- The statement DebtTimes. -/
import Derived.Test.YtodnlecccgiogaaKdN
import Derived.Test.YtodnlecccgiogaaDbT
import Derived.Test.YtodnlecccgiogaaDbS
namespace Go.Proofs.Ytodnlecccgiogaa.deb
open Go.Proofs.Ytodnlecccgiogaa.tar (Du du0 Came RowD Ld TwoPost GaveD)
open Go.RowKit
set_option maxRecDepth 100000
set_option linter.unusedVariables false
set_option linter.unusedSimpArgs false

set_option maxHeartbeats 2000000 in
theorem DebtTimes_walk (K : KdTimes) (a : Option Addr) (len cap : Nat) (ls : List Du) (t bp : Int) (w : World) (h : Came w a len cap ls) (ht : (Lit.int .i64 t).wf = true) (hbp : (Lit.int .i64 bp).wf = true) : Calls Try.prog 6 #[.slice a len cap, .int .i64 t, .int .i64 bp] w fun e w' => e = .returned (.bool true) ∧ Below w.heap.size w w' := by
  have hlen : ls.length = len := h.row.1
  have HST : Hid (Calls Try.prog 9 #[.slice a len cap] w fun e w' => GaveD 43 w ls e w') := debts_any a len cap ls w h
  have H1 : Hid (∀ W a' cap', Came W a' len cap' ls → Calls Try.prog 17 #[.slice a' len cap', .int .i64 t, .int .i64 bp] W fun e w' => TwoPost W (TimesIs ls t bp) e w') := fun W a' cap' hc => K W a' len cap' ls t bp hc ht hbp
  have H2 : Hid (∀ W, Below w.heap.size w W → Calls Try.prog 18 #[.slice a len cap, .int .i64 t, .int .i64 bp] W fun e w' => TwoPost W (TimesIs ls t bp) e w') := fun W hb => rtimes a len cap ls t bp W (h.below hb).row h.most
  have HSA : Hid (∀ W a' cap', RowD W a' len ls → Below w.heap.size w W → Calls Try.prog 12 #[.slice a' len cap', .slice a len cap] W fun e w' => e = .returned (.bool true) ∧ Below W.heap.size W w') := fun W a' cap' hr hb => same_debts a' a len cap' cap ls W hr (h.below hb).row h.most
  have HCM : Hid (∀ W v, Ld 43 W w.heap.size v ls → ∃ a' cap', v = .slice a' len cap' ∧ Came W a' len cap' ls) := fun W v hv => by
    have := hv.came (by rw [hlen]; exact h.bytes) h.wf
    rwa [hlen] at this
  clear h K hlen
  go_enter Try.func6, Try.ntmps6
  go_wp2_with fail
  refine HST.out.mono ?_
  rintro e w1 ⟨v1, rfl, hv1, hb1⟩
  obtain ⟨a1, cap1, rfl, hc1⟩ := HCM.out _ _ hv1
  have HC1 : Hid (Came w1 a1 len cap1 ls) := hc1
  have B1 : Hid (Below w.heap.size w w1) := hb1
  clear hv1 hc1 hb1 HST HCM
  go_wp2_with fail
  refine (H1.out _ _ _ HC1.out).mono ?_
  rintro e w2 ⟨p1, f1, rfl, hi1, hb2⟩
  have B2 : Hid (Below w.heap.size w w2) := B1.out.trans (hb2.mono B1.out.size)
  have HC2 : Hid (Came w2 a1 len cap1 ls) := HC1.out.below hb2
  have HI : Hid (TimesIs ls t bp p1 f1) := hi1
  clear hi1
  clear hb2 H1 HC1
  go_wp2_with fail
  refine (H2.out _ B2.out).mono ?_
  rintro e w3 ⟨p2, f2, rfl, hi2, hb3⟩
  have B3 : Hid (Below w.heap.size w w3) := B2.out.trans (hb3.mono B2.out.size)
  have HR3 : Hid (RowD w3 a1 len ls) := (HC2.out.below hb3).row
  obtain ⟨rfl, rfl⟩ := HI.out.one hi2
  clear hi2 HI
  clear hb3 H2 HC2
  have e_p1 : (p1 == p1) = true := by simp
  have e_f1 : (f1 == f1) = true := by simp
  go_wp2_with fail
  go_ret
  exact ⟨rfl, B3.out⟩

end Go.Proofs.Ytodnlecccgiogaa.deb
