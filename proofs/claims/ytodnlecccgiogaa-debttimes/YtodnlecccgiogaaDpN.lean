/- debt.Times. -/
import Derived.Test.YtodnlecccgiogaaKdN
import Derived.Test.YtodnlecccgiogaaDpS
import Derived.Test.YtodnlecccgiogaaDpO
namespace Go.Proofs.Ytodnlecccgiogaa.deb
open Go.Proofs.Ytodnlecccgiogaa.tar (Du du0 Came RowD Ld ErrPost TwoPost PairT GaveD)
open Go.RowKit
set_option maxRecDepth 100000
set_option linter.unusedVariables false
set_option linter.unusedSimpArgs false

theorem div_ceil {x s : Int} (hx : 0 ≤ x) (hs : 1 ≤ s) : CeilIs x s ((x + s - 1) / s) := by
  have h1 := Int.emod_add_mul_ediv (x + s - 1) s
  have h2 := Int.emod_nonneg (x + s - 1) (show s ≠ 0 by omega)
  have h3 := Int.emod_lt_of_pos (x + s - 1) (show 0 < s by omega)
  rw [Int.mul_comm] at h1
  refine ⟨?_, by omega⟩
  rw [Int.sub_mul]; omega
set_option maxHeartbeats 2000000 in
theorem ktimes : KdTimes := by
  intro w a len cap ls t bp hcame ht0 hb0
  have hr := hcame.row
  have HSH : Hid (Calls Try.prog 26 #[.slice a len cap, .int .i64 t, .int .i64 bp] w fun e w' => SharePost ls t bp w e w') := pshare a len cap ls t bp w hr hcame.most
  have HOW : Hid (Mays ls → ∀ W, Below w.heap.size w W → Calls Try.prog 24 #[.slice a len cap] W fun e w' => e = .returned (.int .i64 (sumD ls)) ∧ Below W.heap.size W w') := fun hm W hW => powed a len cap ls W (hr.below hW) hm
  clear hcame hr ht0 hb0
  go_enter Try.func17, Try.ntmps17
  go_wp2_with fail
  refine HSH.out.mono ?_
  rintro e w1 ⟨s, f, rfl, hf, hb1⟩
  have HB1 : Hid (Below w.heap.size w w1) := hb1
  clear hb1 HSH
  rcases hf with ⟨hm, hf, rfl⟩ | ⟨hm, ⟨ht, hse, hg⟩ | ⟨ht, rfl, rfl⟩⟩
  · have hne : (f != 0) = true := by simpa using fun h => hm (hf.ok.1 h)
    have HN : Hid (¬ Mays ls) := hm
    have HF : Hid (FaultIs ls f) := hf
    clear hf hm HOW
    go_wp2_with fail
    go_ret2
    exact ⟨_, _, rfl, .inl ⟨HN.out, HF.out, rfl⟩, HB1.out⟩
  · subst hg
    have HT : Hid (TMay t bp) := ht
    have hsb := share_bd ht
    rw [← hse] at hsb
    have HSE : Hid (s = t * bp / 10000) := hse
    have HM : Hid (Mays ls) := hm
    have hsd := sumD_pos (mem_fits hm.2)
    have hx0 := hsd.1
    have hx1 : sumD ls ≤ 8000000000 := by have := hm.1; omega
    have HO2 : Hid (Calls Try.prog 24 #[.slice a len cap] w1 fun e w' => e = .returned (.int .i64 (sumD ls)) ∧ Below w1.heap.size w1 w') := HOW.out hm w1 HB1.out
    clear ht hse hm HOW hsd
    have HX : Hid (sumD ls = sumD ls) := rfl
    generalize hxx : sumD ls = x at HO2 hx0 hx1
    have HXX : Hid (x = sumD ls) := hxx.symm
    clear hxx HX
    go_wp2_with fail
    refine HO2.out.mono ?_
    rintro e w2 ⟨rfl, hb2⟩
    have HB2 : Hid (Below w.heap.size w w2) := HB1.out.trans (hb2.mono HB1.out.size)
    clear hb2 HO2 HB1
    by_cases hz : x = 0
    · have hz1 : (x == 0) = true := by simpa using hz
      have HV : Hid (TimesIs ls t bp 0 0) := .inr (.inr (.inl ⟨HM.out, HT.out, by rw [← HXX.out]; exact hz, rfl, rfl⟩))
      clear hz
      go_wp2_with fail
      go_ret2
      exact ⟨_, _, rfl, HV.out, HB2.out⟩
    · have hz1 : (x == 0) = false := by simpa using hz
      by_cases hs0 : s = 0
      · have hs1 : (s == 0) = true := by simpa using hs0
        have HV : Hid (TimesIs ls t bp 0 4) := .inr (.inr (.inr (.inl ⟨HM.out, HT.out, by rw [← HXX.out]; exact hz, by rw [← HSE.out]; exact hs0, rfl, rfl⟩)))
        clear hz hs0
        go_wp2_with fail
        go_ret2
        exact ⟨_, _, rfl, HV.out, HB2.out⟩
      · have hs1 : (s == 0) = false := by simpa using hs0
        have HV : Hid (TimesIs ls t bp ((x + s - 1) / s) 0) := .inr (.inr (.inr (.inr ⟨HM.out, HT.out, by rw [← HXX.out]; exact hz, by rw [← HSE.out]; exact hs0, rfl, by rw [← HXX.out, ← HSE.out]; exact div_ceil hx0 (by omega)⟩)))
        have hq : Int.tdiv (x + s - 1) s = (x + s - 1) / s := Int.tdiv_eq_ediv_of_nonneg (by omega)
        have hq0 : 0 ≤ (x + s - 1) / s := Int.ediv_nonneg (by omega) (by omega)
        have hq1 : (x + s - 1) / s ≤ x + s - 1 := Int.ediv_le_self _ (by omega)
        generalize (x + s - 1) / s = d at *
        clear hz
        go_wp2_with fail
        go_ret2
        exact ⟨_, _, rfl, HV.out, HB2.out⟩
  · have HM : Hid (Mays ls) := hm
    have HT : Hid (¬ TMay t bp) := ht
    clear ht hm HOW
    go_wp2_with fail
    go_ret2
    exact ⟨_, _, rfl, .inr (.inl ⟨HM.out, HT.out, rfl, rfl⟩), HB1.out⟩

end Go.Proofs.Ytodnlecccgiogaa.deb
