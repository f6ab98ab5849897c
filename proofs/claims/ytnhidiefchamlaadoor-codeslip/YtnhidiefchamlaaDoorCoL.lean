/- The statement CodeSlip. -/
import Derived.Test.YtnhidiefchamlaaDoorKoC
import Derived.Test.YtnhidiefchamlaaDoorKoR
import Derived.Test.YtnhidiefchamlaaDoorMtNew
import Derived.Test.YtnhidiefchamlaaDoorCkSlip
import Derived.Test.YtnhidiefchamlaaDoorLet
import Derived.Test.YtnhidiefchamlaaDoorLetG
import Derived.Test.YtnhidiefchamlaaDoorProg
import Derived.WalkKit
import Derived.Deep.DeepCutAuto
namespace Go.Proofs.YtnhidiefchamlaaDoor.cod
open Go.Proofs.YtnhidiefchamlaaDoor.met (Mt)
open Go.RowKit
set_option maxRecDepth 100000
set_option linter.unusedVariables false
set_option linter.unusedSimpArgs false

set_option maxHeartbeats 4000000 in
theorem slip_abs (x y z u at0 by0 far : Int) (m : Mt) (d : Nat) (w : World) (K : KoCode w) (KR : KoRead w) (hm : m.may) (hb : m.b < 18446744073709551616) (hd : d ≤ 2) (wa : (Lit.int .i64 at0).wf = true) (wb : (Lit.int .i64 by0).wf = true)
    (hN : ∀ W, Calls Tryd.prog 11 #[.agg #[.int .i64 x, .int .i64 y, .int .i64 z, .int .i64 u]] W fun e w' => e = .returned m.v ∧ Below W.heap.size W w')
    (hP : ∀ W, Calls Tryd.prog 12 #[.int .i64 far, .int .i64 3] W fun e w' => e = .returned (.int .i64 (d : Int)) ∧ w' = W) :
    Calls Tryd.prog 6 #[.agg #[.int .i64 x, .int .i64 y, .int .i64 z, .int .i64 u], .int .i64 at0, .int .i64 by0, .int .i64 far] w fun e w' => e = .returned (.bool true) ∧ Below w.heap.size w w' := by
  obtain ⟨cl, cd, _⟩ := code_facts (num_lt hm).1
  have HN : Hid (∀ W, Calls Tryd.prog 11 #[.agg #[.int .i64 x, .int .i64 y, .int .i64 z, .int .i64 u]] W fun e w' => e = .returned m.v ∧ Below W.heap.size W w') := hN
  have HP : Hid (∀ W, Calls Tryd.prog 12 #[.int .i64 far, .int .i64 3] W fun e w' => e = .returned (.int .i64 (d : Int)) ∧ w' = W) := hP
  obtain ⟨S, hS⟩ : ∃ S : ByteArray, (⟨(codeL (num m)).toArray⟩ : ByteArray) = S := ⟨_, rfl⟩
  have hSl : S.data.toList = codeL (num m) := by rw [← hS]
  have hSz : S.size = 18 := by rw [← hS]; exact cl
  have HSL : Hid (S.data.toList = codeL (num m)) := hSl
  have HMM : Hid (m.may) := hm
  have HC : Hid (∀ (W : World), Below w.heap.size w W → Calls Tryd.prog 7 #[m.v] W fun e w' => e = .returned (.tuple #[.string S, .int .i64 0]) ∧ Below W.heap.size W w') := fun W hW => (K W m hW hb).mono fun e w' hx => by
    obtain ⟨l, f, rfl, hi, hb⟩ := hx
    rcases hi with ⟨_, rfl, rfl⟩ | ⟨hn, _⟩
    · exact ⟨by rw [hS], hb⟩
    · exact absurd hm hn
  have HR : Hid (∀ (W : World) (T : ByteArray), Below w.heap.size w W → Calls Tryd.prog 9 #[.string T] W fun e w' => UncPost W T.data.toList e w') := fun W T hW => KR W T hW
  have HSI : Hid (∀ W, Calls Tryd.prog 13 #[.string S, .int .i64 at0, .int .i64 by0] W fun e w' => check.SlipPost W S e w') := fun W => check.slipped_any S at0 by0 W (by omega) (by omega) (by rw [hSl]; exact cd) wa wb
  have HSW : Hid (1 ≤ d → ∀ W, Calls Tryd.prog 14 #[.string S, .int .i64 at0, .int .i64 (d : Int)] W fun e w' => check.SwapPost W S d e w') := fun h1 W => check.swapped_any S at0 d W (by omega) (by omega) h1 wa
  have HX0 : Hid (Blk (w.alloc (.cells #[.int .i64 x, .int .i64 y, .int .i64 z, .int .i64 u] 37)) w.heap.size #[.int .i64 x, .int .i64 y, .int .i64 z, .int .i64 u] 37) := Blk.new _ _ _
  have HB0 : Hid (Below w.heap.size w (w.alloc (.cells #[.int .i64 x, .int .i64 y, .int .i64 z, .int .i64 u] 37))) := (Below.refl _ _).alloc (Nat.le_refl _) _
  have hls : ((S.size : Int) != 18) = false := by rw [hSz]; rfl
  have HEQ : Hid (∀ T : ByteArray, (T.toList == S.toList) = decide (T.data.toList = codeL (num m))) := fun T => by
    rw [ByteArray.toList_eq, ByteArray.toList_eq, hSl]
    by_cases h : T.data.toList = codeL (num m)
    · rw [h, decide_eq_true rfl]; simp
    · rw [decide_eq_false h, beq_eq_false_iff_ne.2 h]
  clear hN hP K KR hm hb cl cd hS hSl wa wb
  unfold met.Mt.v met.Mt.cells at *
  go_enter Tryd.func6, Tryd.ntmps6
  go_upto_region 1 with fail
  generalize w.alloc (.cells #[.int .i64 x, .int .i64 y, .int .i64 z, .int .i64 u] 37) = W0 at *
  go_wp2_with (first | (refine wp_whole rfl 37 _ rfl (w.heap.size) rfl 37 #[.int .i64 x, .int .i64 y, .int .i64 z, .int .i64 u] _ HX0.out Tryd.underlying37 rfl (by kernel_rfl) ?_) | fail)
  refine (HN.out _).mono ?_
  rintro e W1 ⟨rfl, hb⟩
  have HB1 : Hid (Below w.heap.size w W1) := bel_step HB0.out hb
  clear hb HX0 HB0 HN
  go_wp2_with fail
  refine (HC.out _ HB1.out).mono ?_
  rintro e W2 ⟨rfl, hb⟩
  have HB2 : Hid (Below w.heap.size w W2) := bel_step HB1.out hb
  clear hb HC HB1
  go_wp2_with fail
  refine (HSI.out _).mono ?_
  rintro e W3 ⟨T, A, B, c, c', rfl, hs, ht, hc', hne, hb⟩
  have HB3 : Hid (Below w.heap.size w W3) := bel_step HB2.out hb
  have HI3 : Hid (UncIs T.data.toList sh0 8) := slip_unc HMM.out (HSL.out.symm.trans hs) ht hc' hne
  have HT3 : Hid (T.data.toList ≠ codeL (num m)) := by
    rw [← HSL.out, hs, ht]
    intro e
    exact hne (by have := List.append_cancel_left e; injection this with h _; exact h.symm)
  clear hb HSI HB2 hs ht hc' hne
  go_wp2_with fail
  refine (HP.out _).mono ?_
  rintro e wz ⟨rfl, hwz⟩
  subst wz
  clear HP
  by_cases h0 : d = 0
  · subst h0
    have he : (T.toList == S.toList) = false := by rw [HEQ.out, decide_eq_false HT3.out]
    clear HSW HEQ HT3
    go_wp2_with fail
    refine (HR.out _ T HB3.out).mono ?_
    rintro e W4 ⟨v, f, rfl, hi, hb⟩
    obtain ⟨rfl, rfl⟩ := hi.one HI3.out
    unfold Sh.v Sh.cs
    have HB4 : Hid (∀ o, Below w.heap.size w (W4.alloc o)) := fun o => (bel_step HB3.out hb).alloc (bel_step HB3.out hb).size o
    clear hi hb HR HI3 HB3
    go_wp2_with fail
    go_ret
    exact ⟨rfl, HB4.out _⟩
  · have h1 : 1 ≤ d := by omega
    have hdd : (0 : Int) < (d : Int) := by omega
    have HSWW := HSW.out h1 W3
    have HD : Hid (d ≤ 2) := hd
    clear HSW h0 h1 HI3 HT3 hd
    go_wp2_with fail
    refine HSWW.mono ?_
    rintro e W4 ⟨T2, A2, x2, B2, d1, d2, rfl, hs, ht, hl, hb⟩
    have HB4 : Hid (Below w.heap.size w W4) := bel_step HB3.out hb
    by_cases heq : T2.data.toList = codeL (num m)
    · have he : (T2.toList == S.toList) = true := by rw [HEQ.out, decide_eq_true heq]
      have HI4 : Hid (UncIs T2.data.toList ⟨m.me, m.cr, m.h⟩ 0) := by show UncIs _ _ _; rw [heq]; exact unc_code HMM.out
      clear HEQ hs ht hl hb HB3 HSWW heq
      go_wp2_with fail
      refine (HR.out _ T2 HB4.out).mono ?_
      rintro e W5 ⟨v, f, rfl, hi, hb⟩
      obtain ⟨rfl, rfl⟩ := hi.one HI4.out
      unfold Sh.v Sh.cs
      have HB5 : Hid (∀ o, Below w.heap.size w (W5.alloc o)) := fun o => (bel_step HB4.out hb).alloc (bel_step HB4.out hb).size o
      clear hi hb HR HI4 HB4
      go_wp2_with fail
      go_ret
      exact ⟨rfl, HB5.out _⟩
    · have he : (T2.toList == S.toList) = false := by rw [HEQ.out, decide_eq_false heq]
      have HI4 : Hid (UncIs T2.data.toList sh0 8) := swap_unc HMM.out (HSL.out.symm.trans hs) ht (by have := HD.out; omega) heq
      clear HEQ hs ht hl hb HB3 HSWW heq
      go_wp2_with fail
      refine (HR.out _ T2 HB4.out).mono ?_
      rintro e W5 ⟨v, f, rfl, hi, hb⟩
      obtain ⟨rfl, rfl⟩ := hi.one HI4.out
      unfold Sh.v Sh.cs
      have HB5 : Hid (∀ o, Below w.heap.size w (W5.alloc o)) := fun o => (bel_step HB4.out hb).alloc (bel_step HB4.out hb).size o
      clear hi hb HR HI4 HB4
      go_wp2_with fail
      go_ret
      exact ⟨rfl, HB5.out _⟩
theorem CodeSlip_walk (x y z u at0 by0 far : Int) (w : World) (K : KoCode w) (KR : KoRead w) (hw : met.wf4i x y z u) (wa : (Lit.int .i64 at0).wf = true) (wb : (Lit.int .i64 by0).wf = true) (wf : (Lit.int .i64 far).wf = true) :
    Calls Tryd.prog 6 #[.agg #[.int .i64 x, .int .i64 y, .int .i64 z, .int .i64 u], .int .i64 at0, .int .i64 by0, .int .i64 far] w fun e w' => e = .returned (.bool true) ∧ Below w.heap.size w w' := by
  have hp : (check.pick far 3).toNat < 3 := check.pick_toNat far 3 (by decide)
  exact slip_abs x y z u at0 by0 far (met.newM x y z u) (check.pick far 3).toNat w K KR (met.newM_may x y z u) (show (0 : Nat) < 18446744073709551616 by decide) (by omega) wa wb (fun W => met.newMeter_any x y z u W hw) (fun W => check.picked_nat far 3 W wf (by decide) (by decide))

end Go.Proofs.YtnhidiefchamlaaDoor.cod
