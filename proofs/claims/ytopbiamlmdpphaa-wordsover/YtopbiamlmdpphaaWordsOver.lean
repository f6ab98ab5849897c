/- words.Over answers what the document says at every wide number and word: the call returns true whatever it is given. -/
import Derived.Test.YtopbiamlmdpphaaBigDivided
import Derived.Test.YtopbiamlmdpphaaOver
import Derived.Test.YtopbiamlmdpphaaEq3
import Derived.Test.YtopbiamlmdpphaaRows
import Derived.WalkKit
import Derived.ProofKit
import Derived.OpenShut
import Derived.Below
import Derived.ShutString
namespace Go.Proofs.Ytopbiamlmdpphaa.wordsOver
open Go.ChangeShapes Go.WideShapes Go.ChangeAt Go.RowKit
open Go.ChangeMaps (open_string shut_string)
set_option linter.unusedVariables false

theorem own : ownKnob Try.prog.godebug = none := by kernel_rfl

theorem walk (x0 y0 z0 : Int) (a1 : Int) (w0 : (Lit.int .u32 x0).wf = true ∧ (Lit.int .u32 y0).wf = true ∧ (Lit.int .u32 z0).wf = true) (w1 : (Lit.int .u32 a1).wf = true) (w : World) :
    Calls Try.prog 5 #[.agg #[.int .u32 x0, .int .u32 y0, .int .u32 z0], .int .u32 a1] w fun e w' => e = .returned (.bool true) ∧ Below w.heap.size w w' := by
  have hx := words.ok_wf w0
  have ha1 := words.u32_bd w1
  obtain ⟨⟨xa, xa'⟩, ⟨xb, xb'⟩, xc, xc'⟩ := words.ok_wf w0
  simp only at xa xa' xb xb' xc xc'
  obtain ⟨a, rfl⟩ := Int.eq_ofNat_of_zero_le xa
  obtain ⟨b, rfl⟩ := Int.eq_ofNat_of_zero_le xb
  obtain ⟨c, rfl⟩ := Int.eq_ofNat_of_zero_le xc
  obtain ⟨x, rfl⟩ := Int.eq_ofNat_of_zero_le ha1.1
  obtain ⟨Y, t, n, HM0, HC0⟩ : ∃ (Y : words.W3) (t n : Int), (∀ w, Calls Try.prog 13 #[.agg #[.int .u32 (a : Int), .int .u32 (b : Int), .int .u32 (c : Int)], .int .u32 (x : Int)] w fun e w' => words.OverPost w Y t n e w') ∧ (∀ w, Calls Try.prog 14 #[.agg #[.int .u32 (a : Int), .int .u32 (b : Int), .int .u32 (c : Int)], .int .u32 (x : Int)] w fun e w' => words.OverPost w Y t n e w') := by
    by_cases h0 : x = 0
    · subst h0
      have z : ((0 : Nat) : Int) = 0 := rfl
      rw [z]
      exact ⟨⟨0, 0, 0⟩, 0, 4, fun w => (words.over_zero ⟨a, b, c⟩ w).mono fun e w' h => h, fun w => words.divided_zero a b c w⟩
    · obtain ⟨k1, k2⟩ := words.over_nat (a := a) (b := b) (c := c) (d := x) (by omega)
      refine ⟨words.overW ⟨a, b, c⟩ x, words.overR ⟨a, b, c⟩ x, 0, fun w => (words.over_any ⟨a, b, c⟩ x w hx (by omega) ha1.2).mono fun e w' h => h, fun w => ?_⟩
      rw [← k2]
      exact words.divided_any a b c x _ _ w (by omega) (by omega) (by omega) (by omega) (by omega) (words.over_ok hx (by omega)) k1 rfl
  have HM : Hid (∀ w, Calls Try.prog 13 #[.agg #[.int .u32 (a : Int), .int .u32 (b : Int), .int .u32 (c : Int)], .int .u32 (x : Int)] w fun e w' => words.OverPost w Y t n e w') := HM0
  have HC : Hid (∀ w, Calls Try.prog 14 #[.agg #[.int .u32 (a : Int), .int .u32 (b : Int), .int .u32 (c : Int)], .int .u32 (x : Int)] w fun e w' => words.OverPost w Y t n e w') := HC0
  clear w0 w1 hx ha1 xa xb xc xa' xb' xc' HM0 HC0
  have HT0 : Hid (words.Trio (w.alloc (.cells #[.int .u32 (a : Int), .int .u32 (b : Int), .int .u32 (c : Int)] 24)) w.heap.size (.int .u32 (a : Int)) (.int .u32 (b : Int)) (.int .u32 (c : Int))) := words.trio_new _ _ _ _
  have HB0 : Hid (Below w.heap.size w (w.alloc (.cells #[.int .u32 (a : Int), .int .u32 (b : Int), .int .u32 (c : Int)] 24))) := (Below.refl _ w).alloc (Nat.le_refl _) _
  have c0 := HT0.out.c0
  have c1 := HT0.out.c1
  have c2 := HT0.out.c2
  go_enter Try.func5, Try.ntmps5
  go_wp2_with fail
  refine (HM.out _).mono ?_
  rintro e w1 ⟨rfl, hb1⟩
  have T0 := (HT0.out.below hb1).alloc (.cells #[.int .u32 Y.a, .int .u32 Y.b, .int .u32 Y.c] 24)
  have B1 := HB0.out.trans (hb1.mono HB0.out.size)
  have HB1 : Hid (Below w.heap.size w (w1.alloc (.cells #[.int .u32 Y.a, .int .u32 Y.b, .int .u32 Y.c] 24))) := B1.alloc B1.size _
  have HX : Hid (words.Trio (w1.alloc (.cells #[.int .u32 Y.a, .int .u32 Y.b, .int .u32 Y.c] 24)) w1.heap.size (.int .u32 Y.a) (.int .u32 Y.b) (.int .u32 Y.c)) := words.trio_new _ _ _ _
  clear c0 c1 c2 hb1 B1 HT0 HB0 HM
  have c0 := T0.c0
  have c1 := T0.c1
  have c2 := T0.c2
  clear T0
  go_wp2_with fail
  refine (HC.out _).mono ?_
  rintro e w2 ⟨rfl, hb2⟩
  have TX := (HX.out.below hb2).alloc (.cells #[.int .u32 Y.a, .int .u32 Y.b, .int .u32 Y.c] 24)
  have B2 := HB1.out.trans (hb2.mono HB1.out.size)
  have HB2 : Hid (Below w.heap.size w (w2.alloc (.cells #[.int .u32 Y.a, .int .u32 Y.b, .int .u32 Y.c] 24))) := B2.alloc B2.size _
  clear c0 c1 c2 hb2 HB1 HX B2 HC
  have d0 := TX.c0
  have d1 := TX.c1
  have d2 := TX.c2
  clear TX
  have q1 : ∀ wx, (Op.equalIn 10000 24 (.agg #[.int .u32 Y.a, .int .u32 Y.b, .int .u32 Y.c]) (.agg #[.int .u32 Y.a, .int .u32 Y.b, .int .u32 Y.c])).run Try.prog wx = .ok true wx := fun wx => words.eq3_same Y wx
  have q2 : (t == t) = true := by simp
  have q3 : (n == n) = true := by simp
  go_wp2_with fail
  go_ret
  exact ⟨rfl, HB2.out⟩

set_option maxRecDepth 100000 in
theorem lifted (os : Os) (started : os.Started) (H : Type) (enc : TypeId × Value → H) :
    ReturnsInHanded {} Try.checked os 5 .any (Rows.wordsOverSpec.pre6 enc Try.prog Try.f5 Rows.wordsOverRow.domain false) (Rows.wordsOverSpec.post enc Try.prog Try.f5 false true false false) := by
  refine returnsInHanded_of_change (C := Try.checked) own started (by kernel_rfl) Try.func5
    (ChangeSpec.witness6 (enc := enc) (C := Try.checked) false ⟨#[], #[.agg #[.int .u32 0, .int .u32 0, .int .u32 0], .int .u32 0], []⟩ 8 (by kernel_rfl) (by kernel_rfl) (by kernel_rfl) (by kernel_rfl)) ?_
  intro W base args ds gs before hval0 hW hcnd _
  have hval : ∀ (j : Nat) t v, Try.f5.params[j]? = some t → args[j]? = some v → Value.okWide Try.prog W .any base t v := hval0
  have hW' := hW
  obtain ⟨p, q, hA0, hV, rfl, hfz, hnd⟩ := hW
  have hA : DataW.TrodAll enc Try.prog W 0 (fun _ => true) true Try.f5.params.toList args.toList ds p := hA0
  rw [Try.params5] at hA hval
  obtain ⟨v0, vs0, d0, ds0, p0, q0, hargs, rfl, rfl, h0, r0⟩ := trodAll_cons hA
  obtain ⟨v1, vs1, d1, ds1, p1, q1, rfl, rfl, rfl, h1, r1⟩ := trodAll_cons r0
  obtain ⟨rfl, rfl, rfl⟩ := trodAll_nil r1
  obtain rfl : args = #[v0, v1] := by cases args; simp_all
  obtain ⟨rfl, rfl⟩ := trodVars_none hV
  obtain ⟨x0, y0, z0, rfl, rfl, rfl, w0⟩ := words.open_wide (hval 0 24 v0 rfl rfl) h0
  obtain ⟨a1, rfl, rfl, rfl, w1⟩ := open_int Try.underlying22 (hval 1 22 v1 rfl rfl) h1
  clear hA0 hval0
  simp only [List.append_nil] at hW'
  refine (walk x0 y0 z0 a1 w0 w1 W).mono fun e W' ⟨he, hg⟩ => ?_
  subst he
  exact ⟨_, rfl, _, _, _, [], [], [], hW', (trodAll_cons_mk (shut_bool Try.underlying4 _) trodAll_mk0), (trodAll_cons_mk (words.shut_wide w0) (trodAll_cons_mk (shut_int Try.underlying22 w1) trodAll_mk0)), rfl, hg.frame _, fun h => by cases h⟩

theorem over : Rows.wordsOverRow.holds Try.pinned (OpenSpec.ofChange Rows.wordsOverSpec) :=
  OpenClaim.holds_of_wide 5 Try.f5 rfl rfl rfl rfl rfl rfl rfl ⟨rfl, rfl, rfl, rfl, rfl⟩ rfl rfl rfl rfl rfl (by kernel_rfl) Try.func5 (by kernel_rfl)
    (of_decide_eq_true (by kernel_rfl)) (by unfold Func.isWrapper; first | (rw [if_pos (by decide +kernel)]; kernel_rfl) | (rw [if_neg (by decide +kernel)]; exact ⟨rfl, rfl⟩))
    (fun os started H enc _ => lifted os started H enc)

end Go.Proofs.Ytopbiamlmdpphaa.wordsOver
namespace Go.Proofs.Ytopbiamlmdpphaa
theorem wordsOver_holds : Rows.WordsOverSaid := wordsOver.over
#print axioms wordsOver_holds
end Go.Proofs.Ytopbiamlmdpphaa
