/- vendmeterlaw.WordsCmps returns true for every two wide numbers: words.Cmp answers as the document's answer does. No condition. -/
import Derived.Test.YtkhiipohdiibeaaCompared
import Derived.Test.YtkhiipohdiibeaaCmp
import Derived.Test.YtkhiipohdiibeaaEq3
import Derived.Test.YtkhiipohdiibeaaRows
import Derived.WalkKit
import Derived.ProofKit
import Derived.OpenShut
import Derived.Below
import Derived.ShutString
namespace Go.Proofs.Ytkhiipohdiibeaa.wordsCmps
open Go.ChangeShapes Go.WideShapes Go.ChangeAt Go.RowKit
open Go.ChangeMaps (open_string shut_string)
set_option linter.unusedVariables false

theorem own : ownKnob Try.prog.godebug = none := by kernel_rfl

theorem walk (x0 y0 z0 : Int) (x1 y1 z1 : Int) (w0 : (Lit.int .u32 x0).wf = true ∧ (Lit.int .u32 y0).wf = true ∧ (Lit.int .u32 z0).wf = true) (w1 : (Lit.int .u32 x1).wf = true ∧ (Lit.int .u32 y1).wf = true ∧ (Lit.int .u32 z1).wf = true) (w : World) :
    Calls Try.prog 3 #[.agg #[.int .u32 x0, .int .u32 y0, .int .u32 z0], .agg #[.int .u32 x1, .int .u32 y1, .int .u32 z1]] w fun e w' => e = .returned (.bool true) ∧ Below w.heap.size w w' := by
  have hx := words.ok_wf w0
  have hy := words.ok_wf w1
  obtain ⟨⟨xa, xa'⟩, ⟨xb, xb'⟩, xc, xc'⟩ := words.ok_wf w0
  obtain ⟨⟨ya, ya'⟩, ⟨yb, yb'⟩, yc, yc'⟩ := words.ok_wf w1
  simp only at xa xa' xb xb' xc xc' ya ya' yb yb' yc yc'
  obtain ⟨a, rfl⟩ := Int.eq_ofNat_of_zero_le xa
  obtain ⟨b, rfl⟩ := Int.eq_ofNat_of_zero_le xb
  obtain ⟨c, rfl⟩ := Int.eq_ofNat_of_zero_le xc
  obtain ⟨a', rfl⟩ := Int.eq_ofNat_of_zero_le ya
  obtain ⟨b', rfl⟩ := Int.eq_ofNat_of_zero_le yb
  obtain ⟨c', rfl⟩ := Int.eq_ofNat_of_zero_le yc
  have HC : Hid (∀ w, Calls Try.prog 7 #[.agg #[.int .u32 (a : Int), .int .u32 (b : Int), .int .u32 (c : Int)], .agg #[.int .u32 (a' : Int), .int .u32 (b' : Int), .int .u32 (c' : Int)]] w fun e w' => words.AnsPost w (words.cmp3 (words.W3.val ⟨a, b, c⟩) (words.W3.val ⟨a', b', c'⟩)) e w') := fun w => words.compared_any a b c a' b' c' w (by omega) (by omega) (by omega) (by omega) (by omega) (by omega)
  have HM : Hid (∀ w, Calls Try.prog 6 #[words.wv ⟨a, b, c⟩, words.wv ⟨a', b', c'⟩] w fun e w' => e = .returned (.int .i64 (words.cmp3 (words.W3.val ⟨a, b, c⟩) (words.W3.val ⟨a', b', c'⟩))) ∧ Below w.heap.size w w') := fun w => words.cmp_any _ _ w hx hy
  have hq : (words.cmp3 (words.W3.val ⟨a, b, c⟩) (words.W3.val ⟨a', b', c'⟩) == words.cmp3 (words.W3.val ⟨a, b, c⟩) (words.W3.val ⟨a', b', c'⟩)) = true := by simp
  generalize words.cmp3 (words.W3.val ⟨a, b, c⟩) (words.W3.val ⟨a', b', c'⟩) = V at *
  clear w0 w1 hx hy xa xb xc ya yb yc xa' xb' xc' ya' yb' yc'
  have HT1 : Hid (words.Trio ((w.alloc (.cells #[.int .u32 (a : Int), .int .u32 (b : Int), .int .u32 (c : Int)] 24)).alloc (.cells #[.int .u32 (a' : Int), .int .u32 (b' : Int), .int .u32 (c' : Int)] 24)) w.heap.size (.int .u32 (a : Int)) (.int .u32 (b : Int)) (.int .u32 (c : Int))) := (words.trio_new _ _ _ _).alloc _
  have HT2 : Hid (words.Trio ((w.alloc (.cells #[.int .u32 (a : Int), .int .u32 (b : Int), .int .u32 (c : Int)] 24)).alloc (.cells #[.int .u32 (a' : Int), .int .u32 (b' : Int), .int .u32 (c' : Int)] 24)) (w.heap.size + 1) (.int .u32 (a' : Int)) (.int .u32 (b' : Int)) (.int .u32 (c' : Int))) := words.trio_b _ _ _ _ _
  have HB : Hid (Below w.heap.size w ((w.alloc (.cells #[.int .u32 (a : Int), .int .u32 (b : Int), .int .u32 (c : Int)] 24)).alloc (.cells #[.int .u32 (a' : Int), .int .u32 (b' : Int), .int .u32 (c' : Int)] 24))) := words.bel2 _ _ _
  go_enter Try.func3, Try.ntmps3
  go_wp2_with fail
  refine (HM.out _).mono ?_
  rintro e w1 ⟨rfl, hb1⟩
  have T1 := HT1.out.below hb1
  have T2 := HT2.out.below hb1
  have HB1 : Hid (Below w.heap.size w w1) := HB.out.trans (hb1.mono HB.out.size)
  have c0 := T1.c0
  have c1 := T1.c1
  have c2 := T1.c2
  have d0 := T2.c0
  have d1 := T2.c1
  have d2 := T2.c2
  clear T1 T2 hb1 HT1 HT2 HB HM
  go_wp2_with fail
  refine (HC.out _).mono ?_
  rintro e w2 ⟨rfl, hb2⟩
  have HB2 : Hid (Below w.heap.size w w2) := HB1.out.trans (hb2.mono HB1.out.size)
  clear hb2 c0 c1 c2 d0 d1 d2 HC HB1
  go_wp2_with fail
  go_ret
  exact ⟨rfl, HB2.out⟩

set_option maxRecDepth 100000 in
theorem lifted (os : Os) (started : os.Started) (H : Type) (enc : TypeId × Value → H) :
    ReturnsInHanded {} Try.checked os 3 .any (Rows.wordsCmpsSpec.pre6 enc Try.prog Try.f3 Rows.wordsCmpsRow.domain false) (Rows.wordsCmpsSpec.post enc Try.prog Try.f3 false true false false) := by
  refine returnsInHanded_of_change (C := Try.checked) own started (by kernel_rfl) Try.func3
    (ChangeSpec.witness6 (enc := enc) (C := Try.checked) false ⟨#[], #[.agg #[.int .u32 0, .int .u32 0, .int .u32 0], .agg #[.int .u32 0, .int .u32 0, .int .u32 0]], []⟩ 8 (by kernel_rfl) (by kernel_rfl) (by kernel_rfl) (by kernel_rfl)) ?_
  intro W base args ds gs before hval0 hW hcnd _
  have hval : ∀ (j : Nat) t v, Try.f3.params[j]? = some t → args[j]? = some v → Value.okWide Try.prog W .any base t v := hval0
  have hW' := hW
  obtain ⟨p, q, hA0, hV, rfl, hfz, hnd⟩ := hW
  have hA : DataW.TrodAll enc Try.prog W 0 (fun _ => true) true Try.f3.params.toList args.toList ds p := hA0
  rw [Try.params3] at hA hval
  obtain ⟨v0, vs0, d0, ds0, p0, q0, hargs, rfl, rfl, h0, r0⟩ := trodAll_cons hA
  obtain ⟨v1, vs1, d1, ds1, p1, q1, rfl, rfl, rfl, h1, r1⟩ := trodAll_cons r0
  obtain ⟨rfl, rfl, rfl⟩ := trodAll_nil r1
  obtain rfl : args = #[v0, v1] := by cases args; simp_all
  obtain ⟨rfl, rfl⟩ := trodVars_none hV
  obtain ⟨x0, y0, z0, rfl, rfl, rfl, w0⟩ := words.open_wide (hval 0 24 v0 rfl rfl) h0
  obtain ⟨x1, y1, z1, rfl, rfl, rfl, w1⟩ := words.open_wide (hval 1 24 v1 rfl rfl) h1
  clear hA0 hval0
  simp only [List.append_nil] at hW'
  refine (walk x0 y0 z0 x1 y1 z1 w0 w1 W).mono fun e W' ⟨he, hg⟩ => ?_
  subst he
  exact ⟨_, rfl, _, _, _, [], [], [], hW', (trodAll_cons_mk (shut_bool Try.underlying4 _) trodAll_mk0), (trodAll_cons_mk (words.shut_wide w0) (trodAll_cons_mk (words.shut_wide w1) trodAll_mk0)), rfl, hg.frame _, fun h => by cases h⟩

theorem over : Rows.wordsCmpsRow.holds Try.pinned (OpenSpec.ofChange Rows.wordsCmpsSpec) :=
  OpenClaim.holds_of_wide 3 Try.f3 rfl rfl rfl rfl rfl rfl rfl ⟨rfl, rfl, rfl, rfl, rfl⟩ rfl rfl rfl rfl rfl (by kernel_rfl) Try.func3 (by kernel_rfl)
    (of_decide_eq_true (by kernel_rfl)) (by unfold Func.isWrapper; first | (rw [if_pos (by decide +kernel)]; kernel_rfl) | (rw [if_neg (by decide +kernel)]; exact ⟨rfl, rfl⟩))
    (fun os started H enc _ => lifted os started H enc)

end Go.Proofs.Ytkhiipohdiibeaa.wordsCmps
namespace Go.Proofs.Ytkhiipohdiibeaa
theorem wordsCmps_holds : Rows.WordsCmpsSaid := wordsCmps.over
#print axioms wordsCmps_holds
end Go.Proofs.Ytkhiipohdiibeaa
