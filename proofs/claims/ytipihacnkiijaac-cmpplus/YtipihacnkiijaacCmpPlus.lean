/- vendmeterkeep.CmpPlus returns true for every wide number and every word: a sum is greater, unless it runs over. No condition. -/
import Derived.Test.YtipihacnkiijaacCmp
import Derived.Test.YtipihacnkiijaacRows
import Derived.WalkKit
import Derived.ProofKit
import Derived.OpenShut
import Derived.Below
import Derived.ShutString
namespace Go.Proofs.Ytipihacnkiijaac.cmpPlus
open Go.ChangeShapes Go.WideShapes Go.ChangeAt Go.RowKit
open Go.ChangeMaps (open_string shut_string)
set_option linter.unusedVariables false

theorem own : ownKnob Try.prog.godebug = none := by kernel_rfl

theorem walk (x0 y0 z0 : Int) (a1 : Int) (w0 : (Lit.int .u32 x0).wf = true ∧ (Lit.int .u32 y0).wf = true ∧ (Lit.int .u32 z0).wf = true) (w1 : (Lit.int .u32 a1).wf = true) (w : World) :
    Calls Try.prog 6 #[.agg #[.int .u32 x0, .int .u32 y0, .int .u32 z0], .int .u32 a1] w fun e w' => e = .returned (.bool true) ∧ Below w.heap.size w w' := by
  have hx := words.ok_wf w0
  obtain ⟨h0, h1⟩ := words.u32_bd w1
  obtain ⟨k1, k2⟩ := words.cmp_plus hx h0 h1
  obtain ⟨o0, o1⟩ := words.plus_over hx h0 h1
  have hok1 : (words.plusW ⟨x0, y0, z0⟩ a1).ok := words.carry3_ok _ _ _
  clear w0 w1
  obtain ⟨C, hC⟩ : ∃ C : Int, C = (if words.plusO ⟨x0, y0, z0⟩ a1 ≠ 0 then -1 else if a1 = 0 then 0 else 1) := ⟨_, rfl⟩
  rw [← hC] at k1 k2
  have HC : Hid (C = (if words.plusO ⟨x0, y0, z0⟩ a1 ≠ 0 then -1 else if a1 = 0 then 0 else 1)) := hC
  have HK1 : Hid (words.cmp3 (words.plusW ⟨x0, y0, z0⟩ a1).val (words.W3.val ⟨x0, y0, z0⟩) = C) := k1
  have HK2 : Hid (words.cmp3 (words.W3.val ⟨x0, y0, z0⟩) (words.plusW ⟨x0, y0, z0⟩ a1).val = -C) := k2
  clear k1 k2 hC
  go_enter Try.func6, Try.ntmps6
  go_wp2_with fail
  refine (words.plus_any ⟨x0, y0, z0⟩ a1 _ hx h0 h1).mono ?_
  rintro e w1 ⟨rfl, hb1⟩
  have T0 := (words.trio_new w (.int .u32 x0) (.int .u32 y0) (.int .u32 z0)).below hb1
  have B1 : Below w.heap.size w w1 := ((Below.refl _ w).alloc (Nat.le_refl _) _).trans (hb1.mono (by simp))
  clear hb1
  generalize words.plusW ⟨x0, y0, z0⟩ a1 = X at *
  generalize words.plusO ⟨x0, y0, z0⟩ a1 = o at *
  have T0' := T0.alloc (.cells #[.int .u32 X.a, .int .u32 X.b, .int .u32 X.c] 24)
  have c0 := T0'.c0
  have c1 := T0'.c1
  have c2 := T0'.c2
  have HT0 : Hid (words.Wat (w1.alloc (.cells #[.int .u32 X.a, .int .u32 X.b, .int .u32 X.c] 24)) w.heap.size ⟨x0, y0, z0⟩) := T0'
  have HX : Hid (words.Wat (w1.alloc (.cells #[.int .u32 X.a, .int .u32 X.b, .int .u32 X.c] 24)) w1.heap.size X) := words.trio_new _ _ _ _
  have HB1 : Hid (Below w.heap.size w (w1.alloc (.cells #[.int .u32 X.a, .int .u32 X.b, .int .u32 X.c] 24))) := B1.alloc B1.size _
  clear T0 T0' B1
  go_wp2_with fail
  refine (words.cmp_any X ⟨x0, y0, z0⟩ _ hok1 hx).mono ?_
  rintro e w2 ⟨rfl, hb2⟩
  rw [HK1.out]
  have T0 := HT0.out.below hb2
  have TX := HX.out.below hb2
  have B2 := HB1.out.trans (hb2.mono HB1.out.size)
  clear c0 c1 c2 hb2 HT0 HX HB1
  have c0 := T0.c0
  have c1 := T0.c1
  have c2 := T0.c2
  have d0 := TX.c0
  have d1 := TX.c1
  have d2 := TX.c2
  have HB2 : Hid (Below w.heap.size w w2) := B2
  clear T0 TX B2
  go_wp2_with fail
  refine (words.cmp_any ⟨x0, y0, z0⟩ X _ hx hok1).mono ?_
  rintro e w3 ⟨rfl, hb3⟩
  rw [HK2.out]
  have HB3 : Hid (Below w.heap.size w w3) := HB2.out.trans (hb3.mono HB2.out.size)
  clear c0 c1 c2 d0 d1 d2 hb3 HB2
  by_cases ho : o = 0
  · have e1 : (o != 0) = false := by simp [ho]
    have e3 : decide (o ≤ 1) = true := decide_eq_true (by omega)
    by_cases ha : a1 = 0
    · have e2 : (a1 == 0) = true := by simp [ha]
      obtain rfl : C = 0 := by rw [HC.out, if_neg (by simp [ho]), if_pos ha]
      go_wp2_with fail
      go_ret
      exact ⟨rfl, HB3.out⟩
    · have e2 : (a1 == 0) = false := by simpa using ha
      obtain rfl : C = 1 := by rw [HC.out, if_neg (by simp [ho]), if_neg ha]
      go_wp2_with fail
      go_ret
      exact ⟨rfl, HB3.out⟩
  · have e1 : (o != 0) = true := by simpa using ho
    have e3 : decide (o ≤ 1) = true := decide_eq_true (by omega)
    obtain rfl : C = -1 := by rw [HC.out, if_pos ho]
    by_cases ha : a1 = 0
    · have e2 : (a1 == 0) = true := by simp [ha]
      go_wp2_with fail
      go_ret
      exact ⟨rfl, HB3.out⟩
    · have e2 : (a1 == 0) = false := by simpa using ha
      go_wp2_with fail
      go_ret
      exact ⟨rfl, HB3.out⟩

set_option maxRecDepth 100000 in
theorem lifted (os : Os) (started : os.Started) (H : Type) (enc : TypeId × Value → H) :
    ReturnsInHanded {} Try.checked os 6 .any (Rows.cmpPlusSpec.pre6 enc Try.prog Try.f6 Rows.cmpPlusRow.domain false) (Rows.cmpPlusSpec.post enc Try.prog Try.f6 false true false false) := by
  refine returnsInHanded_of_change (C := Try.checked) own started (by kernel_rfl) Try.func6
    (ChangeSpec.witness6 (enc := enc) (C := Try.checked) false ⟨#[], #[.agg #[.int .u32 0, .int .u32 0, .int .u32 0], .int .u32 0], []⟩ 8 (by kernel_rfl) (by kernel_rfl) (by kernel_rfl) (by kernel_rfl)) ?_
  intro W base args ds gs before hval0 hW hcnd _
  have hval : ∀ (j : Nat) t v, Try.f6.params[j]? = some t → args[j]? = some v → Value.okWide Try.prog W .any base t v := hval0
  have hW' := hW
  obtain ⟨p, q, hA0, hV, rfl, hfz, hnd⟩ := hW
  have hA : DataW.TrodAll enc Try.prog W 0 (fun _ => true) true Try.f6.params.toList args.toList ds p := hA0
  rw [Try.params6] at hA hval
  obtain ⟨v0, vs0, d0, ds0, p0, q0, hargs, rfl, rfl, h0, r0⟩ := trodAll_cons hA
  obtain ⟨v1, vs1, d1, ds1, p1, q1, rfl, rfl, rfl, h1, r1⟩ := trodAll_cons r0
  obtain ⟨rfl, rfl, rfl⟩ := trodAll_nil r1
  obtain rfl : args = #[v0, v1] := by cases args; simp_all
  obtain ⟨rfl, rfl⟩ := trodVars_none hV
  obtain ⟨x0, y0, z0, rfl, rfl, rfl, w0⟩ := words.open_wide (hval 0 24 v0 rfl rfl) h0
  obtain ⟨a1, rfl, rfl, rfl, w1⟩ := open_int Try.underlying22 (hval 1 22 v1 rfl rfl) h1
  clear hA0 hval0
  simp only [List.append_nil] at hW'
  refine (walk x0 y0 z0 a1 w0 w1 W).mono fun e W' ⟨he, hg⟩ => ?_
  subst he
  exact ⟨_, rfl, _, _, _, [], [], [], hW', (trodAll_cons_mk (shut_bool Try.underlying4 _) trodAll_mk0), (trodAll_cons_mk (words.shut_wide w0) (trodAll_cons_mk (shut_int Try.underlying22 w1) trodAll_mk0)), rfl, hg.frame _, fun h => by cases h⟩

theorem over : Rows.cmpPlusRow.holds Try.pinned (OpenSpec.ofChange Rows.cmpPlusSpec) :=
  OpenClaim.holds_of_wide 6 Try.f6 rfl rfl rfl rfl rfl rfl rfl ⟨rfl, rfl, rfl, rfl, rfl⟩ rfl rfl rfl rfl rfl (by kernel_rfl) Try.func6 (by kernel_rfl)
    (of_decide_eq_true (by kernel_rfl)) (by unfold Func.isWrapper; first | (rw [if_pos (by decide +kernel)]; kernel_rfl) | (rw [if_neg (by decide +kernel)]; exact ⟨rfl, rfl⟩))
    (fun os started H enc _ => lifted os started H enc)

end Go.Proofs.Ytipihacnkiijaac.cmpPlus
namespace Go.Proofs.Ytipihacnkiijaac
theorem cmpPlus_holds : Rows.CmpPlusSaid := cmpPlus.over
#print axioms cmpPlus_holds
end Go.Proofs.Ytipihacnkiijaac
