/- A part of an amount and the part of what is left of the ten thousand make the amount, but for a cent: the call returns true whatever it is given; no condition. -/
import Derived.Test.YtegganhjlpachabPart
import Derived.Test.YtegganhjlpachabPicked
import Derived.Test.YtegganhjlpachabRows
import Derived.WalkKit
import Derived.ProofKit
import Derived.OpenShut
import Derived.Below
import Derived.ShutString
namespace Go.Proofs.Ytegganhjlpachab.partSplits
open Go.ChangeShapes Go.WideShapes Go.ChangeAt Go.RowKit
open Go.ChangeMaps (open_string shut_string)
set_option linter.unusedVariables false

theorem own : ownKnob Try.prog.godebug = none := by kernel_rfl

theorem walk (a0 : Int) (a1 : Int) (w0 : (Lit.int .i64 a0).wf = true) (w1 : (Lit.int .i64 a1).wf = true) (w : World) :
    Calls Try.prog 5 #[.int .i64 a0, .int .i64 a1] w fun e w' => e = .returned (.bool true) ∧ Below w.heap.size w w' := by
  have ha1 := cents.pick_nonneg a0 1000000000001 (by omega)
  have ha2 := cents.pick_lt a0 1000000000001 (by omega)
  have hb1 := cents.pick_nonneg a1 10001 (by omega)
  have hb2 := cents.pick_lt a1 10001 (by omega)
  go_enter Try.func5, Try.ntmps5
  go_wp2_with fail
  refine (cents.picked_any _ _ _ w0 (by omega) (by omega)).mono ?_
  rintro e w' ⟨rfl, rfl⟩
  go_wp2_with fail
  refine (cents.picked_any _ _ _ w1 (by omega) (by omega)).mono ?_
  rintro e w' ⟨rfl, rfl⟩
  generalize cents.pick a0 1000000000001 = a at *
  generalize cents.pick a1 10001 = b at *
  have ha3 : a ≤ 1000000000000 := by omega
  have hb3 : b ≤ 10000 := by omega
  clear ha2 hb2 w0 w1
  go_wp2_with fail
  refine (cents.part_yes _ _ _ ha1 ha3 hb1 hb3).mono ?_
  rintro e w1 ⟨rfl, hw1⟩
  have hc1 : 0 ≤ 10000 - b := by omega
  have hc2 : 10000 - b ≤ 10000 := by omega
  go_wp2_with fail
  refine (cents.part_yes _ _ _ ha1 ha3 hc1 hc2).mono ?_
  rintro e w2 ⟨rfl, hw2⟩
  have HW : Hid (Below w'.heap.size w' w2) := hw1.trans (hw2.mono hw1.size)
  clear hw1 hw2
  obtain ⟨p1, p2⟩ := cents.prod_bd a b _ _ ha1 ha3 hb1 hb3
  have HX := cents.split_yes a b
  have HY := cents.split_no a b
  have hx : 0 ≤ a * b / 10000 := by omega
  have hy : 0 ≤ a * (10000 - b) / 10000 := by
    have := (cents.prod_bd a (10000 - b) _ _ ha1 ha3 hc1 hc2).1
    omega
  have hxl : a * b / 10000 ≤ 1000000000000 := by omega
  have hyl : a * (10000 - b) / 10000 ≤ 1000000000000 := by
    have := (cents.prod_bd a (10000 - b) _ _ ha1 ha3 hc1 hc2).2
    omega
  generalize a * b / 10000 = x at *
  generalize a * (10000 - b) / 10000 = y at *
  by_cases hm : (a * b % 10000 == 0) = true
  · have hz : (x + y == a) = true := beq_iff_eq.2 (HX (by simpa using hm))
    clear HX HY
    go_wp2
    go_ret
    exact ⟨rfl, HW⟩
  · have hm' : (a * b % 10000 == 0) = false := by simpa using hm
    have hz : (x + y == a - 1) = true := beq_iff_eq.2 (HY (by simpa using hm))
    clear HX HY hm
    go_wp2
    go_ret
    exact ⟨rfl, HW⟩

set_option maxRecDepth 100000 in
theorem lifted (os : Os) (started : os.Started) (H : Type) (enc : TypeId × Value → H) :
    ReturnsInHanded {} Try.checked os 5 .any (Rows.partSplitsSpec.pre6 enc Try.prog Try.f5 Rows.partSplitsRow.domain false) (Rows.partSplitsSpec.post enc Try.prog Try.f5 false true false false) := by
  refine returnsInHanded_of_change (C := Try.checked) own started (by kernel_rfl) Try.func5
    (ChangeSpec.witness6 (enc := enc) (C := Try.checked) false ⟨#[], #[.int .i64 0, .int .i64 0], []⟩ 8 (by kernel_rfl) (by kernel_rfl) (by kernel_rfl) (by kernel_rfl)) ?_
  intro W base args ds gs before hval0 hW hcnd _
  have hval : ∀ (j : Nat) t v, Try.f5.params[j]? = some t → args[j]? = some v → Value.okWide Try.prog W .any base t v := hval0
  have hW' := hW
  obtain ⟨p, q, hA0, hV, rfl, hfz, hnd⟩ := hW
  have hA : DataW.TrodAll enc Try.prog W 0 (fun _ => true) true Try.f5.params.toList args.toList ds p := hA0
  rw [Try.params5] at hA hval
  obtain ⟨v0, vs0, d0, ds0, p0, q0, hargs, rfl, rfl, h0, r0⟩ := trodAll_cons hA
  obtain ⟨v1, vs1, d1, ds1, p1, q1, rfl, rfl, rfl, h1, r1⟩ := trodAll_cons r0
  obtain ⟨rfl, rfl, rfl⟩ := trodAll_nil r1
  obtain rfl : args = #[v0, v1] := by cases args; simp_all
  obtain ⟨rfl, rfl⟩ := trodVars_none hV
  obtain ⟨a0, rfl, rfl, rfl, w0⟩ := open_int Try.underlying3 (hval 0 3 v0 rfl rfl) h0
  obtain ⟨a1, rfl, rfl, rfl, w1⟩ := open_int Try.underlying3 (hval 1 3 v1 rfl rfl) h1
  clear hA0 hval0
  simp only [List.append_nil] at hW'
  refine (walk a0 a1 w0 w1 W).mono fun e W' ⟨he, hg⟩ => ?_
  subst he
  exact ⟨_, rfl, _, _, _, [], [], [], hW', (trodAll_cons_mk (shut_bool Try.underlying4 _) trodAll_mk0), (trodAll_cons_mk (shut_int Try.underlying3 w0) (trodAll_cons_mk (shut_int Try.underlying3 w1) trodAll_mk0)), rfl, hg.frame _, fun h => by cases h⟩

theorem over : Rows.partSplitsRow.holds Try.pinned (OpenSpec.ofChange Rows.partSplitsSpec) :=
  OpenClaim.holds_of_wide 5 Try.f5 rfl rfl rfl rfl rfl rfl rfl ⟨rfl, rfl, rfl, rfl, rfl⟩ rfl rfl rfl rfl rfl (by kernel_rfl) Try.func5 (by kernel_rfl)
    (of_decide_eq_true (by kernel_rfl)) (by unfold Func.isWrapper; first | (rw [if_pos (by decide +kernel)]; kernel_rfl) | (rw [if_neg (by decide +kernel)]; exact ⟨rfl, rfl⟩))
    (fun os started H enc _ => lifted os started H enc)

theorem proved : Rows.PartSplitsSaid :=
  over
end Go.Proofs.Ytegganhjlpachab.partSplits
namespace Go.Proofs.Ytegganhjlpachab
theorem partSplits_holds : Rows.PartSplitsSaid := partSplits.proved
#print axioms partSplits_holds
end Go.Proofs.Ytegganhjlpachab
