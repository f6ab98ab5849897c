/- CellBlanks: what cell.Blank answers is what the document asks. -/
import Derived.Test.YtiipnokmiknfoaaClBlank
import Derived.Test.YtiipnokmiknfoaaClSame
import Derived.Test.YtiipnokmiknfoaaRows
import Derived.WalkKit
import Derived.ProofKit
import Derived.OpenShut
import Derived.Below
import Derived.ShutString
namespace Go.Proofs.Ytiipnokmiknfoaa.cellBlanks
open Go.ChangeShapes Go.WideShapes Go.ChangeAt Go.RowKit
open Go.ChangeMaps (open_string shut_string)
set_option linter.unusedVariables false

theorem own : ownKnob Try.prog.godebug = none := by kernel_rfl

theorem walk (a0 : Int) (w0 : (Lit.int .i64 a0).wf = true) (w : World) :
    Calls Try.prog 3 #[.int .i64 a0] w fun e w' => e = .returned (.bool true) ∧ Below w.heap.size w w' := by
  obtain ⟨zs, c, hl, hA, hB⟩ : ∃ (zs : List Int) (c : Int), zs.length ≤ 2048 ∧ (∀ W, Calls Try.prog 8 #[.int .i64 a0] W fun e w' => cell.GaveR W zs c e w') ∧ (∀ W, Calls Try.prog 9 #[.int .i64 a0] W fun e w' => cell.GaveR W zs c e w') := by
    by_cases h : 1 ≤ a0 ∧ a0 ≤ 2048
    · obtain ⟨n, rfl⟩ : ∃ n : Nat, a0 = n := ⟨a0.toNat, by omega⟩
      exact ⟨List.replicate n 0, 0, by rw [List.length_replicate]; omega, fun W => cell.blank_yes n W (by omega) (by omega), fun W => cell.blanked_yes n W (by omega) (by omega)⟩
    · exact ⟨[], 1, by decide, fun W => cell.blank_no a0 W (by omega), fun W => cell.blanked_no a0 W (by omega)⟩
  have HA : Hid (∀ W, Calls Try.prog 8 #[.int .i64 a0] W fun e w' => cell.GaveR W zs c e w') := hA
  have HR : Hid (∀ W, Calls Try.prog 9 #[.int .i64 a0] W fun e w' => cell.GaveR W zs c e w') := hB
  clear hA hB w0
  have hcc : (c == c) = true := by simp
  go_enter Try.func3, Try.ntmps3
  go_wp2_with fail
  refine (HA.out _).mono ?_
  rintro e w1 ⟨a1, c1, rfl, hr1, _, hb1⟩
  go_wp2_with fail
  refine (HR.out _).mono ?_
  rintro e w2 ⟨a2, c2, rfl, hr2, _, hb2⟩
  have H1 : Hid (cell.RowU w2 a1 zs.length zs) := hr1.below hb2
  have H2 : Hid (cell.RowU w2 a2 zs.length zs) := hr2
  have HB : Hid (Below w.heap.size w w2) := bel_step hb1 hb2
  clear hr1 hr2 hb1 hb2 HA HR
  go_wp2_with fail
  refine (cell.words_law _ _ _ _ _ _ _ H1.out H2.out (by unfold maxLen; omega)).mono ?_
  rintro e w4 ⟨rfl, hb4⟩
  go_wp2_with fail
  go_ret
  exact ⟨rfl, bel_step HB.out hb4⟩

set_option maxRecDepth 100000 in
theorem lifted (os : Os) (started : os.Started) (H : Type) (enc : TypeId × Value → H) :
    ReturnsInHanded {} Try.checked os 3 .any (Rows.cellBlanksSpec.pre6 enc Try.prog Try.f3 Rows.cellBlanksRow.domain false) (Rows.cellBlanksSpec.post enc Try.prog Try.f3 false true false false) := by
  refine returnsInHanded_of_change (C := Try.checked) own started (by kernel_rfl) Try.func3
    (ChangeSpec.witness6 (enc := enc) (C := Try.checked) false ⟨#[], #[.int .i64 0], []⟩ 8 (by kernel_rfl) (by kernel_rfl) (by kernel_rfl) (by kernel_rfl)) ?_
  intro W base args ds gs before hval0 hW hcnd _
  have hval : ∀ (j : Nat) t v, Try.f3.params[j]? = some t → args[j]? = some v → Value.okWide Try.prog W .any base t v := hval0
  have hW' := hW
  obtain ⟨p, q, hA0, hV, rfl, hfz, hnd⟩ := hW
  have hA : DataW.TrodAll enc Try.prog W 0 (fun _ => true) true Try.f3.params.toList args.toList ds p := hA0
  rw [Try.params3] at hA hval
  obtain ⟨v0, vs0, d0, ds0, p0, q0, hargs, rfl, rfl, h0, r0⟩ := trodAll_cons hA
  obtain ⟨rfl, rfl, rfl⟩ := trodAll_nil r0
  obtain rfl : args = #[v0] := by cases args; simp_all
  obtain ⟨rfl, rfl⟩ := trodVars_none hV
  obtain ⟨a0, rfl, rfl, rfl, w0⟩ := open_int Try.underlying3 (hval 0 3 v0 rfl rfl) h0
  clear hA0 hval0
  simp only [List.append_nil] at hW'
  refine (walk a0 w0 W).mono fun e W' ⟨he, hg⟩ => ?_
  subst he
  exact ⟨_, rfl, _, _, _, [], [], [], hW', (trodAll_cons_mk (shut_bool Try.underlying4 _) trodAll_mk0), (trodAll_cons_mk (shut_int Try.underlying3 w0) trodAll_mk0), rfl, hg.frame _, fun h => by cases h⟩

theorem over : Rows.cellBlanksRow.holds Try.pinned (OpenSpec.ofChange Rows.cellBlanksSpec) :=
  OpenClaim.holds_of_wide 3 Try.f3 rfl rfl rfl rfl rfl rfl rfl ⟨rfl, rfl, rfl, rfl, rfl⟩ rfl rfl rfl rfl rfl (by kernel_rfl) Try.func3 (by kernel_rfl)
    (of_decide_eq_true (by kernel_rfl)) (by unfold Func.isWrapper; first | (rw [if_pos (by decide +kernel)]; kernel_rfl) | (rw [if_neg (by decide +kernel)]; exact ⟨rfl, rfl⟩))
    (fun os started H enc _ => lifted os started H enc)

theorem proved : Rows.CellBlanksSaid :=
  over
end Go.Proofs.Ytiipnokmiknfoaa.cellBlanks
namespace Go.Proofs.Ytiipnokmiknfoaa
theorem cellBlanks_holds : Rows.CellBlanksSaid := cellBlanks.proved
#print axioms cellBlanks_holds
end Go.Proofs.Ytiipnokmiknfoaa
