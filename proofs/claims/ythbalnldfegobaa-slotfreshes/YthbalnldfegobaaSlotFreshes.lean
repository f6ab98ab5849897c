/- SlotFreshes: fresh slots are those of the document. -/
import Derived.Test.YthbalnldfegobaaSlT
import Derived.Test.YthbalnldfegobaaClSame
import Derived.Test.YthbalnldfegobaaRows
import Derived.WalkKit
import Derived.ProofKit
import Derived.OpenShut
import Derived.ShutString
import Derived.ChangeOld
import Derived.Below
import Derived.SizedLaws
namespace Go.Proofs.Ythbalnldfegobaa.slotFreshes
open Go.ChangeShapes Go.WideShapes Go.ChangeAt Go.RowKit
set_option linter.unusedVariables false

theorem own : ownKnob Try.prog.godebug = none := by kernel_rfl
theorem laidOut : laidOutB Try.prog = true := by kernel_rfl

theorem walk (a0 : Int) (w : World) (w0 : (Lit.int .i64 a0).wf = true) :
    Calls Try.prog 3 #[.int .i64 a0] w fun e w' => e = .returned (.bool true) ∧ Below w.heap.size w w' := by
  have HA : Hid (∃ (zs : List Int) (c : Int), zs.length ≤ maxLen ∧ (∀ W, Calls Try.prog 9 #[.int .i64 a0] W fun e w' => cell.GaveR W zs c e w') ∧ (∀ W, Calls Try.prog 10 #[.int .i64 a0] W fun e w' => cell.GaveR W zs c e w')) := by
    by_cases h : 1 ≤ a0 ∧ a0 ≤ 64
    · obtain ⟨k, rfl⟩ : ∃ k : Nat, a0 = k := ⟨a0.toNat, by omega⟩
      exact ⟨slot.fre k, 0, by rw [slot.fre_len]; unfold maxLen; omega, fun W => slot.fresh_yes k W (by omega) (by omega), fun W => slot.sfresh_yes k W (by omega) (by omega)⟩
    · exact ⟨[], 1, Nat.zero_le _, fun W => slot.fresh_no a0 W (by omega), fun W => slot.sfresh_no a0 W (by omega)⟩
  obtain ⟨zs, c, hzs, hA, hB⟩ := HA.out
  have hcc : (c == c) = true := by simp
  have HF : Hid (∀ W, Calls Try.prog 9 #[.int .i64 a0] W fun e w' => cell.GaveR W zs c e w') := hA
  have HG : Hid (∀ W, Calls Try.prog 10 #[.int .i64 a0] W fun e w' => cell.GaveR W zs c e w') := hB
  have HZ : Hid (zs.length ≤ maxLen) := hzs
  clear hA hB HA hzs
  go_enter Try.func3, Try.ntmps3
  go_wp2_with fail
  refine (HF.out _).mono ?_
  rintro e w3 ⟨x3, c3, rfl, hr3, _, hb3⟩
  have HV3 : Hid (cell.RowU w3 x3 zs.length zs) := hr3
  have HB3 : Hid (Below w.heap.size w w3) := hb3
  clear hr3 hb3 HF
  go_wp2_with fail
  refine (HG.out _).mono ?_
  rintro e w4 ⟨x4, c4, rfl, hr4, _, hb4⟩
  have R3 : Hid (cell.RowU w4 x3 zs.length zs) := HV3.out.below hb4
  have R4 : Hid (cell.RowU w4 x4 zs.length zs) := hr4
  have HB4 : Hid (Below w.heap.size w w4) := bel_step HB3.out hb4
  clear hr4 hb4 HV3 HB3 HG
  go_wp2_with fail
  refine (cell.words_law _ _ _ _ _ _ _ R3.out R4.out HZ.out).mono ?_
  rintro e w5 ⟨rfl, hb5⟩
  go_wp2_with fail
  go_ret
  exact ⟨rfl, bel_step HB4.out hb5⟩

set_option maxRecDepth 100000 in
theorem lifted (os : Os) (started : os.Started) (H : Type) (enc : TypeId × Value → H) :
    ReturnsInHanded {} Try.checked os 3 .any (Rows.slotFreshesSpec.pre6 enc Try.prog Try.f3 Rows.slotFreshesRow.domain false) (Rows.slotFreshesSpec.post enc Try.prog Try.f3 false true false false) := by
  refine returnsInHanded_of_change_sized (C := Try.checked) own started (by kernel_rfl) Try.func3
    (ChangeSpec.witness6 (enc := enc) (C := Try.checked) false ⟨#[], #[.int .i64 0], []⟩ 8 (by kernel_rfl) (by kernel_rfl) (by kernel_rfl) (by kernel_rfl)) ?_
  intro W base args ds gs before hval0 hW hcnd hsz0 _
  have hval : ∀ (j : Nat) t v, Try.f3.params[j]? = some t → args[j]? = some v → Value.okWide Try.prog W .any base t v := hval0
  have hW' := hW
  obtain ⟨p, q, hA0, hV, rfl, hfz, hnd⟩ := hW
  have hA : DataW.TrodAll enc Try.prog W 0 (fun _ => true) true Try.f3.params.toList args.toList ds p := hA0
  have hsz : (DataW.weightsEach Try.prog (Try.f3.params.toList ++ Rows.slotFreshesSpec.plain.varTypes Try.prog) (ds ++ gs)).all (· ≤ reachBytes) = true := hsz0
  rw [Try.params3] at hA hval hsz
  obtain ⟨v0, vs0, d0, ds0, p0, q0, hargs, rfl, rfl, h0, r0⟩ := trodAll_cons hA
  obtain ⟨rfl, rfl, rfl⟩ := trodAll_nil r0
  obtain rfl : args = #[v0] := by cases args; simp_all
  obtain ⟨rfl, rfl⟩ := trodVars_none hV
  obtain ⟨a0, rfl, rfl, rfl, w0⟩ := open_int Try.underlying3 (hval 0 3 v0 rfl rfl) h0
  clear hA0 hval0
  refine (walk a0 W w0).mono fun e W' ⟨he, bel⟩ => ?_
  subst he
  exact ⟨_, rfl, _, _, _, [], _, [], hW', trodAll_mk1 (shut_bool Try.underlying4 _), (trodAll_cons_mk (shut_int Try.underlying3 w0) trodAll_mk0), rfl, bel.frame _, fun h => by cases h⟩

theorem over : Rows.slotFreshesRow.holds Try.pinned (OpenSpec.ofChange Rows.slotFreshesSpec) :=
  OpenClaim.holds_of_wide 3 Try.f3 rfl rfl rfl rfl rfl rfl rfl ⟨rfl, rfl, rfl, rfl, rfl⟩ rfl rfl rfl rfl rfl (by kernel_rfl) Try.func3 (by kernel_rfl)
    (of_decide_eq_true (by kernel_rfl)) (by unfold Func.isWrapper; first | (rw [if_pos (by decide +kernel)]; kernel_rfl) | (rw [if_neg (by decide +kernel)]; exact ⟨rfl, rfl⟩))
    (fun os started H enc _ => lifted os started H enc)

end Go.Proofs.Ythbalnldfegobaa.slotFreshes
namespace Go.Proofs.Ythbalnldfegobaa
theorem slotFreshes_holds : Rows.SlotFreshesSaid := slotFreshes.over
#print axioms slotFreshes_holds
end Go.Proofs.Ythbalnldfegobaa
