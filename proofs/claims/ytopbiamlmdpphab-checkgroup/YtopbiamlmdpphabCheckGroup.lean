/- The motions of a pentagon are a group: the call returns true whatever it is given. -/
import Derived.Test.YtopbiamlmdpphabCkMulF
import Derived.Test.YtopbiamlmdpphabCkMoved
import Derived.Test.YtopbiamlmdpphabCkPick
import Derived.Test.YtopbiamlmdpphabRows
import Derived.WalkKit
import Derived.ProofKit
import Derived.OpenShut
import Derived.Below
import Derived.ShutString
namespace Go.Proofs.Ytopbiamlmdpphab.checkGroup
open Go.ChangeShapes Go.WideShapes Go.ChangeAt Go.RowKit
open Go.ChangeMaps (open_string shut_string)
set_option linter.unusedVariables false

theorem own : ownKnob Try.prog.godebug = none := by kernel_rfl

theorem walk (a0 : Int) (a1 : Int) (a2 : Int) (w0 : (Lit.int .i64 a0).wf = true) (w1 : (Lit.int .i64 a1).wf = true) (w2 : (Lit.int .i64 a2).wf = true) (w : World) :
    Calls Try.prog 6 #[.int .i64 a0, .int .i64 a1, .int .i64 a2] w fun e w' => e = .returned (.bool true) ∧ Below w.heap.size w w' := by
  have ha : (check.pick a0 10).toNat < 10 := check.pick_toNat a0 10 (by omega)
  have hb : (check.pick a1 10).toNat < 10 := check.pick_toNat a1 10 (by omega)
  have hc : (check.pick a2 10).toNat < 10 := check.pick_toNat a2 10 (by omega)
  have HP0 : Hid (∀ w, Calls Try.prog 13 #[.int .i64 a0, .int .i64 10] w fun e w' => e = .returned (.int .i64 (((check.pick a0 10).toNat : Nat) : Int)) ∧ w' = w) := fun w => check.picked_nat a0 10 w w0 (by omega) (by omega)
  have HP1 : Hid (∀ w, Calls Try.prog 13 #[.int .i64 a1, .int .i64 10] w fun e w' => e = .returned (.int .i64 (((check.pick a1 10).toNat : Nat) : Int)) ∧ w' = w) := fun w => check.picked_nat a1 10 w w1 (by omega) (by omega)
  have HP2 : Hid (∀ w, Calls Try.prog 13 #[.int .i64 a2, .int .i64 10] w fun e w' => e = .returned (.int .i64 (((check.pick a2 10).toNat : Nat) : Int)) ∧ w' = w) := fun w => check.picked_nat a2 10 w w2 (by omega) (by omega)
  generalize (check.pick a0 10).toNat = a at *
  generalize (check.pick a1 10).toNat = b at *
  generalize (check.pick a2 10).toNat = c at *
  have mm : ∀ (x y : Nat), x < 10 → y < 10 → ∀ w, Calls Try.prog 7 #[.int .i64 (x : Int), .int .i64 (y : Int)] w fun e w' => e = .returned (.tuple #[.int .i64 ((check.mulN x y : Nat) : Int), .int .i64 0]) ∧ w' = w := fun x y hx hy w => check.mul_yes x y w hx hy
  have hab := check.mul_lt a ha b hb
  have hbc := check.mul_lt b hb c hc
  have hi := check.inv_lt a ha
  have M1 := mm a b ha hb
  have M2 := mm b c hb hc
  have M3 := mm _ c hab hc
  have M4 := mm a _ ha hbc
  have M5 : ∀ w, Calls Try.prog 9 #[.int .i64 (a : Int)] w fun e w' => e = .returned (.tuple #[.int .i64 ((check.invN a : Nat) : Int), .int .i64 0]) ∧ w' = w := fun w => check.invF_yes a w ha
  have M6 := mm a _ ha hi
  have M7 := mm _ a hi ha
  have M8 := mm a 0 ha (by omega)
  rw [check.mul_assoc a ha b hb c hc] at M3
  rw [check.mul_inv a ha] at M6
  rw [check.inv_mul a ha] at M7
  rw [check.mul_one a ha] at M8
  rw [check.cast0] at M6 M7 M8
  have H1 : Hid _ := M1
  have H2 : Hid _ := M2
  have H3 : Hid _ := M3
  have H4 : Hid _ := M4
  have H5 : Hid _ := M5
  have H6 : Hid _ := M6
  have H7 : Hid _ := M7
  have H8 : Hid _ := M8
  have hv1 : ((((check.mulN a (check.mulN b c) : Nat) : Int)) == ((check.mulN a (check.mulN b c) : Nat) : Int)) = true := by simp
  have hv2 : (((a : Nat) : Int) == ((a : Nat) : Int)) = true := by simp
  clear M1 M2 M3 M4 M5 M6 M7 M8 mm hab hbc hi ha hb hc w0 w1 w2
  generalize ((check.mulN a (check.mulN b c) : Nat) : Int) = p1 at *
  generalize ((check.mulN a b : Nat) : Int) = p2 at *
  generalize ((check.mulN b c : Nat) : Int) = p3 at *
  generalize ((check.invN a : Nat) : Int) = p4 at *
  generalize ((a : Nat) : Int) = x at *
  generalize ((b : Nat) : Int) = y at *
  generalize ((c : Nat) : Int) = z at *
  go_enter Try.func6, Try.ntmps6
  go_wp2_with fail
  refine (HP0.out _).mono ?_
  rintro e w1 ⟨rfl, rfl⟩
  go_wp2_with fail
  refine (HP1.out _).mono ?_
  rintro e w1 ⟨rfl, rfl⟩
  go_wp2_with fail
  refine (HP2.out _).mono ?_
  rintro e w1 ⟨rfl, rfl⟩
  go_wp2_with fail
  refine (H1.out _).mono ?_
  rintro e w1 ⟨rfl, rfl⟩
  go_wp2_with fail
  refine (H2.out _).mono ?_
  rintro e w1 ⟨rfl, rfl⟩
  go_wp2_with fail
  refine (H3.out _).mono ?_
  rintro e w1 ⟨rfl, rfl⟩
  go_wp2_with fail
  refine (H4.out _).mono ?_
  rintro e w1 ⟨rfl, rfl⟩
  go_wp2_with fail
  refine (H5.out _).mono ?_
  rintro e w1 ⟨rfl, rfl⟩
  go_wp2_with fail
  refine (H6.out _).mono ?_
  rintro e w1 ⟨rfl, rfl⟩
  go_wp2_with fail
  refine (H7.out _).mono ?_
  rintro e w1 ⟨rfl, rfl⟩
  go_wp2_with fail
  refine (H8.out _).mono ?_
  rintro e w1 ⟨rfl, rfl⟩
  go_wp2_with fail
  go_ret
  exact ⟨rfl, Below.refl _ _⟩

set_option maxRecDepth 100000 in
theorem lifted (os : Os) (started : os.Started) (H : Type) (enc : TypeId × Value → H) :
    ReturnsInHanded {} Try.checked os 6 .any (Rows.checkGroupSpec.pre6 enc Try.prog Try.f6 Rows.checkGroupRow.domain false) (Rows.checkGroupSpec.post enc Try.prog Try.f6 false true false false) := by
  refine returnsInHanded_of_change (C := Try.checked) own started (by kernel_rfl) Try.func6
    (ChangeSpec.witness6 (enc := enc) (C := Try.checked) false ⟨#[], #[.int .i64 0, .int .i64 0, .int .i64 0], []⟩ 8 (by kernel_rfl) (by kernel_rfl) (by kernel_rfl) (by kernel_rfl)) ?_
  intro W base args ds gs before hval0 hW hcnd _
  have hval : ∀ (j : Nat) t v, Try.f6.params[j]? = some t → args[j]? = some v → Value.okWide Try.prog W .any base t v := hval0
  have hW' := hW
  obtain ⟨p, q, hA0, hV, rfl, hfz, hnd⟩ := hW
  have hA : DataW.TrodAll enc Try.prog W 0 (fun _ => true) true Try.f6.params.toList args.toList ds p := hA0
  rw [Try.params6] at hA hval
  obtain ⟨v0, vs0, d0, ds0, p0, q0, hargs, rfl, rfl, h0, r0⟩ := trodAll_cons hA
  obtain ⟨v1, vs1, d1, ds1, p1, q1, rfl, rfl, rfl, h1, r1⟩ := trodAll_cons r0
  obtain ⟨v2, vs2, d2, ds2, p2, q2, rfl, rfl, rfl, h2, r2⟩ := trodAll_cons r1
  obtain ⟨rfl, rfl, rfl⟩ := trodAll_nil r2
  obtain rfl : args = #[v0, v1, v2] := by cases args; simp_all
  obtain ⟨rfl, rfl⟩ := trodVars_none hV
  obtain ⟨a0, rfl, rfl, rfl, w0⟩ := open_int Try.underlying3 (hval 0 3 v0 rfl rfl) h0
  obtain ⟨a1, rfl, rfl, rfl, w1⟩ := open_int Try.underlying3 (hval 1 3 v1 rfl rfl) h1
  obtain ⟨a2, rfl, rfl, rfl, w2⟩ := open_int Try.underlying3 (hval 2 3 v2 rfl rfl) h2
  clear hA0 hval0
  simp only [List.append_nil] at hW'
  refine (walk a0 a1 a2 w0 w1 w2 W).mono fun e W' ⟨he, hg⟩ => ?_
  subst he
  exact ⟨_, rfl, _, _, _, [], [], [], hW', (trodAll_cons_mk (shut_bool Try.underlying4 _) trodAll_mk0), (trodAll_cons_mk (shut_int Try.underlying3 w0) (trodAll_cons_mk (shut_int Try.underlying3 w1) (trodAll_cons_mk (shut_int Try.underlying3 w2) trodAll_mk0))), rfl, hg.frame _, fun h => by cases h⟩

theorem over : Rows.checkGroupRow.holds Try.pinned (OpenSpec.ofChange Rows.checkGroupSpec) :=
  OpenClaim.holds_of_wide 6 Try.f6 rfl rfl rfl rfl rfl rfl rfl ⟨rfl, rfl, rfl, rfl, rfl⟩ rfl rfl rfl rfl rfl (by kernel_rfl) Try.func6 (by kernel_rfl)
    (of_decide_eq_true (by kernel_rfl)) (by unfold Func.isWrapper; first | (rw [if_pos (by decide +kernel)]; kernel_rfl) | (rw [if_neg (by decide +kernel)]; exact ⟨rfl, rfl⟩))
    (fun os started H enc _ => lifted os started H enc)

theorem proved : Rows.CheckGroupSaid :=
  over
end Go.Proofs.Ytopbiamlmdpphab.checkGroup
namespace Go.Proofs.Ytopbiamlmdpphab
theorem checkGroup_holds : Rows.CheckGroupSaid := checkGroup.proved
#print axioms checkGroup_holds
end Go.Proofs.Ytopbiamlmdpphab
