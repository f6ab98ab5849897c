/- vendmeterkeep.OverBack returns true for every wide number and every word: the quotient times the divisor, and what is left, is the number; by 0 it is ErrZero. No condition. -/
import Derived.Test.YtipihacnkiijaacOver
import Derived.Test.YtipihacnkiijaacEq3
import Derived.Test.YtipihacnkiijaacRows
import Derived.WalkKit
import Derived.ProofKit
import Derived.OpenShut
import Derived.Below
import Derived.ShutString
namespace Go.Proofs.Ytipihacnkiijaac.overBack
open Go.ChangeShapes Go.WideShapes Go.ChangeAt Go.RowKit
open Go.ChangeMaps (open_string shut_string)
set_option linter.unusedVariables false

theorem own : ownKnob Try.prog.godebug = none := by kernel_rfl

theorem walk (x0 y0 z0 : Int) (a1 : Int) (w0 : (Lit.int .u32 x0).wf = true ∧ (Lit.int .u32 y0).wf = true ∧ (Lit.int .u32 z0).wf = true) (w1 : (Lit.int .u32 a1).wf = true) (w : World) :
    Calls Try.prog 3 #[.agg #[.int .u32 x0, .int .u32 y0, .int .u32 z0], .int .u32 a1] w fun e w' => e = .returned (.bool true) ∧ Below w.heap.size w w' := by
  have hx := words.ok_wf w0
  have hd := words.u32_bd w1
  clear w0 w1
  by_cases hz : a1 = 0
  · subst hz
    go_enter Try.func3, Try.ntmps3
    go_wp2_with fail
    refine (words.over_zero ⟨x0, y0, z0⟩ _).mono ?_
    rintro e w1 ⟨rfl, hb1⟩
    have B1 : Below w.heap.size w w1 := ((Below.refl _ w).alloc (Nat.le_refl _) _).trans (hb1.mono (by simp))
    have HB : Hid (Below w.heap.size w (w1.alloc (.cells #[.int .u32 0, .int .u32 0, .int .u32 0] 24))) := B1.alloc B1.size _
    clear hb1 B1
    go_wp2_with fail
    go_ret
    exact ⟨rfl, HB.out⟩
  · have hd0 : 0 < a1 := by omega
    have hz0 : (a1 == 0) = false := by simpa using hz
    obtain ⟨k1, k2, k3⟩ := words.over_back hx hd0
    have hl := words.over_left (w := ⟨x0, y0, z0⟩) a1 hd0
    have hok1 := words.over_ok hx hd0
    have hok2 : (words.timesW (words.overW ⟨x0, y0, z0⟩ a1) a1).ok := words.carry3_ok _ _ _
    clear hz
    go_enter Try.func3, Try.ntmps3
    go_wp2_with fail
    refine (words.over_any ⟨x0, y0, z0⟩ a1 _ hx hd0 hd.2).mono ?_
    rintro e w1 ⟨rfl, hb1⟩
    have T0 := (words.trio_new w (.int .u32 x0) (.int .u32 y0) (.int .u32 z0)).below hb1
    have B1 : Below w.heap.size w w1 := ((Below.refl _ w).alloc (Nat.le_refl _) _).trans (hb1.mono (by simp))
    clear hb1
    generalize words.overW ⟨x0, y0, z0⟩ a1 = Q at *
    generalize words.overR ⟨x0, y0, z0⟩ a1 = r at *
    have HT0 : Hid (words.Wat (w1.alloc (.cells #[.int .u32 Q.a, .int .u32 Q.b, .int .u32 Q.c] 24)) w.heap.size ⟨x0, y0, z0⟩) := T0.alloc _
    have HB1 : Hid (Below w.heap.size w (w1.alloc (.cells #[.int .u32 Q.a, .int .u32 Q.b, .int .u32 Q.c] 24))) := B1.alloc B1.size _
    clear T0 B1
    go_wp2_with fail
    refine (words.times_any Q a1 _ hok1 hd.1 hd.2).mono ?_
    rintro e w2 ⟨rfl, hb2⟩
    have T0 := HT0.out.below hb2
    have B2 := HB1.out.trans (hb2.mono HB1.out.size)
    clear hb2 HT0 HB1
    rw [k1]
    generalize words.timesW Q a1 = X at *
    have HT0 : Hid (words.Wat (w2.alloc (.cells #[.int .u32 X.a, .int .u32 X.b, .int .u32 X.c] 24)) w.heap.size ⟨x0, y0, z0⟩) := T0.alloc _
    have HB2 : Hid (Below w.heap.size w (w2.alloc (.cells #[.int .u32 X.a, .int .u32 X.b, .int .u32 X.c] 24))) := B2.alloc B2.size _
    clear T0 B2
    go_wp2_with fail
    refine (words.plus_any X r _ hok2 hl.1 (by omega)).mono ?_
    rintro e w3 ⟨rfl, hb3⟩
    rw [k2, k3]
    have T0 := (HT0.out.below hb3).alloc (.cells #[.int .u32 x0, .int .u32 y0, .int .u32 z0] 24)
    have B3 := HB2.out.trans (hb3.mono HB2.out.size)
    have HB3 : Hid (Below w.heap.size w (w3.alloc (.cells #[.int .u32 x0, .int .u32 y0, .int .u32 z0] 24))) := B3.alloc B3.size _
    have c0 := T0.c0
    have c1 := T0.c1
    have c2 := T0.c2
    have q2 : ∀ wx, (Op.equalIn 10000 24 (.agg #[.int .u32 x0, .int .u32 y0, .int .u32 z0]) (.agg #[.int .u32 x0, .int .u32 y0, .int .u32 z0])).run Try.prog wx = .ok true wx := fun wx => words.eq3_same ⟨x0, y0, z0⟩ wx
    obtain ⟨hl0, hl1⟩ := hl
    clear hb3 T0 B3 HT0 HB2 k1 k2 k3
    go_wp2_with fail
    go_ret
    exact ⟨rfl, HB3.out⟩

set_option maxRecDepth 100000 in
theorem lifted (os : Os) (started : os.Started) (H : Type) (enc : TypeId × Value → H) :
    ReturnsInHanded {} Try.checked os 3 .any (Rows.overBackSpec.pre6 enc Try.prog Try.f3 Rows.overBackRow.domain false) (Rows.overBackSpec.post enc Try.prog Try.f3 false true false false) := by
  refine returnsInHanded_of_change (C := Try.checked) own started (by kernel_rfl) Try.func3
    (ChangeSpec.witness6 (enc := enc) (C := Try.checked) false ⟨#[], #[.agg #[.int .u32 0, .int .u32 0, .int .u32 0], .int .u32 0], []⟩ 8 (by kernel_rfl) (by kernel_rfl) (by kernel_rfl) (by kernel_rfl)) ?_
  intro W base args ds gs before hval0 hW hcnd _
  have hval : ∀ (j : Nat) t v, Try.f3.params[j]? = some t → args[j]? = some v → Value.okWide Try.prog W .any base t v := hval0
  have hW' := hW
  obtain ⟨p, q, hA0, hV, rfl, hfz, hnd⟩ := hW
  have hA : DataW.TrodAll enc Try.prog W 0 (fun _ => true) true Try.f3.params.toList args.toList ds p := hA0
  rw [Try.params3] at hA hval
  obtain ⟨v0, vs0, d0, ds0, p0, q0, hargs, rfl, rfl, h0, r0⟩ := trodAll_cons hA
  obtain ⟨v1, vs1, d1, ds1, p1, q1, rfl, rfl, rfl, h1, r1⟩ := trodAll_cons r0
  obtain ⟨rfl, rfl, rfl⟩ := trodAll_nil r1
  obtain rfl : args = #[v0, v1] := by cases args; simp_all
  obtain ⟨rfl, rfl⟩ := trodVars_none hV
  obtain ⟨x0, y0, z0, rfl, rfl, rfl, w0⟩ := words.open_wide (hval 0 24 v0 rfl rfl) h0
  obtain ⟨a1, rfl, rfl, rfl, w1⟩ := open_int Try.underlying22 (hval 1 22 v1 rfl rfl) h1
  clear hA0 hval0
  simp only [List.append_nil] at hW'
  refine (walk x0 y0 z0 a1 w0 w1 W).mono fun e W' ⟨he, hg⟩ => ?_
  subst he
  exact ⟨_, rfl, _, _, _, [], [], [], hW', (trodAll_cons_mk (shut_bool Try.underlying4 _) trodAll_mk0), (trodAll_cons_mk (words.shut_wide w0) (trodAll_cons_mk (shut_int Try.underlying22 w1) trodAll_mk0)), rfl, hg.frame _, fun h => by cases h⟩

theorem over : Rows.overBackRow.holds Try.pinned (OpenSpec.ofChange Rows.overBackSpec) :=
  OpenClaim.holds_of_wide 3 Try.f3 rfl rfl rfl rfl rfl rfl rfl ⟨rfl, rfl, rfl, rfl, rfl⟩ rfl rfl rfl rfl rfl (by kernel_rfl) Try.func3 (by kernel_rfl)
    (of_decide_eq_true (by kernel_rfl)) (by unfold Func.isWrapper; first | (rw [if_pos (by decide +kernel)]; kernel_rfl) | (rw [if_neg (by decide +kernel)]; exact ⟨rfl, rfl⟩))
    (fun os started H enc _ => lifted os started H enc)

end Go.Proofs.Ytipihacnkiijaac.overBack
namespace Go.Proofs.Ytipihacnkiijaac
theorem overBack_holds : Rows.OverBackSaid := overBack.over
#print axioms overBack_holds
end Go.Proofs.Ytipihacnkiijaac
