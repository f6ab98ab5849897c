/- vendmeterkeep.TimesTurns returns true for every wide number and every two words: it does not matter by which of them words.Times multiplies first. No condition. -/
import Derived.Test.YtipihacnkiijaacEq3
import Derived.Test.YtipihacnkiijaacRows
import Derived.WalkKit
import Derived.ProofKit
import Derived.OpenShut
import Derived.Below
import Derived.ShutString
namespace Go.Proofs.Ytipihacnkiijaac.timesTurns
open Go.ChangeShapes Go.WideShapes Go.ChangeAt Go.RowKit
open Go.ChangeMaps (open_string shut_string)
set_option linter.unusedVariables false

theorem own : ownKnob Try.prog.godebug = none := by kernel_rfl

theorem walk (x0 y0 z0 : Int) (a1 : Int) (a2 : Int) (w0 : (Lit.int .u32 x0).wf = true ∧ (Lit.int .u32 y0).wf = true ∧ (Lit.int .u32 z0).wf = true) (w1 : (Lit.int .u32 a1).wf = true) (w2 : (Lit.int .u32 a2).wf = true) (w : World) :
    Calls Try.prog 5 #[.agg #[.int .u32 x0, .int .u32 y0, .int .u32 z0], .int .u32 a1, .int .u32 a2] w fun e w' => e = .returned (.bool true) ∧ Below w.heap.size w w' := by
  have hx := words.ok_wf w0
  have ha := words.u32_bd w1
  have hb := words.u32_bd w2
  clear w0 w1 w2
  have HT : Hid (words.timesW (words.timesW ⟨x0, y0, z0⟩ a1) a2 = words.timesW (words.timesW ⟨x0, y0, z0⟩ a2) a1) := words.times_turns ⟨x0, y0, z0⟩ a1 a2
  have HO : Hid (words.timesW ⟨x0, y0, z0⟩ 1 = ⟨x0, y0, z0⟩ ∧ words.timesO ⟨x0, y0, z0⟩ 1 = 0) := words.times_one hx
  go_enter Try.func5, Try.ntmps5
  go_wp2_with fail
  refine (words.times_any ⟨x0, y0, z0⟩ a1 _ hx ha.1 ha.2).mono ?_
  rintro e w1 ⟨rfl, hb1⟩
  have T0 := (words.trio_new w (.int .u32 x0) (.int .u32 y0) (.int .u32 z0)).below hb1
  have B1 : Below w.heap.size w w1 := ((Below.refl _ w).alloc (Nat.le_refl _) _).trans (hb1.mono (by simp))
  have hok1 : (words.timesW ⟨x0, y0, z0⟩ a1).ok := words.carry3_ok _ _ _
  clear hb1
  generalize words.timesW ⟨x0, y0, z0⟩ a1 = X1 at *
  generalize words.timesO ⟨x0, y0, z0⟩ a1 = O1 at *
  have HT0 : Hid (words.Wat (w1.alloc (.cells #[.int .u32 X1.a, .int .u32 X1.b, .int .u32 X1.c] 24)) w.heap.size ⟨x0, y0, z0⟩) := T0.alloc _
  have HB1 : Hid (Below w.heap.size w (w1.alloc (.cells #[.int .u32 X1.a, .int .u32 X1.b, .int .u32 X1.c] 24))) := B1.alloc B1.size _
  have HX1 : Hid (words.Wat (w1.alloc (.cells #[.int .u32 X1.a, .int .u32 X1.b, .int .u32 X1.c] 24)) w1.heap.size X1) := words.trio_new _ _ _ _
  have n1 := B1.size
  have n0 := T0.lt
  clear T0 B1
  go_wp2_with fail
  refine (words.times_any X1 a2 _ hok1 hb.1 hb.2).mono ?_
  rintro e w2 ⟨rfl, hb2⟩
  have T0 := HT0.out.below hb2
  have TX := HX1.out.below hb2
  have B2 := HB1.out.trans (hb2.mono HB1.out.size)
  clear hb2 HT0 HX1 HB1
  generalize words.timesW X1 a2 = X2 at *
  generalize words.timesO X1 a2 = O2 at *
  have c0 := TX.c0
  have c1 := TX.c1
  have c2 := TX.c2
  have f0 := TX.free 0
  have f1 := TX.free 1
  have f2 := TX.free 2
  have TX' := TX.put (.int .u32 X2.a) (.int .u32 X2.b) (.int .u32 X2.c)
  have T0' := T0.putOther (G' := w1.heap.size) (by omega) (.int .u32 X2.a) (.int .u32 X2.b) (.int .u32 X2.c)
  have d0 := T0'.c0
  have d1 := T0'.c1
  have d2 := T0'.c2
  have HX : Hid (words.Wat (words.put3 w2 w1.heap.size (.int .u32 X2.a) (.int .u32 X2.b) (.int .u32 X2.c)) w1.heap.size X2) := TX'
  have HT0 : Hid (words.Wat (words.put3 w2 w1.heap.size (.int .u32 X2.a) (.int .u32 X2.b) (.int .u32 X2.c)) w.heap.size ⟨x0, y0, z0⟩) := T0'
  have HB2 : Hid (Below w.heap.size w (words.put3 w2 w1.heap.size (.int .u32 X2.a) (.int .u32 X2.b) (.int .u32 X2.c))) := words.below_put3 B2 _ _ _ _ (by omega)
  clear T0 TX TX' T0' B2
  go_wp2_with fail
  refine (words.times_any ⟨x0, y0, z0⟩ a2 _ hx hb.1 hb.2).mono ?_
  rintro e w3 ⟨rfl, hb3⟩
  have T0 := HT0.out.below hb3
  have TX := HX.out.below hb3
  have B3 := HB2.out.trans (hb3.mono HB2.out.size)
  have hok3 : (words.timesW ⟨x0, y0, z0⟩ a2).ok := words.carry3_ok _ _ _
  clear hb3 HT0 HX HB2 c0 c1 c2 f0 f1 f2 d0 d1 d2
  generalize words.timesW ⟨x0, y0, z0⟩ a2 = Y1 at *
  generalize words.timesO ⟨x0, y0, z0⟩ a2 = O3 at *
  have HT0 : Hid (words.Wat (w3.alloc (.cells #[.int .u32 Y1.a, .int .u32 Y1.b, .int .u32 Y1.c] 24)) w.heap.size ⟨x0, y0, z0⟩) := T0.alloc _
  have HX : Hid (words.Wat (w3.alloc (.cells #[.int .u32 Y1.a, .int .u32 Y1.b, .int .u32 Y1.c] 24)) w1.heap.size X2) := TX.alloc _
  have HY : Hid (words.Wat (w3.alloc (.cells #[.int .u32 Y1.a, .int .u32 Y1.b, .int .u32 Y1.c] 24)) w3.heap.size Y1) := words.trio_new _ _ _ _
  have HB3 : Hid (Below w.heap.size w (w3.alloc (.cells #[.int .u32 Y1.a, .int .u32 Y1.b, .int .u32 Y1.c] 24))) := B3.alloc B3.size _
  have n3 := B3.size
  have n30 := T0.lt
  have n31 := TX.lt
  clear T0 TX B3
  go_wp2_with fail
  refine (words.times_any Y1 a1 _ hok3 ha.1 ha.2).mono ?_
  rintro e w4 ⟨rfl, hb4⟩
  have T0 := HT0.out.below hb4
  have TX := HX.out.below hb4
  have TY := HY.out.below hb4
  have B4 := HB3.out.trans (hb4.mono HB3.out.size)
  clear hb4 HT0 HX HY HB3
  generalize words.timesW Y1 a1 = Y2 at *
  generalize words.timesO Y1 a1 = O4 at *
  have c0 := TY.c0
  have c1 := TY.c1
  have c2 := TY.c2
  have f0 := TY.free 0
  have f1 := TY.free 1
  have f2 := TY.free 2
  have TY' := TY.put (.int .u32 Y2.a) (.int .u32 Y2.b) (.int .u32 Y2.c)
  have T0' := T0.putOther (G' := w3.heap.size) (by omega) (.int .u32 Y2.a) (.int .u32 Y2.b) (.int .u32 Y2.c)
  have TX' := TX.putOther (G' := w3.heap.size) (by omega) (.int .u32 Y2.a) (.int .u32 Y2.b) (.int .u32 Y2.c)
  have d0 := T0'.c0
  have d1 := T0'.c1
  have d2 := T0'.c2
  have HY : Hid (words.Wat (words.put3 w4 w3.heap.size (.int .u32 Y2.a) (.int .u32 Y2.b) (.int .u32 Y2.c)) w3.heap.size Y2) := TY'
  have HX : Hid (words.Wat (words.put3 w4 w3.heap.size (.int .u32 Y2.a) (.int .u32 Y2.b) (.int .u32 Y2.c)) w1.heap.size X2) := TX'
  have HT0 : Hid (words.Wat (words.put3 w4 w3.heap.size (.int .u32 Y2.a) (.int .u32 Y2.b) (.int .u32 Y2.c)) w.heap.size ⟨x0, y0, z0⟩) := T0'
  have HB4 : Hid (Below w.heap.size w (words.put3 w4 w3.heap.size (.int .u32 Y2.a) (.int .u32 Y2.b) (.int .u32 Y2.c))) := words.below_put3 B4 _ _ _ _ (by omega)
  clear T0 TX TY TX' TY' T0' B4
  go_wp2_with fail
  refine (words.times_any ⟨x0, y0, z0⟩ 1 _ hx (by omega) (by omega)).mono ?_
  rintro e w5 ⟨rfl, hb5⟩
  rw [HO.out.1, HO.out.2]
  have T0 := (HT0.out.below hb5).alloc (.cells #[.int .u32 x0, .int .u32 y0, .int .u32 z0] 24)
  have TX := (HX.out.below hb5).alloc (.cells #[.int .u32 x0, .int .u32 y0, .int .u32 z0] 24)
  have TY := (HY.out.below hb5).alloc (.cells #[.int .u32 x0, .int .u32 y0, .int .u32 z0] 24)
  have B5 := HB4.out.trans (hb5.mono HB4.out.size)
  have HB5 : Hid (Below w.heap.size w (w5.alloc (.cells #[.int .u32 x0, .int .u32 y0, .int .u32 z0] 24))) := B5.alloc B5.size _
  clear hb5 HT0 HX HY HB4 c0 c1 c2 f0 f1 f2 d0 d1 d2 B5
  rw [HT.out] at TX
  have c0 := T0.c0
  have c1 := T0.c1
  have c2 := T0.c2
  have d0 := TX.c0
  have d1 := TX.c1
  have d2 := TX.c2
  have e0 := TY.c0
  have e1 := TY.c1
  have e2 := TY.c2
  clear T0 TX TY
  have q1 : ∀ wx, (Op.equalIn 10000 24 (.agg #[.int .u32 Y2.a, .int .u32 Y2.b, .int .u32 Y2.c]) (.agg #[.int .u32 Y2.a, .int .u32 Y2.b, .int .u32 Y2.c])).run Try.prog wx = .ok true wx := fun wx => words.eq3_same Y2 wx
  have q2 : ∀ wx, (Op.equalIn 10000 24 (.agg #[.int .u32 x0, .int .u32 y0, .int .u32 z0]) (.agg #[.int .u32 x0, .int .u32 y0, .int .u32 z0])).run Try.prog wx = .ok true wx := fun wx => words.eq3_same ⟨x0, y0, z0⟩ wx
  go_wp2_with fail
  go_ret
  exact ⟨rfl, HB5.out⟩

set_option maxRecDepth 100000 in
theorem lifted (os : Os) (started : os.Started) (H : Type) (enc : TypeId × Value → H) :
    ReturnsInHanded {} Try.checked os 5 .any (Rows.timesTurnsSpec.pre6 enc Try.prog Try.f5 Rows.timesTurnsRow.domain false) (Rows.timesTurnsSpec.post enc Try.prog Try.f5 false true false false) := by
  refine returnsInHanded_of_change (C := Try.checked) own started (by kernel_rfl) Try.func5
    (ChangeSpec.witness6 (enc := enc) (C := Try.checked) false ⟨#[], #[.agg #[.int .u32 0, .int .u32 0, .int .u32 0], .int .u32 0, .int .u32 0], []⟩ 8 (by kernel_rfl) (by kernel_rfl) (by kernel_rfl) (by kernel_rfl)) ?_
  intro W base args ds gs before hval0 hW hcnd _
  have hval : ∀ (j : Nat) t v, Try.f5.params[j]? = some t → args[j]? = some v → Value.okWide Try.prog W .any base t v := hval0
  have hW' := hW
  obtain ⟨p, q, hA0, hV, rfl, hfz, hnd⟩ := hW
  have hA : DataW.TrodAll enc Try.prog W 0 (fun _ => true) true Try.f5.params.toList args.toList ds p := hA0
  rw [Try.params5] at hA hval
  obtain ⟨v0, vs0, d0, ds0, p0, q0, hargs, rfl, rfl, h0, r0⟩ := trodAll_cons hA
  obtain ⟨v1, vs1, d1, ds1, p1, q1, rfl, rfl, rfl, h1, r1⟩ := trodAll_cons r0
  obtain ⟨v2, vs2, d2, ds2, p2, q2, rfl, rfl, rfl, h2, r2⟩ := trodAll_cons r1
  obtain ⟨rfl, rfl, rfl⟩ := trodAll_nil r2
  obtain rfl : args = #[v0, v1, v2] := by cases args; simp_all
  obtain ⟨rfl, rfl⟩ := trodVars_none hV
  obtain ⟨x0, y0, z0, rfl, rfl, rfl, w0⟩ := words.open_wide (hval 0 24 v0 rfl rfl) h0
  obtain ⟨a1, rfl, rfl, rfl, w1⟩ := open_int Try.underlying22 (hval 1 22 v1 rfl rfl) h1
  obtain ⟨a2, rfl, rfl, rfl, w2⟩ := open_int Try.underlying22 (hval 2 22 v2 rfl rfl) h2
  clear hA0 hval0
  simp only [List.append_nil] at hW'
  refine (walk x0 y0 z0 a1 a2 w0 w1 w2 W).mono fun e W' ⟨he, hg⟩ => ?_
  subst he
  exact ⟨_, rfl, _, _, _, [], [], [], hW', (trodAll_cons_mk (shut_bool Try.underlying4 _) trodAll_mk0), (trodAll_cons_mk (words.shut_wide w0) (trodAll_cons_mk (shut_int Try.underlying22 w1) (trodAll_cons_mk (shut_int Try.underlying22 w2) trodAll_mk0))), rfl, hg.frame _, fun h => by cases h⟩

theorem over : Rows.timesTurnsRow.holds Try.pinned (OpenSpec.ofChange Rows.timesTurnsSpec) :=
  OpenClaim.holds_of_wide 5 Try.f5 rfl rfl rfl rfl rfl rfl rfl ⟨rfl, rfl, rfl, rfl, rfl⟩ rfl rfl rfl rfl rfl (by kernel_rfl) Try.func5 (by kernel_rfl)
    (of_decide_eq_true (by kernel_rfl)) (by unfold Func.isWrapper; first | (rw [if_pos (by decide +kernel)]; kernel_rfl) | (rw [if_neg (by decide +kernel)]; exact ⟨rfl, rfl⟩))
    (fun os started H enc _ => lifted os started H enc)

end Go.Proofs.Ytipihacnkiijaac.timesTurns
namespace Go.Proofs.Ytipihacnkiijaac
theorem timesTurns_holds : Rows.TimesTurnsSaid := timesTurns.over
#print axioms timesTurns_holds
end Go.Proofs.Ytipihacnkiijaac
