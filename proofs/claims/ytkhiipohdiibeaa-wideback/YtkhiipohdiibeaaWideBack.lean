/- vendmeterkeep.WideBack returns true for every wide number: its digits are read as they were shown, and are no more than 29. No condition. -/
import Derived.Test.YtkhiipohdiibeaaWBack
import Derived.Test.YtkhiipohdiibeaaEq3
import Derived.Test.YtkhiipohdiibeaaRows
import Derived.WalkKit
import Derived.ProofKit
import Derived.OpenShut
import Derived.Below
import Derived.ShutString
namespace Go.Proofs.Ytkhiipohdiibeaa.wideBack
open Go.ChangeShapes Go.WideShapes Go.ChangeAt Go.RowKit
open Go.ChangeMaps (open_string shut_string)
set_option linter.unusedVariables false

theorem own : ownKnob Try.prog.godebug = none := by kernel_rfl

theorem walk (x0 y0 z0 : Int) (w0 : (Lit.int .u32 x0).wf = true ∧ (Lit.int .u32 y0).wf = true ∧ (Lit.int .u32 z0).wf = true) (w : World) :
    Calls Try.prog 5 #[.agg #[.int .u32 x0, .int .u32 y0, .int .u32 z0]] w fun e w' => e = .returned (.bool true) ∧ Below w.heap.size w w' := by
  have hx := words.ok_wf w0
  have hxb := words.W3.bd hx
  obtain ⟨hw1, hw2⟩ := words.whole_dec (words.W3.val ⟨x0, y0, z0⟩).toNat
  have hlen := words.decL_len29 (words.W3.val ⟨x0, y0, z0⟩).toNat (by omega)
  have hsz := words.strOf_size (words.decL (words.W3.val ⟨x0, y0, z0⟩).toNat)
  have HV : Hid (words.dval (words.strOf (words.decL (words.W3.val ⟨x0, y0, z0⟩).toNat)).data.toList = words.W3.val ⟨x0, y0, z0⟩) := by
    have : words.dval (words.strOf (words.decL (words.W3.val ⟨x0, y0, z0⟩).toNat)).data.toList = words.W3.val ⟨x0, y0, z0⟩ := by rw [hw2]; omega
    exact this
  have HB : Hid (words.W3.val ⟨x0, y0, z0⟩ < words.top) := hxb.2
  have HE : Hid (words.ofVal (words.W3.val ⟨x0, y0, z0⟩) = ⟨x0, y0, z0⟩) := words.W3.inj (words.ofVal_ok _) hx (words.ofVal_val hxb.1 hxb.2)
  have s29 : ((words.strOf (words.decL (words.W3.val ⟨x0, y0, z0⟩).toNat)).size : Int) ≤ 29 := by omega
  have s40 : (words.strOf (words.decL (words.W3.val ⟨x0, y0, z0⟩).toNat)).size ≤ 40 := by omega
  clear w0 hw2 hlen hsz hxb
  go_enter Try.func5, Try.ntmps5
  go_wp2_with fail
  refine (words.show_any ⟨x0, y0, z0⟩ _ hx).mono ?_
  rintro e w1 ⟨rfl, hb1⟩
  have T0 := (words.trio_new w (.int .u32 x0) (.int .u32 y0) (.int .u32 z0)).below hb1
  have B1 : Below w.heap.size w w1 := ((Below.refl _ w).alloc (Nat.le_refl _) _).trans (hb1.mono (by simp))
  have HW : Hid (words.whole (words.strOf (words.decL (words.W3.val ⟨x0, y0, z0⟩).toNat)).data.toList = true) := hw1
  clear hb1 hw1
  generalize words.strOf (words.decL (words.W3.val ⟨x0, y0, z0⟩).toNat) = t at *
  have HT0 : Hid (words.Wat w1 w.heap.size ⟨x0, y0, z0⟩) := T0
  have HB1 : Hid (Below w.heap.size w w1) := B1
  clear T0 B1
  go_wp2_with fail
  refine (words.read_good t _ s40 HW.out).mono ?_
  rintro e w2 ⟨hor, hb2⟩
  rw [HV.out, HE.out] at hor
  have he : e = .returned (.tuple #[words.wv ⟨x0, y0, z0⟩, .int .i64 0]) := by
    rcases hor with h | h
    · exact h.2
    · have h1 := h.1
      have h2 := HB.out
      omega
  subst he
  have T0 := (HT0.out.below hb2).alloc (.cells #[.int .u32 x0, .int .u32 y0, .int .u32 z0] 24)
  have B2 := HB1.out.trans (hb2.mono HB1.out.size)
  have HB2 : Hid (Below w.heap.size w (w2.alloc (.cells #[.int .u32 x0, .int .u32 y0, .int .u32 z0] 24))) := B2.alloc B2.size _
  have c0 := T0.c0
  have c1 := T0.c1
  have c2 := T0.c2
  have q2 : ∀ wx, (Op.equalIn 10000 24 (.agg #[.int .u32 x0, .int .u32 y0, .int .u32 z0]) (.agg #[.int .u32 x0, .int .u32 y0, .int .u32 z0])).run Try.prog wx = .ok true wx := fun wx => words.eq3_same ⟨x0, y0, z0⟩ wx
  clear T0 B2 hb2 HT0 HB1 hor HV HB HE HW
  go_wp2_with fail
  go_ret
  exact ⟨rfl, HB2.out⟩

set_option maxRecDepth 100000 in
theorem lifted (os : Os) (started : os.Started) (H : Type) (enc : TypeId × Value → H) :
    ReturnsInHanded {} Try.checked os 5 .any (Rows.wideBackSpec.pre6 enc Try.prog Try.f5 Rows.wideBackRow.domain false) (Rows.wideBackSpec.post enc Try.prog Try.f5 false true false false) := by
  refine returnsInHanded_of_change (C := Try.checked) own started (by kernel_rfl) Try.func5
    (ChangeSpec.witness6 (enc := enc) (C := Try.checked) false ⟨#[], #[.agg #[.int .u32 0, .int .u32 0, .int .u32 0]], []⟩ 8 (by kernel_rfl) (by kernel_rfl) (by kernel_rfl) (by kernel_rfl)) ?_
  intro W base args ds gs before hval0 hW hcnd _
  have hval : ∀ (j : Nat) t v, Try.f5.params[j]? = some t → args[j]? = some v → Value.okWide Try.prog W .any base t v := hval0
  have hW' := hW
  obtain ⟨p, q, hA0, hV, rfl, hfz, hnd⟩ := hW
  have hA : DataW.TrodAll enc Try.prog W 0 (fun _ => true) true Try.f5.params.toList args.toList ds p := hA0
  rw [Try.params5] at hA hval
  obtain ⟨v0, vs0, d0, ds0, p0, q0, hargs, rfl, rfl, h0, r0⟩ := trodAll_cons hA
  obtain ⟨rfl, rfl, rfl⟩ := trodAll_nil r0
  obtain rfl : args = #[v0] := by cases args; simp_all
  obtain ⟨rfl, rfl⟩ := trodVars_none hV
  obtain ⟨x0, y0, z0, rfl, rfl, rfl, w0⟩ := words.open_wide (hval 0 24 v0 rfl rfl) h0
  clear hA0 hval0
  simp only [List.append_nil] at hW'
  refine (walk x0 y0 z0 w0 W).mono fun e W' ⟨he, hg⟩ => ?_
  subst he
  exact ⟨_, rfl, _, _, _, [], [], [], hW', (trodAll_cons_mk (shut_bool Try.underlying4 _) trodAll_mk0), (trodAll_cons_mk (words.shut_wide w0) trodAll_mk0), rfl, hg.frame _, fun h => by cases h⟩

theorem over : Rows.wideBackRow.holds Try.pinned (OpenSpec.ofChange Rows.wideBackSpec) :=
  OpenClaim.holds_of_wide 5 Try.f5 rfl rfl rfl rfl rfl rfl rfl ⟨rfl, rfl, rfl, rfl, rfl⟩ rfl rfl rfl rfl rfl (by kernel_rfl) Try.func5 (by kernel_rfl)
    (of_decide_eq_true (by kernel_rfl)) (by unfold Func.isWrapper; first | (rw [if_pos (by decide +kernel)]; kernel_rfl) | (rw [if_neg (by decide +kernel)]; exact ⟨rfl, rfl⟩))
    (fun os started H enc _ => lifted os started H enc)

end Go.Proofs.Ytkhiipohdiibeaa.wideBack
namespace Go.Proofs.Ytkhiipohdiibeaa
theorem wideBack_holds : Rows.WideBackSaid := wideBack.over
#print axioms wideBack_holds
end Go.Proofs.Ytkhiipohdiibeaa
