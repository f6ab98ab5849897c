/- words.Put answers what the document says at every wide number and every three numbers: the call returns true whatever it is given. -/
import Derived.Test.YtopbiamlmdpphaaBigPutNo
import Derived.Test.YtopbiamlmdpphaaEq3
import Derived.Test.YtopbiamlmdpphaaRows
import Derived.WalkKit
import Derived.ProofKit
import Derived.OpenShut
import Derived.Below
import Derived.ShutString
namespace Go.Proofs.Ytopbiamlmdpphaa.wordsPuts
open Go.ChangeShapes Go.WideShapes Go.ChangeAt Go.RowKit
open Go.ChangeMaps (open_string shut_string)
set_option linter.unusedVariables false

theorem own : ownKnob Try.prog.godebug = none := by kernel_rfl

theorem walk (x0 y0 z0 : Int) (a1 : Int) (a2 : Int) (a3 : Int) (w0 : (Lit.int .u32 x0).wf = true ∧ (Lit.int .u32 y0).wf = true ∧ (Lit.int .u32 z0).wf = true) (w1 : (Lit.int .i64 a1).wf = true) (w2 : (Lit.int .i64 a2).wf = true) (w3 : (Lit.int .u64 a3).wf = true) (w : World) :
    Calls Try.prog 8 #[.agg #[.int .u32 x0, .int .u32 y0, .int .u32 z0], .int .i64 a1, .int .i64 a2, .int .u64 a3] w fun e w' => e = .returned (.bool true) ∧ Below w.heap.size w w' := by
  obtain ⟨⟨xa, xa'⟩, ⟨xb, xb'⟩, xc, xc'⟩ := words.ok_wf w0
  simp only at xa xa' xb xb' xc xc'
  obtain ⟨a, rfl⟩ := Int.eq_ofNat_of_zero_le xa
  obtain ⟨b, rfl⟩ := Int.eq_ofNat_of_zero_le xb
  obtain ⟨c, rfl⟩ := Int.eq_ofNat_of_zero_le xc
  have hv3 : 0 ≤ a3 ∧ a3 ≤ 18446744073709551615 := bounds_u64 w3
  obtain ⟨v, rfl⟩ := Int.eq_ofNat_of_zero_le hv3.1
  obtain ⟨Y, n, HM0, HC0⟩ := words.put_both a b c v a1 a2 (by omega) (by omega) (by omega) (by omega)
  have HM : Hid (∀ w, Calls Try.prog 19 #[.agg #[.int .u32 (a : Int), .int .u32 (b : Int), .int .u32 (c : Int)], .int .i64 a1, .int .i64 a2, .int .u64 (v : Int)] w fun e w' => words.PutPost w Y n e w') := HM0
  have HC : Hid (∀ w, Calls Try.prog 20 #[.agg #[.int .u32 (a : Int), .int .u32 (b : Int), .int .u32 (c : Int)], .int .i64 a1, .int .i64 a2, .int .u64 (v : Int)] w fun e w' => words.PutPost w Y n e w') := HC0
  clear w0 w1 w2 w3 xa xb xc xa' xb' xc' HM0 HC0 hv3
  have HT0 : Hid (words.Trio (w.alloc (.cells #[.int .u32 (a : Int), .int .u32 (b : Int), .int .u32 (c : Int)] 24)) w.heap.size (.int .u32 (a : Int)) (.int .u32 (b : Int)) (.int .u32 (c : Int))) := words.trio_new _ _ _ _
  have HB0 : Hid (Below w.heap.size w (w.alloc (.cells #[.int .u32 (a : Int), .int .u32 (b : Int), .int .u32 (c : Int)] 24))) := (Below.refl _ w).alloc (Nat.le_refl _) _
  have c0 := HT0.out.c0
  have c1 := HT0.out.c1
  have c2 := HT0.out.c2
  go_enter Try.func8, Try.ntmps8
  go_wp2_with fail
  refine (HM.out _).mono ?_
  rintro e w1 ⟨rfl, hb1⟩
  have T0 := (HT0.out.below hb1).alloc (.cells #[.int .u32 Y.a, .int .u32 Y.b, .int .u32 Y.c] 24)
  have B1 := HB0.out.trans (hb1.mono HB0.out.size)
  have HB1 : Hid (Below w.heap.size w (w1.alloc (.cells #[.int .u32 Y.a, .int .u32 Y.b, .int .u32 Y.c] 24))) := B1.alloc B1.size _
  have HX : Hid (words.Trio (w1.alloc (.cells #[.int .u32 Y.a, .int .u32 Y.b, .int .u32 Y.c] 24)) w1.heap.size (.int .u32 Y.a) (.int .u32 Y.b) (.int .u32 Y.c)) := words.trio_new _ _ _ _
  clear c0 c1 c2 hb1 B1 HT0 HB0 HM
  have c0 := T0.c0
  have c1 := T0.c1
  have c2 := T0.c2
  clear T0
  go_wp2_with fail
  refine (HC.out _).mono ?_
  rintro e w2 ⟨rfl, hb2⟩
  have TX := (HX.out.below hb2).alloc (.cells #[.int .u32 Y.a, .int .u32 Y.b, .int .u32 Y.c] 24)
  have B2 := HB1.out.trans (hb2.mono HB1.out.size)
  have HB2 : Hid (Below w.heap.size w (w2.alloc (.cells #[.int .u32 Y.a, .int .u32 Y.b, .int .u32 Y.c] 24))) := B2.alloc B2.size _
  clear c0 c1 c2 hb2 HB1 HX B2 HC
  have d0 := TX.c0
  have d1 := TX.c1
  have d2 := TX.c2
  clear TX
  have q1 : ∀ wx, (Op.equalIn 10000 24 (.agg #[.int .u32 Y.a, .int .u32 Y.b, .int .u32 Y.c]) (.agg #[.int .u32 Y.a, .int .u32 Y.b, .int .u32 Y.c])).run Try.prog wx = .ok true wx := fun wx => words.eq3_same Y wx
  have q3 : (n == n) = true := by simp
  go_wp2_with fail
  go_ret
  exact ⟨rfl, HB2.out⟩

set_option maxRecDepth 100000 in
theorem lifted (os : Os) (started : os.Started) (H : Type) (enc : TypeId × Value → H) :
    ReturnsInHanded {} Try.checked os 8 .any (Rows.wordsPutsSpec.pre6 enc Try.prog Try.f8 Rows.wordsPutsRow.domain false) (Rows.wordsPutsSpec.post enc Try.prog Try.f8 false true false false) := by
  refine returnsInHanded_of_change (C := Try.checked) own started (by kernel_rfl) Try.func8
    (ChangeSpec.witness6 (enc := enc) (C := Try.checked) false ⟨#[], #[.agg #[.int .u32 0, .int .u32 0, .int .u32 0], .int .i64 0, .int .i64 0, .int .u64 0], []⟩ 8 (by kernel_rfl) (by kernel_rfl) (by kernel_rfl) (by kernel_rfl)) ?_
  intro W base args ds gs before hval0 hW hcnd _
  have hval : ∀ (j : Nat) t v, Try.f8.params[j]? = some t → args[j]? = some v → Value.okWide Try.prog W .any base t v := hval0
  have hW' := hW
  obtain ⟨p, q, hA0, hV, rfl, hfz, hnd⟩ := hW
  have hA : DataW.TrodAll enc Try.prog W 0 (fun _ => true) true Try.f8.params.toList args.toList ds p := hA0
  rw [Try.params8] at hA hval
  obtain ⟨v0, vs0, d0, ds0, p0, q0, hargs, rfl, rfl, h0, r0⟩ := trodAll_cons hA
  obtain ⟨v1, vs1, d1, ds1, p1, q1, rfl, rfl, rfl, h1, r1⟩ := trodAll_cons r0
  obtain ⟨v2, vs2, d2, ds2, p2, q2, rfl, rfl, rfl, h2, r2⟩ := trodAll_cons r1
  obtain ⟨v3, vs3, d3, ds3, p3, q3, rfl, rfl, rfl, h3, r3⟩ := trodAll_cons r2
  obtain ⟨rfl, rfl, rfl⟩ := trodAll_nil r3
  obtain rfl : args = #[v0, v1, v2, v3] := by cases args; simp_all
  obtain ⟨rfl, rfl⟩ := trodVars_none hV
  obtain ⟨x0, y0, z0, rfl, rfl, rfl, w0⟩ := words.open_wide (hval 0 24 v0 rfl rfl) h0
  obtain ⟨a1, rfl, rfl, rfl, w1⟩ := open_int Try.underlying3 (hval 1 3 v1 rfl rfl) h1
  obtain ⟨a2, rfl, rfl, rfl, w2⟩ := open_int Try.underlying3 (hval 2 3 v2 rfl rfl) h2
  obtain ⟨a3, rfl, rfl, rfl, w3⟩ := open_int Try.underlying34 (hval 3 34 v3 rfl rfl) h3
  clear hA0 hval0
  simp only [List.append_nil] at hW'
  refine (walk x0 y0 z0 a1 a2 a3 w0 w1 w2 w3 W).mono fun e W' ⟨he, hg⟩ => ?_
  subst he
  exact ⟨_, rfl, _, _, _, [], [], [], hW', (trodAll_cons_mk (shut_bool Try.underlying4 _) trodAll_mk0), (trodAll_cons_mk (words.shut_wide w0) (trodAll_cons_mk (shut_int Try.underlying3 w1) (trodAll_cons_mk (shut_int Try.underlying3 w2) (trodAll_cons_mk (shut_int Try.underlying34 w3) trodAll_mk0)))), rfl, hg.frame _, fun h => by cases h⟩

theorem over : Rows.wordsPutsRow.holds Try.pinned (OpenSpec.ofChange Rows.wordsPutsSpec) :=
  OpenClaim.holds_of_wide 8 Try.f8 rfl rfl rfl rfl rfl rfl rfl ⟨rfl, rfl, rfl, rfl, rfl⟩ rfl rfl rfl rfl rfl (by kernel_rfl) Try.func8 (by kernel_rfl)
    (of_decide_eq_true (by kernel_rfl)) (by unfold Func.isWrapper; first | (rw [if_pos (by decide +kernel)]; kernel_rfl) | (rw [if_neg (by decide +kernel)]; exact ⟨rfl, rfl⟩))
    (fun os started H enc _ => lifted os started H enc)

end Go.Proofs.Ytopbiamlmdpphaa.wordsPuts
namespace Go.Proofs.Ytopbiamlmdpphaa
theorem wordsPuts_holds : Rows.WordsPutsSaid := wordsPuts.over
#print axioms wordsPuts_holds
end Go.Proofs.Ytopbiamlmdpphaa
