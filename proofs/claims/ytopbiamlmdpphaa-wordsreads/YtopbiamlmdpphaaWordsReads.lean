/- words.Read answers what the document says at every text: the call returns true whatever it is given. -/
import Derived.Test.YtopbiamlmdpphaaBigRead
import Derived.Test.YtopbiamlmdpphaaWReadOk
import Derived.Test.YtopbiamlmdpphaaEq3
import Derived.Test.YtopbiamlmdpphaaRows
import Derived.WalkKit
import Derived.ProofKit
import Derived.OpenShut
import Derived.Below
import Derived.ShutString
namespace Go.Proofs.Ytopbiamlmdpphaa.wordsReads
open Go.ChangeShapes Go.WideShapes Go.ChangeAt Go.RowKit
open Go.ChangeMaps (open_string shut_string)
set_option linter.unusedVariables false

theorem own : ownKnob Try.prog.godebug = none := by kernel_rfl

theorem walk (a0 : ByteArray) (w0 : a0.size ≤ maxLen) (w : World) :
    Calls Try.prog 6 #[.string a0] w fun e w' => e = .returned (.bool true) ∧ Below w.heap.size w w' := by
  obtain ⟨Y, n, HM0, HC0⟩ : ∃ (Y : words.W3) (n : Int), (∀ w, Calls Try.prog 15 #[.string a0] w fun e w' => e = .returned (.tuple #[.agg #[.int .u32 Y.a, .int .u32 Y.b, .int .u32 Y.c], .int .i64 n]) ∧ Below w.heap.size w w') ∧ (∀ w, Calls Try.prog 16 #[.string a0] w fun e w' => e = .returned (.tuple #[.agg #[.int .u32 Y.a, .int .u32 Y.b, .int .u32 Y.c], .int .i64 n]) ∧ Below w.heap.size w w') := by
    by_cases h40 : 40 < a0.size
    · exact ⟨⟨0, 0, 0⟩, 1, fun w => words.read_size a0 w h40, fun w => words.wideRead_size a0 w h40⟩
    · cases hw : words.whole a0.data.toList
      · refine ⟨⟨0, 0, 0⟩, 3, fun w => words.read_form a0 w (by omega) hw, fun w => (words.wideRead_any a0 w (by omega)).mono ?_⟩
        rintro e w' (⟨h, _⟩ | ⟨_, h⟩)
        · rw [hw] at h; cases h
        · exact h
      · by_cases ht : words.dval a0.data.toList < words.top
        · refine ⟨words.ofVal (words.dval a0.data.toList), 0, fun w => (words.read_good a0 w (by omega) hw).mono ?_, fun w => (words.wideRead_any a0 w (by omega)).mono ?_⟩
          · rintro e w' ⟨⟨_, h⟩ | ⟨h, _⟩, hb⟩
            · exact ⟨h, hb⟩
            · exact absurd ht (by omega)
          · rintro e w' (⟨_, ⟨_, h⟩ | ⟨h, _⟩, hb⟩ | ⟨h, _⟩)
            · exact ⟨h, hb⟩
            · exact absurd ht (by omega)
            · rw [hw] at h; cases h
        · refine ⟨⟨0, 0, 0⟩, 2, fun w => (words.read_good a0 w (by omega) hw).mono ?_, fun w => (words.wideRead_any a0 w (by omega)).mono ?_⟩
          · rintro e w' ⟨⟨h, _⟩ | ⟨_, h⟩, hb⟩
            · exact absurd h ht
            · exact ⟨h, hb⟩
          · rintro e w' (⟨_, ⟨h, _⟩ | ⟨_, h⟩, hb⟩ | ⟨h, _⟩)
            · exact absurd h ht
            · exact ⟨h, hb⟩
            · rw [hw] at h; cases h
  have HM : Hid (∀ w, Calls Try.prog 15 #[.string a0] w fun e w' => e = .returned (.tuple #[.agg #[.int .u32 Y.a, .int .u32 Y.b, .int .u32 Y.c], .int .i64 n]) ∧ Below w.heap.size w w') := HM0
  have HC : Hid (∀ w, Calls Try.prog 16 #[.string a0] w fun e w' => e = .returned (.tuple #[.agg #[.int .u32 Y.a, .int .u32 Y.b, .int .u32 Y.c], .int .i64 n]) ∧ Below w.heap.size w w') := HC0
  clear HM0 HC0 w0
  go_enter Try.func6, Try.ntmps6
  go_wp2_with fail
  refine (HM.out _).mono ?_
  rintro e w1 ⟨rfl, hb1⟩
  have HB1 : Hid (Below w.heap.size w (w1.alloc (.cells #[.int .u32 Y.a, .int .u32 Y.b, .int .u32 Y.c] 24))) := hb1.alloc hb1.size _
  have HX : Hid (words.Trio (w1.alloc (.cells #[.int .u32 Y.a, .int .u32 Y.b, .int .u32 Y.c] 24)) w1.heap.size (.int .u32 Y.a) (.int .u32 Y.b) (.int .u32 Y.c)) := words.trio_new _ _ _ _
  clear hb1 HM
  go_wp2_with fail
  refine (HC.out _).mono ?_
  rintro e w2 ⟨rfl, hb2⟩
  have TX := (HX.out.below hb2).alloc (.cells #[.int .u32 Y.a, .int .u32 Y.b, .int .u32 Y.c] 24)
  have B2 := HB1.out.trans (hb2.mono HB1.out.size)
  have HB2 : Hid (Below w.heap.size w (w2.alloc (.cells #[.int .u32 Y.a, .int .u32 Y.b, .int .u32 Y.c] 24))) := B2.alloc B2.size _
  clear hb2 HB1 HX B2 HC
  have d0 := TX.c0
  have d1 := TX.c1
  have d2 := TX.c2
  clear TX
  have q1 : ∀ wx, (Op.equalIn 10000 24 (.agg #[.int .u32 Y.a, .int .u32 Y.b, .int .u32 Y.c]) (.agg #[.int .u32 Y.a, .int .u32 Y.b, .int .u32 Y.c])).run Try.prog wx = .ok true wx := fun wx => words.eq3_same Y wx
  have q3 : (n == n) = true := by simp
  go_wp2_with fail
  go_ret
  exact ⟨rfl, HB2.out⟩

set_option maxRecDepth 100000 in
theorem lifted (os : Os) (started : os.Started) (H : Type) (enc : TypeId × Value → H) :
    ReturnsInHanded {} Try.checked os 6 .any (Rows.wordsReadsSpec.pre6 enc Try.prog Try.f6 Rows.wordsReadsRow.domain false) (Rows.wordsReadsSpec.post enc Try.prog Try.f6 false true false false) := by
  refine returnsInHanded_of_change (C := Try.checked) own started (by kernel_rfl) Try.func6
    (ChangeSpec.witness6 (enc := enc) (C := Try.checked) false ⟨#[], #[.string ByteArray.empty], []⟩ 8 (by kernel_rfl) (by kernel_rfl) (by kernel_rfl) (by kernel_rfl)) ?_
  intro W base args ds gs before hval0 hW hcnd _
  have hval : ∀ (j : Nat) t v, Try.f6.params[j]? = some t → args[j]? = some v → Value.okWide Try.prog W .any base t v := hval0
  have hW' := hW
  obtain ⟨p, q, hA0, hV, rfl, hfz, hnd⟩ := hW
  have hA : DataW.TrodAll enc Try.prog W 0 (fun _ => true) true Try.f6.params.toList args.toList ds p := hA0
  rw [Try.params6] at hA hval
  obtain ⟨v0, vs0, d0, ds0, p0, q0, hargs, rfl, rfl, h0, r0⟩ := trodAll_cons hA
  obtain ⟨rfl, rfl, rfl⟩ := trodAll_nil r0
  obtain rfl : args = #[v0] := by cases args; simp_all
  obtain ⟨rfl, rfl⟩ := trodVars_none hV
  obtain ⟨a0, rfl, rfl, rfl, w0⟩ := open_string Try.underlying9 (hval 0 9 v0 rfl rfl) h0
  clear hA0 hval0
  simp only [List.append_nil] at hW'
  refine (walk a0 w0 W).mono fun e W' ⟨he, hg⟩ => ?_
  subst he
  exact ⟨_, rfl, _, _, _, [], [], [], hW', (trodAll_cons_mk (shut_bool Try.underlying4 _) trodAll_mk0), (trodAll_cons_mk (shut_string Try.underlying9 w0) trodAll_mk0), rfl, hg.frame _, fun h => by cases h⟩

theorem over : Rows.wordsReadsRow.holds Try.pinned (OpenSpec.ofChange Rows.wordsReadsSpec) :=
  OpenClaim.holds_of_wide 6 Try.f6 rfl rfl rfl rfl rfl rfl rfl ⟨rfl, rfl, rfl, rfl, rfl⟩ rfl rfl rfl rfl rfl (by kernel_rfl) Try.func6 (by kernel_rfl)
    (of_decide_eq_true (by kernel_rfl)) (by unfold Func.isWrapper; first | (rw [if_pos (by decide +kernel)]; kernel_rfl) | (rw [if_neg (by decide +kernel)]; exact ⟨rfl, rfl⟩))
    (fun os started H enc _ => lifted os started H enc)

end Go.Proofs.Ytopbiamlmdpphaa.wordsReads
namespace Go.Proofs.Ytopbiamlmdpphaa
theorem wordsReads_holds : Rows.WordsReadsSaid := wordsReads.over
#print axioms wordsReads_holds
end Go.Proofs.Ytopbiamlmdpphaa
