/- token.Format answers what the document says: at every token. -/
import Derived.Test.YtmpjmcfgikmgnaaDoorCards
import Derived.Test.YtmpjmcfgikmgnaaDoorTie
import Derived.Test.YtmpjmcfgikmgnaaDoorTkForm
import Derived.Test.YtmpjmcfgikmgnaaDoorTkFormR
import Derived.WalkKit
import Derived.ProofKit
import Derived.OpenShut
import Derived.ShutString
import Derived.ChangeOld
import Derived.Below
import Derived.Deep.DeepHandedRow
import Derived.Test.YtmpjmcfgikmgnaaDoorTkTab
namespace Go.Proofs.YtmpjmcfgikmgnaaDoor.tokenFormats
open Go.ChangeShapes Go.WideShapes Go.ChangeAt Go.RowKit
open Go.ChangeMaps (open_string shut_string)
set_option linter.unusedVariables false
set_option maxRecDepth 100000

theorem own : ownKnob Tryd.prog.godebug = none := by kernel_rfl

/-- What the row's list gives: the tables. -/
theorem table {W : World} (h : laidMetH Tryd.prog Rows.tokenFormatsRow.laid W) : token.TTab W :=
  token.ttab_of (by kernel_rfl) (by kernel_rfl) h

theorem walk (x0 y0 z0 u0 : Int) (w : World) (w0 : token.wf4 x0 y0 z0 u0) (ht : token.TTab w) :
    Calls Tryd.prog 5 #[.agg #[.int .i64 x0, .int .i64 y0, .int .i64 z0, .int .i64 u0]] w fun e w' => e = .returned (.bool true) ∧ Below w.heap.size w w' := by
  have HT : Hid (token.TTab w) := ht
  have hB0 : Below w.heap.size w (w.alloc (.cells #[.int .i64 x0, .int .i64 y0, .int .i64 z0, .int .i64 u0] 23)) := (Below.refl _ _).alloc (Nat.le_refl _) _
  have HB0 : Hid (Below w.heap.size w (w.alloc (.cells #[.int .i64 x0, .int .i64 y0, .int .i64 z0, .int .i64 u0] 23))) := hB0
  have hX0 := Blk.new w #[.int .i64 x0, .int .i64 y0, .int .i64 z0, .int .i64 u0] 23
  have HX0 : Hid (Blk (w.alloc (.cells #[.int .i64 x0, .int .i64 y0, .int .i64 z0, .int .i64 u0] 23)) w.heap.size #[.int .i64 x0, .int .i64 y0, .int .i64 z0, .int .i64 u0] 23) := hX0
  obtain ⟨n, f, hA, hR⟩ : ∃ (n : ByteArray) (f : Int), (∀ W, token.TTab W → Calls Tryd.prog 13 #[.agg #[.int .i64 x0, .int .i64 y0, .int .i64 z0, .int .i64 u0]] W fun e w' => e = .returned (.tuple #[.string n, .int .i64 f]) ∧ Below W.heap.size W w') ∧
      (∀ W, Calls Tryd.prog 14 #[.agg #[.int .i64 x0, .int .i64 y0, .int .i64 z0, .int .i64 u0]] W fun e w' => e = .returned (.tuple #[.string n, .int .i64 f]) ∧ Below W.heap.size W w') := by
    by_cases hf : token.flawT x0 y0 z0 u0 = 0
    · obtain ⟨k, hk, rfl, rfl, rfl, rfl⟩ := token.flaw_ok hf
      exact ⟨_, _, fun W hW => token.format_ok k W hW hk, fun W => token.formatted_ok k W hk⟩
    · exact ⟨_, _, fun W hW => token.format_no _ _ _ _ W hW hf, fun W => token.formatted_no _ _ _ _ W hf⟩
  have HA : Hid (∀ W, token.TTab W → Calls Tryd.prog 13 #[.agg #[.int .i64 x0, .int .i64 y0, .int .i64 z0, .int .i64 u0]] W fun e w' => e = .returned (.tuple #[.string n, .int .i64 f]) ∧ Below W.heap.size W w') := hA
  have HR : Hid (∀ W, Calls Tryd.prog 14 #[.agg #[.int .i64 x0, .int .i64 y0, .int .i64 z0, .int .i64 u0]] W fun e w' => e = .returned (.tuple #[.string n, .int .i64 f]) ∧ Below W.heap.size W w') := hR
  clear hA hR w0 ht hB0 hX0
  go_enter Tryd.func5, Tryd.ntmps5
  go_wp2_with fail
  refine (HA.out _ (HT.out.below HB0.out)).mono ?_
  rintro e w1 ⟨rfl, hb1⟩
  have hX1 := HX0.out.next hb1
  have HB1 : Hid (Below w.heap.size w w1) := bel_step HB0.out hb1
  have c0 := hX1.cell 0
  have c1 := hX1.cell 1
  have c2 := hX1.cell 2
  have c3 := hX1.cell 3
  clear hb1 hX1 HX0 HB0 HA
  go_wp2_with fail
  refine (HR.out _).mono ?_
  rintro e w2 ⟨rfl, hb2⟩
  have HB2 : Hid (Below w.heap.size w w2) := bel_step HB1.out hb2
  clear hb2 HB1 HR c0 c1 c2 c3
  go_wp2_with fail
  go_ret
  exact ⟨by simp, HB2.out⟩

theorem contract (H : Type) (enc : TypeId × Value → H) (W : World) (base : Nat) (args : Array Value) (ds gs : List (DataW H)) (before : List MemPlace)
    (hval : ∀ (j : Nat) t v, Tryd.f5.params[j]? = some t → args[j]? = some v → Value.okWide Tryd.prog W .any base t v)
    (hW : DataW.Whole enc Tryd.prog Tryd.f5.params.toList Rows.tokenFormatsSpec.vars false W args.toList ds gs before) (hL : laidMetH Tryd.prog Rows.tokenFormatsRow.laid W) :
    Calls Tryd.prog 5 args W fun e W' => ∃ v, e = .returned v ∧ Rows.tokenFormatsSpec.post enc Tryd.prog Tryd.f5 false true false false W args v W' := by
  have hW' := hW
  obtain ⟨p, q, hA0, hV, rfl, hfz, hnd⟩ := hW
  have hA : DataW.TrodAll enc Tryd.prog W 0 (fun _ => true) true Tryd.f5.params.toList args.toList ds p := hA0
  rw [Tryd.params5] at hA hval
  obtain ⟨v0, vs0, d0, ds0, p0, q0, hargs, rfl, rfl, h0, r0⟩ := trodAll_cons hA
  obtain ⟨rfl, rfl, rfl⟩ := trodAll_nil r0
  obtain rfl : args = #[v0] := by cases args; simp_all
  obtain ⟨rfl, rfl⟩ := trodVars_none hV
  obtain ⟨x0, y0, z0, u0, rfl, rfl, rfl, w0⟩ := token.open_tok (hval 0 23 v0 rfl rfl) h0
  clear hA0
  simp only [List.append_nil] at hW'
  refine (walk x0 y0 z0 u0 W w0 (table hL)).mono fun e W' ⟨he, hg⟩ => ?_
  subst he
  exact ⟨_, rfl, _, _, _, [], [], [], hW', (trodAll_cons_mk (shut_bool Tryd.underlying4 _) trodAll_mk0), (trodAll_cons_mk (token.shut_tok w0) trodAll_mk0), rfl, hg.frame _, fun h => by cases h⟩

/-- A world for the witness: the settled one, the table holding what the program's text lays. -/
def put (k : IntKind) (l : List Int) : Obj → Obj
  | .cells _ t fr => .cells (l.map fun z => Value.int k z).toArray t fr
  | o => o
def withTabs (w : World) : World := { w with heap := (w.heap.modify 1 (put .i64 [57, 3, 37, 20, 16, 21, 0, 16])).modify 0 (put .i64 [1, 2097151, 0, 0, 1, 15, 0, 0]) }
theorem laid_met (os : Os) : laidMet Tryd.prog Rows.tokenFormatsRow.laid ((withTabs (World.holding Tryd.prog os ⟨#[], #[], []⟩)).forCall (fun _ _ => 0) ⟨#[], #[.agg #[.int .i64 0, .int .i64 0, .int .i64 0, .int .i64 0]], []⟩).memory :=
  laidMet_of_run' 8 (by kernel_rfl) (by kernel_rfl)
theorem reads (os : Os) {H : Type} (enc : TypeId × Value → H) : ∃ places, DataW.whole enc Tryd.prog ((withTabs (World.holding Tryd.prog os ⟨#[], #[], []⟩)).forCall (fun _ _ => 0) ⟨#[], #[.agg #[.int .i64 0, .int .i64 0, .int .i64 0, .int .i64 0]], []⟩).memory Tryd.f5.params.toList Rows.tokenFormatsSpec.vars false (#[.agg #[.int .i64 0, .int .i64 0, .int .i64 0, .int .i64 0]] : Array Value).toList 8 = some ([.agg [.lit (.int .i64 0), .lit (.int .i64 0), .lit (.int .i64 0), .lit (.int .i64 0)]], [], places) :=
  ⟨[], by kernel_rfl⟩

set_option maxRecDepth 100000 in
theorem lifted (os : Os) (started : os.Started) (H : Type) (enc : TypeId × Value → H) (F : Stop.Interp) :
    ReturnsInHanded {} Tryd.checked os 5 .any ((OpenSpec.ofChange Rows.tokenFormatsSpec).preRow enc Tryd.prog Tryd.f5 Rows.tokenFormatsRow.domain false Rows.tokenFormatsRow.laid) (((OpenSpec.ofChange Rows.tokenFormatsSpec).at F).post enc Tryd.prog Tryd.f5 false true false false) := by
  obtain ⟨places, hx⟩ := reads os enc
  refine returnsInHanded_of_row (C := Tryd.checked) (s := OpenSpec.ofChange Rows.tokenFormatsSpec) own started (by kernel_rfl) Tryd.func5
    (witness_row_at (enc := enc) (C := Tryd.checked) false (withTabs (World.holding Tryd.prog os ⟨#[], #[], []⟩)) #[.agg #[.int .i64 0, .int .i64 0, .int .i64 0, .int .i64 0]] rfl (by kernel_rfl) (by kernel_rfl) (by kernel_rfl)
      (OpenSpec.preRow_of_cond 8 hx (by kernel_rfl) (fun k hk => by cases hk) (by kernel_rfl) (laid_met os))) ?_
  intro W base args ds gs before hval hW _ _ _ hL _ _
  exact contract H enc W base args ds gs before hval hW hL

theorem said : Rows.TokenFormatsSaid :=
  OpenClaim.holds_of_cond 5 Tryd.f5 rfl rfl rfl rfl rfl rfl rfl ⟨rfl, rfl, rfl, rfl, rfl⟩ rfl rfl rfl rfl rfl (by kernel_rfl) Tryd.func5 (by kernel_rfl)
    (of_decide_eq_true (by kernel_rfl)) (by unfold Func.isWrapper; first | (rw [if_pos (by decide +kernel)]; kernel_rfl) | (rw [if_neg (by decide +kernel)]; exact ⟨rfl, rfl⟩))
    (fun os started H enc _ F => by rw [OpenClaim.pre_eq_preRow]; exact lifted os started H enc F)

theorem plain (f : FuncId) (fn : Func) (hf : Tryd.pinned.checked.prog.funcNamed Rows.tokenFormatsRow.func = some f) (hfn : Tryd.pinned.checked.prog.funcs[f]? = some fn) :
    false = Tryd.pinned.checked.prog.looks [] ∧ ∀ (j : Nat) t, fn.params[j]? = some t → Tryd.pinned.checked.prog.wantsStandIn t = false := by
  obtain rfl : f = 5 := Option.some.inj ((show Tryd.prog.funcNamed Rows.tokenFormatsRow.func = some 5 by kernel_rfl).symm.trans hf) |>.symm
  obtain rfl : fn = Tryd.f5 := (Option.some.inj (Tryd.func5.symm.trans hfn)).symm
  refine ⟨by kernel_rfl, fun j t ht => ?_⟩
  rw [Tryd.params5] at ht
  have hm : t = 23 := by simpa using Array.mem_of_getElem? ht
  rcases hm with rfl
  · exact (show Tryd.prog.wantsStandIn 23 = false by kernel_rfl)

theorem card : Rows.TokenFormatsCardSaid :=
  Claim7.holds_tied_plain_at .later [] _ _ _ _ said (fun _ h => by cases h) (by kernel_rfl) (fun _ h => by cases h) tokenFormats_row_tie rfl ⟨rfl, rfl⟩ (by kernel_rfl) rfl plain (by kernel_rfl)
end Go.Proofs.YtmpjmcfgikmgnaaDoor.tokenFormats
namespace Go.Proofs.YtmpjmcfgikmgnaaDoor
theorem tokenFormats_holds : Rows.TokenFormatsCardSaid := tokenFormats.card
#print axioms tokenFormats_holds
end Go.Proofs.YtmpjmcfgikmgnaaDoor
