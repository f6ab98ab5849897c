/- A key that is pressed: the program answers as the document says. -/
import Derived.Test.YtkobdkkgkpgcbaaDoorCards
import Derived.Test.YtkobdkkgkpgcbaaDoorTie
import Derived.Test.YtkobdkkgkpgcbaaDoorKpOpen
import Derived.Test.YtkobdkkgkpgcbaaDoorKpSame
import Derived.WalkKit
import Derived.ProofKit
import Derived.OpenShut
import Derived.ShutString
import Derived.ChangeOld
import Derived.Below
import Derived.Deep.DeepHandedRow
import Derived.Lib.LaidTab
namespace Go.Proofs.YtkobdkkgkpgcbaaDoor.padPresses
open Go.ChangeShapes Go.WideShapes Go.ChangeAt Go.RowKit
open Go.ChangeMaps (open_string shut_string)
set_option linter.unusedVariables false

theorem own : ownKnob Tryd.prog.godebug = none := by kernel_rfl
theorem gTabType : (Tryd.prog.globals[0]?).map (·.type) = some 56 := by kernel_rfl
theorem cellsTab : Tryd.prog.cellsOf 56 = 6 := by kernel_rfl
theorem cellsInt : Tryd.prog.cellsOf 21 = 1 := by kernel_rfl

/-- What the row's list gives: the table. -/
theorem table {W : World} (h : laidMetH Tryd.prog Rows.padPressesRow.laid W) : keypad.NTab W :=
  keypad.ntab_of (by kernel_rfl) (Lib.tabIs_of_head (g := 0) (rest := []) (by kernel_rfl) gTabType Tryd.underlying56 Tryd.underlying21 cellsInt cellsTab h)

theorem walk (a0 : ByteArray) (b0 : Bool) (a1 : Int) (w : World) (w0 : a0.size ≤ maxLen) (w1 : (Lit.int .i32 a1).wf = true) (ht : keypad.NTab w) :
    Calls Tryd.prog 3 #[.agg #[.string a0, .bool b0], .int .i32 a1] w fun e w' => e = .returned (.bool true) ∧ Below w.heap.size w w' := by
  have hr : -2147483648 ≤ a1 ∧ a1 ≤ 2147483647 := bounds_i32 w1
  obtain ⟨p, hp⟩ : ∃ p : keypad.Pad, p = ⟨a0, b0⟩ := ⟨_, rfl⟩
  obtain ⟨q, m, f, hA, hR⟩ : ∃ (q : keypad.Pad) (m : List keypad.Ent) (f : Int),
      Hid (m.length ≤ 1000000 ∧ ∀ W, keypad.NTab W → Calls Tryd.prog 9 #[.agg #[.string a0, .bool b0], .int .i32 a1] W fun e w' => ∃ v, e = .returned (.tuple #[.agg #[.string q.d, .bool q.b], v, .int .i64 f]) ∧ keypad.Lies w' W.heap.size v m ∧ Below W.heap.size W w') ∧
      Hid (∀ W, Calls Tryd.prog 10 #[.agg #[.string a0, .bool b0], .int .i32 a1] W fun e w' => ∃ v, e = .returned (.tuple #[.agg #[.string q.d, .bool q.b], v, .int .i64 f]) ∧ keypad.Lies w' W.heap.size v m ∧ Below W.heap.size W w') := by
    by_cases hok : p.ok
    · refine ⟨keypad.pad p a1, keypad.ents p a1, 0, ⟨by have := keypad.ents_le p a1; omega, fun W hW => ?_⟩, fun W => ?_⟩
      · have := keypad.press_any p a1 W hok hW
        rw [hp] at this ⊢; exact this
      · have := keypad.rpress_any p a1 W hok hr.1 hr.2
        rw [hp] at this ⊢; exact this
    · refine ⟨keypad.noPad, [], 5, ⟨by simp, fun W hW => ?_⟩, fun W => ?_⟩
      · have := keypad.press_no p a1 W hok
        rw [hp] at this
        exact this.mono fun e w' h => ⟨_, h.1, keypad.Lies.zero _ _, h.2⟩
      · have := keypad.rpress_no p a1 W hok
        rw [hp] at this
        exact this.mono fun e w' h => ⟨_, h.1, keypad.Lies.zero _ _, h.2⟩
  obtain ⟨d, b⟩ := q
  have HT : Hid (keypad.NTab (w.alloc (.cells #[.string a0, .bool b0] 23))) := ht.below (keypad.bel1 _ _)
  have hq := keypad.eqP d d b b
  simp only [beq_self_eq_true, Bool.and_self] at hq
  have HX : Hid (Blk (w.alloc (.cells #[.string a0, .bool b0] 23)) w.heap.size #[.string a0, .bool b0] 23) := Blk.new _ _ _
  have HB0 : Hid (Below w.heap.size w (w.alloc (.cells #[.string a0, .bool b0] 23))) := keypad.bel1 _ _
  clear hp p ht hr w0 w1
  go_enter Tryd.func3, Tryd.ntmps3
  go_wp2_with fail
  refine (hA.out.2 _ HT.out).mono ?_
  rintro e w1 ⟨v1, rfl, hl1, hb1⟩
  have hB1 : Below w.heap.size w w1 := bel_step HB0.out hb1
  have hX1 := (HX.out.next hb1).alloc (.cells #[.string d, .bool b] 23)
  have x0 := hX1.cell 0
  have x1 := hX1.cell 1
  have HL1 : Hid (keypad.Lies (w1.alloc (.cells #[.string d, .bool b] 23)) w.heap.size v1 m) := (hl1.alloc _).mono HB0.out.size
  have HN1 : Hid (Blk (w1.alloc (.cells #[.string d, .bool b] 23)) w1.heap.size #[.string d, .bool b] 23) := Blk.new _ _ _
  have HB1 : Hid (Below w.heap.size w (w1.alloc (.cells #[.string d, .bool b] 23))) := hB1.alloc hB1.size _
  clear hB1 hX1 hl1 hb1 HX HB0 HT
  go_wp2_with fail
  refine (hR.out _).mono ?_
  rintro e w2 ⟨v2, rfl, hl2, hb2⟩
  have hB2 : Below w.heap.size w w2 := bel_step HB1.out hb2
  have hN2 := (HN1.out.next hb2).alloc (.cells #[.string d, .bool b] 23)
  have hM2 := Blk.new w2 #[.string d, .bool b] 23
  have c0 := hN2.cell 0
  have c1 := hN2.cell 1
  have d0 := hM2.cell 0
  have d1 := hM2.cell 1
  have HL2 : Hid (keypad.Lies (w2.alloc (.cells #[.string d, .bool b] 23)) w.heap.size v2 m) := (hl2.alloc _).mono HB1.out.size
  have HL1' : Hid (keypad.Lies (w2.alloc (.cells #[.string d, .bool b] 23)) w.heap.size v1 m) := (HL1.out.next hb2).alloc _
  have HB2 : Hid (Below w.heap.size w (w2.alloc (.cells #[.string d, .bool b] 23))) := hB2.alloc hB2.size _
  clear hB2 hN2 hM2 hl2 hb2 HN1 HB1 HL1 x0 x1
  go_wp2_with fail
  refine (keypad.same_law v1 v2 m _ _ _ HL1'.out HL2.out hA.out.1).mono ?_
  rintro e w3 ⟨rfl, hb3⟩
  have HB3 : Hid (Below w.heap.size w w3) := bel_step HB2.out hb3
  clear hb3
  go_wp2_with fail
  go_ret
  exact ⟨rfl, HB3.out⟩

theorem contract (H : Type) (enc : TypeId × Value → H) (W : World) (base : Nat) (args : Array Value) (ds gs : List (DataW H)) (before : List MemPlace)
    (hval : ∀ (j : Nat) t v, Tryd.f3.params[j]? = some t → args[j]? = some v → Value.okWide Tryd.prog W .any base t v)
    (hW : DataW.Whole enc Tryd.prog Tryd.f3.params.toList Rows.padPressesSpec.vars false W args.toList ds gs before) (hL : laidMetH Tryd.prog Rows.padPressesRow.laid W) :
    Calls Tryd.prog 3 args W fun e W' => ∃ v, e = .returned v ∧ Rows.padPressesSpec.post enc Tryd.prog Tryd.f3 false true false false W args v W' := by
  have hW' := hW
  obtain ⟨p, q, hA0, hV, rfl, hfz, hnd⟩ := hW
  have hA : DataW.TrodAll enc Tryd.prog W 0 (fun _ => true) true Tryd.f3.params.toList args.toList ds p := hA0
  rw [Tryd.params3] at hA hval
  obtain ⟨v0, vs0, d0, ds0, p0, q0, hargs, rfl, rfl, h0, r0⟩ := trodAll_cons hA
  obtain ⟨v1, vs1, d1, ds1, p1, q1, rfl, rfl, rfl, h1, r1⟩ := trodAll_cons r0
  obtain ⟨rfl, rfl, rfl⟩ := trodAll_nil r1
  obtain rfl : args = #[v0, v1] := by cases args; simp_all
  obtain ⟨rfl, rfl⟩ := trodVars_none hV
  obtain ⟨a0, b0, rfl, rfl, rfl, w0⟩ := keypad.open_pad (hval 0 23 v0 rfl rfl) h0
  obtain ⟨a1, rfl, rfl, rfl, w1⟩ := open_int Tryd.underlying21 (hval 1 21 v1 rfl rfl) h1
  clear hA0
  simp only [List.append_nil] at hW'
  refine (walk a0 b0 a1 W w0 w1 (table hL)).mono fun e W' ⟨he, hg⟩ => ?_
  subst he
  exact ⟨_, rfl, _, _, _, [], [], [], hW', (trodAll_cons_mk (shut_bool Tryd.underlying4 _) trodAll_mk0), (trodAll_cons_mk (keypad.shut_pad w0) (trodAll_cons_mk (shut_int Tryd.underlying21 w1) trodAll_mk0)), rfl, hg.frame _, fun h => by cases h⟩

/-- A world for the witness: the settled one, the table holding what the program's text lays. -/
def put (k : IntKind) (l : List Int) : Obj → Obj
  | .cells _ t fr => .cells (l.map fun z => Value.int k z).toArray t fr
  | o => o
def withTabs (w : World) : World := { w with heap := w.heap.modify 0 (put .i32 [48, 1632, 1776, 2406, 2534, 65296]) }
theorem laid_met (os : Os) : laidMet Tryd.prog Rows.padPressesRow.laid ((withTabs (World.holding Tryd.prog os ⟨#[], #[], []⟩)).forCall (fun _ _ => 0) ⟨#[], #[.agg #[.string ByteArray.empty, .bool false], .int .i32 0], []⟩).memory :=
  laidMet_of_run' 8 (by kernel_rfl) (by kernel_rfl)
theorem reads (os : Os) {H : Type} (enc : TypeId × Value → H) : ∃ places, DataW.whole enc Tryd.prog ((withTabs (World.holding Tryd.prog os ⟨#[], #[], []⟩)).forCall (fun _ _ => 0) ⟨#[], #[.agg #[.string ByteArray.empty, .bool false], .int .i32 0], []⟩).memory Tryd.f3.params.toList Rows.padPressesSpec.vars false (#[.agg #[.string ByteArray.empty, .bool false], .int .i32 0] : Array Value).toList 8 = some ([.agg [.lit (.string []), .lit (.bool false)], .lit (.int .i32 0)], [], places) :=
  ⟨[], by kernel_rfl⟩

set_option maxRecDepth 100000 in
theorem lifted (os : Os) (started : os.Started) (H : Type) (enc : TypeId × Value → H) (F : Stop.Interp) :
    ReturnsInHanded {} Tryd.checked os 3 .any ((OpenSpec.ofChange Rows.padPressesSpec).preRow enc Tryd.prog Tryd.f3 Rows.padPressesRow.domain false Rows.padPressesRow.laid) (((OpenSpec.ofChange Rows.padPressesSpec).at F).post enc Tryd.prog Tryd.f3 false true false false) := by
  obtain ⟨places, hx⟩ := reads os enc
  refine returnsInHanded_of_row (C := Tryd.checked) (s := OpenSpec.ofChange Rows.padPressesSpec) own started (by kernel_rfl) Tryd.func3
    (witness_row_at (enc := enc) (C := Tryd.checked) false (withTabs (World.holding Tryd.prog os ⟨#[], #[], []⟩)) #[.agg #[.string ByteArray.empty, .bool false], .int .i32 0] rfl (by kernel_rfl) (by kernel_rfl) (by kernel_rfl)
      (OpenSpec.preRow_of_cond 8 hx (by kernel_rfl) (fun k hk => by cases hk) (by kernel_rfl) (laid_met os))) ?_
  intro W base args ds gs before hval hW _ _ _ hL _ _
  exact contract H enc W base args ds gs before hval hW hL

theorem said : Rows.PadPressesSaid :=
  OpenClaim.holds_of_cond 3 Tryd.f3 rfl rfl rfl rfl rfl rfl rfl ⟨rfl, rfl, rfl, rfl, rfl⟩ rfl rfl rfl rfl rfl (by kernel_rfl) Tryd.func3 (by kernel_rfl)
    (of_decide_eq_true (by kernel_rfl)) (by unfold Func.isWrapper; first | (rw [if_pos (by decide +kernel)]; kernel_rfl) | (rw [if_neg (by decide +kernel)]; exact ⟨rfl, rfl⟩))
    (fun os started H enc _ F => by rw [OpenClaim.pre_eq_preRow]; exact lifted os started H enc F)

theorem plain (f : FuncId) (fn : Func) (hf : Tryd.pinned.checked.prog.funcNamed Rows.padPressesRow.func = some f) (hfn : Tryd.pinned.checked.prog.funcs[f]? = some fn) :
    false = Tryd.pinned.checked.prog.looks [] ∧ ∀ (j : Nat) t, fn.params[j]? = some t → Tryd.pinned.checked.prog.wantsStandIn t = false := by
  obtain rfl : f = 3 := Option.some.inj ((show Tryd.prog.funcNamed Rows.padPressesRow.func = some 3 by kernel_rfl).symm.trans hf) |>.symm
  obtain rfl : fn = Tryd.f3 := (Option.some.inj (Tryd.func3.symm.trans hfn)).symm
  refine ⟨by kernel_rfl, fun j t ht => ?_⟩
  rw [Tryd.params3] at ht
  have hm : t = 23 ∨ t = 21 := by simpa using Array.mem_of_getElem? ht
  rcases hm with rfl | rfl
  · exact (show Tryd.prog.wantsStandIn 23 = false by kernel_rfl)
  · exact (show Tryd.prog.wantsStandIn 21 = false by kernel_rfl)

theorem card : Rows.PadPressesCardSaid :=
  Claim7.holds_tied_plain_at .later [] _ _ _ _ said (fun _ h => by cases h) (by kernel_rfl) (fun _ h => by cases h) padPresses_row_tie rfl ⟨rfl, rfl⟩ (by kernel_rfl) rfl plain (by kernel_rfl)
end Go.Proofs.YtkobdkkgkpgcbaaDoor.padPresses
namespace Go.Proofs.YtkobdkkgkpgcbaaDoor
theorem padPresses_holds : Rows.PadPressesCardSaid := padPresses.card
#print axioms padPresses_holds
end Go.Proofs.YtkobdkkgkpgcbaaDoor
