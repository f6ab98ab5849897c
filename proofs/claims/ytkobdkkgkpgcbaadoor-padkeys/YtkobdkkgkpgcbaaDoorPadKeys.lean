/- The keys of a text: the program answers as the document says, at every text. -/
import Derived.Test.YtkobdkkgkpgcbaaDoorCards
import Derived.Test.YtkobdkkgkpgcbaaDoorTie
import Derived.Test.YtkobdkkgkpgcbaaDoorKpOpen
import Derived.Test.YtkobdkkgkpgcbaaDoorKpKTab
import Derived.WalkKit
import Derived.ProofKit
import Derived.OpenShut
import Derived.ShutString
import Derived.ChangeOld
import Derived.Below
import Derived.Deep.DeepHandedRow
import Derived.Lib.LaidTab
namespace Go.Proofs.YtkobdkkgkpgcbaaDoor.padKeys
open Go.ChangeShapes Go.WideShapes Go.ChangeAt Go.RowKit
open Go.ChangeMaps (open_string shut_string)
set_option linter.unusedVariables false

theorem own : ownKnob Tryd.prog.godebug = none := by kernel_rfl
/-- What the row's list gives: the tables. -/
theorem table {W : World} (h : laidMetH Tryd.prog Rows.padKeysRow.laid W) : keypad.KTab W :=
  keypad.ktab_of h

set_option maxHeartbeats 2000000 in
theorem walk (a0 : ByteArray) (w : World) (w0 : a0.size ≤ maxLen) (ht : keypad.KTab w) :
    Calls Tryd.prog 4 #[.string a0] w fun e w' => e = .returned (.bool true) ∧ Below w.heap.size w w' := by
  obtain ⟨q, m, f, hA, hR⟩ : ∃ (q : keypad.Pad) (m : List keypad.Ent) (f : Int),
      Hid (m.length ≤ 1000000 ∧ ∀ W, keypad.KTab W → Calls Tryd.prog 12 #[.string a0] W fun e w' => ∃ v, e = .returned (.tuple #[v, .agg #[.string q.d, .bool q.b], .int .i64 f]) ∧ keypad.Lies w' W.heap.size v m ∧ Below W.heap.size W w') ∧
      Hid (∀ W, keypad.KTab W → Calls Tryd.prog 13 #[.string a0] W fun e w' => ∃ v, e = .returned (.tuple #[v, .agg #[.string q.d, .bool q.b], .int .i64 f]) ∧ keypad.Lies w' W.heap.size v m ∧ Below W.heap.size W w') := by
    by_cases hs : a0.size ≤ 2000
    · refine ⟨keypad.padAll keypad.noPad (keypad.runes a0.data.toList), keypad.entAll keypad.noPad (keypad.runes a0.data.toList), 0, ⟨?_, fun W hW => keypad.keys_any a0 W hs hW.n⟩, fun W hW => keypad.typed_any a0 W hs hW⟩
      have h1 := keypad.entAll_le keypad.noPad (keypad.runes a0.data.toList)
      have h2 := keypad.runes_len a0.data.toList
      rw [check.len_eq] at h2
      omega
    · refine ⟨keypad.noPad, [], 1, ⟨by simp, fun W hW => ?_⟩, fun W hW => ?_⟩
      · exact (keypad.keys_long a0 W (by omega)).mono fun e w' h => ⟨_, h.1, keypad.Lies.zero _ _, h.2⟩
      · exact (keypad.typed_long a0 W (by omega)).mono fun e w' h => ⟨_, h.1, keypad.Lies.zero _ _, h.2⟩
  obtain ⟨d, b⟩ := q
  have HT : Hid (∀ W, Below w.heap.size w W → keypad.KTab W) := fun W hW => ht.below hW
  have hq := keypad.eqP d d b b
  simp only [beq_self_eq_true, Bool.and_self] at hq
  clear ht w0
  go_enter Tryd.func4, Tryd.ntmps4
  go_wp2_with fail
  refine (hA.out.2 _ (HT.out _ (Below.refl _ _))).mono ?_
  rintro e w1 ⟨v1, rfl, hl1, hb1⟩
  have HL1 : Hid (keypad.Lies (w1.alloc (.cells #[.string d, .bool b] 23)) w.heap.size v1 m) := hl1.alloc _
  have HN1 : Hid (Blk (w1.alloc (.cells #[.string d, .bool b] 23)) w1.heap.size #[.string d, .bool b] 23) := Blk.new _ _ _
  have HB1 : Hid (Below w.heap.size w (w1.alloc (.cells #[.string d, .bool b] 23))) := hb1.alloc hb1.size _
  clear hl1 hb1
  go_wp2_with fail
  refine (hR.out _ (HT.out _ HB1.out)).mono ?_
  rintro e w2 ⟨v2, rfl, hl2, hb2⟩
  have hB2 : Below w.heap.size w w2 := bel_step HB1.out hb2
  have hN2 := (HN1.out.next hb2).alloc (.cells #[.string d, .bool b] 23)
  have hM2 := Blk.new w2 #[.string d, .bool b] 23
  have c0 := hN2.cell 0
  have c1 := hN2.cell 1
  have d0 := hM2.cell 0
  have d1 := hM2.cell 1
  have HL2 : Hid (keypad.Lies (w2.alloc (.cells #[.string d, .bool b] 23)) w.heap.size v2 m) := (hl2.alloc _).mono HB1.out.size
  have HL1' : Hid (keypad.Lies (w2.alloc (.cells #[.string d, .bool b] 23)) w.heap.size v1 m) := (HL1.out.next hb2).alloc _
  have HB2 : Hid (Below w.heap.size w (w2.alloc (.cells #[.string d, .bool b] 23))) := hB2.alloc hB2.size _
  clear hB2 hN2 hM2 hl2 hb2 HN1 HB1 HL1 HT
  go_wp2_with fail
  refine (keypad.same_law v1 v2 m _ _ _ HL1'.out HL2.out hA.out.1).mono ?_
  rintro e w3 ⟨rfl, hb3⟩
  have HB3 : Hid (Below w.heap.size w w3) := bel_step HB2.out hb3
  clear hb3
  go_wp2_with fail
  go_ret
  exact ⟨rfl, HB3.out⟩

theorem contract (H : Type) (enc : TypeId × Value → H) (W : World) (base : Nat) (args : Array Value) (ds gs : List (DataW H)) (before : List MemPlace)
    (hval : ∀ (j : Nat) t v, Tryd.f4.params[j]? = some t → args[j]? = some v → Value.okWide Tryd.prog W .any base t v)
    (hW : DataW.Whole enc Tryd.prog Tryd.f4.params.toList Rows.padKeysSpec.vars false W args.toList ds gs before) (hL : laidMetH Tryd.prog Rows.padKeysRow.laid W) :
    Calls Tryd.prog 4 args W fun e W' => ∃ v, e = .returned v ∧ Rows.padKeysSpec.post enc Tryd.prog Tryd.f4 false true false false W args v W' := by
  have hW' := hW
  obtain ⟨p, q, hA0, hV, rfl, hfz, hnd⟩ := hW
  have hA : DataW.TrodAll enc Tryd.prog W 0 (fun _ => true) true Tryd.f4.params.toList args.toList ds p := hA0
  rw [Tryd.params4] at hA hval
  obtain ⟨v0, vs0, d0, ds0, p0, q0, hargs, rfl, rfl, h0, r0⟩ := trodAll_cons hA
  obtain ⟨rfl, rfl, rfl⟩ := trodAll_nil r0
  obtain rfl : args = #[v0] := by cases args; simp_all
  obtain ⟨rfl, rfl⟩ := trodVars_none hV
  obtain ⟨a0, rfl, rfl, rfl, w0⟩ := open_string Tryd.underlying9 (hval 0 9 v0 rfl rfl) h0
  clear hA0
  simp only [List.append_nil] at hW'
  refine (walk a0 W w0 (table hL)).mono fun e W' ⟨he, hg⟩ => ?_
  subst he
  exact ⟨_, rfl, _, _, _, [], [], [], hW', (trodAll_cons_mk (shut_bool Tryd.underlying4 _) trodAll_mk0), (trodAll_cons_mk (shut_string Tryd.underlying9 w0) trodAll_mk0), rfl, hg.frame _, fun h => by cases h⟩

/-- A world for the witness: the settled one, the table holding what the program's text lays. -/
def put (k : IntKind) (l : List Int) : Obj → Obj
  | .cells _ t fr => .cells (l.map fun z => Value.int k z).toArray t fr
  | o => o
def withTabs (w : World) : World := { w with heap := ((w.heap.modify 0 (put .i32 [48, 1632, 1776, 2406, 2534, 65296])).modify 1 (put .u8 Lib.firstTab)).modify 2 (put .u8 keypad.acc) }
theorem laid_met (os : Os) : laidMet Tryd.prog Rows.padKeysRow.laid ((withTabs (World.holding Tryd.prog os ⟨#[], #[], []⟩)).forCall (fun _ _ => 0) ⟨#[], #[.string ByteArray.empty], []⟩).memory :=
  laidMet_of_run' 8 (by kernel_rfl) (by kernel_rfl)
theorem reads (os : Os) {H : Type} (enc : TypeId × Value → H) : ∃ places, DataW.whole enc Tryd.prog ((withTabs (World.holding Tryd.prog os ⟨#[], #[], []⟩)).forCall (fun _ _ => 0) ⟨#[], #[.string ByteArray.empty], []⟩).memory Tryd.f4.params.toList Rows.padKeysSpec.vars false (#[.string ByteArray.empty] : Array Value).toList 8 = some ([.lit (.string [])], [], places) :=
  ⟨[], by kernel_rfl⟩

set_option maxRecDepth 100000 in
theorem lifted (os : Os) (started : os.Started) (H : Type) (enc : TypeId × Value → H) (F : Stop.Interp) :
    ReturnsInHanded {} Tryd.checked os 4 .any ((OpenSpec.ofChange Rows.padKeysSpec).preRow enc Tryd.prog Tryd.f4 Rows.padKeysRow.domain false Rows.padKeysRow.laid) (((OpenSpec.ofChange Rows.padKeysSpec).at F).post enc Tryd.prog Tryd.f4 false true false false) := by
  obtain ⟨places, hx⟩ := reads os enc
  refine returnsInHanded_of_row (C := Tryd.checked) (s := OpenSpec.ofChange Rows.padKeysSpec) own started (by kernel_rfl) Tryd.func4
    (witness_row_at (enc := enc) (C := Tryd.checked) false (withTabs (World.holding Tryd.prog os ⟨#[], #[], []⟩)) #[.string ByteArray.empty] rfl (by kernel_rfl) (by kernel_rfl) (by kernel_rfl)
      (OpenSpec.preRow_of_cond 8 hx (by kernel_rfl) (fun k hk => by cases hk) (by kernel_rfl) (laid_met os))) ?_
  intro W base args ds gs before hval hW _ _ _ hL _ _
  exact contract H enc W base args ds gs before hval hW hL

theorem said : Rows.PadKeysSaid :=
  OpenClaim.holds_of_cond 4 Tryd.f4 rfl rfl rfl rfl rfl rfl rfl ⟨rfl, rfl, rfl, rfl, rfl⟩ rfl rfl rfl rfl rfl (by kernel_rfl) Tryd.func4 (by kernel_rfl)
    (of_decide_eq_true (by kernel_rfl)) (by unfold Func.isWrapper; first | (rw [if_pos (by decide +kernel)]; kernel_rfl) | (rw [if_neg (by decide +kernel)]; exact ⟨rfl, rfl⟩))
    (fun os started H enc _ F => by rw [OpenClaim.pre_eq_preRow]; exact lifted os started H enc F)

theorem plain (f : FuncId) (fn : Func) (hf : Tryd.pinned.checked.prog.funcNamed Rows.padKeysRow.func = some f) (hfn : Tryd.pinned.checked.prog.funcs[f]? = some fn) :
    false = Tryd.pinned.checked.prog.looks [] ∧ ∀ (j : Nat) t, fn.params[j]? = some t → Tryd.pinned.checked.prog.wantsStandIn t = false := by
  obtain rfl : f = 4 := Option.some.inj ((show Tryd.prog.funcNamed Rows.padKeysRow.func = some 4 by kernel_rfl).symm.trans hf) |>.symm
  obtain rfl : fn = Tryd.f4 := (Option.some.inj (Tryd.func4.symm.trans hfn)).symm
  refine ⟨by kernel_rfl, fun j t ht => ?_⟩
  rw [Tryd.params4] at ht
  have hm : t = 9 := by simpa using Array.mem_of_getElem? ht
  rcases hm with rfl
  · exact (show Tryd.prog.wantsStandIn 9 = false by kernel_rfl)

theorem card : Rows.PadKeysCardSaid :=
  Claim7.holds_tied_plain_at .later [] _ _ _ _ said (fun _ h => by cases h) (by kernel_rfl) (fun _ h => by cases h) padKeys_row_tie rfl ⟨rfl, rfl⟩ (by kernel_rfl) rfl plain (by kernel_rfl)
end Go.Proofs.YtkobdkkgkpgcbaaDoor.padKeys
namespace Go.Proofs.YtkobdkkgkpgcbaaDoor
theorem padKeys_holds : Rows.PadKeysCardSaid := padKeys.card
#print axioms padKeys_holds
end Go.Proofs.YtkobdkkgkpgcbaaDoor
