/- What is parsed is formatted as it was: at every text. -/
import Derived.Test.YtmpjmcfgikmgnaaDoorCards
import Derived.Test.YtmpjmcfgikmgnaaDoorTie
import Derived.Test.YtmpjmcfgikmgnaaDoorTkParse
import Derived.Test.YtmpjmcfgikmgnaaDoorTkForm
import Derived.Test.YtmpjmcfgikmgnaaDoorTkEq
import Derived.WalkKit
import Derived.ProofKit
import Derived.OpenShut
import Derived.ShutString
import Derived.ChangeOld
import Derived.Below
import Derived.Deep.DeepHandedRow
import Derived.Test.YtmpjmcfgikmgnaaDoorTkTab
namespace Go.Proofs.YtmpjmcfgikmgnaaDoor.tokenFixed
open Go.ChangeShapes Go.WideShapes Go.ChangeAt Go.RowKit
open Go.ChangeMaps (open_string shut_string)
set_option linter.unusedVariables false
set_option maxRecDepth 100000

theorem own : ownKnob Tryd.prog.godebug = none := by kernel_rfl

/-- What the row's list gives: the tables. -/
theorem table {W : World} (h : laidMetH Tryd.prog Rows.tokenFixedRow.laid W) : token.TTab W :=
  token.ttab_of (by kernel_rfl) (by kernel_rfl) h

theorem walk (a0 : ByteArray) (w : World) (w0 : a0.size ≤ maxLen) (ht : token.TTab w) :
    Calls Tryd.prog 8 #[.string a0] w fun e w' => e = .returned (.bool true) ∧ Below w.heap.size w w' := by
  have HT : Hid (token.TTab w) := ht
  by_cases he : token.parseE a0.data.toList = 0
  · obtain ⟨k, hk, hv, hf⟩ := token.fmt_parse he
    have HP : Hid (Calls Tryd.prog 15 #[.string a0] w fun e w' => e = .returned (.tuple #[.agg #[.int .i64 (k.c : Int), .int .i64 (k.i : Int), .int .i64 (k.a : Int), .int .i64 (k.t : Int)], .int .i64 0]) ∧ Below w.heap.size w w') := by
      have := token.parse_any a0 w ht
      rwa [he, hv] at this
    have HF : Hid (∀ W, token.TTab W → Calls Tryd.prog 13 #[.agg #[.int .i64 (k.c : Int), .int .i64 (k.i : Int), .int .i64 (k.a : Int), .int .i64 (k.t : Int)]] W fun e w' => e = .returned (.tuple #[.string a0, .int .i64 0]) ∧ Below W.heap.size W w') := fun W hW => by
      have := token.format_ok k W hW hk
      rwa [token.bytes_ext (a := token.fmtB (97 * k.num)) (b := a0) (by rw [token.fmtB_list]; exact hf)] at this
    clear he hv hf hk w0 ht
    go_enter Tryd.func8, Tryd.ntmps8
    go_wp2_with fail
    refine HP.out.mono ?_
    rintro e w1 ⟨rfl, hb1⟩
    have hN := Blk.new w1 #[.int .i64 (k.c : Int), .int .i64 (k.i : Int), .int .i64 (k.a : Int), .int .i64 (k.t : Int)] 23
    have HB1 : Hid (Below w.heap.size w (w1.alloc (.cells #[.int .i64 (k.c : Int), .int .i64 (k.i : Int), .int .i64 (k.a : Int), .int .i64 (k.t : Int)] 23))) := hb1.alloc hb1.size _
    have HT1 : Hid (token.TTab (w1.alloc (.cells #[.int .i64 (k.c : Int), .int .i64 (k.i : Int), .int .i64 (k.a : Int), .int .i64 (k.t : Int)] 23))) := HT.out.below HB1.out
    have c0 := hN.cell 0
    have c1 := hN.cell 1
    have c2 := hN.cell 2
    have c3 := hN.cell 3
    clear hb1 HP hN
    go_wp2_with fail
    refine (HF.out _ HT1.out).mono ?_
    rintro e w2 ⟨rfl, hb2⟩
    have HB2 : Hid (Below w.heap.size w w2) := bel_step HB1.out hb2
    clear hb2 HF HB1 HT1 c0 c1 c2 c3
    go_wp2_with fail
    go_ret
    exact ⟨by simp, HB2.out⟩
  · have HP : Hid (Calls Tryd.prog 15 #[.string a0] w fun e w' => e = .returned (.tuple #[.agg #[.int .i64 0, .int .i64 0, .int .i64 0, .int .i64 0], .int .i64 (token.parseE a0.data.toList)]) ∧ Below w.heap.size w w') := by
      have := token.parse_any a0 w ht
      rwa [token.parse_else he] at this
    have hd : (token.parseE a0.data.toList != 0) = true := by simpa using he
    have hq := token.eq4 0 0 0 0 0 0 0 0
    clear he w0 ht
    generalize token.parseE a0.data.toList = f at *
    go_enter Tryd.func8, Tryd.ntmps8
    go_wp2_with fail
    refine HP.out.mono ?_
    rintro e w1 ⟨rfl, hb1⟩
    have hN := Blk.new w1 #[.int .i64 0, .int .i64 0, .int .i64 0, .int .i64 0] 23
    have HB1 : Hid (Below w.heap.size w (w1.alloc (.cells #[.int .i64 0, .int .i64 0, .int .i64 0, .int .i64 0] 23))) := hb1.alloc hb1.size _
    have c0 := hN.cell 0
    have c1 := hN.cell 1
    have c2 := hN.cell 2
    have c3 := hN.cell 3
    clear hb1 HP hN
    go_wp2_with fail
    go_ret
    exact ⟨by simp, HB1.out⟩

theorem contract (H : Type) (enc : TypeId × Value → H) (W : World) (base : Nat) (args : Array Value) (ds gs : List (DataW H)) (before : List MemPlace)
    (hval : ∀ (j : Nat) t v, Tryd.f8.params[j]? = some t → args[j]? = some v → Value.okWide Tryd.prog W .any base t v)
    (hW : DataW.Whole enc Tryd.prog Tryd.f8.params.toList Rows.tokenFixedSpec.vars false W args.toList ds gs before) (hL : laidMetH Tryd.prog Rows.tokenFixedRow.laid W) :
    Calls Tryd.prog 8 args W fun e W' => ∃ v, e = .returned v ∧ Rows.tokenFixedSpec.post enc Tryd.prog Tryd.f8 false true false false W args v W' := by
  have hW' := hW
  obtain ⟨p, q, hA0, hV, rfl, hfz, hnd⟩ := hW
  have hA : DataW.TrodAll enc Tryd.prog W 0 (fun _ => true) true Tryd.f8.params.toList args.toList ds p := hA0
  rw [Tryd.params8] at hA hval
  obtain ⟨v0, vs0, d0, ds0, p0, q0, hargs, rfl, rfl, h0, r0⟩ := trodAll_cons hA
  obtain ⟨rfl, rfl, rfl⟩ := trodAll_nil r0
  obtain rfl : args = #[v0] := by cases args; simp_all
  obtain ⟨rfl, rfl⟩ := trodVars_none hV
  obtain ⟨a0, rfl, rfl, rfl, w0⟩ := open_string Tryd.underlying9 (hval 0 9 v0 rfl rfl) h0
  clear hA0
  simp only [List.append_nil] at hW'
  refine (walk a0 W w0 (table hL)).mono fun e W' ⟨he, hg⟩ => ?_
  subst he
  exact ⟨_, rfl, _, _, _, [], [], [], hW', (trodAll_cons_mk (shut_bool Tryd.underlying4 _) trodAll_mk0), (trodAll_cons_mk (shut_string Tryd.underlying9 w0) trodAll_mk0), rfl, hg.frame _, fun h => by cases h⟩

/-- A world for the witness: the settled one, the table holding what the program's text lays. -/
def put (k : IntKind) (l : List Int) : Obj → Obj
  | .cells _ t fr => .cells (l.map fun z => Value.int k z).toArray t fr
  | o => o
def withTabs (w : World) : World := { w with heap := (w.heap.modify 1 (put .i64 [57, 3, 37, 20, 16, 21, 0, 16])).modify 0 (put .i64 [1, 2097151, 0, 0, 1, 15, 0, 0]) }
theorem laid_met (os : Os) : laidMet Tryd.prog Rows.tokenFixedRow.laid ((withTabs (World.holding Tryd.prog os ⟨#[], #[], []⟩)).forCall (fun _ _ => 0) ⟨#[], #[.string ByteArray.empty], []⟩).memory :=
  laidMet_of_run' 8 (by kernel_rfl) (by kernel_rfl)
theorem reads (os : Os) {H : Type} (enc : TypeId × Value → H) : ∃ places, DataW.whole enc Tryd.prog ((withTabs (World.holding Tryd.prog os ⟨#[], #[], []⟩)).forCall (fun _ _ => 0) ⟨#[], #[.string ByteArray.empty], []⟩).memory Tryd.f8.params.toList Rows.tokenFixedSpec.vars false (#[.string ByteArray.empty] : Array Value).toList 8 = some ([.lit (.string [])], [], places) :=
  ⟨[], by kernel_rfl⟩

set_option maxRecDepth 100000 in
theorem lifted (os : Os) (started : os.Started) (H : Type) (enc : TypeId × Value → H) (F : Stop.Interp) :
    ReturnsInHanded {} Tryd.checked os 8 .any ((OpenSpec.ofChange Rows.tokenFixedSpec).preRow enc Tryd.prog Tryd.f8 Rows.tokenFixedRow.domain false Rows.tokenFixedRow.laid) (((OpenSpec.ofChange Rows.tokenFixedSpec).at F).post enc Tryd.prog Tryd.f8 false true false false) := by
  obtain ⟨places, hx⟩ := reads os enc
  refine returnsInHanded_of_row (C := Tryd.checked) (s := OpenSpec.ofChange Rows.tokenFixedSpec) own started (by kernel_rfl) Tryd.func8
    (witness_row_at (enc := enc) (C := Tryd.checked) false (withTabs (World.holding Tryd.prog os ⟨#[], #[], []⟩)) #[.string ByteArray.empty] rfl (by kernel_rfl) (by kernel_rfl) (by kernel_rfl)
      (OpenSpec.preRow_of_cond 8 hx (by kernel_rfl) (fun k hk => by cases hk) (by kernel_rfl) (laid_met os))) ?_
  intro W base args ds gs before hval hW _ _ _ hL _ _
  exact contract H enc W base args ds gs before hval hW hL

theorem said : Rows.TokenFixedSaid :=
  OpenClaim.holds_of_cond 8 Tryd.f8 rfl rfl rfl rfl rfl rfl rfl ⟨rfl, rfl, rfl, rfl, rfl⟩ rfl rfl rfl rfl rfl (by kernel_rfl) Tryd.func8 (by kernel_rfl)
    (of_decide_eq_true (by kernel_rfl)) (by unfold Func.isWrapper; first | (rw [if_pos (by decide +kernel)]; kernel_rfl) | (rw [if_neg (by decide +kernel)]; exact ⟨rfl, rfl⟩))
    (fun os started H enc _ F => by rw [OpenClaim.pre_eq_preRow]; exact lifted os started H enc F)

theorem plain (f : FuncId) (fn : Func) (hf : Tryd.pinned.checked.prog.funcNamed Rows.tokenFixedRow.func = some f) (hfn : Tryd.pinned.checked.prog.funcs[f]? = some fn) :
    false = Tryd.pinned.checked.prog.looks [] ∧ ∀ (j : Nat) t, fn.params[j]? = some t → Tryd.pinned.checked.prog.wantsStandIn t = false := by
  obtain rfl : f = 8 := Option.some.inj ((show Tryd.prog.funcNamed Rows.tokenFixedRow.func = some 8 by kernel_rfl).symm.trans hf) |>.symm
  obtain rfl : fn = Tryd.f8 := (Option.some.inj (Tryd.func8.symm.trans hfn)).symm
  refine ⟨by kernel_rfl, fun j t ht => ?_⟩
  rw [Tryd.params8] at ht
  have hm : t = 9 := by simpa using Array.mem_of_getElem? ht
  rcases hm with rfl
  · exact (show Tryd.prog.wantsStandIn 9 = false by kernel_rfl)

theorem card : Rows.TokenFixedCardSaid :=
  Claim7.holds_tied_plain_at .later [] _ _ _ _ said (fun _ h => by cases h) (by kernel_rfl) (fun _ h => by cases h) tokenFixed_row_tie rfl ⟨rfl, rfl⟩ (by kernel_rfl) rfl plain (by kernel_rfl)
end Go.Proofs.YtmpjmcfgikmgnaaDoor.tokenFixed
namespace Go.Proofs.YtmpjmcfgikmgnaaDoor
theorem tokenFixed_holds : Rows.TokenFixedCardSaid := tokenFixed.card
#print axioms tokenFixed_holds
end Go.Proofs.YtmpjmcfgikmgnaaDoor
