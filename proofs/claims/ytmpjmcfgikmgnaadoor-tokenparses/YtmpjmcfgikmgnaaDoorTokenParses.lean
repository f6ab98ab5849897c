/- token.Parse answers what the document says: at every text. -/
import Derived.Test.YtmpjmcfgikmgnaaDoorCards
import Derived.Test.YtmpjmcfgikmgnaaDoorTie
import Derived.Test.YtmpjmcfgikmgnaaDoorTkParse
import Derived.Test.YtmpjmcfgikmgnaaDoorTkParsed2
import Derived.Test.YtmpjmcfgikmgnaaDoorTkEq
import Derived.WalkKit
import Derived.ProofKit
import Derived.OpenShut
import Derived.ShutString
import Derived.ChangeOld
import Derived.Below
import Derived.Deep.DeepHandedRow
import Derived.Test.YtmpjmcfgikmgnaaDoorTkTab
namespace Go.Proofs.YtmpjmcfgikmgnaaDoor.tokenParses
open Go.ChangeShapes Go.WideShapes Go.ChangeAt Go.RowKit
open Go.ChangeMaps (open_string shut_string)
set_option linter.unusedVariables false
set_option maxRecDepth 100000

theorem own : ownKnob Tryd.prog.godebug = none := by kernel_rfl

/-- What the row's list gives: the tables. -/
theorem table {W : World} (h : laidMetH Tryd.prog Rows.tokenParsesRow.laid W) : token.TTab W :=
  token.ttab_of (by kernel_rfl) (by kernel_rfl) h

theorem walk (a0 : ByteArray) (w : World) (w0 : a0.size ≤ maxLen) (ht : token.TTab w) :
    Calls Tryd.prog 6 #[.string a0] w fun e w' => e = .returned (.bool true) ∧ Below w.heap.size w w' := by
  have HT : Hid (token.TTab w) := ht
  obtain ⟨p, q, r, u, hpv⟩ : ∃ p q r u : Int, token.parseV a0.data.toList = .agg #[.int .i64 p, .int .i64 q, .int .i64 r, .int .i64 u] := by
    unfold token.parseV
    split
    · exact ⟨_, _, _, _, rfl⟩
    · exact ⟨_, _, _, _, rfl⟩
  have HA : Hid (Calls Tryd.prog 15 #[.string a0] w fun e w' => e = .returned (.tuple #[.agg #[.int .i64 p, .int .i64 q, .int .i64 r, .int .i64 u], .int .i64 (token.parseE a0.data.toList)]) ∧ Below w.heap.size w w') := by
    have := token.parse_any a0 w ht
    rwa [hpv] at this
  have HR : Hid (∀ W, Calls Tryd.prog 16 #[.string a0] W fun e w' => e = .returned (.tuple #[.agg #[.int .i64 p, .int .i64 q, .int .i64 r, .int .i64 u], .int .i64 (token.parseE a0.data.toList)]) ∧ Below W.heap.size W w') := fun W => by
    rw [← hpv]
    by_cases hs : a0.size = 20
    · exact token.parsed_any a0 W hs
    · obtain ⟨e1, e2⟩ := token.parse_len (l := a0.data.toList) (by rw [check.len_eq]; exact hs)
      rw [e1, e2]
      exact token.parsed_len a0 W hs
  have hq := token.eq4 p q r u p q r u
  simp only [beq_self_eq_true, Bool.and_self] at hq
  clear hpv ht w0
  generalize token.parseE a0.data.toList = f at *
  go_enter Tryd.func6, Tryd.ntmps6
  go_wp2_with fail
  refine HA.out.mono ?_
  rintro e w1 ⟨rfl, hb1⟩
  have HB1 : Hid (Below w.heap.size w (w1.alloc (.cells #[.int .i64 p, .int .i64 q, .int .i64 r, .int .i64 u] 23))) := hb1.alloc hb1.size _
  have HN1 : Hid (Blk (w1.alloc (.cells #[.int .i64 p, .int .i64 q, .int .i64 r, .int .i64 u] 23)) w1.heap.size #[.int .i64 p, .int .i64 q, .int .i64 r, .int .i64 u] 23) := Blk.new _ _ _
  clear hb1 HA
  go_wp2_with fail
  refine (HR.out _).mono ?_
  rintro e w2 ⟨rfl, hb2⟩
  have HB2 : Hid (Below w.heap.size w (w2.alloc (.cells #[.int .i64 p, .int .i64 q, .int .i64 r, .int .i64 u] 23))) := (bel_step HB1.out hb2).alloc (bel_step HB1.out hb2).size _
  have hN2 := (HN1.out.next hb2).alloc (.cells #[.int .i64 p, .int .i64 q, .int .i64 r, .int .i64 u] 23)
  have hM2 := Blk.new w2 #[.int .i64 p, .int .i64 q, .int .i64 r, .int .i64 u] 23
  have c0 := hN2.cell 0
  have c1 := hN2.cell 1
  have c2 := hN2.cell 2
  have c3 := hN2.cell 3
  have d0 := hM2.cell 0
  have d1 := hM2.cell 1
  have d2 := hM2.cell 2
  have d3 := hM2.cell 3
  clear hb2 HR HB1 HN1 hN2 hM2
  go_wp2_with fail
  go_ret
  exact ⟨by simp, HB2.out⟩

theorem contract (H : Type) (enc : TypeId × Value → H) (W : World) (base : Nat) (args : Array Value) (ds gs : List (DataW H)) (before : List MemPlace)
    (hval : ∀ (j : Nat) t v, Tryd.f6.params[j]? = some t → args[j]? = some v → Value.okWide Tryd.prog W .any base t v)
    (hW : DataW.Whole enc Tryd.prog Tryd.f6.params.toList Rows.tokenParsesSpec.vars false W args.toList ds gs before) (hL : laidMetH Tryd.prog Rows.tokenParsesRow.laid W) :
    Calls Tryd.prog 6 args W fun e W' => ∃ v, e = .returned v ∧ Rows.tokenParsesSpec.post enc Tryd.prog Tryd.f6 false true false false W args v W' := by
  have hW' := hW
  obtain ⟨p, q, hA0, hV, rfl, hfz, hnd⟩ := hW
  have hA : DataW.TrodAll enc Tryd.prog W 0 (fun _ => true) true Tryd.f6.params.toList args.toList ds p := hA0
  rw [Tryd.params6] at hA hval
  obtain ⟨v0, vs0, d0, ds0, p0, q0, hargs, rfl, rfl, h0, r0⟩ := trodAll_cons hA
  obtain ⟨rfl, rfl, rfl⟩ := trodAll_nil r0
  obtain rfl : args = #[v0] := by cases args; simp_all
  obtain ⟨rfl, rfl⟩ := trodVars_none hV
  obtain ⟨a0, rfl, rfl, rfl, w0⟩ := open_string Tryd.underlying9 (hval 0 9 v0 rfl rfl) h0
  clear hA0
  simp only [List.append_nil] at hW'
  refine (walk a0 W w0 (table hL)).mono fun e W' ⟨he, hg⟩ => ?_
  subst he
  exact ⟨_, rfl, _, _, _, [], [], [], hW', (trodAll_cons_mk (shut_bool Tryd.underlying4 _) trodAll_mk0), (trodAll_cons_mk (shut_string Tryd.underlying9 w0) trodAll_mk0), rfl, hg.frame _, fun h => by cases h⟩

/-- A world for the witness: the settled one, the table holding what the program's text lays. -/
def put (k : IntKind) (l : List Int) : Obj → Obj
  | .cells _ t fr => .cells (l.map fun z => Value.int k z).toArray t fr
  | o => o
def withTabs (w : World) : World := { w with heap := (w.heap.modify 1 (put .i64 [57, 3, 37, 20, 16, 21, 0, 16])).modify 0 (put .i64 [1, 2097151, 0, 0, 1, 15, 0, 0]) }
theorem laid_met (os : Os) : laidMet Tryd.prog Rows.tokenParsesRow.laid ((withTabs (World.holding Tryd.prog os ⟨#[], #[], []⟩)).forCall (fun _ _ => 0) ⟨#[], #[.string ByteArray.empty], []⟩).memory :=
  laidMet_of_run' 8 (by kernel_rfl) (by kernel_rfl)
theorem reads (os : Os) {H : Type} (enc : TypeId × Value → H) : ∃ places, DataW.whole enc Tryd.prog ((withTabs (World.holding Tryd.prog os ⟨#[], #[], []⟩)).forCall (fun _ _ => 0) ⟨#[], #[.string ByteArray.empty], []⟩).memory Tryd.f6.params.toList Rows.tokenParsesSpec.vars false (#[.string ByteArray.empty] : Array Value).toList 8 = some ([.lit (.string [])], [], places) :=
  ⟨[], by kernel_rfl⟩

set_option maxRecDepth 100000 in
theorem lifted (os : Os) (started : os.Started) (H : Type) (enc : TypeId × Value → H) (F : Stop.Interp) :
    ReturnsInHanded {} Tryd.checked os 6 .any ((OpenSpec.ofChange Rows.tokenParsesSpec).preRow enc Tryd.prog Tryd.f6 Rows.tokenParsesRow.domain false Rows.tokenParsesRow.laid) (((OpenSpec.ofChange Rows.tokenParsesSpec).at F).post enc Tryd.prog Tryd.f6 false true false false) := by
  obtain ⟨places, hx⟩ := reads os enc
  refine returnsInHanded_of_row (C := Tryd.checked) (s := OpenSpec.ofChange Rows.tokenParsesSpec) own started (by kernel_rfl) Tryd.func6
    (witness_row_at (enc := enc) (C := Tryd.checked) false (withTabs (World.holding Tryd.prog os ⟨#[], #[], []⟩)) #[.string ByteArray.empty] rfl (by kernel_rfl) (by kernel_rfl) (by kernel_rfl)
      (OpenSpec.preRow_of_cond 8 hx (by kernel_rfl) (fun k hk => by cases hk) (by kernel_rfl) (laid_met os))) ?_
  intro W base args ds gs before hval hW _ _ _ hL _ _
  exact contract H enc W base args ds gs before hval hW hL

theorem said : Rows.TokenParsesSaid :=
  OpenClaim.holds_of_cond 6 Tryd.f6 rfl rfl rfl rfl rfl rfl rfl ⟨rfl, rfl, rfl, rfl, rfl⟩ rfl rfl rfl rfl rfl (by kernel_rfl) Tryd.func6 (by kernel_rfl)
    (of_decide_eq_true (by kernel_rfl)) (by unfold Func.isWrapper; first | (rw [if_pos (by decide +kernel)]; kernel_rfl) | (rw [if_neg (by decide +kernel)]; exact ⟨rfl, rfl⟩))
    (fun os started H enc _ F => by rw [OpenClaim.pre_eq_preRow]; exact lifted os started H enc F)

theorem plain (f : FuncId) (fn : Func) (hf : Tryd.pinned.checked.prog.funcNamed Rows.tokenParsesRow.func = some f) (hfn : Tryd.pinned.checked.prog.funcs[f]? = some fn) :
    false = Tryd.pinned.checked.prog.looks [] ∧ ∀ (j : Nat) t, fn.params[j]? = some t → Tryd.pinned.checked.prog.wantsStandIn t = false := by
  obtain rfl : f = 6 := Option.some.inj ((show Tryd.prog.funcNamed Rows.tokenParsesRow.func = some 6 by kernel_rfl).symm.trans hf) |>.symm
  obtain rfl : fn = Tryd.f6 := (Option.some.inj (Tryd.func6.symm.trans hfn)).symm
  refine ⟨by kernel_rfl, fun j t ht => ?_⟩
  rw [Tryd.params6] at ht
  have hm : t = 9 := by simpa using Array.mem_of_getElem? ht
  rcases hm with rfl
  · exact (show Tryd.prog.wantsStandIn 9 = false by kernel_rfl)

theorem card : Rows.TokenParsesCardSaid :=
  Claim7.holds_tied_plain_at .later [] _ _ _ _ said (fun _ h => by cases h) (by kernel_rfl) (fun _ h => by cases h) tokenParses_row_tie rfl ⟨rfl, rfl⟩ (by kernel_rfl) rfl plain (by kernel_rfl)
end Go.Proofs.YtmpjmcfgikmgnaaDoor.tokenParses
namespace Go.Proofs.YtmpjmcfgikmgnaaDoor
theorem tokenParses_holds : Rows.TokenParsesCardSaid := tokenParses.card
#print axioms tokenParses_holds
end Go.Proofs.YtmpjmcfgikmgnaaDoor
