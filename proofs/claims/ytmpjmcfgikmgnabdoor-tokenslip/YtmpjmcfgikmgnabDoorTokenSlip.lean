/- No one wrong digit makes another token: at all raw numbers. -/
import Derived.Test.YtmpjmcfgikmgnabDoorCards
import Derived.Test.YtmpjmcfgikmgnabDoorTie
import Derived.Test.YtmpjmcfgikmgnabDoorTkParse
import Derived.Test.YtmpjmcfgikmgnabDoorTkForm
import Derived.Test.YtmpjmcfgikmgnabDoorTkEq
import Derived.Test.YtmpjmcfgikmgnabDoorTkMade
import Derived.Test.YtmpjmcfgikmgnabDoorCkSlip
import Derived.Test.YtmpjmcfgikmgnabDoorTkSlip
import Derived.WalkKit
import Derived.ProofKit
import Derived.OpenShut
import Derived.ShutString
import Derived.ChangeOld
import Derived.Below
import Derived.Deep.DeepHandedRow
import Derived.Test.YtmpjmcfgikmgnabDoorTkTab
namespace Go.Proofs.YtmpjmcfgikmgnabDoor.tokenSlip
open Go.ChangeShapes Go.WideShapes Go.ChangeAt Go.RowKit
open Go.ChangeMaps (open_string shut_string)
set_option linter.unusedVariables false
set_option maxRecDepth 100000

theorem own : ownKnob Tryd.prog.godebug = none := by kernel_rfl

/-- What the row's list gives: the tables. -/
theorem table {W : World} (h : laidMetH Tryd.prog Rows.tokenSlipRow.laid W) : token.TTab W :=
  token.ttab_of (by kernel_rfl) (by kernel_rfl) h

theorem walk (x0 y0 z0 u0 : Int) (a1 : Int) (a2 : Int) (w : World) (w0 : token.wf4 x0 y0 z0 u0) (w1 : (Lit.int .i64 a1).wf = true) (w2 : (Lit.int .i64 a2).wf = true) (ht : token.TTab w) :
    Calls Tryd.prog 3 #[.agg #[.int .i64 x0, .int .i64 y0, .int .i64 z0, .int .i64 u0], .int .i64 a1, .int .i64 a2] w fun e w' => e = .returned (.bool true) ∧ Below w.heap.size w w' := by
  have HT : Hid (token.TTab w) := ht
  obtain ⟨k, hkd⟩ : ∃ k, token.madeT x0 y0 z0 u0 = k := ⟨_, rfl⟩
  have hk : k.ok := by rw [← hkd]; exact token.made_ok _ _ _ _
  have HM : Hid (∀ W, Calls Tryd.prog 8 #[.agg #[.int .i64 x0, .int .i64 y0, .int .i64 z0, .int .i64 u0]] W fun e w' => e = .returned (.agg #[.int .i64 (k.c : Int), .int .i64 (k.i : Int), .int .i64 (k.a : Int), .int .i64 (k.t : Int)]) ∧ Below W.heap.size W w') := fun W => by
    have := token.made_any x0 y0 z0 u0 W w0
    rwa [hkd] at this
  obtain ⟨S, hS⟩ : ∃ S, token.fmtB (97 * k.num) = S := ⟨_, rfl⟩
  have hsz : S.size = 20 := by rw [← hS]; exact token.fmtB_size (by have := token.num_bd hk; omega)
  have hSL : S.data.toList = token.fmtL (97 * k.num) := by rw [← hS, token.fmtB_list]
  have hSD : check.allD S.data.toList = true := by rw [hSL]; exact token.fmt_D _
  have HF : Hid (∀ W, token.TTab W → Calls Tryd.prog 7 #[.agg #[.int .i64 (k.c : Int), .int .i64 (k.i : Int), .int .i64 (k.a : Int), .int .i64 (k.t : Int)]] W fun e w' => e = .returned (.tuple #[.string S, .int .i64 0]) ∧ Below W.heap.size W w') := fun W hW => by
    have := token.format_ok k W hW hk
    rwa [hS] at this
  have HP : Hid (∀ (t : ByteArray) W, token.TTab W → Calls Tryd.prog 9 #[.string t] W fun e w' => e = .returned (.tuple #[token.parseV t.data.toList, .int .i64 (token.parseE t.data.toList)]) ∧ Below W.heap.size W w') := fun t W hW => token.parse_any t W hW
  have HV : Hid (∀ l, ∃ p q r s : Int, token.parseV l = .agg #[.int .i64 p, .int .i64 q, .int .i64 r, .int .i64 s]) := fun l => by
    unfold token.parseV
    split
    · exact ⟨_, _, _, _, rfl⟩
    · exact ⟨_, _, _, _, rfl⟩
  have hX0 := Blk.new w #[.int .i64 x0, .int .i64 y0, .int .i64 z0, .int .i64 u0] 23
  have HX0 : Hid (Blk (w.alloc (.cells #[.int .i64 x0, .int .i64 y0, .int .i64 z0, .int .i64 u0] 23)) w.heap.size #[.int .i64 x0, .int .i64 y0, .int .i64 z0, .int .i64 u0] 23) := hX0
  have HB0 : Hid (Below w.heap.size w (w.alloc (.cells #[.int .i64 x0, .int .i64 y0, .int .i64 z0, .int .i64 u0] 23))) := (Below.refl _ _).alloc (Nat.le_refl _) _
  have hs20 : (S.size : Int) = 20 := by omega
  have hs20n : ((S.size : Int) != 20) = false := by rw [hs20]; rfl
  have HSL : Hid (∀ W, Calls Tryd.prog 10 #[.string S, .int .i64 a1, .int .i64 a2] W fun e w' => check.SlipPost W S e w') := fun W => check.slipped_any S a1 a2 W (by omega) (by omega) hSD w1 w2
  have HNO : Hid (∀ (t A B : List UInt8) (c c' : UInt8), S.data.toList = A ++ c :: B → t = A ++ c' :: B → check.isD c' = true → c ≠ c' → token.parseE t = 8 ∨ token.parseE t = 2) := fun t A B c c' h1 h2 h3 h4 => token.slip_no hk (by rw [← hSL]; exact h1) h2 h3 h4
  clear hkd hk hSD hSL hS hsz w0 w1 w2 ht hX0
  go_enter Tryd.func3, Tryd.ntmps3
  go_wp2_with fail
  refine (HM.out _).mono ?_
  rintro e w1 ⟨rfl, hb1⟩
  have HB1 : Hid (Below w.heap.size w w1) := bel_step HB0.out hb1
  clear hb1 HB0 HX0 HM
  go_wp2_with fail
  refine (HF.out _ (HT.out.below HB1.out)).mono ?_
  rintro e w2 ⟨rfl, hb2⟩
  have HB2 : Hid (Below w.heap.size w w2) := bel_step HB1.out hb2
  clear hb2 HB1 HF
  go_wp2_with fail
  refine (HSL.out _).mono ?_
  rintro e w3 ⟨t, A, B, c, c', rfl, h1, h2, h3, h4, hb3⟩
  have HB3 : Hid (Below w.heap.size w w3) := bel_step HB2.out hb3
  have hno := HNO.out _ A B c c' h1 h2 h3 h4
  clear hb3 HB2 HSL HNO h1 h2 h3 h4
  obtain ⟨p, q, r, s, hpv⟩ := HV.out t.data.toList
  have HPT : Hid (∀ W, token.TTab W → Calls Tryd.prog 9 #[.string t] W fun e w' => e = .returned (.tuple #[.agg #[.int .i64 p, .int .i64 q, .int .i64 r, .int .i64 s], .int .i64 (token.parseE t.data.toList)]) ∧ Below W.heap.size W w') := fun W hW => by
    have := HP.out t W hW
    rwa [hpv] at this
  clear HP HV hpv
  generalize token.parseE t.data.toList = f at *
  go_wp2_with fail
  refine (HPT.out _ (HT.out.below HB3.out)).mono ?_
  rintro e w4 ⟨rfl, hb4⟩
  have HB4 : Hid (Below w.heap.size w (w4.alloc (.cells #[.int .i64 p, .int .i64 q, .int .i64 r, .int .i64 s] 27))) := (bel_step HB3.out hb4).alloc (bel_step HB3.out hb4).size _
  clear hb4 HB3 HPT
  rcases hno with rfl | rfl
  · go_wp2_with fail
    go_ret
    exact ⟨rfl, HB4.out⟩
  · go_wp2_with fail
    go_ret
    exact ⟨rfl, HB4.out⟩

theorem contract (H : Type) (enc : TypeId × Value → H) (W : World) (base : Nat) (args : Array Value) (ds gs : List (DataW H)) (before : List MemPlace)
    (hval : ∀ (j : Nat) t v, Tryd.f3.params[j]? = some t → args[j]? = some v → Value.okWide Tryd.prog W .any base t v)
    (hW : DataW.Whole enc Tryd.prog Tryd.f3.params.toList Rows.tokenSlipSpec.vars false W args.toList ds gs before) (hL : laidMetH Tryd.prog Rows.tokenSlipRow.laid W) :
    Calls Tryd.prog 3 args W fun e W' => ∃ v, e = .returned v ∧ Rows.tokenSlipSpec.post enc Tryd.prog Tryd.f3 false true false false W args v W' := by
  have hW' := hW
  obtain ⟨p, q, hA0, hV, rfl, hfz, hnd⟩ := hW
  have hA : DataW.TrodAll enc Tryd.prog W 0 (fun _ => true) true Tryd.f3.params.toList args.toList ds p := hA0
  rw [Tryd.params3] at hA hval
  obtain ⟨v0, vs0, d0, ds0, p0, q0, hargs, rfl, rfl, h0, r0⟩ := trodAll_cons hA
  obtain ⟨v1, vs1, d1, ds1, p1, q1, rfl, rfl, rfl, h1, r1⟩ := trodAll_cons r0
  obtain ⟨v2, vs2, d2, ds2, p2, q2, rfl, rfl, rfl, h2, r2⟩ := trodAll_cons r1
  obtain ⟨rfl, rfl, rfl⟩ := trodAll_nil r2
  obtain rfl : args = #[v0, v1, v2] := by cases args; simp_all
  obtain ⟨rfl, rfl⟩ := trodVars_none hV
  obtain ⟨x0, y0, z0, u0, rfl, rfl, rfl, w0⟩ := token.open_raw (hval 0 23 v0 rfl rfl) h0
  obtain ⟨a1, rfl, rfl, rfl, w1⟩ := open_int Tryd.underlying3 (hval 1 3 v1 rfl rfl) h1
  obtain ⟨a2, rfl, rfl, rfl, w2⟩ := open_int Tryd.underlying3 (hval 2 3 v2 rfl rfl) h2
  clear hA0
  simp only [List.append_nil] at hW'
  refine (walk x0 y0 z0 u0 a1 a2 W w0 w1 w2 (table hL)).mono fun e W' ⟨he, hg⟩ => ?_
  subst he
  exact ⟨_, rfl, _, _, _, [], [], [], hW', (trodAll_cons_mk (shut_bool Tryd.underlying4 _) trodAll_mk0), (trodAll_cons_mk (token.shut_raw w0) (trodAll_cons_mk (shut_int Tryd.underlying3 w1) (trodAll_cons_mk (shut_int Tryd.underlying3 w2) trodAll_mk0))), rfl, hg.frame _, fun h => by cases h⟩

/-- A world for the witness: the settled one, the table holding what the program's text lays. -/
def put (k : IntKind) (l : List Int) : Obj → Obj
  | .cells _ t fr => .cells (l.map fun z => Value.int k z).toArray t fr
  | o => o
def withTabs (w : World) : World := { w with heap := (w.heap.modify 0 (put .i64 [57, 3, 37, 20, 16, 21, 0, 16])).modify 1 (put .i64 [1, 2097151, 0, 0, 1, 15, 0, 0]) }
theorem laid_met (os : Os) : laidMet Tryd.prog Rows.tokenSlipRow.laid ((withTabs (World.holding Tryd.prog os ⟨#[], #[], []⟩)).forCall (fun _ _ => 0) ⟨#[], #[.agg #[.int .i64 0, .int .i64 0, .int .i64 0, .int .i64 0], .int .i64 0, .int .i64 0], []⟩).memory :=
  laidMet_of_run' 8 (by kernel_rfl) (by kernel_rfl)
theorem reads (os : Os) {H : Type} (enc : TypeId × Value → H) : ∃ places, DataW.whole enc Tryd.prog ((withTabs (World.holding Tryd.prog os ⟨#[], #[], []⟩)).forCall (fun _ _ => 0) ⟨#[], #[.agg #[.int .i64 0, .int .i64 0, .int .i64 0, .int .i64 0], .int .i64 0, .int .i64 0], []⟩).memory Tryd.f3.params.toList Rows.tokenSlipSpec.vars false (#[.agg #[.int .i64 0, .int .i64 0, .int .i64 0, .int .i64 0], .int .i64 0, .int .i64 0] : Array Value).toList 8 = some ([.agg [.lit (.int .i64 0), .lit (.int .i64 0), .lit (.int .i64 0), .lit (.int .i64 0)], .lit (.int .i64 0), .lit (.int .i64 0)], [], places) :=
  ⟨[], by kernel_rfl⟩

set_option maxRecDepth 100000 in
theorem lifted (os : Os) (started : os.Started) (H : Type) (enc : TypeId × Value → H) (F : Stop.Interp) :
    ReturnsInHanded {} Tryd.checked os 3 .any ((OpenSpec.ofChange Rows.tokenSlipSpec).preRow enc Tryd.prog Tryd.f3 Rows.tokenSlipRow.domain false Rows.tokenSlipRow.laid) (((OpenSpec.ofChange Rows.tokenSlipSpec).at F).post enc Tryd.prog Tryd.f3 false true false false) := by
  obtain ⟨places, hx⟩ := reads os enc
  refine returnsInHanded_of_row (C := Tryd.checked) (s := OpenSpec.ofChange Rows.tokenSlipSpec) own started (by kernel_rfl) Tryd.func3
    (witness_row_at (enc := enc) (C := Tryd.checked) false (withTabs (World.holding Tryd.prog os ⟨#[], #[], []⟩)) #[.agg #[.int .i64 0, .int .i64 0, .int .i64 0, .int .i64 0], .int .i64 0, .int .i64 0] rfl (by kernel_rfl) (by kernel_rfl) (by kernel_rfl)
      (OpenSpec.preRow_of_cond 8 hx (by kernel_rfl) (fun k hk => by cases hk) (by kernel_rfl) (laid_met os))) ?_
  intro W base args ds gs before hval hW _ _ _ hL _ _
  exact contract H enc W base args ds gs before hval hW hL

theorem said : Rows.TokenSlipSaid :=
  OpenClaim.holds_of_cond 3 Tryd.f3 rfl rfl rfl rfl rfl rfl rfl ⟨rfl, rfl, rfl, rfl, rfl⟩ rfl rfl rfl rfl rfl (by kernel_rfl) Tryd.func3 (by kernel_rfl)
    (of_decide_eq_true (by kernel_rfl)) (by unfold Func.isWrapper; first | (rw [if_pos (by decide +kernel)]; kernel_rfl) | (rw [if_neg (by decide +kernel)]; exact ⟨rfl, rfl⟩))
    (fun os started H enc _ F => by rw [OpenClaim.pre_eq_preRow]; exact lifted os started H enc F)

theorem plain (f : FuncId) (fn : Func) (hf : Tryd.pinned.checked.prog.funcNamed Rows.tokenSlipRow.func = some f) (hfn : Tryd.pinned.checked.prog.funcs[f]? = some fn) :
    false = Tryd.pinned.checked.prog.looks [] ∧ ∀ (j : Nat) t, fn.params[j]? = some t → Tryd.pinned.checked.prog.wantsStandIn t = false := by
  obtain rfl : f = 3 := Option.some.inj ((show Tryd.prog.funcNamed Rows.tokenSlipRow.func = some 3 by kernel_rfl).symm.trans hf) |>.symm
  obtain rfl : fn = Tryd.f3 := (Option.some.inj (Tryd.func3.symm.trans hfn)).symm
  refine ⟨by kernel_rfl, fun j t ht => ?_⟩
  rw [Tryd.params3] at ht
  have hm : t = 23 ∨ t = 3 := by simpa using Array.mem_of_getElem? ht
  rcases hm with rfl | rfl
  · exact (show Tryd.prog.wantsStandIn 23 = false by kernel_rfl)
  · exact (show Tryd.prog.wantsStandIn 3 = false by kernel_rfl)

theorem card : Rows.TokenSlipCardSaid :=
  Claim7.holds_tied_plain_at .later [] _ _ _ _ said (fun _ h => by cases h) (by kernel_rfl) (fun _ h => by cases h) tokenSlip_row_tie rfl ⟨rfl, rfl⟩ (by kernel_rfl) rfl plain (by kernel_rfl)
end Go.Proofs.YtmpjmcfgikmgnabDoor.tokenSlip
namespace Go.Proofs.YtmpjmcfgikmgnabDoor
theorem tokenSlip_holds : Rows.TokenSlipCardSaid := tokenSlip.card
#print axioms tokenSlip_holds
end Go.Proofs.YtmpjmcfgikmgnabDoor
