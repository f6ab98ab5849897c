/- No pair that is doubled wrongly makes another token: at all raw numbers. -/
import Derived.Test.YtmpjmcfgikmgnabDoorCards
import Derived.Test.YtmpjmcfgikmgnabDoorTie
import Derived.Test.YtmpjmcfgikmgnabDoorTkParse
import Derived.Test.YtmpjmcfgikmgnabDoorTkForm
import Derived.Test.YtmpjmcfgikmgnabDoorTkEq
import Derived.Test.YtmpjmcfgikmgnabDoorTkMade
import Derived.Test.YtmpjmcfgikmgnabDoorCkSlip
import Derived.Test.YtmpjmcfgikmgnabDoorTkSlip
import Derived.Test.YtmpjmcfgikmgnabDoorTkTwin
import Derived.WalkKit
import Derived.ProofKit
import Derived.OpenShut
import Derived.ShutString
import Derived.ChangeOld
import Derived.Below
import Derived.Deep.DeepHandedRow
import Derived.Test.YtmpjmcfgikmgnabDoorTkTab
namespace Go.Proofs.YtmpjmcfgikmgnabDoor.tokenTwin
open Go.ChangeShapes Go.WideShapes Go.ChangeAt Go.RowKit
open Go.ChangeMaps (open_string shut_string)
set_option linter.unusedVariables false
set_option maxRecDepth 100000

theorem own : ownKnob Tryd.prog.godebug = none := by kernel_rfl

/-- What the row's list gives: the tables. -/
theorem table {W : World} (h : laidMetH Tryd.prog Rows.tokenTwinRow.laid W) : token.TTab W :=
  token.ttab_of (by kernel_rfl) (by kernel_rfl) h

theorem walk (x0 y0 z0 u0 : Int) (a1 : Int) (a2 : Int) (w : World) (w0 : token.wf4 x0 y0 z0 u0) (w1 : (Lit.int .i64 a1).wf = true) (w2 : (Lit.int .i64 a2).wf = true) (ht : token.TTab w) :
    Calls Tryd.prog 5 #[.agg #[.int .i64 x0, .int .i64 y0, .int .i64 z0, .int .i64 u0], .int .i64 a1, .int .i64 a2] w fun e w' => e = .returned (.bool true) ∧ Below w.heap.size w w' := by
  have HT : Hid (token.TTab w) := ht
  obtain ⟨k, hkd⟩ : ∃ k, token.madeT x0 y0 z0 u0 = k := ⟨_, rfl⟩
  have hk : k.ok := by rw [← hkd]; exact token.made_ok _ _ _ _
  have HM : Hid (∀ W, Calls Tryd.prog 8 #[.agg #[.int .i64 x0, .int .i64 y0, .int .i64 z0, .int .i64 u0]] W fun e w' => e = .returned (.agg #[.int .i64 (k.c : Int), .int .i64 (k.i : Int), .int .i64 (k.a : Int), .int .i64 (k.t : Int)]) ∧ Below W.heap.size W w') := fun W => by
    have := token.made_any x0 y0 z0 u0 W w0
    rwa [hkd] at this
  obtain ⟨S, hS⟩ : ∃ S, token.fmtB (97 * k.num) = S := ⟨_, rfl⟩
  have hsz : S.size = 20 := by rw [← hS]; exact token.fmtB_size (by have := token.num_bd hk; omega)
  have hSL : S.data.toList = token.fmtL (97 * k.num) := by rw [← hS, token.fmtB_list]
  have hSD : check.allD S.data.toList = true := by rw [hSL]; exact token.fmt_D _
  have HF : Hid (∀ W, token.TTab W → Calls Tryd.prog 7 #[.agg #[.int .i64 (k.c : Int), .int .i64 (k.i : Int), .int .i64 (k.a : Int), .int .i64 (k.t : Int)]] W fun e w' => e = .returned (.tuple #[.string S, .int .i64 0]) ∧ Below W.heap.size W w') := fun W hW => by
    have := token.format_ok k W hW hk
    rwa [hS] at this
  have HP : Hid (∀ (t : ByteArray) W, token.TTab W → Calls Tryd.prog 9 #[.string t] W fun e w' => e = .returned (.tuple #[token.parseV t.data.toList, .int .i64 (token.parseE t.data.toList)]) ∧ Below W.heap.size W w') := fun t W hW => token.parse_any t W hW
  have HV : Hid (∀ l, ∃ p q r s : Int, token.parseV l = .agg #[.int .i64 p, .int .i64 q, .int .i64 r, .int .i64 s]) := fun l => by
    unfold token.parseV
    split
    · exact ⟨_, _, _, _, rfl⟩
    · exact ⟨_, _, _, _, rfl⟩
  have hX0 := Blk.new w #[.int .i64 x0, .int .i64 y0, .int .i64 z0, .int .i64 u0] 23
  have HX0 : Hid (Blk (w.alloc (.cells #[.int .i64 x0, .int .i64 y0, .int .i64 z0, .int .i64 u0] 23)) w.heap.size #[.int .i64 x0, .int .i64 y0, .int .i64 z0, .int .i64 u0] 23) := hX0
  have HB0 : Hid (Below w.heap.size w (w.alloc (.cells #[.int .i64 x0, .int .i64 y0, .int .i64 z0, .int .i64 u0] 23))) := (Below.refl _ _).alloc (Nat.le_refl _) _
  have hs20 : (S.size : Int) = 20 := by omega
  have hs20n : ((S.size : Int) != 20) = false := by rw [hs20]; rfl
  obtain ⟨i, hi⟩ : ∃ i : Nat, check.pick a1 19 = (i : Int) := Int.eq_ofNat_of_zero_le (check.pick_nonneg a1 19 (by omega))
  have hil := check.pick_lt a1 19 (by omega)
  rw [hi] at hil
  have HPK : Hid (∀ W, Calls Tryd.prog 12 #[.int .i64 a1, .int .i64 19] W fun e w' => e = .returned (.int .i64 (i : Int)) ∧ w' = W) := fun W => by
    have := check.picked_any a1 19 W w1 (by omega) (by omega)
    rwa [hi] at this
  have hwi : (Lit.int .i64 (i : Int)).wf = true := by
    have e1 : IntKind.i64.min = -9223372036854775808 := rfl
    have e2 : IntKind.i64.max = 9223372036854775807 := rfl
    simp only [Lit.wf, e1, e2, Bool.and_eq_true, decide_eq_true_eq]
    omega
  have hpi : (check.pick (i : Int) (S.size : Int)).toNat = i := by
    unfold check.pick
    rw [if_neg (by omega), hs20, Int.emod_eq_of_lt (by omega) (by omega)]
    omega
  have HSL : Hid (∀ W, Calls Tryd.prog 10 #[.string S, .int .i64 (i : Int), .int .i64 a2] W fun e w' => check.SlipAt W S i e w') := fun W => by
    have := check.slipped_at S (i : Int) a2 W (by omega) (by omega) hSD hwi w2
    rwa [hpi] at this
  have hi0 : i < S.size := by omega
  have hi1 : i + 1 < S.size := by omega
  have HNO : Hid (S[i] = S[i + 1] → ∀ (t : ByteArray) (c c' : UInt8), S.data.toList = S.data.toList.take i ++ c :: S.data.toList.drop (i + 1) → t.data.toList = S.data.toList.take i ++ c' :: S.data.toList.drop (i + 1) → check.isD c' = true → c ≠ c' →
      t.size = S.size ∧ (token.parseE (t.extract 0 (i + 1) ++ t.extract i (i + 1) ++ t.extract (i + 2) t.size).data.toList = 8 ∨ token.parseE (t.extract 0 (i + 1) ++ t.extract i (i + 1) ++ t.extract (i + 2) t.size).data.toList = 2)) := fun he t c c' h1 h2 h3 h4 => by
    obtain ⟨q1, q2, q3⟩ := check.twin_list hi1 h1 h2 he
    exact ⟨q1, token.twin_no hk (by rw [← hSL]; exact q2) q3 h3 h4⟩
  have hii : (i : Int) < (S.size : Int) := by omega
  have hii1 : (i : Int) + 1 < (S.size : Int) := by omega
  have hi19 : (i : Int) < 19 := hil
  have h200 : S.size ≤ 200 := by omega
  have hw1 : IntKind.i64.wrap ((i : Int) + 1) = (i : Int) + 1 := by rw [IntKind.wrap_i64]; omega
  have hw2 : IntKind.i64.wrap ((i : Int) + 2) = (i : Int) + 2 := by rw [IntKind.wrap_i64]; omega
  have hge : (0 : Int) ≤ (i : Int) + 1 := by omega
  have htn : ((i : Int) + 1).toNat = i + 1 := by omega
  have htn2 : ((i : Int) + 2).toNat = i + 2 := by omega
  have hge2 : (0 : Int) ≤ (i : Int) + 2 := by omega
  clear hkd hk hSD hSL hS w0 w1 w2 ht hX0 hi hwi hpi hil hsz hs20
  by_cases heq : S[i] = S[i + 1]
  · have hd : (((S[i].toNat : Nat) : Int) != ((S[i + 1].toNat : Nat) : Int)) = false := by rw [heq]; simp
    have HNE : Hid (∀ (t : ByteArray) (c c' : UInt8), S.data.toList = S.data.toList.take i ++ c :: S.data.toList.drop (i + 1) → t.data.toList = S.data.toList.take i ++ c' :: S.data.toList.drop (i + 1) → check.isD c' = true → c ≠ c' →
      t.size = S.size ∧ (token.parseE (t.extract 0 (i + 1) ++ t.extract i (i + 1) ++ t.extract (i + 2) t.size).data.toList = 8 ∨ token.parseE (t.extract 0 (i + 1) ++ t.extract i (i + 1) ++ t.extract (i + 2) t.size).data.toList = 2)) := HNO.out heq
    clear HNO heq
    go_enter Tryd.func5, Tryd.ntmps5
    go_wp2_with fail
    refine (HM.out _).mono ?_
    rintro e w1 ⟨rfl, hb1⟩
    have HB1 : Hid (Below w.heap.size w w1) := bel_step HB0.out hb1
    clear hb1 HB0 HX0 HM
    go_wp2_with fail
    refine (HF.out _ (HT.out.below HB1.out)).mono ?_
    rintro e w2 ⟨rfl, hb2⟩
    have HB2 : Hid (Below w.heap.size w w2) := bel_step HB1.out hb2
    clear hb2 HB1 HF
    go_wp2_with fail
    refine (HPK.out _).mono ?_
    rintro e w2' ⟨rfl, rfl⟩
    go_wp2_with fail
    go_quiet (fail)
    go_wp2_with fail
    refine (HSL.out _).mono ?_
    rintro e w3 ⟨t, c, c', rfl, _, h1, h2, h3, h4, hb3⟩
    have HB3 : Hid (Below w.heap.size w w3) := bel_step (bel_drew HB2.out _) hb3
    obtain ⟨htz, hno⟩ := HNE.out t c c' h1 h2 h3 h4
    clear hb3 HB2 HSL HNE h1 h2 h3 h4 hd
    have j0 : (i : Int) + 1 ≤ (t.size : Int) := by omega
    have j1 : (i : Int) + 2 ≤ (t.size : Int) := by omega
    have j2 : (i : Int) ≤ (t.size : Int) := by omega
    have h200t : t.size ≤ 200 := by omega
    have j5 : (i : Int) ≤ (i : Int) + 1 := by omega
    clear htz
    go_wp2_with fail
    go_quiet (fail)
    obtain ⟨p, q, r, s, hpv⟩ := HV.out (t.extract 0 (i + 1) ++ t.extract i (i + 1) ++ t.extract (i + 2) t.size).data.toList
    have HPT : Hid (∀ W, token.TTab W → Calls Tryd.prog 9 #[.string (t.extract 0 (i + 1) ++ t.extract i (i + 1) ++ t.extract (i + 2) t.size)] W fun e w' => e = .returned (.tuple #[.agg #[.int .i64 p, .int .i64 q, .int .i64 r, .int .i64 s], .int .i64 (token.parseE (t.extract 0 (i + 1) ++ t.extract i (i + 1) ++ t.extract (i + 2) t.size).data.toList)]) ∧ Below W.heap.size W w') := fun W hW => by
      have := HP.out (t.extract 0 (i + 1) ++ t.extract i (i + 1) ++ t.extract (i + 2) t.size) W hW
      rwa [hpv] at this
    clear HP HV hpv
    go_wp2_with fail
    refine (HPT.out _ (HT.out.below (bel_drew HB3.out _))).mono ?_
    rintro e w4 ⟨rfl, hb4⟩
    have HB4 : Hid (Below w.heap.size w (w4.alloc (.cells #[.int .i64 p, .int .i64 q, .int .i64 r, .int .i64 s] 27))) := (bel_step (bel_drew HB3.out _) hb4).alloc (bel_step (bel_drew HB3.out _) hb4).size _
    clear hb4 HB3 HPT
    generalize token.parseE (t.extract 0 (i + 1) ++ t.extract i (i + 1) ++ t.extract (i + 2) t.size).data.toList = f at *
    rcases hno with rfl | rfl
    · go_wp2_with fail
      go_ret
      exact ⟨rfl, HB4.out⟩
    · go_wp2_with fail
      go_ret
      exact ⟨rfl, HB4.out⟩
  · have hd : (((S[i].toNat : Nat) : Int) != ((S[i + 1].toNat : Nat) : Int)) = true := by
      simp only [bne_iff_ne, ne_eq]
      intro h
      exact heq (UInt8.toNat_inj.1 (by omega))
    clear HNO heq HSL HP HV
    go_enter Tryd.func5, Tryd.ntmps5
    go_wp2_with fail
    refine (HM.out _).mono ?_
    rintro e w1 ⟨rfl, hb1⟩
    have HB1 : Hid (Below w.heap.size w w1) := bel_step HB0.out hb1
    clear hb1 HB0 HX0 HM
    go_wp2_with fail
    refine (HF.out _ (HT.out.below HB1.out)).mono ?_
    rintro e w2 ⟨rfl, hb2⟩
    have HB2 : Hid (Below w.heap.size w w2) := bel_step HB1.out hb2
    clear hb2 HB1 HF
    go_wp2_with fail
    refine (HPK.out _).mono ?_
    rintro e w2' ⟨rfl, rfl⟩
    go_wp2_with fail
    go_quiet (fail)
    go_wp2_with fail
    go_ret
    exact ⟨rfl, bel_drew HB2.out _⟩

theorem contract (H : Type) (enc : TypeId × Value → H) (W : World) (base : Nat) (args : Array Value) (ds gs : List (DataW H)) (before : List MemPlace)
    (hval : ∀ (j : Nat) t v, Tryd.f5.params[j]? = some t → args[j]? = some v → Value.okWide Tryd.prog W .any base t v)
    (hW : DataW.Whole enc Tryd.prog Tryd.f5.params.toList Rows.tokenTwinSpec.vars false W args.toList ds gs before) (hL : laidMetH Tryd.prog Rows.tokenTwinRow.laid W) :
    Calls Tryd.prog 5 args W fun e W' => ∃ v, e = .returned v ∧ Rows.tokenTwinSpec.post enc Tryd.prog Tryd.f5 false true false false W args v W' := by
  have hW' := hW
  obtain ⟨p, q, hA0, hV, rfl, hfz, hnd⟩ := hW
  have hA : DataW.TrodAll enc Tryd.prog W 0 (fun _ => true) true Tryd.f5.params.toList args.toList ds p := hA0
  rw [Tryd.params5] at hA hval
  obtain ⟨v0, vs0, d0, ds0, p0, q0, hargs, rfl, rfl, h0, r0⟩ := trodAll_cons hA
  obtain ⟨v1, vs1, d1, ds1, p1, q1, rfl, rfl, rfl, h1, r1⟩ := trodAll_cons r0
  obtain ⟨v2, vs2, d2, ds2, p2, q2, rfl, rfl, rfl, h2, r2⟩ := trodAll_cons r1
  obtain ⟨rfl, rfl, rfl⟩ := trodAll_nil r2
  obtain rfl : args = #[v0, v1, v2] := by cases args; simp_all
  obtain ⟨rfl, rfl⟩ := trodVars_none hV
  obtain ⟨x0, y0, z0, u0, rfl, rfl, rfl, w0⟩ := token.open_raw (hval 0 23 v0 rfl rfl) h0
  obtain ⟨a1, rfl, rfl, rfl, w1⟩ := open_int Tryd.underlying3 (hval 1 3 v1 rfl rfl) h1
  obtain ⟨a2, rfl, rfl, rfl, w2⟩ := open_int Tryd.underlying3 (hval 2 3 v2 rfl rfl) h2
  clear hA0
  simp only [List.append_nil] at hW'
  refine (walk x0 y0 z0 u0 a1 a2 W w0 w1 w2 (table hL)).mono fun e W' ⟨he, hg⟩ => ?_
  subst he
  exact ⟨_, rfl, _, _, _, [], [], [], hW', (trodAll_cons_mk (shut_bool Tryd.underlying4 _) trodAll_mk0), (trodAll_cons_mk (token.shut_raw w0) (trodAll_cons_mk (shut_int Tryd.underlying3 w1) (trodAll_cons_mk (shut_int Tryd.underlying3 w2) trodAll_mk0))), rfl, hg.frame _, fun h => by cases h⟩

/-- A world for the witness: the settled one, the table holding what the program's text lays. -/
def put (k : IntKind) (l : List Int) : Obj → Obj
  | .cells _ t fr => .cells (l.map fun z => Value.int k z).toArray t fr
  | o => o
def withTabs (w : World) : World := { w with heap := (w.heap.modify 0 (put .i64 [57, 3, 37, 20, 16, 21, 0, 16])).modify 1 (put .i64 [1, 2097151, 0, 0, 1, 15, 0, 0]) }
theorem laid_met (os : Os) : laidMet Tryd.prog Rows.tokenTwinRow.laid ((withTabs (World.holding Tryd.prog os ⟨#[], #[], []⟩)).forCall (fun _ _ => 0) ⟨#[], #[.agg #[.int .i64 0, .int .i64 0, .int .i64 0, .int .i64 0], .int .i64 0, .int .i64 0], []⟩).memory :=
  laidMet_of_run' 8 (by kernel_rfl) (by kernel_rfl)
theorem reads (os : Os) {H : Type} (enc : TypeId × Value → H) : ∃ places, DataW.whole enc Tryd.prog ((withTabs (World.holding Tryd.prog os ⟨#[], #[], []⟩)).forCall (fun _ _ => 0) ⟨#[], #[.agg #[.int .i64 0, .int .i64 0, .int .i64 0, .int .i64 0], .int .i64 0, .int .i64 0], []⟩).memory Tryd.f5.params.toList Rows.tokenTwinSpec.vars false (#[.agg #[.int .i64 0, .int .i64 0, .int .i64 0, .int .i64 0], .int .i64 0, .int .i64 0] : Array Value).toList 8 = some ([.agg [.lit (.int .i64 0), .lit (.int .i64 0), .lit (.int .i64 0), .lit (.int .i64 0)], .lit (.int .i64 0), .lit (.int .i64 0)], [], places) :=
  ⟨[], by kernel_rfl⟩

set_option maxRecDepth 100000 in
theorem lifted (os : Os) (started : os.Started) (H : Type) (enc : TypeId × Value → H) (F : Stop.Interp) :
    ReturnsInHanded {} Tryd.checked os 5 .any ((OpenSpec.ofChange Rows.tokenTwinSpec).preRow enc Tryd.prog Tryd.f5 Rows.tokenTwinRow.domain false Rows.tokenTwinRow.laid) (((OpenSpec.ofChange Rows.tokenTwinSpec).at F).post enc Tryd.prog Tryd.f5 false true false false) := by
  obtain ⟨places, hx⟩ := reads os enc
  refine returnsInHanded_of_row (C := Tryd.checked) (s := OpenSpec.ofChange Rows.tokenTwinSpec) own started (by kernel_rfl) Tryd.func5
    (witness_row_at (enc := enc) (C := Tryd.checked) false (withTabs (World.holding Tryd.prog os ⟨#[], #[], []⟩)) #[.agg #[.int .i64 0, .int .i64 0, .int .i64 0, .int .i64 0], .int .i64 0, .int .i64 0] rfl (by kernel_rfl) (by kernel_rfl) (by kernel_rfl)
      (OpenSpec.preRow_of_cond 8 hx (by kernel_rfl) (fun k hk => by cases hk) (by kernel_rfl) (laid_met os))) ?_
  intro W base args ds gs before hval hW _ _ _ hL _ _
  exact contract H enc W base args ds gs before hval hW hL

theorem said : Rows.TokenTwinSaid :=
  OpenClaim.holds_of_cond 5 Tryd.f5 rfl rfl rfl rfl rfl rfl rfl ⟨rfl, rfl, rfl, rfl, rfl⟩ rfl rfl rfl rfl rfl (by kernel_rfl) Tryd.func5 (by kernel_rfl)
    (of_decide_eq_true (by kernel_rfl)) (by unfold Func.isWrapper; first | (rw [if_pos (by decide +kernel)]; kernel_rfl) | (rw [if_neg (by decide +kernel)]; exact ⟨rfl, rfl⟩))
    (fun os started H enc _ F => by rw [OpenClaim.pre_eq_preRow]; exact lifted os started H enc F)

theorem plain (f : FuncId) (fn : Func) (hf : Tryd.pinned.checked.prog.funcNamed Rows.tokenTwinRow.func = some f) (hfn : Tryd.pinned.checked.prog.funcs[f]? = some fn) :
    false = Tryd.pinned.checked.prog.looks [] ∧ ∀ (j : Nat) t, fn.params[j]? = some t → Tryd.pinned.checked.prog.wantsStandIn t = false := by
  obtain rfl : f = 5 := Option.some.inj ((show Tryd.prog.funcNamed Rows.tokenTwinRow.func = some 5 by kernel_rfl).symm.trans hf) |>.symm
  obtain rfl : fn = Tryd.f5 := (Option.some.inj (Tryd.func5.symm.trans hfn)).symm
  refine ⟨by kernel_rfl, fun j t ht => ?_⟩
  rw [Tryd.params5] at ht
  have hm : t = 23 ∨ t = 3 := by simpa using Array.mem_of_getElem? ht
  rcases hm with rfl | rfl
  · exact (show Tryd.prog.wantsStandIn 23 = false by kernel_rfl)
  · exact (show Tryd.prog.wantsStandIn 3 = false by kernel_rfl)

theorem card : Rows.TokenTwinCardSaid :=
  Claim7.holds_tied_plain_at .later [] _ _ _ _ said (fun _ h => by cases h) (by kernel_rfl) (fun _ h => by cases h) tokenTwin_row_tie rfl ⟨rfl, rfl⟩ (by kernel_rfl) rfl plain (by kernel_rfl)
end Go.Proofs.YtmpjmcfgikmgnabDoor.tokenTwin
namespace Go.Proofs.YtmpjmcfgikmgnabDoor
theorem tokenTwin_holds : Rows.TokenTwinCardSaid := tokenTwin.card
#print axioms tokenTwin_holds
end Go.Proofs.YtmpjmcfgikmgnabDoor
