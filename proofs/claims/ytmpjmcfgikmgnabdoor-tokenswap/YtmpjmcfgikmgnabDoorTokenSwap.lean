/- No two digits that changed places make another token: at all raw numbers. -/
import Derived.Test.YtmpjmcfgikmgnabDoorCards
import Derived.Test.YtmpjmcfgikmgnabDoorTie
import Derived.Test.YtmpjmcfgikmgnabDoorTkParse
import Derived.Test.YtmpjmcfgikmgnabDoorTkForm
import Derived.Test.YtmpjmcfgikmgnabDoorTkEq
import Derived.Test.YtmpjmcfgikmgnabDoorTkMade
import Derived.Test.YtmpjmcfgikmgnabDoorCkSlip
import Derived.Test.YtmpjmcfgikmgnabDoorTkSlip
import Derived.WalkKit
import Derived.ProofKit
import Derived.OpenShut
import Derived.ShutString
import Derived.ChangeOld
import Derived.Below
import Derived.Deep.DeepHandedRow
import Derived.Test.YtmpjmcfgikmgnabDoorTkTab
namespace Go.Proofs.YtmpjmcfgikmgnabDoor.tokenSwap
open Go.ChangeShapes Go.WideShapes Go.ChangeAt Go.RowKit
open Go.ChangeMaps (open_string shut_string)
set_option linter.unusedVariables false
set_option maxRecDepth 100000

theorem own : ownKnob Tryd.prog.godebug = none := by kernel_rfl

/-- What the row's list gives: the tables. -/
theorem table {W : World} (h : laidMetH Tryd.prog Rows.tokenSwapRow.laid W) : token.TTab W :=
  token.ttab_of (by kernel_rfl) (by kernel_rfl) h

theorem walk (x0 y0 z0 u0 : Int) (a1 : Int) (a2 : Int) (w : World) (w0 : token.wf4 x0 y0 z0 u0) (w1 : (Lit.int .i64 a1).wf = true) (w2 : (Lit.int .i64 a2).wf = true) (ht : token.TTab w) :
    Calls Tryd.prog 4 #[.agg #[.int .i64 x0, .int .i64 y0, .int .i64 z0, .int .i64 u0], .int .i64 a1, .int .i64 a2] w fun e w' => e = .returned (.bool true) ∧ Below w.heap.size w w' := by
  have HT : Hid (token.TTab w) := ht
  obtain ⟨k, hkd⟩ : ∃ k, token.madeT x0 y0 z0 u0 = k := ⟨_, rfl⟩
  have hk : k.ok := by rw [← hkd]; exact token.made_ok _ _ _ _
  have HM : Hid (∀ W, Calls Tryd.prog 8 #[.agg #[.int .i64 x0, .int .i64 y0, .int .i64 z0, .int .i64 u0]] W fun e w' => e = .returned (.agg #[.int .i64 (k.c : Int), .int .i64 (k.i : Int), .int .i64 (k.a : Int), .int .i64 (k.t : Int)]) ∧ Below W.heap.size W w') := fun W => by
    have := token.made_any x0 y0 z0 u0 W w0
    rwa [hkd] at this
  obtain ⟨S, hS⟩ : ∃ S, token.fmtB (97 * k.num) = S := ⟨_, rfl⟩
  have hsz : S.size = 20 := by rw [← hS]; exact token.fmtB_size (by have := token.num_bd hk; omega)
  have hSL : S.data.toList = token.fmtL (97 * k.num) := by rw [← hS, token.fmtB_list]
  have hSD : check.allD S.data.toList = true := by rw [hSL]; exact token.fmt_D _
  have HF : Hid (∀ W, token.TTab W → Calls Tryd.prog 7 #[.agg #[.int .i64 (k.c : Int), .int .i64 (k.i : Int), .int .i64 (k.a : Int), .int .i64 (k.t : Int)]] W fun e w' => e = .returned (.tuple #[.string S, .int .i64 0]) ∧ Below W.heap.size W w') := fun W hW => by
    have := token.format_ok k W hW hk
    rwa [hS] at this
  have HP : Hid (∀ (t : ByteArray) W, token.TTab W → Calls Tryd.prog 9 #[.string t] W fun e w' => e = .returned (.tuple #[token.parseV t.data.toList, .int .i64 (token.parseE t.data.toList)]) ∧ Below W.heap.size W w') := fun t W hW => token.parse_any t W hW
  have HV : Hid (∀ l, ∃ p q r s : Int, token.parseV l = .agg #[.int .i64 p, .int .i64 q, .int .i64 r, .int .i64 s]) := fun l => by
    unfold token.parseV
    split
    · exact ⟨_, _, _, _, rfl⟩
    · exact ⟨_, _, _, _, rfl⟩
  have hX0 := Blk.new w #[.int .i64 x0, .int .i64 y0, .int .i64 z0, .int .i64 u0] 23
  have HX0 : Hid (Blk (w.alloc (.cells #[.int .i64 x0, .int .i64 y0, .int .i64 z0, .int .i64 u0] 23)) w.heap.size #[.int .i64 x0, .int .i64 y0, .int .i64 z0, .int .i64 u0] 23) := hX0
  have HB0 : Hid (Below w.heap.size w (w.alloc (.cells #[.int .i64 x0, .int .i64 y0, .int .i64 z0, .int .i64 u0] 23))) := (Below.refl _ _).alloc (Nat.le_refl _) _
  have hs20 : (S.size : Int) = 20 := by omega
  have hs20n : ((S.size : Int) != 20) = false := by rw [hs20]; rfl
  have hp0 := check.pick_nonneg a2 2 (by omega)
  have hp1 := check.pick_lt a2 2 (by omega)
  obtain ⟨n, hn⟩ : ∃ n : Nat, check.pick a2 2 = (n : Int) := Int.eq_ofNat_of_zero_le hp0
  have HPK : Hid (∀ W, Calls Tryd.prog 12 #[.int .i64 a2, .int .i64 2] W fun e w' => e = .returned (.int .i64 (n : Int)) ∧ w' = W) := fun W => by
    have := check.picked_any a2 2 W w2 (by omega) (by omega)
    rwa [hn] at this
  have HSW : Hid (∀ W, Calls Tryd.prog 11 #[.string S, .int .i64 a1, .int .i64 (1 + (n : Int))] W fun e w' => check.SwapPost W S (1 + n) e w') := fun W => by
    have := check.swapped_any S a1 (1 + n) W (by omega) (by omega) (by omega) w1
    rwa [show ((1 + n : Nat) : Int) = 1 + (n : Int) by omega] at this
  have HNO : Hid (∀ (t A m B : List UInt8) (c c' : UInt8), S.data.toList = A ++ c :: (m ++ c' :: B) → t = A ++ c' :: (m ++ c :: B) → m.length + 1 = 1 + n → t ≠ S.data.toList → token.parseE t = 8 ∨ token.parseE t = 2) := fun t A m B c c' h1 h2 h3 h4 => token.swap_no hk (by rw [← hSL]; exact h1) h2 (by omega) (by rw [← hSL]; exact h4)
  have HOK : Hid (token.parseE S.data.toList = 0 ∧ token.parseV S.data.toList = .agg #[.int .i64 (k.c : Int), .int .i64 (k.i : Int), .int .i64 (k.a : Int), .int .i64 (k.t : Int)]) := by
    have := token.parse_fmt hk
    rwa [← hSL] at this
  have hnn : (n : Int) < 2 := by omega
  have hq := token.eq4 (k.c : Int) (k.i : Int) (k.a : Int) (k.t : Int) (k.c : Int) (k.i : Int) (k.a : Int) (k.t : Int)
  simp only [beq_self_eq_true, Bool.and_self] at hq
  clear hkd hk hSD hSL hS hsz w0 w1 w2 ht hX0 hp0 hp1 hn
  go_enter Tryd.func4, Tryd.ntmps4
  go_wp2_with fail
  refine (HM.out _).mono ?_
  rintro e w1 ⟨rfl, hb1⟩
  have HB1 : Hid (Below w.heap.size w w1) := bel_step HB0.out hb1
  have HX1 : Hid (Blk w1 w.heap.size #[.int .i64 x0, .int .i64 y0, .int .i64 z0, .int .i64 u0] 23) := HX0.out.next hb1
  clear hb1 HB0 HX0
  go_wp2_with fail
  refine (HF.out _ (HT.out.below HB1.out)).mono ?_
  rintro e w2 ⟨rfl, hb2⟩
  have HB2 : Hid (Below w.heap.size w w2) := bel_step HB1.out hb2
  have HX2 : Hid (Blk w2 w.heap.size #[.int .i64 x0, .int .i64 y0, .int .i64 z0, .int .i64 u0] 23) := HX1.out.next hb2
  clear hb2 HB1 HX1 HF
  go_wp2_with fail
  refine (HPK.out _).mono ?_
  rintro e w2' ⟨rfl, rfl⟩
  go_wp2_with fail
  refine (HSW.out _).mono ?_
  rintro e w3 ⟨t, A, m, B, c, c', rfl, h1, h2, h3, hb3⟩
  have HB3 : Hid (Below w.heap.size w w3) := bel_step HB2.out hb3
  have HX3 : Hid (Blk w3 w.heap.size #[.int .i64 x0, .int .i64 y0, .int .i64 z0, .int .i64 u0] 23) := HX2.out.next hb3
  have HNN : Hid (t ≠ S → token.parseE t.data.toList = 8 ∨ token.parseE t.data.toList = 2) := fun hne => HNO.out _ A m B c c' h1 h2 h3 (fun h => hne (token.bytes_ext h))
  clear hb3 HB2 HX2 HSW HNO h1 h2 h3 HPK
  by_cases hts : t = S
  · subst hts
    have HPT : Hid (∀ W, token.TTab W → Calls Tryd.prog 9 #[.string t] W fun e w' => e = .returned (.tuple #[.agg #[.int .i64 (k.c : Int), .int .i64 (k.i : Int), .int .i64 (k.a : Int), .int .i64 (k.t : Int)], .int .i64 0]) ∧ Below W.heap.size W w') := fun W hW => by
      have := HP.out t W hW
      rwa [HOK.out.1, HOK.out.2] at this
    clear HP HV HOK HNN
    go_wp2_with fail
    refine (HPT.out _ (HT.out.below HB3.out)).mono ?_
    rintro e w4 ⟨rfl, hb4⟩
    have HB4 : Hid (Below w.heap.size w (w4.alloc (.cells #[.int .i64 (k.c : Int), .int .i64 (k.i : Int), .int .i64 (k.a : Int), .int .i64 (k.t : Int)] 27))) := (bel_step HB3.out hb4).alloc (bel_step HB3.out hb4).size _
    have hX4 := (HX3.out.next hb4).alloc (.cells #[.int .i64 (k.c : Int), .int .i64 (k.i : Int), .int .i64 (k.a : Int), .int .i64 (k.t : Int)] 27)
    have hK4 := Blk.new w4 #[.int .i64 (k.c : Int), .int .i64 (k.i : Int), .int .i64 (k.a : Int), .int .i64 (k.t : Int)] 27
    have g0 := hX4.cell 0
    have g1 := hX4.cell 1
    have g2 := hX4.cell 2
    have g3 := hX4.cell 3
    have l0 := hK4.cell 0
    have l1 := hK4.cell 1
    have l2 := hK4.cell 2
    have l3 := hK4.cell 3
    clear hb4 HB3 HPT HX3 hX4 hK4
    go_wp2_with fail
    generalize w4.alloc (.cells #[.int .i64 (k.c : Int), .int .i64 (k.i : Int), .int .i64 (k.a : Int), .int .i64 (k.t : Int)] 27) = W at *
    have k0 := cell_regrown g0
    have k1 := cell_regrown g1
    have k2 := cell_regrown g2
    have k3 := cell_regrown g3
    have m0 := cell_regrown l0
    have m1 := cell_regrown l1
    have m2 := cell_regrown l2
    have m3 := cell_regrown l3
    clear g0 g1 g2 g3 l0 l1 l2 l3
    refine wp_region_quiet_below (by kernel_rfl) (by kernel_rfl) ?_
    iterate 5 (quiet_step (fail))
    quiet_step (exact Calls.regrown_of (HM.out _))
    iterate 3 (quiet_step (fail))
    refine wpQuiet_nil ?_
    intro _ hw'
    obtain ⟨⟨dq, osq⟩, hw''⟩ := hw'
    subst hw''
    go_wp2_with fail
    go_ret
    exact ⟨rfl, HB4.out.trans ((below_regrown W dq osq).mono HB4.out.size)⟩
  · have hno := HNN.out hts
    have hcmp : (t.toList == S.toList) = false := by
      rw [beq_eq_false_iff_ne]
      intro h
      exact hts (token.bytes_ext (by rw [← ByteArray.toList_eq, ← ByteArray.toList_eq]; exact h))
    obtain ⟨p, q, r, s, hpv⟩ := HV.out t.data.toList
    have HPT : Hid (∀ W, token.TTab W → Calls Tryd.prog 9 #[.string t] W fun e w' => e = .returned (.tuple #[.agg #[.int .i64 p, .int .i64 q, .int .i64 r, .int .i64 s], .int .i64 (token.parseE t.data.toList)]) ∧ Below W.heap.size W w') := fun W hW => by
      have := HP.out t W hW
      rwa [hpv] at this
    clear HP HV hpv HOK HNN hts
    generalize token.parseE t.data.toList = f at *
    go_wp2_with fail
    refine (HPT.out _ (HT.out.below HB3.out)).mono ?_
    rintro e w4 ⟨rfl, hb4⟩
    have HB4 : Hid (Below w.heap.size w (w4.alloc (.cells #[.int .i64 p, .int .i64 q, .int .i64 r, .int .i64 s] 27))) := (bel_step HB3.out hb4).alloc (bel_step HB3.out hb4).size _
    clear hb4 HB3 HPT
    rcases hno with rfl | rfl
    · go_wp2_with fail
      go_ret
      exact ⟨rfl, HB4.out⟩
    · go_wp2_with fail
      go_ret
      exact ⟨rfl, HB4.out⟩

theorem contract (H : Type) (enc : TypeId × Value → H) (W : World) (base : Nat) (args : Array Value) (ds gs : List (DataW H)) (before : List MemPlace)
    (hval : ∀ (j : Nat) t v, Tryd.f4.params[j]? = some t → args[j]? = some v → Value.okWide Tryd.prog W .any base t v)
    (hW : DataW.Whole enc Tryd.prog Tryd.f4.params.toList Rows.tokenSwapSpec.vars false W args.toList ds gs before) (hL : laidMetH Tryd.prog Rows.tokenSwapRow.laid W) :
    Calls Tryd.prog 4 args W fun e W' => ∃ v, e = .returned v ∧ Rows.tokenSwapSpec.post enc Tryd.prog Tryd.f4 false true false false W args v W' := by
  have hW' := hW
  obtain ⟨p, q, hA0, hV, rfl, hfz, hnd⟩ := hW
  have hA : DataW.TrodAll enc Tryd.prog W 0 (fun _ => true) true Tryd.f4.params.toList args.toList ds p := hA0
  rw [Tryd.params4] at hA hval
  obtain ⟨v0, vs0, d0, ds0, p0, q0, hargs, rfl, rfl, h0, r0⟩ := trodAll_cons hA
  obtain ⟨v1, vs1, d1, ds1, p1, q1, rfl, rfl, rfl, h1, r1⟩ := trodAll_cons r0
  obtain ⟨v2, vs2, d2, ds2, p2, q2, rfl, rfl, rfl, h2, r2⟩ := trodAll_cons r1
  obtain ⟨rfl, rfl, rfl⟩ := trodAll_nil r2
  obtain rfl : args = #[v0, v1, v2] := by cases args; simp_all
  obtain ⟨rfl, rfl⟩ := trodVars_none hV
  obtain ⟨x0, y0, z0, u0, rfl, rfl, rfl, w0⟩ := token.open_raw (hval 0 23 v0 rfl rfl) h0
  obtain ⟨a1, rfl, rfl, rfl, w1⟩ := open_int Tryd.underlying3 (hval 1 3 v1 rfl rfl) h1
  obtain ⟨a2, rfl, rfl, rfl, w2⟩ := open_int Tryd.underlying3 (hval 2 3 v2 rfl rfl) h2
  clear hA0
  simp only [List.append_nil] at hW'
  refine (walk x0 y0 z0 u0 a1 a2 W w0 w1 w2 (table hL)).mono fun e W' ⟨he, hg⟩ => ?_
  subst he
  exact ⟨_, rfl, _, _, _, [], [], [], hW', (trodAll_cons_mk (shut_bool Tryd.underlying4 _) trodAll_mk0), (trodAll_cons_mk (token.shut_raw w0) (trodAll_cons_mk (shut_int Tryd.underlying3 w1) (trodAll_cons_mk (shut_int Tryd.underlying3 w2) trodAll_mk0))), rfl, hg.frame _, fun h => by cases h⟩

/-- A world for the witness: the settled one, the table holding what the program's text lays. -/
def put (k : IntKind) (l : List Int) : Obj → Obj
  | .cells _ t fr => .cells (l.map fun z => Value.int k z).toArray t fr
  | o => o
def withTabs (w : World) : World := { w with heap := (w.heap.modify 0 (put .i64 [57, 3, 37, 20, 16, 21, 0, 16])).modify 1 (put .i64 [1, 2097151, 0, 0, 1, 15, 0, 0]) }
theorem laid_met (os : Os) : laidMet Tryd.prog Rows.tokenSwapRow.laid ((withTabs (World.holding Tryd.prog os ⟨#[], #[], []⟩)).forCall (fun _ _ => 0) ⟨#[], #[.agg #[.int .i64 0, .int .i64 0, .int .i64 0, .int .i64 0], .int .i64 0, .int .i64 0], []⟩).memory :=
  laidMet_of_run' 8 (by kernel_rfl) (by kernel_rfl)
theorem reads (os : Os) {H : Type} (enc : TypeId × Value → H) : ∃ places, DataW.whole enc Tryd.prog ((withTabs (World.holding Tryd.prog os ⟨#[], #[], []⟩)).forCall (fun _ _ => 0) ⟨#[], #[.agg #[.int .i64 0, .int .i64 0, .int .i64 0, .int .i64 0], .int .i64 0, .int .i64 0], []⟩).memory Tryd.f4.params.toList Rows.tokenSwapSpec.vars false (#[.agg #[.int .i64 0, .int .i64 0, .int .i64 0, .int .i64 0], .int .i64 0, .int .i64 0] : Array Value).toList 8 = some ([.agg [.lit (.int .i64 0), .lit (.int .i64 0), .lit (.int .i64 0), .lit (.int .i64 0)], .lit (.int .i64 0), .lit (.int .i64 0)], [], places) :=
  ⟨[], by kernel_rfl⟩

set_option maxRecDepth 100000 in
theorem lifted (os : Os) (started : os.Started) (H : Type) (enc : TypeId × Value → H) (F : Stop.Interp) :
    ReturnsInHanded {} Tryd.checked os 4 .any ((OpenSpec.ofChange Rows.tokenSwapSpec).preRow enc Tryd.prog Tryd.f4 Rows.tokenSwapRow.domain false Rows.tokenSwapRow.laid) (((OpenSpec.ofChange Rows.tokenSwapSpec).at F).post enc Tryd.prog Tryd.f4 false true false false) := by
  obtain ⟨places, hx⟩ := reads os enc
  refine returnsInHanded_of_row (C := Tryd.checked) (s := OpenSpec.ofChange Rows.tokenSwapSpec) own started (by kernel_rfl) Tryd.func4
    (witness_row_at (enc := enc) (C := Tryd.checked) false (withTabs (World.holding Tryd.prog os ⟨#[], #[], []⟩)) #[.agg #[.int .i64 0, .int .i64 0, .int .i64 0, .int .i64 0], .int .i64 0, .int .i64 0] rfl (by kernel_rfl) (by kernel_rfl) (by kernel_rfl)
      (OpenSpec.preRow_of_cond 8 hx (by kernel_rfl) (fun k hk => by cases hk) (by kernel_rfl) (laid_met os))) ?_
  intro W base args ds gs before hval hW _ _ _ hL _ _
  exact contract H enc W base args ds gs before hval hW hL

theorem said : Rows.TokenSwapSaid :=
  OpenClaim.holds_of_cond 4 Tryd.f4 rfl rfl rfl rfl rfl rfl rfl ⟨rfl, rfl, rfl, rfl, rfl⟩ rfl rfl rfl rfl rfl (by kernel_rfl) Tryd.func4 (by kernel_rfl)
    (of_decide_eq_true (by kernel_rfl)) (by unfold Func.isWrapper; first | (rw [if_pos (by decide +kernel)]; kernel_rfl) | (rw [if_neg (by decide +kernel)]; exact ⟨rfl, rfl⟩))
    (fun os started H enc _ F => by rw [OpenClaim.pre_eq_preRow]; exact lifted os started H enc F)

theorem plain (f : FuncId) (fn : Func) (hf : Tryd.pinned.checked.prog.funcNamed Rows.tokenSwapRow.func = some f) (hfn : Tryd.pinned.checked.prog.funcs[f]? = some fn) :
    false = Tryd.pinned.checked.prog.looks [] ∧ ∀ (j : Nat) t, fn.params[j]? = some t → Tryd.pinned.checked.prog.wantsStandIn t = false := by
  obtain rfl : f = 4 := Option.some.inj ((show Tryd.prog.funcNamed Rows.tokenSwapRow.func = some 4 by kernel_rfl).symm.trans hf) |>.symm
  obtain rfl : fn = Tryd.f4 := (Option.some.inj (Tryd.func4.symm.trans hfn)).symm
  refine ⟨by kernel_rfl, fun j t ht => ?_⟩
  rw [Tryd.params4] at ht
  have hm : t = 23 ∨ t = 3 := by simpa using Array.mem_of_getElem? ht
  rcases hm with rfl | rfl
  · exact (show Tryd.prog.wantsStandIn 23 = false by kernel_rfl)
  · exact (show Tryd.prog.wantsStandIn 3 = false by kernel_rfl)

theorem card : Rows.TokenSwapCardSaid :=
  Claim7.holds_tied_plain_at .later [] _ _ _ _ said (fun _ h => by cases h) (by kernel_rfl) (fun _ h => by cases h) tokenSwap_row_tie rfl ⟨rfl, rfl⟩ (by kernel_rfl) rfl plain (by kernel_rfl)
end Go.Proofs.YtmpjmcfgikmgnabDoor.tokenSwap
namespace Go.Proofs.YtmpjmcfgikmgnabDoor
theorem tokenSwap_holds : Rows.TokenSwapCardSaid := tokenSwap.card
#print axioms tokenSwap_holds
end Go.Proofs.YtmpjmcfgikmgnabDoor
