/- Just one digit behind a text of digits makes it good, whatever bytes it is made of: the call returns true whatever it is given; the table of the moves holds what the program's text lays. -/
import Derived.Test.YtopbiamlmdpphacDoorCards
import Derived.Test.YtopbiamlmdpphacDoorTie
import Derived.Test.YtopbiamlmdpphacDoorCkSeal
import Derived.WalkKit
import Derived.ProofKit
import Derived.OpenShut
import Derived.ShutString
import Derived.ChangeOld
import Derived.Below
import Derived.Deep.DeepHandedRow
import Derived.Lib.LaidTab
namespace Go.Proofs.YtopbiamlmdpphacDoor.checkOne
open Go.ChangeShapes Go.WideShapes Go.ChangeAt Go.RowKit
open Go.ChangeMaps (open_string shut_string)
set_option linter.unusedVariables false

theorem own : ownKnob Tryd.prog.godebug = none := by kernel_rfl
theorem laidOut : laidOutB Tryd.prog = true := by kernel_rfl
def IsRow (k : IntKind) (w : World) (a : Option Addr) (len cap : Nat) (zs : List Int) : Prop :=
  (a = none ∧ len = 0 ∧ cap = 0 ∧ zs = []) ∨
  ∃ x, a = some x ∧ len ≤ cap ∧ cap ≤ maxLen ∧ zs.length = cap ∧ (∀ i, i < zs.length → w.cell? (x.add i) = some (.int k (zs.getD i 0))) ∧ ∀ n ∈ zs, (Lit.int k n).wf = true
theorem gTabType : (Tryd.prog.globals[0]?).map (·.type) = some 46 := by kernel_rfl
theorem cellsTab : Tryd.prog.cellsOf 46 = 10 := by kernel_rfl
theorem cellsInt : Tryd.prog.cellsOf 3 = 1 := by kernel_rfl

/-- What the row's list gives: the table. -/
theorem table {W : World} (h : laidMetH Tryd.prog Rows.checkOneRow.laid W) : check.MTab W :=
  check.mtab_of (by kernel_rfl) (Lib.tabIs_of_head (g := 0) (rest := []) (by kernel_rfl) gTabType Tryd.underlying46 Tryd.underlying3 cellsInt cellsTab h)

theorem walk (a0 : Option Addr) (len0 cap0 : Nat) (z0 : List Int) (w : World) (w0 : IsRow .u8 w a0 len0 cap0 z0) (ht : check.MTab w) :
    Calls Tryd.prog 5 #[.slice a0 len0 cap0] w fun e w' => e = .returned (.bool true) ∧ Below w.heap.size w w' := by
  obtain ⟨hr, hl⟩ := check.rowB_of w0
  have HN : Hid (Calls Tryd.prog 10 #[.slice a0 len0 cap0, .int .i64 199] w fun e w' => check.NumPost w 199 e w') := check.numerals_any a0 len0 cap0 _ 199 w hr hl (by omega) (by omega)
  have HR : Hid (∀ (s : ByteArray) (w' : World), Below w.heap.size w w' → Calls Tryd.prog 7 #[.string s] w' fun e w'' => e = .returned (.bool (check.goodR s.data.toList)) ∧ Below w'.heap.size w' w'') := fun s w' hb => check.good_any s w' (ht.below hb)
  clear w0 hr hl ht
  go_enter Tryd.func5, Tryd.ntmps5
  go_wp2_with fail
  refine HN.out.mono ?_
  rintro e w3 ⟨s, rfl, s1, s2, sd, hb3⟩
  have HB3 : Hid (Below w.heap.size w w3) := hb3
  have hm := check.inv_lt _ (check.sumR_lt sd 1)
  have HK : Hid (∀ d, d < 10 → check.goodR (s ++ check.digT d).data.toList = decide (d = check.invN (check.sumR s.data.toList 1))) := fun d hd => (check.behind_good s1 s2 sd hd).2.2
  generalize check.invN (check.sumR s.data.toList 1) = m at *
  clear hb3 sd HN
  go_wp2_with fail
  go_loopw [4, 5] (fun v i wr => ∃ k : Nat, k ≤ 10 ∧ i = .int .i64 (k : Int) ∧ v = .int .i64 (if m < k then 1 else 0) ∧ Below w.heap.size w wr) (fun _ i _ => 10 - (intOf i).toNat)
  case atStart => exact ⟨0, by omega, rfl, by rw [if_neg (by omega)], HB3.out⟩
  case round =>
    obtain ⟨k, hk, rfl, rfl, hb⟩ := hrel
    have HB : Hid (Below w.heap.size w wr) := hb
    clear hb
    by_cases hlt : k < 10
    · have hG := HK.out k hlt
      have hc := check.conv_one wr (48 + k)
      rw [show ((48 : Int) + (k : Int)).toNat = 48 + k by omega] at hc
      have hc' : (convert 22 9 (.slice (some ⟨wr.heap.size, 0, none⟩) 1 1)).run Tryd.prog (wr.alloc (.cells #[.int .u8 (48 + (k : Int))] 5)) = .ok (.string (check.digT k)) (wr.alloc (.cells #[.int .u8 (48 + (k : Int))] 5)) := hc
      have hts : (check.digT k).size = 1 := rfl
      have HBA : Hid (Below w.heap.size w (wr.alloc (.cells #[.int .u8 (48 + (k : Int))] 5))) := HB.out.alloc HB.out.size _
      have HRR := HR.out (s ++ check.digT k) _ HBA.out
      rw [hG] at HRR
      generalize check.digT k = T at *
      have HGG : Hid (Calls Tryd.prog 7 #[.string (s ++ T)] (wr.alloc (.cells #[.int .u8 (48 + (k : Int))] 5)) fun e w'' => e = .returned (.bool (decide (k = m))) ∧ Below (wr.alloc (.cells #[.int .u8 (48 + (k : Int))] 5)).heap.size (wr.alloc (.cells #[.int .u8 (48 + (k : Int))] 5)) w'') := HRR
      have HN1 : Hid (∀ q : Int, q = (if m < k then 1 else 0) → k = m → q + 1 = (if m < k + 1 then 1 else 0)) := fun q hq e => by
        rw [hq, if_neg (by omega), if_pos (by omega)]; rfl
      have HN2 : Hid (∀ q : Int, q = (if m < k then 1 else 0) → k ≠ m → q = (if m < k + 1 then 1 else 0)) := fun q hq e => by
        rw [hq]
        by_cases h : m < k
        · rw [if_pos h, if_pos (by omega)]
        · rw [if_neg h, if_neg (by omega)]
      have hq01 : (0 : Int) ≤ (if m < k then 1 else 0) ∧ (if m < k then (1 : Int) else 0) ≤ 1 := by split <;> omega
      obtain ⟨q, hq⟩ : ∃ q : Int, q = (if m < k then 1 else 0) := ⟨_, rfl⟩
      rw [← hq] at hq01 ⊢
      have HQ : Hid (q = (if m < k then 1 else 0)) := hq
      obtain ⟨q0, q1⟩ := hq01
      clear hG hc HRR hq HK
      by_cases hkm : k = m
      · have HGT : Hid (Calls Tryd.prog 7 #[.string (s ++ T)] (wr.alloc (.cells #[.int .u8 (48 + (k : Int))] 5)) fun e w'' => e = .returned (.bool true) ∧ Below (wr.alloc (.cells #[.int .u8 (48 + (k : Int))] 5)).heap.size (wr.alloc (.cells #[.int .u8 (48 + (k : Int))] 5)) w'') := by
          have h := HGG.out
          rw [decide_eq_true hkm] at h
          exact h
        have HKM : Hid (k = m) := hkm
        clear hkm HGG
        go_wp2_with fail
        refine HGT.out.mono ?_
        rintro e w5 ⟨rfl, hb5⟩
        have HB5 : Hid (Below w.heap.size w w5) := HBA.out.trans (hb5.mono HBA.out.size)
        clear hb5
        go_wp2_with fail
        go_roundw
        case rel => exact ⟨k + 1, by omega, by go_num, by rw [HN1.out q HQ.out HKM.out], HB5.out⟩
        case measure => simp [intOf]; omega
      · have HGT : Hid (Calls Tryd.prog 7 #[.string (s ++ T)] (wr.alloc (.cells #[.int .u8 (48 + (k : Int))] 5)) fun e w'' => e = .returned (.bool false) ∧ Below (wr.alloc (.cells #[.int .u8 (48 + (k : Int))] 5)).heap.size (wr.alloc (.cells #[.int .u8 (48 + (k : Int))] 5)) w'') := by
          have h := HGG.out
          rw [decide_eq_false hkm] at h
          exact h
        have HKM : Hid (k ≠ m) := hkm
        clear hkm HGG
        go_wp2_with fail
        refine HGT.out.mono ?_
        rintro e w5 ⟨rfl, hb5⟩
        have HB5 : Hid (Below w.heap.size w w5) := HBA.out.trans (hb5.mono HBA.out.size)
        clear hb5
        go_wp2_with fail
        go_roundw
        case rel => exact ⟨k + 1, by omega, by go_num, by rw [← HN2.out q HQ.out HKM.out], HB5.out⟩
        case measure => simp [intOf]; omega
    · rw [if_pos (show m < k by omega)]
      go_wp2_with fail
      go_ret
      exact ⟨rfl, HB.out⟩

theorem contract (H : Type) (enc : TypeId × Value → H) (W : World) (base : Nat) (args : Array Value) (ds gs : List (DataW H)) (before : List MemPlace)
    (hval : ∀ (j : Nat) t v, Tryd.f5.params[j]? = some t → args[j]? = some v → Value.okWide Tryd.prog W .any base t v)
    (hW : DataW.Whole enc Tryd.prog Tryd.f5.params.toList Rows.checkOneSpec.vars false W args.toList ds gs before) (hL : laidMetH Tryd.prog Rows.checkOneRow.laid W) :
    Calls Tryd.prog 5 args W fun e W' => ∃ v, e = .returned v ∧ Rows.checkOneSpec.post enc Tryd.prog Tryd.f5 false true false false W args v W' := by
  have hW' := hW
  obtain ⟨p, q, hA0, hV, rfl, hfz, hnd⟩ := hW
  have hA : DataW.TrodAll enc Tryd.prog W 0 (fun _ => true) true Tryd.f5.params.toList args.toList ds p := hA0
  rw [Tryd.params5] at hA hval
  obtain ⟨v0, vs0, d0, ds0, p0, q0, hargs, rfl, rfl, h0, r0⟩ := trodAll_cons hA
  obtain ⟨rfl, rfl, rfl⟩ := trodAll_nil r0
  obtain rfl : args = #[v0] := by cases args; simp_all
  obtain ⟨rfl, rfl⟩ := trodVars_none hV
  obtain ⟨a0, len0, cap0, rfl⟩ := okWide_slice Tryd.underlying22 (hval 0 22 v0 rfl rfl)
  have k0 := h0
  have lt0 : ∀ x ∈ p0, x.block < W.heap.size := by obtain ⟨m, hm⟩ := k0; exact DataW.trod_lt m _ _ _ hm
  obtain ⟨z0, w0⟩ : ∃ zs, IsRow .u8 W a0 len0 cap0 zs := by
    obtain ⟨fuel, hf⟩ := h0
    rcases open_ints Tryd.underlying22 Tryd.underlying5 (by kernel_rfl) hf with ⟨hcs, _⟩ | ⟨x, l, c, zs, hcs, _, hl, hm, hz, _, hcell, hwz⟩
    · simp [Value.cells] at hcs
      obtain ⟨rfl, rfl, rfl⟩ := hcs
      exact ⟨[], .inl ⟨rfl, rfl, rfl, rfl⟩⟩
    · simp [Value.cells] at hcs
      obtain ⟨rfl, rfl, rfl⟩ := hcs
      exact ⟨zs, .inr ⟨_, rfl, hl, hm, by simpa using hz, hcell, hwz⟩⟩
  clear hA0
  refine (walk a0 len0 cap0 z0 W w0 (table hL)).mono fun e W' ⟨he, hg⟩ => ?_
  subst he
  exact ⟨_, rfl, _, _, _, [], _, [], hW', (trodAll_cons_mk (shut_bool Tryd.underlying4 _) trodAll_mk0), (trodAll_cons_mk (Below.trod laidOut (by kernel_rfl) (of_decide_eq_true (by kernel_rfl)) k0 hg lt0) trodAll_mk0), rfl, hg.frame _, fun h => by cases h⟩

/-- A world for the witness: the settled one, the table holding what the program's text lays. -/
def put (k : IntKind) (l : List Int) : Obj → Obj
  | .cells _ t fr => .cells (l.map fun z => Value.int k z).toArray t fr
  | o => o
def withTabs (w : World) : World := { w with heap := w.heap.modify 0 (put .i64 [1, 5, 7, 6, 2, 8, 3, 0, 9, 4]) }
theorem laid_met (os : Os) : laidMet Tryd.prog Rows.checkOneRow.laid ((withTabs (World.holding Tryd.prog os ⟨#[], #[], []⟩)).forCall (fun _ _ => 0) ⟨#[], #[.slice none 0 0], []⟩).memory :=
  laidMet_of_run' 8 (by kernel_rfl) (by kernel_rfl)
theorem reads (os : Os) {H : Type} (enc : TypeId × Value → H) : ∃ places, DataW.whole enc Tryd.prog ((withTabs (World.holding Tryd.prog os ⟨#[], #[], []⟩)).forCall (fun _ _ => 0) ⟨#[], #[.slice none 0 0], []⟩).memory Tryd.f5.params.toList Rows.checkOneSpec.vars false (#[.slice none 0 0] : Array Value).toList 8 = some ([.nil], [], places) :=
  ⟨[], by kernel_rfl⟩

set_option maxRecDepth 100000 in
theorem lifted (os : Os) (started : os.Started) (H : Type) (enc : TypeId × Value → H) (F : Stop.Interp) :
    ReturnsInHanded {} Tryd.checked os 5 .any ((OpenSpec.ofChange Rows.checkOneSpec).preRow enc Tryd.prog Tryd.f5 Rows.checkOneRow.domain false Rows.checkOneRow.laid) (((OpenSpec.ofChange Rows.checkOneSpec).at F).post enc Tryd.prog Tryd.f5 false true false false) := by
  obtain ⟨places, hx⟩ := reads os enc
  refine returnsInHanded_of_row (C := Tryd.checked) (s := OpenSpec.ofChange Rows.checkOneSpec) own started (by kernel_rfl) Tryd.func5
    (witness_row_at (enc := enc) (C := Tryd.checked) false (withTabs (World.holding Tryd.prog os ⟨#[], #[], []⟩)) #[.slice none 0 0] rfl (by kernel_rfl) (by kernel_rfl) (by kernel_rfl)
      (OpenSpec.preRow_of_cond 8 hx (by kernel_rfl) (fun k hk => by cases hk) (by kernel_rfl) (laid_met os))) ?_
  intro W base args ds gs before hval hW _ _ _ hL _ _
  exact contract H enc W base args ds gs before hval hW hL

theorem said : Rows.CheckOneSaid :=
  OpenClaim.holds_of_cond 5 Tryd.f5 rfl rfl rfl rfl rfl rfl rfl ⟨rfl, rfl, rfl, rfl, rfl⟩ rfl rfl rfl rfl rfl (by kernel_rfl) Tryd.func5 (by kernel_rfl)
    (of_decide_eq_true (by kernel_rfl)) (by unfold Func.isWrapper; first | (rw [if_pos (by decide +kernel)]; kernel_rfl) | (rw [if_neg (by decide +kernel)]; exact ⟨rfl, rfl⟩))
    (fun os started H enc _ F => by rw [OpenClaim.pre_eq_preRow]; exact lifted os started H enc F)

theorem plain (f : FuncId) (fn : Func) (hf : Tryd.pinned.checked.prog.funcNamed Rows.checkOneRow.func = some f) (hfn : Tryd.pinned.checked.prog.funcs[f]? = some fn) :
    false = Tryd.pinned.checked.prog.looks [] ∧ ∀ (j : Nat) t, fn.params[j]? = some t → Tryd.pinned.checked.prog.wantsStandIn t = false := by
  obtain rfl : f = 5 := Option.some.inj ((show Tryd.prog.funcNamed Rows.checkOneRow.func = some 5 by kernel_rfl).symm.trans hf) |>.symm
  obtain rfl : fn = Tryd.f5 := (Option.some.inj (Tryd.func5.symm.trans hfn)).symm
  refine ⟨by kernel_rfl, fun j t ht => ?_⟩
  rw [Tryd.params5] at ht
  have hm : t = 22 := by simpa using Array.mem_of_getElem? ht
  rcases hm with rfl
  · exact (show Tryd.prog.wantsStandIn 22 = false by kernel_rfl)

theorem card : Rows.CheckOneCardSaid :=
  Claim7.holds_tied_plain_at .later [] _ _ _ _ said (fun _ h => by cases h) (by kernel_rfl) (fun _ h => by cases h) checkOne_row_tie rfl ⟨rfl, rfl⟩ (by kernel_rfl) rfl plain (by kernel_rfl)
end Go.Proofs.YtopbiamlmdpphacDoor.checkOne
namespace Go.Proofs.YtopbiamlmdpphacDoor
theorem checkOne_holds : Rows.CheckOneCardSaid := checkOne.card
#print axioms checkOne_holds
end Go.Proofs.YtopbiamlmdpphacDoor
