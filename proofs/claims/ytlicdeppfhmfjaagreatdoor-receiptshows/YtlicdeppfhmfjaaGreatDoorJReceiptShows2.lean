import Derived.Test.YtlicdeppfhmfjaaGreatDoorJReceiptShows1
import Derived.Test.YtlicdeppfhmfjaaGreatDoorBlk
import Derived.WalkKit
import Derived.Deep.DeepCutAuto
import Derived.Test.YtlicdeppfhmfjaaGreatDoorProg
import Derived.Below
import Derived.Lib.Builder
import Derived.Lib.AppendStr
import Derived.Lib.UnsafeStr
import Derived.Laws.Externs
import Derived.Laws.IdiomCopy
import Derived.Shelf.Strings.OnBuilder
import Derived.Shelf.LaysM
import Derived.Shelf.LaysC
import Derived.Laws.OwnMore
import Derived.Laws.AppendOwnNone
import Derived.OwnWalk
import Derived.BigRegion
import Derived.BigQuiet
import Derived.WalkSpells
import Derived.WalkLawsBesides
import Derived.Test.YtlicdeppfhmfjaaGreatDoorCkTxt
import Derived.Test.YtlicdeppfhmfjaaGreatDoorChk
import Derived.DataReads
import Derived.Lib.LaidTab
import Derived.Lib.OthersKept
import Derived.Shelf.Strconv.Itoa3
import Derived.Shelf.Strings.Repeat
import Derived.Lib.AppendIntMem
import Derived.Test.YtlicdeppfhmfjaaGreatDoorTkRef
import Derived.Test.YtlicdeppfhmfjaaGreatDoorRows
import Derived.ProofKit
import Derived.OpenShut
import Derived.ChangeSame
import Derived.Deep.Strs
import Derived.Lib.SmallJoins
import Derived.Test.YtlicdeppfhmfjaaGreatDoorTkOpen
import Derived.LaidLaws
import Derived.FnData
import Derived.Shelf.Vars

/- What is wrong with a receipt, in the program. -/
namespace Go.Proofs.YtlicdeppfhmfjaaGreatDoor.rcp
open Go.RowKit
set_option maxRecDepth 100000
set_option linter.unusedVariables false
set_option linter.unusedSimpArgs false

set_option maxHeartbeats 1000000 in
theorem units_any (c i a t : Int) (w : World) : Calls Tryz.prog 28 #[.agg #[.int .i64 c, .int .i64 i, .int .i64 a, .int .i64 t]] w fun e w' => e = .returned (.int .i64 (if c = 0 then a else 0)) ∧ Below w.heap.size w w' := by
  by_cases h : c = 0
  · subst h
    rw [if_pos rfl]
    go_enter Tryz.func28, Tryz.ntmps28
    go_wp2_with fail
    go_ret
    exact ⟨rfl, rci.bel1 _ _⟩
  · rw [if_neg h]
    have hq : (c == 0) = false := by simpa using h
    clear h
    go_enter Tryz.func28, Tryz.ntmps28
    go_wp2_with fail
    go_ret
    exact ⟨rfl, rci.bel1 _ _⟩
/-- What Check answers, over what Parse answers. -/
def chk (me id te de fe pr ch un c i a pe : Int) : Int :=
  if ¬ (0 ≤ me ∧ me ≤ 49) then 18 else if rci.okAll 0 100000000 [te, de, fe, pr, ch] = false then 2 else if ¬ (1 ≤ id ∧ id ≤ 1048575) then 2 else if ¬ (0 ≤ un ∧ un ≤ 2097151) then 2 else if te ≠ de + fe + pr + ch then 19 else if pe ≠ 0 then pe else if i ≠ id then 8 else if (if c = 0 then a else 0) ≠ un then 8 else 0
theorem five_bd {a b c d e : Int} (h : rci.okAll 0 100000000 [a, b, c, d, e] = true) : (0 ≤ a ∧ a ≤ 100000000) ∧ (0 ≤ b ∧ b ≤ 100000000) ∧ (0 ≤ c ∧ c ≤ 100000000) ∧ (0 ≤ d ∧ d ≤ 100000000) ∧ (0 ≤ e ∧ e ≤ 100000000) := by
  simpa [rci.okAll] using h
set_option maxHeartbeats 4000000 in
theorem check_abs (me id te de fe pr ch un c i a t pe : Int) (S : ByteArray) (w : World)
    (hP : ∀ w', Below w.heap.size w w' → Calls Tryz.prog 27 #[.string S] w' fun e w'' => e = .returned (.tuple #[.agg #[.int .i64 c, .int .i64 i, .int .i64 a, .int .i64 t], .int .i64 pe]) ∧ Below w'.heap.size w' w'') :
    Calls Tryz.prog 11 #[.agg #[.int .i64 me, .int .i64 id, .int .i64 te, .int .i64 de, .int .i64 fe, .int .i64 pr, .int .i64 ch, .int .i64 un, .string S]] w fun e w' => e = .returned (.int .i64 (chk me id te de fe pr ch un c i a pe)) ∧ Below w.heap.size w w' := by
  have HP : Hid (∀ w', Below w.heap.size w w' → Calls Tryz.prog 27 #[.string S] w' fun e w'' => e = .returned (.tuple #[.agg #[.int .i64 c, .int .i64 i, .int .i64 a, .int .i64 t], .int .i64 pe]) ∧ Below w'.heap.size w' w'') := hP
  clear hP
  have HX0 : Hid (Blk (w.alloc (.cells #[.int .i64 me, .int .i64 id, .int .i64 te, .int .i64 de, .int .i64 fe, .int .i64 pr, .int .i64 ch, .int .i64 un, .string S] 25)) w.heap.size #[.int .i64 me, .int .i64 id, .int .i64 te, .int .i64 de, .int .i64 fe, .int .i64 pr, .int .i64 ch, .int .i64 un, .string S] 25) := Blk.new _ _ _
  have HB0 : Hid (Below w.heap.size w (w.alloc (.cells #[.int .i64 me, .int .i64 id, .int .i64 te, .int .i64 de, .int .i64 fe, .int .i64 pr, .int .i64 ch, .int .i64 un, .string S] 25))) := (Below.refl _ _).alloc (Nat.le_refl _) _
  have hs0 : w.heap.size < (w.alloc (.cells #[.int .i64 me, .int .i64 id, .int .i64 te, .int .i64 de, .int .i64 fe, .int .i64 pr, .int .i64 ch, .int .i64 un, .string S] 25)).heap.size := HX0.out.lt
  generalize hWW : w.alloc (.cells #[.int .i64 me, .int .i64 id, .int .i64 te, .int .i64 de, .int .i64 fe, .int .i64 pr, .int .i64 ch, .int .i64 un, .string S] 25) = W0 at *
  have HWW : Hid (w.alloc (.cells #[.int .i64 me, .int .i64 id, .int .i64 te, .int .i64 de, .int .i64 fe, .int .i64 pr, .int .i64 ch, .int .i64 un, .string S] 25) = W0) := hWW
  clear hWW
  have HU : Hid (∀ W, Calls Tryz.prog 28 #[.agg #[.int .i64 c, .int .i64 i, .int .i64 a, .int .i64 t]] W fun e w' => e = .returned (.int .i64 (if c = 0 then a else 0)) ∧ Below W.heap.size W w') := fun W => units_any c i a t W
  generalize hun' : (if c = 0 then a else 0) = ut at HU
  have HUT : Hid ((if c = 0 then a else 0) = ut) := hun'
  clear hun'
  have xme : W0.cell? ⟨w.heap.size, 0, none⟩ = some (.int .i64 me) := HX0.out.cell 0
  have xid : W0.cell? ⟨w.heap.size, 1, none⟩ = some (.int .i64 id) := HX0.out.cell 1
  have xte : W0.cell? ⟨w.heap.size, 2, none⟩ = some (.int .i64 te) := HX0.out.cell 2
  have xde : W0.cell? ⟨w.heap.size, 3, none⟩ = some (.int .i64 de) := HX0.out.cell 3
  have xfe : W0.cell? ⟨w.heap.size, 4, none⟩ = some (.int .i64 fe) := HX0.out.cell 4
  have xpr : W0.cell? ⟨w.heap.size, 5, none⟩ = some (.int .i64 pr) := HX0.out.cell 5
  have xch : W0.cell? ⟨w.heap.size, 6, none⟩ = some (.int .i64 ch) := HX0.out.cell 6
  have xun : W0.cell? ⟨w.heap.size, 7, none⟩ = some (.int .i64 un) := HX0.out.cell 7
  go_enter Tryz.func11, Tryz.ntmps11
  go_upto_region 1 with fail
  rw [HWW.out]
  clear HWW
  have HBB : Hid (Blk (W0.alloc (.cells #[.int .i64 id, .int .i64 te, .int .i64 de, .int .i64 fe, .int .i64 pr, .int .i64 ch, .int .i64 un] 23)) W0.heap.size #[.int .i64 id, .int .i64 te, .int .i64 de, .int .i64 fe, .int .i64 pr, .int .i64 ch, .int .i64 un] 23) := Blk.new _ _ _
  have HX1 : Hid (Blk (W0.alloc (.cells #[.int .i64 id, .int .i64 te, .int .i64 de, .int .i64 fe, .int .i64 pr, .int .i64 ch, .int .i64 un] 23)) w.heap.size #[.int .i64 me, .int .i64 id, .int .i64 te, .int .i64 de, .int .i64 fe, .int .i64 pr, .int .i64 ch, .int .i64 un, .string S] 25) := HX0.out.alloc _
  have HB1 : Hid (Below w.heap.size w (W0.alloc (.cells #[.int .i64 id, .int .i64 te, .int .i64 de, .int .i64 fe, .int .i64 pr, .int .i64 ch, .int .i64 un] 23))) := HB0.out.alloc HB0.out.size _
  go_upto_region 2 with fail
  generalize W0.alloc (.cells #[.int .i64 id, .int .i64 te, .int .i64 de, .int .i64 fe, .int .i64 pr, .int .i64 ch, .int .i64 un] 23) = W1 at *
  generalize W0.heap.size = gb at *
  clear xme xid xte xde xfe xpr xch xun HX0 HB0
  have yme : W1.cell? ⟨w.heap.size, 0, none⟩ = some (.int .i64 me) := HX1.out.cell 0
  have HIM := rci.isMeter_any me W1
  by_cases hme : 0 ≤ me ∧ me ≤ 49
  case neg =>
    rw [decide_eq_false hme] at HIM
    have HR : Hid (chk me id te de fe pr ch un c i a pe = 18) := by show _ = _; unfold chk; rw [if_pos hme]
    go_wp2_with fail
    refine HIM.mono ?_
    rintro e W2 ⟨rfl, hb⟩
    have HB2 : Hid (Below w.heap.size w W2) := bel_step HB1.out hb
    clear hb HIM
    go_wp2_with fail
    go_ret
    exact ⟨by rw [HR.out]; rfl, HB2.out⟩
  rw [decide_eq_true hme] at HIM
  go_wp2_with fail
  refine HIM.mono ?_
  rintro e W2 ⟨rfl, hb⟩
  have HB2 : Hid (Below w.heap.size w W2) := bel_step HB1.out hb
  have HBB2 : Hid (Blk W2 gb #[.int .i64 id, .int .i64 te, .int .i64 de, .int .i64 fe, .int .i64 pr, .int .i64 ch, .int .i64 un] 23) := HBB.out.next hb
  have HX2 : Hid (Blk W2 w.heap.size #[.int .i64 me, .int .i64 id, .int .i64 te, .int .i64 de, .int .i64 fe, .int .i64 pr, .int .i64 ch, .int .i64 un, .string S] 25) := HX1.out.next hb
  clear hb HIM HB1 HBB HX1 yme
  have bid : W2.cell? ⟨gb, 0, none⟩ = some (.int .i64 id) := HBB2.out.cell 0
  have bte : W2.cell? ⟨gb, 1, none⟩ = some (.int .i64 te) := HBB2.out.cell 1
  have bde : W2.cell? ⟨gb, 2, none⟩ = some (.int .i64 de) := HBB2.out.cell 2
  have bfe : W2.cell? ⟨gb, 3, none⟩ = some (.int .i64 fe) := HBB2.out.cell 3
  have bpr : W2.cell? ⟨gb, 4, none⟩ = some (.int .i64 pr) := HBB2.out.cell 4
  have bch : W2.cell? ⟨gb, 5, none⟩ = some (.int .i64 ch) := HBB2.out.cell 5
  have bun : W2.cell? ⟨gb, 6, none⟩ = some (.int .i64 un) := HBB2.out.cell 6
  have HW2 : Hid (Calls Tryz.prog 26 #[.int .i64 0, .int .i64 100000000, .slice (some ⟨W2.heap.size, 0, none⟩) 5 5] (W2.alloc (.cells #[.int .i64 te, .int .i64 de, .int .i64 fe, .int .i64 pr, .int .i64 ch] 3)) fun e w' => e = .returned (.bool (rci.okAll 0 100000000 [te, de, fe, pr, ch])) ∧ w' = W2.alloc (.cells #[.int .i64 te, .int .i64 de, .int .i64 fe, .int .i64 pr, .int .i64 ch] 3)) := rci.within_any 0 100000000 _ 5 5 [te, de, fe, pr, ch] _ (rci.row_five W2 te de fe pr ch 3) (by decide)
  have HB3 : Hid (Below w.heap.size w (W2.alloc (.cells #[.int .i64 te, .int .i64 de, .int .i64 fe, .int .i64 pr, .int .i64 ch] 3))) := HB2.out.alloc HB2.out.size _
  have HBB3 : Hid (Blk (W2.alloc (.cells #[.int .i64 te, .int .i64 de, .int .i64 fe, .int .i64 pr, .int .i64 ch] 3)) gb #[.int .i64 id, .int .i64 te, .int .i64 de, .int .i64 fe, .int .i64 pr, .int .i64 ch, .int .i64 un] 23) := HBB2.out.alloc _
  have HX3 : Hid (Blk (W2.alloc (.cells #[.int .i64 te, .int .i64 de, .int .i64 fe, .int .i64 pr, .int .i64 ch] 3)) w.heap.size #[.int .i64 me, .int .i64 id, .int .i64 te, .int .i64 de, .int .i64 fe, .int .i64 pr, .int .i64 ch, .int .i64 un, .string S] 25) := HX2.out.alloc _
  by_cases h5 : rci.okAll 0 100000000 [te, de, fe, pr, ch] = true
  case neg =>
    rw [show rci.okAll 0 100000000 [te, de, fe, pr, ch] = false by simpa using h5] at HW2
    have HR : Hid (chk me id te de fe pr ch un c i a pe = 2) := by show _ = _; unfold chk; rw [if_neg (not_not_intro hme), if_pos (by simpa using h5)]
    go_wp2_with fail
    refine HW2.out.mono ?_
    rintro e W ⟨rfl, hw⟩
    subst hw
    clear HW2
    go_wp2_with fail
    go_ret
    exact ⟨by rw [HR.out]; rfl, HB3.out⟩
  rw [h5] at HW2
  go_wp2_with fail
  refine HW2.out.mono ?_
  rintro e W ⟨rfl, hw⟩
  subst hw
  clear HW2 HB2 HBB2 HX2 bid bte bde bfe bpr bch bun
  generalize W2.alloc (.cells #[.int .i64 te, .int .i64 de, .int .i64 fe, .int .i64 pr, .int .i64 ch] 3) = W3 at *
  have bid : W3.cell? ⟨gb, 0, none⟩ = some (.int .i64 id) := HBB3.out.cell 0
  have bte : W3.cell? ⟨gb, 1, none⟩ = some (.int .i64 te) := HBB3.out.cell 1
  have bde : W3.cell? ⟨gb, 2, none⟩ = some (.int .i64 de) := HBB3.out.cell 2
  have bfe : W3.cell? ⟨gb, 3, none⟩ = some (.int .i64 fe) := HBB3.out.cell 3
  have bpr : W3.cell? ⟨gb, 4, none⟩ = some (.int .i64 pr) := HBB3.out.cell 4
  have bch : W3.cell? ⟨gb, 5, none⟩ = some (.int .i64 ch) := HBB3.out.cell 5
  have bun : W3.cell? ⟨gb, 6, none⟩ = some (.int .i64 un) := HBB3.out.cell 6
  have HW3 : Hid (Calls Tryz.prog 26 #[.int .i64 1, .int .i64 1048575, .slice (some ⟨W3.heap.size, 0, none⟩) 1 1] (W3.alloc (.cells #[.int .i64 id] 3)) fun e w' => e = .returned (.bool (decide (1 ≤ id ∧ id ≤ 1048575))) ∧ w' = W3.alloc (.cells #[.int .i64 id] 3)) := rci.within_one 1 1048575 id W3 _ rfl
  have HB4 : Hid (Below w.heap.size w (W3.alloc (.cells #[.int .i64 id] 3))) := HB3.out.alloc HB3.out.size _
  have HBB4 : Hid (Blk (W3.alloc (.cells #[.int .i64 id] 3)) gb #[.int .i64 id, .int .i64 te, .int .i64 de, .int .i64 fe, .int .i64 pr, .int .i64 ch, .int .i64 un] 23) := HBB3.out.alloc _
  have HX4 : Hid (Blk (W3.alloc (.cells #[.int .i64 id] 3)) w.heap.size #[.int .i64 me, .int .i64 id, .int .i64 te, .int .i64 de, .int .i64 fe, .int .i64 pr, .int .i64 ch, .int .i64 un, .string S] 25) := HX3.out.alloc _
  by_cases hid : 1 ≤ id ∧ id ≤ 1048575
  case neg =>
    rw [decide_eq_false hid] at HW3
    have HR : Hid (chk me id te de fe pr ch un c i a pe = 2) := by show _ = _; unfold chk; rw [if_neg (not_not_intro hme), if_neg (by rw [h5]; decide), if_pos hid]
    go_wp2_with fail
    refine HW3.out.mono ?_
    rintro e W ⟨rfl, hw⟩
    subst hw
    clear HW3
    go_wp2_with fail
    go_ret
    exact ⟨by rw [HR.out]; rfl, HB4.out⟩
  rw [decide_eq_true hid] at HW3
  go_wp2_with fail
  refine HW3.out.mono ?_
  rintro e W ⟨rfl, hw⟩
  subst hw
  clear HW3 HB3 HBB3 HX3 bid bte bde bfe bpr bch bun
  generalize W3.alloc (.cells #[.int .i64 id] 3) = W4 at *
  have bid : W4.cell? ⟨gb, 0, none⟩ = some (.int .i64 id) := HBB4.out.cell 0
  have bte : W4.cell? ⟨gb, 1, none⟩ = some (.int .i64 te) := HBB4.out.cell 1
  have bde : W4.cell? ⟨gb, 2, none⟩ = some (.int .i64 de) := HBB4.out.cell 2
  have bfe : W4.cell? ⟨gb, 3, none⟩ = some (.int .i64 fe) := HBB4.out.cell 3
  have bpr : W4.cell? ⟨gb, 4, none⟩ = some (.int .i64 pr) := HBB4.out.cell 4
  have bch : W4.cell? ⟨gb, 5, none⟩ = some (.int .i64 ch) := HBB4.out.cell 5
  have bun : W4.cell? ⟨gb, 6, none⟩ = some (.int .i64 un) := HBB4.out.cell 6
  have HW4 : Hid (Calls Tryz.prog 26 #[.int .i64 0, .int .i64 2097151, .slice (some ⟨W4.heap.size, 0, none⟩) 1 1] (W4.alloc (.cells #[.int .i64 un] 3)) fun e w' => e = .returned (.bool (decide (0 ≤ un ∧ un ≤ 2097151))) ∧ w' = W4.alloc (.cells #[.int .i64 un] 3)) := rci.within_one 0 2097151 un W4 _ rfl
  have HB5 : Hid (Below w.heap.size w (W4.alloc (.cells #[.int .i64 un] 3))) := HB4.out.alloc HB4.out.size _
  have HBB5 : Hid (Blk (W4.alloc (.cells #[.int .i64 un] 3)) gb #[.int .i64 id, .int .i64 te, .int .i64 de, .int .i64 fe, .int .i64 pr, .int .i64 ch, .int .i64 un] 23) := HBB4.out.alloc _
  have HX5 : Hid (Blk (W4.alloc (.cells #[.int .i64 un] 3)) w.heap.size #[.int .i64 me, .int .i64 id, .int .i64 te, .int .i64 de, .int .i64 fe, .int .i64 pr, .int .i64 ch, .int .i64 un, .string S] 25) := HX4.out.alloc _
  by_cases hun : 0 ≤ un ∧ un ≤ 2097151
  case neg =>
    rw [decide_eq_false hun] at HW4
    have HR : Hid (chk me id te de fe pr ch un c i a pe = 2) := by show _ = _; unfold chk; rw [if_neg (not_not_intro hme), if_neg (by rw [h5]; decide), if_neg (not_not_intro hid), if_pos hun]
    go_wp2_with fail
    refine HW4.out.mono ?_
    rintro e W ⟨rfl, hw⟩
    subst hw
    clear HW4
    go_wp2_with fail
    go_ret
    exact ⟨by rw [HR.out]; rfl, HB5.out⟩
  rw [decide_eq_true hun] at HW4
  go_wp2_with fail
  refine HW4.out.mono ?_
  rintro e W ⟨rfl, hw⟩
  subst hw
  clear HW4 HB4 HBB4 HX4 bid bte bde bfe bpr bch bun
  generalize W4.alloc (.cells #[.int .i64 un] 3) = W5 at *
  have bid : W5.cell? ⟨gb, 0, none⟩ = some (.int .i64 id) := HBB5.out.cell 0
  have bte : W5.cell? ⟨gb, 1, none⟩ = some (.int .i64 te) := HBB5.out.cell 1
  have bde : W5.cell? ⟨gb, 2, none⟩ = some (.int .i64 de) := HBB5.out.cell 2
  have bfe : W5.cell? ⟨gb, 3, none⟩ = some (.int .i64 fe) := HBB5.out.cell 3
  have bpr : W5.cell? ⟨gb, 4, none⟩ = some (.int .i64 pr) := HBB5.out.cell 4
  have bch : W5.cell? ⟨gb, 5, none⟩ = some (.int .i64 ch) := HBB5.out.cell 5
  have bun : W5.cell? ⟨gb, 6, none⟩ = some (.int .i64 un) := HBB5.out.cell 6
  obtain ⟨⟨te0, te1⟩, ⟨de0, de1⟩, ⟨fe0, fe1⟩, ⟨pr0, pr1⟩, ⟨ch0, ch1⟩⟩ := five_bd h5
  have q1 : IntKind.i64.wrap (de + fe) = de + fe := by rw [IntKind.wrap_i64]; omega
  have q2 : IntKind.i64.wrap (de + fe + pr) = de + fe + pr := by rw [IntKind.wrap_i64]; omega
  have q3 : IntKind.i64.wrap (de + fe + pr + ch) = de + fe + pr + ch := by rw [IntKind.wrap_i64]; omega
  by_cases hsum : te = de + fe + pr + ch
  case neg =>
    have hq : (te != de + fe + pr + ch) = true := by simpa using hsum
    have HR : Hid (chk me id te de fe pr ch un c i a pe = 19) := by show _ = _; unfold chk; rw [if_neg (not_not_intro hme), if_neg (by rw [h5]; decide), if_neg (not_not_intro hid), if_neg (not_not_intro hun), if_pos hsum]
    clear hsum
    go_wp2_with fail
    go_ret
    exact ⟨by rw [HR.out]; rfl, HB5.out⟩
  have hq : (te != de + fe + pr + ch) = false := by simpa using hsum
  have ytk : W5.cell? ⟨w.heap.size, 8, none⟩ = some (.string S) := HX5.out.cell 8
  have HP5 := HP.out W5 HB5.out
  have HHE : Hid (te = de + fe + pr + ch) := hsum
  clear hsum HP
  go_upto_region 10 with fail
  go_wp2_with fail
  refine HP5.mono ?_
  rintro e W6 ⟨rfl, hb⟩
  have HB6 : Hid (Below w.heap.size w W6) := bel_step HB5.out hb
  have HBB6 : Hid (Blk W6 gb #[.int .i64 id, .int .i64 te, .int .i64 de, .int .i64 fe, .int .i64 pr, .int .i64 ch, .int .i64 un] 23) := HBB5.out.next hb
  clear hb HP5 HB5 HBB5 HX5 ytk bid bte bde bfe bpr bch bun q1 q2 q3
  have HT7 : Hid (Blk (W6.alloc (.cells #[.int .i64 c, .int .i64 i, .int .i64 a, .int .i64 t] 51)) W6.heap.size #[.int .i64 c, .int .i64 i, .int .i64 a, .int .i64 t] 51) := Blk.new _ _ _
  have HBB7 : Hid (Blk (W6.alloc (.cells #[.int .i64 c, .int .i64 i, .int .i64 a, .int .i64 t] 51)) gb #[.int .i64 id, .int .i64 te, .int .i64 de, .int .i64 fe, .int .i64 pr, .int .i64 ch, .int .i64 un] 23) := HBB6.out.alloc _
  have HB7 : Hid (Below w.heap.size w (W6.alloc (.cells #[.int .i64 c, .int .i64 i, .int .i64 a, .int .i64 t] 51))) := HB6.out.alloc HB6.out.size _
  go_upto_region 11 with fail
  generalize W6.alloc (.cells #[.int .i64 c, .int .i64 i, .int .i64 a, .int .i64 t] 51) = W7 at *
  generalize W6.heap.size = gt at *
  clear HB6 HBB6
  by_cases hpe : pe = 0
  case neg =>
    have hq2 : (pe != 0) = true := by simpa using hpe
    have HR : Hid (chk me id te de fe pr ch un c i a pe = pe) := by show _ = _; unfold chk; rw [if_neg (not_not_intro hme), if_neg (by rw [h5]; decide), if_neg (not_not_intro hid), if_neg (not_not_intro hun), if_neg (not_not_intro HHE.out), if_pos hpe]
    clear hpe
    go_wp2_with fail
    go_ret
    exact ⟨by rw [HR.out]; rfl, HB7.out⟩
  have hq2 : (pe != 0) = false := by simpa using hpe
  have HPE : Hid (pe = 0) := hpe
  clear hpe
  go_upto_region 13 with fail
  have lt0 : gt < W7.heap.size := HT7.out.lt
  have lb0 : gb < W7.heap.size := HBB7.out.lt
  have u0 : W7.cell? ⟨gt, 0, none⟩ = some (.int .i64 c) := HT7.out.cell 0
  have u1 : W7.cell? ⟨gt, 1, none⟩ = some (.int .i64 i) := HT7.out.cell 1
  have u2 : W7.cell? ⟨gt, 2, none⟩ = some (.int .i64 a) := HT7.out.cell 2
  have u3 : W7.cell? ⟨gt, 3, none⟩ = some (.int .i64 t) := HT7.out.cell 3
  have v0 : W7.cell? ⟨gb, 0, none⟩ = some (.int .i64 id) := HBB7.out.cell 0
  have v6 : W7.cell? ⟨gb, 6, none⟩ = some (.int .i64 un) := HBB7.out.cell 6
  have HDR : Hid (Below W7.heap.size W7 W7.drew) := bel_drew (Below.refl _ _) 1
  by_cases hi : i = id
  case neg =>
    have hq3 : (i != id) = true := by simpa using hi
    have HR : Hid (chk me id te de fe pr ch un c i a pe = 8) := by show _ = _; unfold chk; rw [if_neg (not_not_intro hme), if_neg (by rw [h5]; decide), if_neg (not_not_intro hid), if_neg (not_not_intro hun), if_neg (not_not_intro HHE.out), if_neg (not_not_intro HPE.out), if_pos hi]
    clear hi
    refine wp_region_held_drew (S := fun v => Below W7.heap.size W7 v) (by kernel_rfl) HDR.out (fun hHeld => ?_)
    refine take_at 0 61 (.pointer (some ⟨gt, 1, none⟩)) _ rfl rfl (by kernel_rfl) (by kernel_rfl) (by kernel_rfl) (fun _ _ _ h => h) (Or.inl ⟨by rfl, fun v hv => by skip; clear hv; go_simp⟩) hHeld ?_
    simp only [Act.put, List.setIfInBounds_toArray, List.set_cons_zero, List.set_cons_succ]
    refine take_at 1 62 (.int .i64 i) _ rfl rfl (by kernel_rfl) (by kernel_rfl) (by kernel_rfl) (fun _ _ _ h => h) (Or.inl ⟨by rfl, fun v hv => by have g1 := (hv.cell (p := ⟨gt, 1, none⟩) lt0).trans u1; clear hv; go_simp⟩) hHeld ?_
    simp only [Act.put, List.setIfInBounds_toArray, List.set_cons_zero, List.set_cons_succ]
    refine take_at 2 63 (.pointer (some ⟨gb, 0, none⟩)) _ rfl rfl (by kernel_rfl) (by kernel_rfl) (by kernel_rfl) (fun _ _ _ h => h) (Or.inl ⟨by rfl, fun v hv => by skip; clear hv; go_simp⟩) hHeld ?_
    simp only [Act.put, List.setIfInBounds_toArray, List.set_cons_zero, List.set_cons_succ]
    refine take_at 3 64 (.int .i64 id) _ rfl rfl (by kernel_rfl) (by kernel_rfl) (by kernel_rfl) (fun _ _ _ h => h) (Or.inl ⟨by rfl, fun v hv => by have g0 := (hv.cell (p := ⟨gb, 0, none⟩) lb0).trans v0; clear hv; go_simp⟩) hHeld ?_
    simp only [Act.put, List.setIfInBounds_toArray, List.set_cons_zero, List.set_cons_succ]
    refine take_at 4 65 (.bool true) _ rfl rfl (by kernel_rfl) (by kernel_rfl) (by kernel_rfl) (fun _ _ _ h => h) (Or.inl ⟨by rfl, fun v hv => by skip; clear hv; go_simp⟩) hHeld ?_
    simp only [Act.put, List.setIfInBounds_toArray, List.set_cons_zero, List.set_cons_succ]
    refine take_at 5 66 (.bool true) _ rfl rfl (by kernel_rfl) (by kernel_rfl) (by kernel_rfl) (fun _ _ _ h => h) (Or.inl ⟨by rfl, fun v hv => by skip; clear hv; go_simp⟩) hHeld ?_
    simp only [Act.put, List.setIfInBounds_toArray, List.set_cons_zero, List.set_cons_succ]
    refine take_at 6 67 undef _ rfl rfl (by kernel_rfl) (by kernel_rfl) (by kernel_rfl) (fun _ _ _ h => h) (Or.inr ⟨by rfl, rfl⟩) hHeld ?_
    simp only [Act.put, List.setIfInBounds_toArray, List.set_cons_zero, List.set_cons_succ]
    refine take_at 7 68 undef _ rfl rfl (by kernel_rfl) (by kernel_rfl) (by kernel_rfl) (fun _ _ _ h => h) (Or.inr ⟨by rfl, rfl⟩) hHeld ?_
    simp only [Act.put, List.setIfInBounds_toArray, List.set_cons_zero, List.set_cons_succ]
    refine take_at 8 69 undef _ rfl rfl (by kernel_rfl) (by kernel_rfl) (by kernel_rfl) (fun _ _ _ h => h) (Or.inr ⟨by rfl, rfl⟩) hHeld ?_
    simp only [Act.put, List.setIfInBounds_toArray, List.set_cons_zero, List.set_cons_succ]
    refine take_at 9 70 undef _ rfl rfl (by kernel_rfl) (by kernel_rfl) (by kernel_rfl) (fun _ _ _ h => h) (Or.inr ⟨by rfl, rfl⟩) hHeld ?_
    simp only [Act.put, List.setIfInBounds_toArray, List.set_cons_zero, List.set_cons_succ]
    refine take_at 10 71 undef _ rfl rfl (by kernel_rfl) (by kernel_rfl) (by kernel_rfl) (fun _ _ _ h => h) (Or.inr ⟨by rfl, rfl⟩) hHeld ?_
    simp only [Act.put, List.setIfInBounds_toArray, List.set_cons_zero, List.set_cons_succ]
    refine take_at 11 72 (.bool true) _ rfl rfl (by kernel_rfl) (by kernel_rfl) (by kernel_rfl) (fun _ _ _ h => h) (Or.inl ⟨by rfl, fun v hv => by skip; clear hv; go_simp⟩) hHeld ?_
    simp only [Act.put, List.setIfInBounds_toArray, List.set_cons_zero, List.set_cons_succ]
    refine wpAnyH_done (by kernel_rfl) ?_ _
    have HB8 : Hid (Below w.heap.size w W7.drew) := bel_drew HB7.out 1
    clear hHeld
    go_wp2_with fail
    go_ret
    exact ⟨by rw [HR.out]; rfl, HB8.out⟩
  have hq3 : (i != id) = false := by simpa using hi
  have HII : Hid (i = id) := hi
  clear hi
  refine wp_region_held_drew (S := fun v => Below W7.heap.size W7 v) (by kernel_rfl) HDR.out (fun hHeld => ?_)
  refine take_at 0 61 (.pointer (some ⟨gt, 1, none⟩)) _ rfl rfl (by kernel_rfl) (by kernel_rfl) (by kernel_rfl) (fun _ _ _ h => h) (Or.inl ⟨by rfl, fun v hv => by skip; clear hv; go_simp⟩) hHeld ?_
  simp only [Act.put, List.setIfInBounds_toArray, List.set_cons_zero, List.set_cons_succ]
  refine take_at 1 62 (.int .i64 i) _ rfl rfl (by kernel_rfl) (by kernel_rfl) (by kernel_rfl) (fun _ _ _ h => h) (Or.inl ⟨by rfl, fun v hv => by have g1 := (hv.cell (p := ⟨gt, 1, none⟩) lt0).trans u1; clear hv; go_simp⟩) hHeld ?_
  simp only [Act.put, List.setIfInBounds_toArray, List.set_cons_zero, List.set_cons_succ]
  refine take_at 2 63 (.pointer (some ⟨gb, 0, none⟩)) _ rfl rfl (by kernel_rfl) (by kernel_rfl) (by kernel_rfl) (fun _ _ _ h => h) (Or.inl ⟨by rfl, fun v hv => by skip; clear hv; go_simp⟩) hHeld ?_
  simp only [Act.put, List.setIfInBounds_toArray, List.set_cons_zero, List.set_cons_succ]
  refine take_at 3 64 (.int .i64 id) _ rfl rfl (by kernel_rfl) (by kernel_rfl) (by kernel_rfl) (fun _ _ _ h => h) (Or.inl ⟨by rfl, fun v hv => by have g0 := (hv.cell (p := ⟨gb, 0, none⟩) lb0).trans v0; clear hv; go_simp⟩) hHeld ?_
  simp only [Act.put, List.setIfInBounds_toArray, List.set_cons_zero, List.set_cons_succ]
  refine take_at 4 65 (.bool false) _ rfl rfl (by kernel_rfl) (by kernel_rfl) (by kernel_rfl) (fun _ _ _ h => h) (Or.inl ⟨by rfl, fun v hv => by skip; clear hv; go_simp⟩) hHeld ?_
  simp only [Act.put, List.setIfInBounds_toArray, List.set_cons_zero, List.set_cons_succ]
  refine take_at 5 66 (.bool false) _ rfl rfl (by kernel_rfl) (by kernel_rfl) (by kernel_rfl) (fun _ _ _ h => h) (Or.inl ⟨by rfl, fun v hv => by skip; clear hv; go_simp⟩) hHeld ?_
  simp only [Act.put, List.setIfInBounds_toArray, List.set_cons_zero, List.set_cons_succ]
  refine take_at 6 67 (.agg #[.int .i64 c, .int .i64 i, .int .i64 a, .int .i64 t]) _ rfl rfl (by kernel_rfl) (by kernel_rfl) (by kernel_rfl) (fun _ _ _ h => h) (Or.inl ⟨by rfl, fun v hv => by have g0 := (hv.cell (p := ⟨gt, 0, none⟩) lt0).trans u0; have g1 := (hv.cell (p := ⟨gt, 1, none⟩) lt0).trans u1; have g2 := (hv.cell (p := ⟨gt, 2, none⟩) lt0).trans u2; have g3 := (hv.cell (p := ⟨gt, 3, none⟩) lt0).trans u3; clear hv; go_simp⟩) hHeld ?_
  simp only [Act.put, List.setIfInBounds_toArray, List.set_cons_zero, List.set_cons_succ]
  refine take_at 8 69 (.pointer (some ⟨gb, 6, none⟩)) _ rfl rfl (by kernel_rfl) (by kernel_rfl) (by kernel_rfl) (fun _ _ _ h => h) (Or.inl ⟨by rfl, fun v hv => by skip; clear hv; go_simp⟩) hHeld ?_
  simp only [Act.put, List.setIfInBounds_toArray, List.set_cons_zero, List.set_cons_succ]
  refine take_at 9 70 (.int .i64 un) _ rfl rfl (by kernel_rfl) (by kernel_rfl) (by kernel_rfl) (fun _ _ _ h => h) (Or.inl ⟨by rfl, fun v hv => by have g6 := (hv.cell (p := ⟨gb, 6, none⟩) lb0).trans v6; clear hv; go_simp⟩) hHeld ?_
  simp only [Act.put, List.setIfInBounds_toArray, List.set_cons_zero, List.set_cons_succ]
  refine wpAnyH_ready (rs := [7]) (by kernel_rfl) (by simp) (AllReadyH.cons rfl (fun K hK => ?_) AllReadyH.nil)
  rw [if_pos (by rfl)]
  refine wp_callOp 68 rfl (by clear hK; go_simp) (HU.out _) ?_
  rintro e W8 ⟨rfl, hb⟩
  have HB8 : Hid (Below w.heap.size w W8) := bel_step (bel_drew HB7.out 1) hb
  refine ⟨_, rfl, hK.out _ _ (bel_step HDR.out hb) (fun hHeld => ?_)⟩
  clear hK hb HB7
  simp only [Act.put, List.setIfInBounds_toArray, List.set_cons_zero, List.set_cons_succ]
  by_cases hu : ut = un
  · have hq4 : (ut != un) = false := by simpa using hu
    have HR : Hid (chk me id te de fe pr ch un c i a pe = 0) := by show _ = _; unfold chk; rw [if_neg (not_not_intro hme), if_neg (by rw [h5]; decide), if_neg (not_not_intro hid), if_neg (not_not_intro hun), if_neg (not_not_intro HHE.out), if_neg (not_not_intro HPE.out), if_neg (not_not_intro HII.out), HUT.out, if_neg (not_not_intro hu)]
    clear hu
    refine take_at 10 71 (.bool false) _ rfl rfl (by kernel_rfl) (by kernel_rfl) (by kernel_rfl) (fun _ _ _ h => h) (Or.inl ⟨by rfl, fun v hv => by skip; clear hv; go_simp⟩) hHeld ?_
    simp only [Act.put, List.setIfInBounds_toArray, List.set_cons_zero, List.set_cons_succ]
    refine take_at 11 72 (.bool false) _ rfl rfl (by kernel_rfl) (by kernel_rfl) (by kernel_rfl) (fun _ _ _ h => h) (Or.inl ⟨by rfl, fun v hv => by skip; clear hv; go_simp⟩) hHeld ?_
    simp only [Act.put, List.setIfInBounds_toArray, List.set_cons_zero, List.set_cons_succ]
    refine wpAnyH_done (by kernel_rfl) ?_ _
    clear hHeld
    go_wp2_with fail
    go_ret
    exact ⟨by rw [HR.out]; rfl, HB8.out⟩
  · have hq4 : (ut != un) = true := by simpa using hu
    have HR : Hid (chk me id te de fe pr ch un c i a pe = 8) := by show _ = _; unfold chk; rw [if_neg (not_not_intro hme), if_neg (by rw [h5]; decide), if_neg (not_not_intro hid), if_neg (not_not_intro hun), if_neg (not_not_intro HHE.out), if_neg (not_not_intro HPE.out), if_neg (not_not_intro HII.out), HUT.out, if_pos hu]
    clear hu
    refine take_at 10 71 (.bool true) _ rfl rfl (by kernel_rfl) (by kernel_rfl) (by kernel_rfl) (fun _ _ _ h => h) (Or.inl ⟨by rfl, fun v hv => by skip; clear hv; go_simp⟩) hHeld ?_
    simp only [Act.put, List.setIfInBounds_toArray, List.set_cons_zero, List.set_cons_succ]
    refine take_at 11 72 (.bool true) _ rfl rfl (by kernel_rfl) (by kernel_rfl) (by kernel_rfl) (fun _ _ _ h => h) (Or.inl ⟨by rfl, fun v hv => by skip; clear hv; go_simp⟩) hHeld ?_
    simp only [Act.put, List.setIfInBounds_toArray, List.set_cons_zero, List.set_cons_succ]
    refine wpAnyH_done (by kernel_rfl) ?_ _
    clear hHeld
    go_wp2_with fail
    go_ret
    exact ⟨by rw [HR.out]; rfl, HB8.out⟩

theorem chk_is (r : Rc) (c i a : Int) (pe : Int) (hpe : pe = token.parseE r.tk) (hok : token.parseE r.tk = 0 → c = ((tokR r).c : Int) ∧ i = ((tokR r).i : Int) ∧ a = ((tokR r).a : Int)) :
    FaultIs r (chk r.me r.id r.te r.de r.fe r.pr r.ch r.un c i a pe) := by
  unfold chk
  by_cases h1 : 0 ≤ r.me ∧ r.me ≤ 49
  case neg => rw [if_pos h1]; exact .inl ⟨h1, rfl⟩
  rw [if_neg (not_not_intro h1)]
  cases h5 : rci.okAll 0 100000000 [r.te, r.de, r.fe, r.pr, r.ch] with
  | false =>
    rw [if_pos rfl]
    refine .inr (.inl ⟨h1, fun hr => ?_, rfl⟩)
    obtain ⟨⟨a, b, c, d⟩, e, _⟩ := hr
    have : rci.okAll 0 100000000 [r.te, r.de, r.fe, r.pr, r.ch] = true := by simp [rci.okAll]; exact ⟨a, b, c, d, e⟩
    rw [this] at h5; cases h5
  | true =>
    rw [if_neg (by decide)]
    obtain ⟨b1, b2, b3, b4, b5⟩ := five_bd h5
    by_cases hid : 1 ≤ r.id ∧ r.id ≤ 1048575
    case neg => rw [if_pos hid]; exact .inr (.inl ⟨h1, fun hr => hid hr.2.2.1, rfl⟩)
    rw [if_neg (not_not_intro hid)]
    by_cases hun : 0 ≤ r.un ∧ r.un ≤ 2097151
    case neg => rw [if_pos hun]; exact .inr (.inl ⟨h1, fun hr => hun hr.2.2.2, rfl⟩)
    rw [if_neg (not_not_intro hun)]
    have hrr : RRange r := ⟨⟨b1, b2, b3, b4⟩, b5, hid, hun⟩
    by_cases hs : r.te = r.de + r.fe + r.pr + r.ch
    case neg => rw [if_pos hs]; exact .inr (.inr (.inl ⟨h1, hrr, fun h => hs (by unfold RSum at h; omega), rfl⟩))
    rw [if_neg (not_not_intro hs)]
    have hsm : RSum r := by unfold RSum; omega
    subst hpe
    by_cases hp : token.parseE r.tk = 0
    case neg => rw [if_pos hp]; exact .inr (.inr (.inr (.inl ⟨h1, hrr, hsm, hp, rfl⟩)))
    rw [if_neg (not_not_intro hp)]
    obtain ⟨rfl, rfl, rfl⟩ := hok hp
    by_cases hi : ((tokR r).i : Int) = r.id
    case neg => rw [if_pos hi]; exact .inr (.inr (.inr (.inr (.inl ⟨h1, hrr, hsm, hp, fun h => hi h.1, rfl⟩))))
    rw [if_neg (not_not_intro hi)]
    by_cases hc : (tokR r).c = 0
    · rw [if_pos (show ((tokR r).c : Int) = 0 by omega)]
      by_cases ha : ((tokR r).a : Int) = r.un
      case neg => rw [if_pos ha]; exact .inr (.inr (.inr (.inr (.inl ⟨h1, hrr, hsm, hp, fun h => ha (h.2.1 hc), rfl⟩))))
      rw [if_neg (not_not_intro ha)]
      exact .inr (.inr (.inr (.inr (.inr ⟨h1, hrr, hsm, hp, ⟨hi, fun _ => ha, fun h => absurd hc h⟩, rfl⟩))))
    · rw [if_neg (show ¬ ((tokR r).c : Int) = 0 by omega)]
      by_cases ha : (0 : Int) = r.un
      case neg => rw [if_pos ha]; exact .inr (.inr (.inr (.inr (.inl ⟨h1, hrr, hsm, hp, fun h => ha (h.2.2 hc).symm, rfl⟩))))
      rw [if_neg (not_not_intro ha)]
      exact .inr (.inr (.inr (.inr (.inr ⟨h1, hrr, hsm, hp, ⟨hi, fun h => absurd h hc, fun _ => ha.symm⟩, rfl⟩))))
theorem check_any (r : Rc) (w : World) (ht : token.TTab w) : Calls Tryz.prog 11 #[r.v] w fun e w' => FaultPost w r e w' := by
  have fin : ∀ (c i a t : Int), (token.parseE r.tk = 0 → c = ((tokR r).c : Int) ∧ i = ((tokR r).i : Int) ∧ a = ((tokR r).a : Int)) → token.parseV r.tk = .agg #[.int .i64 c, .int .i64 i, .int .i64 a, .int .i64 t] → Calls Tryz.prog 11 #[r.v] w fun e w' => FaultPost w r e w' := fun c i a t hok hv => by
    refine (check_abs r.me r.id r.te r.de r.fe r.pr r.ch r.un c i a t (token.parseE r.tk) ⟨r.tk.toArray⟩ w (fun w' hb => ?_)).mono ?_
    · have := token.parse_any ⟨r.tk.toArray⟩ w' (ht.below hb)
      simp only at this
      rw [hv] at this
      exact this
    · rintro e w' ⟨rfl, hb⟩
      exact ⟨_, rfl, chk_is r c i a _ rfl hok, hb⟩
  by_cases h : token.parseE r.tk = 0
  · exact fin ((tokR r).c : Int) ((tokR r).i : Int) ((tokR r).a : Int) ((tokR r).t : Int) (fun _ => ⟨rfl, rfl, rfl⟩) (by unfold token.parseV; rw [if_pos h]; rfl)
  · exact fin 0 0 0 0 (fun h' => absurd h' h) (by unfold token.parseV; rw [if_neg h]; rfl)
theorem kcheck {w : World} (ht : token.TTab w) : KrCheck w := fun W r hb _ => check_any r W (ht.below hb)

end Go.Proofs.YtlicdeppfhmfjaaGreatDoor.rcp

/- A builder that lies at the head of a paper: what its methods do there. -/
namespace Go.Proofs.YtlicdeppfhmfjaaGreatDoor.rcb
open Go.RowKit
set_option maxRecDepth 100000

def TP : TypeId := 65
def TU : TypeId := 5
/-- The paper in block b holds these bytes. -/
def Sb (B b : Nat) (bs : List Value) (w : World) : Prop := Lib.IsBuilder TP TU B b bs w
/-- .. and was written on. -/
def Su (B b : Nat) (bs : List Value) (w : World) : Prop := Lib.BuilderAt TP TU B b (.pointer (some ⟨b, 0, none⟩)) bs w
theorem Su.sb {B b : Nat} {bs : List Value} {w : World} (h : Su B b bs w) : Sb B b bs w := .inr h
theorem infoB : ∃ i, Tryz.prog.info? 5 = some i ∧ i.zero = some (.int .u8 0) ∧ i.size = 1 ∧ i.bytes = 1 := info_parts (by kernel_rfl)
theorem infoS : (Tryz.prog.info? 63).map (·.size) = some 2 := by kernel_rfl
theorem lies : liesAt Tryz.prog Tryz.prog.depth TP (2 / Tryz.prog.cellsOf TP) 0 63 1 = true := by kernel_rfl
theorem neP : TP ≠ TU := by decide

set_option maxHeartbeats 1000000 in
theorem copy_used (b : Nat) (w : World) (h0 : w.cell? ⟨b, 0, none⟩ = some (.pointer (some ⟨b, 0, none⟩))) :
    Calls Tryz.prog 96 #[.pointer (some ⟨b, 0, none⟩)] w fun e w' => e = .returned (.tuple #[]) ∧ w' = w := by
  obtain ⟨j, hj, _⟩ := Option.map_eq_some_iff.1 infoS
  go_enter Tryz.func96, Tryz.ntmps96
  go_wp2
  rw [Lib.run_neq_ptr_same w _ Tryz.underlying60 hj]
  go_wp2
  go_end0
  exact ⟨rfl, rfl⟩

set_option maxHeartbeats 1000000 in
theorem copy_fresh (b : Nat) (w : World) (h0 : w.cell? ⟨b, 0, none⟩ = some (.pointer none)) (hsh : w.shape? b = some (TP, 2)) (hfz : w.frozen? ⟨b, 0, none⟩ = false) :
    Calls Tryz.prog 96 #[.pointer (some ⟨b, 0, none⟩)] w fun e w' => e = .returned (.tuple #[]) ∧ w' = w.setCell ⟨b, 0, none⟩ (.pointer (some ⟨b, 0, none⟩)) := by
  obtain ⟨j, hj, hjs⟩ := Option.map_eq_some_iff.1 infoS
  go_enter Tryz.func96, Tryz.ntmps96
  go_wp2
  rw [Lib.run_to_unsafe w ⟨b, 0, none⟩ Tryz.underlying60 Tryz.underlying175 hj (by rw [hjs]; decide) hsh (Nat.zero_lt_succ 1)]
  simp only [Result.andThen]
  rw [Oper.upon_value]
  go_wp2
  rw [run_callFunc_extern Tryz.func134 (by kernel_rfl) (by kernel_rfl) (by kernel_rfl) (e := Extern.AbiNoEscape.same) (by kernel_rfl)]
  rw [Lib.run_noEscape]
  simp only [Result.andThen]
  rw [Oper.upon_value]
  go_wp2
  rw [Lib.run_from_unsafe w ⟨b, 0, none⟩ Tryz.underlying175 Tryz.underlying60 hj hsh lies]
  simp only [Result.andThen]
  rw [Oper.upon_value]
  go_wp2
  go_end0
  exact ⟨rfl, rfl⟩

theorem copy_any (B b : Nat) (bs : List Value) (w : World) (h : Sb B b bs w) :
    Calls Tryz.prog 96 #[.pointer (some ⟨b, 0, none⟩)] w fun e w' => e = .returned (.tuple #[]) ∧ Su B b bs w' ∧ Below B w w' := by
  rcases h with h | h
  · refine (copy_fresh b w h.cell0 h.shape h.frozen0).mono ?_
    rintro e w' ⟨rfl, rfl⟩
    exact ⟨rfl, h.used _, (Below.refl B w).setCell (p := ⟨b, 0, none⟩) h.1 _⟩
  · refine (copy_used b w h.cell0).mono ?_
    rintro e w' ⟨rfl, rfl⟩
    exact ⟨rfl, h, Below.refl B _⟩

theorem lt_of {w : World} {b : Nat} {o : Obj} (h : w.heap[b]? = some o) : b < w.heap.size := by
  rcases Nat.lt_or_ge b w.heap.size with h' | h'
  · exact h'
  · simp [Array.getElem?_eq_none h'] at h

set_option maxHeartbeats 2000000 in
theorem byte_any (B b : Nat) (bs : List Value) (c : Int) (w : World) (h : Sb B b bs w) (hlen : bs.length + 1 ≤ 100000) (hBw : B ≤ w.heap.size) :
    Calls Tryz.prog 60 #[.pointer (some ⟨b, 0, none⟩), .int .u8 c] w fun e w' => e = .returned .nilIface ∧ Su B b (bs ++ [.int .u8 c]) w' ∧ Below B w w' := by
  obtain ⟨i0, hi, hz0, hz1, hz2⟩ := infoB
  have HC := copy_any B b bs w h
  clear h
  go_enter Tryz.func60, Tryz.ntmps60
  go_wp2_with fail
  refine HC.mono ?_
  rintro e w1 ⟨rfl, ⟨hB, v, hbk, hown, hne⟩, hb1⟩
  clear HC
  have c0 : w1.cell? ⟨b, 0, none⟩ = some (.pointer (some ⟨b, 0, none⟩)) := by rw [Lib.cell_of_heap hbk]; rfl
  have c1 : w1.cell? ⟨b, 1, none⟩ = some v := by rw [Lib.cell_of_heap hbk]; rfl
  have hs1 := hb1.size
  go_wp2_with (at_builtin; refine wpList_append_own _ rfl _ _ 61 rfl B TU i0 (.int .u8 0) 1 1 Tryz.underlying61 hi hz0 hz1 hz2 rfl (by decide) _ _ _ rfl (hown.alloc _) ⟨w1.heap.size, 0, none⟩ 1 1 [.int .u8 c] rfl rfl ?c1 ?c2 ?c3 ?c4 ?c5 ?_)
  case c1 =>
    intro j u hj
    match j, hj with
    | 0, hj => simp at hj; subst hj; simp [Addr.add]
  case c2 => intro u hu; simp at hu; subst hu; rfl
  case c3 => unfold maxLen; omega
  case c4 => omega
  case c5 => simp; omega
  intro v' w2 hown' hgrow _
  have hlt := lt_of hbk
  have hb2 : w2.heap[b]? = some (.cells #[.pointer (some ⟨b, 0, none⟩), v] TP (0, 0)) := by
    rw [hgrow.block b (by simp; omega) (fun e => hne e.symm), Lib.alloc_old w1 _ b hlt]
    exact hbk
  have d0 : w2.cell? ⟨b, 0, none⟩ = some (.pointer (some ⟨b, 0, none⟩)) := by rw [Lib.cell_of_heap hb2]; rfl
  have d1 : w2.cell? ⟨b, 1, none⟩ = some v := by rw [Lib.cell_of_heap hb2]; rfl
  have f1 : w2.frozen? ⟨b, 1, none⟩ = false := Lib.frozen_of_heap hb2 1
  obtain ⟨g, cap, rfl⟩ : ∃ g cap, v' = .slice (some ⟨g, 0, none⟩) (bs.length + 1) cap := by
    rcases hown'.2 with ⟨_, h0⟩ | ⟨g, cap, cur, hv, _⟩
    · omega
    · exact ⟨g, cap, hv⟩
  go_wp2
  go_ret
  refine ⟨rfl, ?_, ?_⟩
  · exact Lib.BuilderAt.put (T := TP) (e := TU) hB hb2 (bs' := bs ++ [.int .u8 c]) (by simpa using hown') neP
  · exact ((hb1.alloc (by omega) _).grown hgrow (by simp; omega) (fun k hk => (hown.lt k hk).1)).setCell (p := ⟨b, 1, none⟩) hB _

set_option maxHeartbeats 2000000 in
theorem str_any (B b : Nat) (bs : List Value) (s : ByteArray) (w : World) (h : Sb B b bs w) (hlen : bs.length + s.size ≤ 100000) (hBw : B ≤ w.heap.size) :
    Calls Tryz.prog 59 #[.pointer (some ⟨b, 0, none⟩), .string s] w fun e w' => e = .returned (.tuple #[.int .i64 s.size, .nilIface]) ∧ Su B b (bs ++ Lib.strCells s) w' ∧ Below B w w' := by
  obtain ⟨i0, hi, hz0, hz1, hz2⟩ := infoB
  have HC := copy_any B b bs w h
  clear h
  go_enter Tryz.func59, Tryz.ntmps59
  go_wp2_with fail
  refine HC.mono ?_
  rintro e w1 ⟨rfl, ⟨hB, v, hbk, hown, hne⟩, hb1⟩
  clear HC
  have c0 : w1.cell? ⟨b, 0, none⟩ = some (.pointer (some ⟨b, 0, none⟩)) := by rw [Lib.cell_of_heap hbk]; rfl
  have c1 : w1.cell? ⟨b, 1, none⟩ = some v := by rw [Lib.cell_of_heap hbk]; rfl
  have hs1 := hb1.size
  go_wp2_with (at_builtin; refine Lib.wpList_append_own_string _ rfl _ _ 61 9 rfl B TU i0 Tryz.underlying61 Tryz.underlying9 hi hz0 hz1 hz2 _ _ _ rfl hown s rfl ?c3 ?c4 ?c5 ?_)
  case c3 => unfold maxLen; omega
  case c4 => omega
  case c5 => omega
  intro v' w2 hown' hgrow _
  have hlt := lt_of hbk
  have hb2 : w2.heap[b]? = some (.cells #[.pointer (some ⟨b, 0, none⟩), v] TP (0, 0)) := by
    rw [hgrow.block b hlt (fun e => hne e.symm)]
    exact hbk
  have d0 : w2.cell? ⟨b, 0, none⟩ = some (.pointer (some ⟨b, 0, none⟩)) := by rw [Lib.cell_of_heap hb2]; rfl
  have d1 : w2.cell? ⟨b, 1, none⟩ = some v := by rw [Lib.cell_of_heap hb2]; rfl
  have f1 : w2.frozen? ⟨b, 1, none⟩ = false := Lib.frozen_of_heap hb2 1
  obtain ⟨ao, n', cap, rfl⟩ : ∃ ao n' cap, v' = .slice ao n' cap := by
    rcases hown'.2 with ⟨hv, _⟩ | ⟨g, cap, cur, hv, _⟩
    · exact ⟨_, _, _, hv⟩
    · exact ⟨_, _, _, hv⟩
  go_wp2
  go_ret2
  refine ⟨rfl, ?_, ?_⟩
  · exact Lib.BuilderAt.put (T := TP) (e := TU) hB hb2 (bs' := bs ++ Lib.strCells s) (by simpa [Lib.strCells_length] using hown') neP
  · exact (hb1.grown hgrow (by omega) (fun k hk => (hown.lt k hk).1)).setCell (p := ⟨b, 1, none⟩) hB _

set_option maxHeartbeats 1000000 in
/-- What was written, as a text: at least one byte. -/
theorem text_any (B b : Nat) (l : List UInt8) (w : World) (h : Sb B b (Lib.byteCells l) w) (h0 : l ≠ []) :
    Calls Tryz.prog 35 #[.pointer (some ⟨b, 0, none⟩)] w fun e w' => e = .returned (.string ⟨l.toArray⟩) ∧ Below B w w' := by
  obtain ⟨p, hB, v, hbk, hown, hne⟩ : ∃ p, Lib.BuilderAt TP TU B b p (Lib.byteCells l) w := by
    rcases h with h | h
    · exact ⟨_, h⟩
    · exact ⟨_, h⟩
  have hl0 : l.length ≠ 0 := by simpa using h0
  rw [Lib.byteCells_length] at hown
  obtain ⟨g, cap, cur, rfl, hbg, hg, hnc, hcm, hcs, htake⟩ : ∃ g cap cur, v = .slice (some ⟨g, 0, none⟩) l.length cap ∧ B ≤ g ∧ w.heap[g]? = some (.cells cur TU (0, 0)) ∧ l.length ≤ cap ∧ cap ≤ maxLen ∧ cur.size = cap * 1 ∧ cur.toList.take (l.length * 1) = Lib.byteCells l := by
    rcases hown.2 with ⟨_, hz⟩ | ⟨g, cap, cur, hv, r⟩
    · exact absurd hz hl0
    · exact ⟨g, cap, cur, hv, r⟩
  have c1 : w.drew.cell? ⟨b, 1, none⟩ = some (.slice (some ⟨g, 0, none⟩) l.length cap) := by
    have : w.drew.heap[b]? = some (.cells #[p, .slice (some ⟨g, 0, none⟩) l.length cap] TP (0, 0)) := hbk
    rw [Lib.cell_of_heap this]; rfl
  have hg' : w.drew.heap[g]? = some (.cells cur 5 (0, 0)) := hg
  have hSD : (Builtin.unsafeSliceData_ #[61] 100 #[.slice (some ⟨g, 0, none⟩) l.length cap]).run Tryz.prog w.drew = .ok (.pointer (some ⟨g, 0, none⟩)) w.drew :=
    Lib.run_unsafeSliceData_row _ _ _ _ _ _ (by omega)
  have hUS : (Builtin.unsafeString_ #[100, 3] 9 #[.pointer (some ⟨g, 0, none⟩), .int .i64 l.length]).run Tryz.prog w.drew = .ok (.string ⟨l.toArray⟩) (w.drew.freeze ⟨g, 0, none⟩ l.length) := by
    refine Lib.run_unsafeString_row w.drew 100 3 9 5 Tryz.underlying100 (by kernel_rfl) g cur.size (by simp [World.shape?, hg']) l h0 (by omega) (by unfold maxLen at hcm; omega) ?_
    intro j x hx
    exact hown.cells (g := g) rfl j (.int .u8 x.toNat) (by simp [Lib.byteCells, hx])
  clear hg' hg hown hbk hcm hcs htake hnc hl0 h0
  go_enter Tryz.func35, Tryz.ntmps35
  go_wp2
  go_region
  all_goals (go_wp2; go_ret; exact ⟨rfl, Lib.below_freeze (Below.drew (Below.refl B w)) (p := ⟨g, 0, none⟩) hbg _⟩)

end Go.Proofs.YtlicdeppfhmfjaaGreatDoor.rcb

/- A line is written. -/
namespace Go.Proofs.YtlicdeppfhmfjaaGreatDoor.rcb
open Go.RowKit
set_option maxRecDepth 100000

theorem str_bytes (s : ByteArray) : Lib.strCells s = Lib.byteCells s.data.toList := rfl
theorem bytes_app (l m : List UInt8) : Lib.byteCells l ++ Lib.byteCells m = Lib.byteCells (l ++ m) := by simp [Lib.byteCells]
theorem bytes_one (c : UInt8) : [Value.int .u8 ((c.toNat : Nat) : Int)] = Lib.byteCells [c] := rfl

set_option maxHeartbeats 1000000 in
theorem line_any (B b : Nat) (l : List UInt8) (n t : ByteArray) (w : World) (h : Sb B b (Lib.byteCells l) w) (hl : l.length ≤ 1000) (hn : n.size ≤ 1000) (ht : t.size ≤ 1000) (hBw : B ≤ w.heap.size) :
    Calls Tryz.prog 31 #[.pointer (some ⟨b, 0, none⟩), .string n, .string t] w fun e w' => e = .returned (.tuple #[]) ∧ Sb B b (Lib.byteCells (l ++ rcp.line n.data.toList t.data.toList)) w' ∧ Below B w w' := by
  have hl' : (Lib.byteCells l).length = l.length := Lib.byteCells_length _
  have hn' : (Lib.strCells n).length = n.size := Lib.strCells_length _
  have ht' : (Lib.strCells t).length = t.size := Lib.strCells_length _
  have H1 := str_any B b (Lib.byteCells l) n w h (by omega) hBw
  clear h
  have HE : Hid (Lib.byteCells l ++ Lib.strCells n ++ [.int .u8 32] ++ Lib.strCells t ++ [.int .u8 10] = Lib.byteCells (l ++ rcp.line n.data.toList t.data.toList)) := by
    show _ = _
    rw [show [Value.int .u8 32] = Lib.byteCells [32] from rfl, show [Value.int .u8 10] = Lib.byteCells [10] from rfl, str_bytes, str_bytes, bytes_app, bytes_app, bytes_app, bytes_app]
    congr 1
    simp [rcp.line]
  go_enter Tryz.func31, Tryz.ntmps31
  go_wp2_with fail
  refine H1.mono ?_
  rintro e w1 ⟨rfl, h1, b1⟩
  clear H1
  have s1 := b1.size
  have H2 := byte_any B b _ 32 w1 h1.sb (by rw [List.length_append]; omega) (by omega)
  clear h1
  go_wp2_with fail
  refine H2.mono ?_
  rintro e w2 ⟨rfl, h2, b2⟩
  clear H2
  have s2 := b2.size
  have H3 := str_any B b _ t w2 h2.sb (by rw [List.length_append, List.length_append]; simp; omega) (by omega)
  clear h2
  go_wp2_with fail
  refine H3.mono ?_
  rintro e w3 ⟨rfl, h3, b3⟩
  clear H3
  have s3 := b3.size
  have H4 := byte_any B b _ 10 w3 h3.sb (by rw [List.length_append, List.length_append, List.length_append]; simp; omega) (by omega)
  clear h3
  go_wp2_with fail
  refine H4.mono ?_
  rintro e w4 ⟨rfl, h4, b4⟩
  clear H4
  rw [HE.out] at h4
  go_wp2_with fail
  go_end0
  exact ⟨rfl, h4.sb, ((b1.trans b2).trans b3).trans b4⟩

end Go.Proofs.YtlicdeppfhmfjaaGreatDoor.rcb

/- The paper's builder: what stays as it is. -/
namespace Go.Proofs.YtlicdeppfhmfjaaGreatDoor.rcb
open Go.RowKit
theorem own_next {w w' : World} {B : Nat} {e : TypeId} {k : Nat} {v : Value} {n : Nat} {xs : List Value} (h : w.ownsRow B e k v n xs) (hb : Below w.heap.size w w') : w'.ownsRow B e k v n xs := by
  refine ⟨h.1, ?_⟩
  rcases h.2 with hn | ⟨g, cap, cur, hv, hg, hc, rest⟩
  · exact .inl hn
  · exact .inr ⟨g, cap, cur, hv, hg, Blk.next hc hb, rest⟩
theorem at_next {B b : Nat} {p : Value} {bs : List Value} {w w' : World} (h : Lib.BuilderAt TP TU B b p bs w) (hb : Below w.heap.size w w') : Lib.BuilderAt TP TU B b p bs w' := by
  obtain ⟨h1, v, h2, h3, h4⟩ := h
  exact ⟨h1, v, Blk.next h2 hb, own_next h3 hb, h4⟩
theorem Sb.next {B b : Nat} {bs : List Value} {w w' : World} (h : Sb B b bs w) (hb : Below w.heap.size w w') : Sb B b bs w' := by
  rcases h with h | h
  · exact .inl (at_next h hb)
  · exact .inr (at_next h hb)
theorem Sb.fresh (w : World) : Sb w.heap.size w.heap.size (Lib.byteCells []) (w.alloc (.cells #[.pointer none, .slice none 0 0] 65)) := Lib.fresh_isBuilder TP TU w

set_option maxHeartbeats 1000000 in
theorem amount_any (B b : Nat) (l : List UInt8) (nm T : ByteArray) (n : Int) (w : World) (h : Sb B b (Lib.byteCells l) w) (hl : l.length ≤ 1000) (hn : nm.size ≤ 1000) (ht : T.size ≤ 1000) (hBw : B ≤ w.heap.size)
    (hC : Calls Tryz.prog 30 #[.int .i64 n] w fun e w' => e = .returned (.tuple #[.string T, .int .i64 0]) ∧ Below w.heap.size w w') :
    Calls Tryz.prog 29 #[.string nm, .int .i64 n, .pointer (some ⟨b, 0, none⟩)] w fun e w' => e = .returned (.tuple #[]) ∧ Sb B b (Lib.byteCells (l ++ rcp.line nm.data.toList T.data.toList)) w' ∧ Below B w w' := by
  have HS : Hid (Sb B b (Lib.byteCells l) w) := h
  clear h
  go_enter Tryz.func29, Tryz.ntmps29
  go_wp2_with fail
  refine hC.mono ?_
  rintro e w1 ⟨rfl, b1⟩
  have HL := line_any B b l nm T w1 (HS.out.next b1) hl hn ht (Nat.le_trans hBw b1.size)
  have HB1 : Hid (Below B w w1) := b1.mono hBw
  clear b1 hC HS
  go_wp2_with fail
  refine HL.mono ?_
  rintro e w2 ⟨rfl, h2, b2⟩
  have HB2 : Hid (Below B w w2) := HB1.out.trans b2
  have HS2 : Hid (Sb B b (Lib.byteCells (l ++ rcp.line nm.data.toList T.data.toList)) w2) := h2
  clear HL h2 b2 HB1
  go_wp2_with fail
  go_end0
  exact ⟨rfl, HS2.out, HB2.out⟩

end Go.Proofs.YtlicdeppfhmfjaaGreatDoor.rcb

/- Contracts of the library, laid at this dump in plain words: strings_Join, strings_Join_none. -/
namespace Go.Proofs
open Go.Shelf
def Tryz.lays156_ren : Go.Shelf.Ren := ⟨fun | 156 => 63 | 165 => 88 | 166 => 59 | 169 => 35 | 240 => 96 | 241 => 128 | 276 => 134 | 277 => 163 | n => n, fun | 31 => 45 | 9 => 9 | 3 => 3 | 4 => 4 | 0 => 0 | 20 => 20 | 72 => 63 | 76 => 78 | 70 => 60 | 37 => 61 | 75 => 77 | 127 => 100 | 164 => 175 | 5 => 5 | 80 => 69 | n => n, fun | n => n⟩
theorem Tryz.lays156 : Go.Proofs.Lays.n156 Tryz.prog Tryz.lays156_ren := {
  mixed := by kernel_rfl
  f156 := Tryz.func63.trans (congrArg some (by kernel_rfl))
  f165 := Tryz.func88.trans (congrArg some (by kernel_rfl))
  f166 := Tryz.func59.trans (congrArg some (by kernel_rfl))
  f169 := Tryz.func35.trans (congrArg some (by kernel_rfl))
  f240 := Tryz.func96.trans (congrArg some (by kernel_rfl))
  f241 := Tryz.func128.trans (congrArg some (by kernel_rfl))
  f276 := Tryz.func134.trans (congrArg some (by kernel_rfl))
  f277 := Tryz.func163.trans (congrArg some (by kernel_rfl))
  t0 := Tryz.underlying0
  a0 := Tryz.isAgg0
  z0 := Tryz.sizeOf0
  v0 := Tryz.zeroValue0
  t3 := Tryz.underlying3
  a3 := Tryz.isAgg3
  z3 := Tryz.sizeOf3
  v3 := Tryz.zeroValue3
  t4 := Tryz.underlying4
  a4 := Tryz.isAgg4
  z4 := Tryz.sizeOf4
  v4 := Tryz.zeroValue4
  t9 := Tryz.underlying9
  a9 := Tryz.isAgg9
  z9 := Tryz.sizeOf9
  v9 := Tryz.zeroValue9
  t20 := Tryz.underlying20
  a20 := Tryz.isAgg20
  z20 := Tryz.sizeOf20
  v20 := Tryz.zeroValue20
  t31 := Tryz.underlying45
  a31 := Tryz.isAgg45
  z31 := Tryz.sizeOf45
  v31 := Tryz.zeroValue45
  t37 := Tryz.underlying61
  a37 := Tryz.isAgg61
  z37 := Tryz.sizeOf61
  v37 := Tryz.zeroValue61
  t70 := Tryz.underlying60
  a70 := Tryz.isAgg60
  z70 := Tryz.sizeOf60
  v70 := Tryz.zeroValue60
  t72 := Tryz.underlying63
  a72 := Tryz.isAgg63
  z72 := Tryz.sizeOf63
  v72 := Tryz.zeroValue63
  t75 := Tryz.underlying77
  a75 := Tryz.isAgg77
  z75 := Tryz.sizeOf77
  v75 := Tryz.zeroValue77
  t76 := Tryz.underlying78
  a76 := Tryz.isAgg78
  z76 := Tryz.sizeOf78
  v76 := Tryz.zeroValue78
  t127 := Tryz.underlying100
  a127 := Tryz.isAgg100
  z127 := Tryz.sizeOf100
  v127 := Tryz.zeroValue100
  t164 := Tryz.underlying175
  a164 := Tryz.isAgg175
  z164 := Tryz.sizeOf175
  v164 := Tryz.zeroValue175 }
theorem Tryz.Builder_Extra_156 : Builder.Extra Tryz.prog Tryz.lays156_ren := {
  sizeBuilder := by kernel_rfl
  liesBuilder := by kernel_rfl
  t5 := Tryz.underlying5
  a5 := Tryz.isAgg5
  z5 := Tryz.sizeOf5
  v5 := Tryz.zeroValue5
  infoByte := by kernel_rfl
  cellsByte := by kernel_rfl
  sizeByte := by kernel_rfl
  neB5 := by decide }
open Go.RowKit in
theorem Tryz.strings_Join_none (a : Option Addr) (c : Nat) (sep : ByteArray) (w : World) :
    Calls Tryz.prog 63 #[.slice a 0 c, .string sep] w fun e w' => e = .returned (.string ⟨#[]⟩) ∧ w' = w := Any.strings_Join_none Tryz.lays156 Tryz.Builder_Extra_156 a c sep w
open Go.RowKit in
theorem Tryz.strings_Join (bk o c : Nat) (xs : List ByteArray) (sep : ByteArray) (w : World) (hcells : ∀ (j : Nat) x, xs[j]? = some x → w.cell? ⟨bk, o + j, none⟩ = some (.string x)) (hbk : bk < w.heap.size) (hN : xs.length ≤ 140737488355328) (hcap : xs.length ≤ c) (hlen : (Lib.join (xs.map (·.data.toList)) sep.data.toList).length ≤ 140737488355328) :
    Calls Tryz.prog 63 #[.slice (some ⟨bk, o, none⟩) xs.length c, .string sep] w fun e w' => e = .returned (.string ⟨(Lib.join (xs.map (·.data.toList)) sep.data.toList).toArray⟩) ∧ Below w.heap.size w w' := Any.strings_Join Tryz.lays156 Tryz.Builder_Extra_156 bk o c xs sep w hcells hbk hN hcap hlen
end Go.Proofs

/- Tariffs: plain facts. -/
namespace Go.Proofs.YtlicdeppfhmfjaaGreatDoor.tar
set_option linter.unusedVariables false

/-- A pair of numbers: of a step how far it goes, and its price; of a debt what is owed, and what it grows by. -/
structure Du where
  a : Int
  b : Int
def du0 : Du := ⟨0, 0⟩
/-- Three numbers: of a line its units, its price, its cost. -/
structure Tr where
  a : Int
  b : Int
  c : Int
def tr0 : Tr := ⟨0, 0, 0⟩

theorem take_one (l : List Du) (k : Nat) (h : k < l.length) : l.take (k + 1) = l.take k ++ [l.getD k du0] := by
  rw [List.take_succ_eq_append_getElem h]
  simp [List.getD, List.getElem?_eq_getElem h]
theorem drop_one (l : List Du) (k : Nat) (h : k < l.length) : l.drop k = l.getD k du0 :: l.drop (k + 1) := by
  rw [List.drop_eq_getElem_cons h]
  simp [List.getD, List.getElem?_eq_getElem h]
/-- How far the steps ahead of the place k go. -/
def low (l : List Du) (k : Nat) : Int := if k = 0 then 0 else (l.getD (k - 1) du0).a
theorem low_next (l : List Du) (k : Nat) : low l (k + 1) = (l.getD k du0).a := rfl
theorem low_zero (l : List Du) : low l 0 = 0 := rfl
/-- What is wrong with a tariff. -/
def Fits (l : List Du) : Prop := ∀ i, i < l.length → (1 ≤ (l.getD i du0).a ∧ (l.getD i du0).a ≤ 10000000) ∧ 1 ≤ (l.getD i du0).b ∧ (l.getD i du0).b ≤ 100000
def Rises (l : List Du) : Prop := ∀ i, 1 ≤ i → i < l.length → (l.getD (i - 1) du0).a < (l.getD i du0).a
def Sized (l : List Du) : Prop := 1 ≤ l.length ∧ l.length ≤ 8
def Ends (l : List Du) : Prop := (l.getD (l.length - 1) du0).a = 10000000
def Right (l : List Du) : Prop := Sized l ∧ Fits l ∧ Rises l ∧ Ends l
def FaultIs (l : List Du) (e : Int) : Prop := (¬ Sized l ∧ e = 1) ∨ (Sized l ∧ ¬ Fits l ∧ e = 2) ∨ (Sized l ∧ Fits l ∧ ¬ (Rises l ∧ Ends l) ∧ e = 3) ∨ (Right l ∧ e = 0)
theorem FaultIs.one {l : List Du} {e f : Int} (h : FaultIs l e) (h' : FaultIs l f) : e = f := by
  rcases h with ⟨a, rfl⟩ | ⟨a, b, rfl⟩ | ⟨a, b, c, rfl⟩ | ⟨⟨a, b, c⟩, rfl⟩ <;> rcases h' with ⟨a', rfl⟩ | ⟨a', b', rfl⟩ | ⟨a', b', c', rfl⟩ | ⟨⟨a', b', c'⟩, rfl⟩ <;> first | rfl | contradiction
theorem FaultIs.ok {l : List Du} {e : Int} (h : FaultIs l e) : e = 0 ↔ Right l := by
  rcases h with ⟨a, rfl⟩ | ⟨a, b, rfl⟩ | ⟨a, b, c, rfl⟩ | ⟨h, rfl⟩
  · exact ⟨fun h => absurd h (by decide), fun h => absurd h.1 a⟩
  · exact ⟨fun h => absurd h (by decide), fun h => absurd h.2.1 b⟩
  · exact ⟨fun h => absurd h (by decide), fun h => absurd h.2.2 c⟩
  · exact ⟨fun _ => h, fun _ => rfl⟩
theorem fault_is (l : List Du) : ∃ e, FaultIs l e := by
  by_cases a : Sized l
  · by_cases b : Fits l
    · by_cases c : Rises l ∧ Ends l
      · exact ⟨0, .inr (.inr (.inr ⟨⟨a, b, c⟩, rfl⟩))⟩
      · exact ⟨3, .inr (.inr (.inl ⟨a, b, c, rfl⟩))⟩
    · exact ⟨2, .inr (.inl ⟨a, b, rfl⟩)⟩
  · exact ⟨1, .inl ⟨a, rfl⟩⟩
/-- How many units from x to y lie from lo to hi. -/
def ov (lo hi x y : Int) : Int := max 0 (min hi y - max lo x)
theorem ov_pos (lo hi x y : Int) : 0 ≤ ov lo hi x y := by unfold ov; omega
/-- What the units from x to y cost, as far as the place k. -/
def costK (l : List Du) (x y : Int) : Nat → Int
  | 0 => 0
  | k + 1 => costK l x y k + ov (low l k) (l.getD k du0).a x y * (l.getD k du0).b
def cost (l : List Du) (x y : Int) : Int := costK l x y l.length
theorem costK_next (l : List Du) (x y : Int) (k : Nat) : costK l x y (k + 1) = costK l x y k + ov (low l k) (l.getD k du0).a x y * (l.getD k du0).b := rfl
/-- How many of them lie there. -/
def manyK (l : List Du) (x y : Int) : Nat → Int
  | 0 => 0
  | k + 1 => manyK l x y k + ov (low l k) (l.getD k du0).a x y
theorem Right.price {l : List Du} (h : Right l) (k : Nat) (hk : k < l.length) : 1 ≤ (l.getD k du0).b ∧ (l.getD k du0).b ≤ 100000 := (h.2.1 k hk).2
theorem Right.upto {l : List Du} (h : Right l) (k : Nat) (hk : k < l.length) : 1 ≤ (l.getD k du0).a ∧ (l.getD k du0).a ≤ 10000000 := (h.2.1 k hk).1
theorem Right.rise {l : List Du} (h : Right l) (k : Nat) (hk : k < l.length) : low l k < (l.getD k du0).a := by
  by_cases e : k = 0
  · subst e; rw [low_zero]; have := (h.upto 0 hk).1; omega
  · unfold low; rw [if_neg e]; exact h.2.2.1 k (by omega) hk
theorem Right.low_pos {l : List Du} (h : Right l) (k : Nat) (hk : k ≤ l.length) : 0 ≤ low l k := by
  unfold low
  by_cases e : k = 0
  · rw [if_pos e]; omega
  · rw [if_neg e]; have := (h.upto (k - 1) (by omega)).1; omega
theorem Right.low_end {l : List Du} (h : Right l) : low l l.length = 10000000 := by
  unfold low
  rw [if_neg (by have := h.1.1; omega)]
  exact h.2.2.2
/-- The units up to a place are those that lie ahead of it. -/
theorem many_eq {l : List Du} (h : Right l) (x y : Int) (hx : 0 ≤ x) (hxy : x ≤ y) (k : Nat) (hk : k ≤ l.length) : manyK l x y k = max 0 (min (low l k) y - x) := by
  induction k with
  | zero => unfold manyK; rw [low_zero]; omega
  | succ k ih =>
    have h1 := ih (by omega)
    have h2 := h.rise k (by omega)
    have h3 := h.low_pos k (by omega)
    unfold manyK
    rw [h1, low_next]
    unfold ov
    omega
theorem many_all {l : List Du} (h : Right l) (x y : Int) (hx : 0 ≤ x) (hxy : x ≤ y) (hy : y ≤ 10000000) : manyK l x y l.length = y - x := by
  rw [many_eq h x y hx hxy _ (Nat.le_refl _), h.low_end]; omega
theorem costK_pos {l : List Du} (h : Right l) (x y : Int) (k : Nat) (hk : k ≤ l.length) : 0 ≤ costK l x y k := by
  induction k with
  | zero => exact Int.le_refl _
  | succ k ih =>
    have h1 := ih (by omega)
    have h2 := Int.mul_nonneg (ov_pos (low l k) (l.getD k du0).a x y) (show 0 ≤ (l.getD k du0).b by have := (h.price k (by omega)).1; omega)
    unfold costK; omega
theorem cost_many {l : List Du} (h : Right l) (x y : Int) (k : Nat) (hk : k ≤ l.length) : manyK l x y k ≤ costK l x y k ∧ costK l x y k ≤ manyK l x y k * 100000 := by
  induction k with
  | zero => exact ⟨Int.le_refl _, Int.le_refl _⟩
  | succ k ih =>
    have h1 := ih (by omega)
    have h0 := ov_pos (low l k) (l.getD k du0).a x y
    have hp := h.price k (by omega)
    have h2 : ov (low l k) (l.getD k du0).a x y * 1 ≤ ov (low l k) (l.getD k du0).a x y * (l.getD k du0).b := Int.mul_le_mul_of_nonneg_left hp.1 h0
    have h3 : ov (low l k) (l.getD k du0).a x y * (l.getD k du0).b ≤ ov (low l k) (l.getD k du0).a x y * 100000 := Int.mul_le_mul_of_nonneg_left hp.2 h0
    unfold costK manyK
    rw [Int.mul_one] at h2
    constructor
    · omega
    · rw [Int.add_mul]; omega
theorem cost_bd {l : List Du} (h : Right l) (x y : Int) (hx : 0 ≤ x) (hxy : x ≤ y) (hy : y ≤ 10000000) : y - x ≤ cost l x y ∧ cost l x y ≤ (y - x) * 100000 := by
  have := cost_many h x y l.length (Nat.le_refl _)
  rw [many_all h x y hx hxy hy] at this
  exact this
theorem ov_adds (lo hi x y z : Int) (h : lo ≤ hi) (h1 : x ≤ y) (h2 : y ≤ z) : ov lo hi x z = ov lo hi x y + ov lo hi y z := by unfold ov; omega
theorem costK_adds {l : List Du} (h : Right l) (x y z : Int) (h1 : x ≤ y) (h2 : y ≤ z) (k : Nat) (hk : k ≤ l.length) : costK l x z k = costK l x y k + costK l y z k := by
  induction k with
  | zero => rfl
  | succ k ih =>
    have h3 := ih (by omega)
    have h4 := h.rise k (by omega)
    unfold costK
    rw [h3, ov_adds _ _ x y z (by omega) h1 h2, Int.add_mul]
    omega
theorem cost_adds {l : List Du} (h : Right l) (x y z : Int) (h1 : x ≤ y) (h2 : y ≤ z) : cost l x z = cost l x y + cost l y z := costK_adds h x y z h1 h2 _ (Nat.le_refl _)
theorem cost_self {l : List Du} (h : Right l) (x : Int) : cost l x x = 0 := by
  have := cost_adds h x x x (Int.le_refl _) (Int.le_refl _); omega
theorem costK_mono {l : List Du} (h : Right l) (x y : Int) (j k : Nat) (hjk : j ≤ k) (hk : k ≤ l.length) : costK l x y j ≤ costK l x y k := by
  induction k with
  | zero => have : j = 0 := by omega
            subst this; exact Int.le_refl _
  | succ k ih =>
    by_cases e : j = k + 1
    · subst e; exact Int.le_refl _
    · have h1 := ih (by omega) (by omega)
      have h2 := Int.mul_nonneg (ov_pos (low l k) (l.getD k du0).a x y) (show 0 ≤ (l.getD k du0).b by have := (h.price k (by omega)).1; omega)
      rw [costK_next]; omega
theorem low_mono {l : List Du} (h : Right l) (j k : Nat) (hjk : j ≤ k) (hk : k ≤ l.length) : low l j ≤ low l k := by
  induction k with
  | zero => have : j = 0 := by omega
            subst this; exact Int.le_refl _
  | succ k ih =>
    by_cases e : j = k + 1
    · subst e; exact Int.le_refl _
    · have h1 := ih (by omega) (by omega)
      have h2 := h.rise k (by omega)
      rw [low_next]; omega
/-- One unit costs what its step says. -/
theorem costK_none {l : List Du} (h : Right l) (n : Int) (k : Nat) (hk : k ≤ l.length) (hn : low l k ≤ n) : costK l n (n + 1) k = 0 := by
  induction k with
  | zero => rfl
  | succ k ih =>
    have h2 := h.rise k (by omega)
    rw [low_next] at hn
    have h1 := ih (by omega) (by omega)
    unfold costK
    rw [h1, show ov (low l k) (l.getD k du0).a n (n + 1) = 0 by unfold ov; omega]
    omega
theorem costK_after {l : List Du} (h : Right l) (n : Int) (j k : Nat) (hjk : j ≤ k) (hk : k ≤ l.length) (hn : n + 1 ≤ low l j) : costK l n (n + 1) k = costK l n (n + 1) j := by
  induction k with
  | zero => have : j = 0 := by omega
            subst this; rfl
  | succ k ih =>
    by_cases e : j = k + 1
    · subst e; rfl
    · have h1 := ih (by omega) (by omega)
      have h2 := low_mono h j k (by omega) (by omega)
      rw [costK_next, h1, show ov (low l k) (l.getD k du0).a n (n + 1) = 0 by unfold ov; omega]
      omega
theorem cost_unit {l : List Du} (h : Right l) (n : Int) (k : Nat) (hk : k < l.length) (h1 : low l k ≤ n) (h2 : n + 1 ≤ (l.getD k du0).a) : cost l n (n + 1) = (l.getD k du0).b := by
  have e1 := costK_after h n (k + 1) l.length (by omega) (Nat.le_refl _) (by rw [low_next]; exact h2)
  unfold cost
  rw [e1]
  unfold costK
  rw [costK_none h n k (by omega) h1, show ov (low l k) (l.getD k du0).a n (n + 1) = 1 by unfold ov; omega]
  omega
/-- What the four ask for. -/
def Mays (x n : Int) : Prop := (0 ≤ x ∧ x ≤ 10000000) ∧ (0 ≤ n ∧ n ≤ 2097151) ∧ x + n ≤ 10000000
def MayIs (l : List Du) (x n : Int) (e : Int) : Prop := (¬ Right l ∧ FaultIs l e) ∨ (Right l ∧ ¬ Mays x n ∧ e = 2) ∨ (Right l ∧ Mays x n ∧ e = 0)
theorem MayIs.one {l : List Du} {x n e f : Int} (h : MayIs l x n e) (h' : MayIs l x n f) : e = f := by
  rcases h with ⟨a, b⟩ | ⟨a, b, rfl⟩ | ⟨a, b, rfl⟩ <;> rcases h' with ⟨a', b'⟩ | ⟨a', b', rfl⟩ | ⟨a', b', rfl⟩ <;> first | rfl | exact b.one b' | contradiction
theorem MayIs.ok {l : List Du} {x n e : Int} (h : MayIs l x n e) : e = 0 ↔ Right l ∧ Mays x n := by
  rcases h with ⟨a, b⟩ | ⟨a, b, rfl⟩ | ⟨a, b, rfl⟩
  · exact ⟨fun h => absurd (b.ok.1 h) a, fun h => absurd h.1 a⟩
  · exact ⟨fun h => absurd h (by decide), fun h => absurd h.2 b⟩
  · exact ⟨fun _ => ⟨a, b⟩, fun _ => rfl⟩
def PriceIs (l : List Du) (x n : Int) (p e : Int) : Prop := MayIs l x n e ∧ ((e = 0 ∧ p = cost l x (x + n)) ∨ (e ≠ 0 ∧ p = 0))
theorem PriceIs.one {l : List Du} {x n p e q f : Int} (h : PriceIs l x n p e) (h' : PriceIs l x n q f) : p = q ∧ e = f := by
  obtain ⟨a, b⟩ := h
  obtain ⟨a', b'⟩ := h'
  obtain rfl := a.one a'
  rcases b with ⟨_, rfl⟩ | ⟨c, rfl⟩ <;> rcases b' with ⟨_, rfl⟩ | ⟨c', rfl⟩ <;> first | exact ⟨rfl, rfl⟩ | contradiction
/-- The lines, as far as the place k. -/
def billK (l : List Du) (x y : Int) : Nat → List Tr
  | 0 => []
  | k + 1 => billK l x y k ++ (if 0 < ov (low l k) (l.getD k du0).a x y then [⟨ov (low l k) (l.getD k du0).a x y, (l.getD k du0).b, ov (low l k) (l.getD k du0).a x y * (l.getD k du0).b⟩] else [])
def BillIs (l : List Du) (x n : Int) (z : List Tr) (e : Int) : Prop := MayIs l x n e ∧ ((e = 0 ∧ z = billK l x (x + n) l.length) ∨ (e ≠ 0 ∧ z = []))
theorem BillIs.one {l : List Du} {x n e f : Int} {p q : List Tr} (h : BillIs l x n p e) (h' : BillIs l x n q f) : p = q ∧ e = f := by
  obtain ⟨a, b⟩ := h
  obtain ⟨a', b'⟩ := h'
  obtain rfl := a.one a'
  rcases b with ⟨_, rfl⟩ | ⟨c, rfl⟩ <;> rcases b' with ⟨_, rfl⟩ | ⟨c', rfl⟩ <;> first | exact ⟨rfl, rfl⟩ | contradiction
theorem bill_len (l : List Du) (x y : Int) (k : Nat) : (billK l x y k).length ≤ k := by
  induction k with
  | zero => exact Nat.le_refl _
  | succ k ih => unfold billK; rw [List.length_append]; split <;> simp <;> omega
theorem BillIs.small {l : List Du} {x n e : Int} {z : List Tr} (h : BillIs l x n z e) : z.length ≤ 1000000 := by
  rcases h.2 with ⟨h0, rfl⟩ | ⟨_, rfl⟩
  · have h1 := bill_len l x (x + n) l.length
    have h2 := (h.1.ok.1 h0).1.1.2
    omega
  · exact Nat.zero_le _
/-- The lines add up. -/
def sumA : List Tr → Int
  | [] => 0
  | t :: l => t.a + sumA l
def sumC : List Tr → Int
  | [] => 0
  | t :: l => t.c + sumC l
theorem sumA_app (l m : List Tr) : sumA (l ++ m) = sumA l + sumA m := by
  induction l with
  | nil => simp [sumA]
  | cons t l ih => simp only [List.cons_append, sumA, ih]; omega
theorem sumC_app (l m : List Tr) : sumC (l ++ m) = sumC l + sumC m := by
  induction l with
  | nil => simp [sumC]
  | cons t l ih => simp only [List.cons_append, sumC, ih]; omega
theorem bill_sums (l : List Du) (x y : Int) (k : Nat) : sumA (billK l x y k) = manyK l x y k ∧ sumC (billK l x y k) = costK l x y k := by
  induction k with
  | zero => exact ⟨rfl, rfl⟩
  | succ k ih =>
    have h0 := ov_pos (low l k) (l.getD k du0).a x y
    unfold billK manyK costK
    rw [sumA_app, sumC_app, ih.1, ih.2]
    by_cases h : 0 < ov (low l k) (l.getD k du0).a x y
    · rw [if_pos h]; simp [sumA, sumC]
    · have e : ov (low l k) (l.getD k du0).a x y = 0 := by omega
      rw [if_neg h, e]; simp [sumA, sumC]
def LineOk (t : Tr) : Prop := 1 ≤ t.a ∧ t.a ≤ 10000000 ∧ 1 ≤ t.b ∧ t.b ≤ 100000 ∧ t.c = t.a * t.b
theorem bill_ok {l : List Du} (h : Right l) (x y : Int) (k : Nat) (hk : k ≤ l.length) : ∀ t ∈ billK l x y k, LineOk t := by
  induction k with
  | zero => intro t ht; cases ht
  | succ k ih =>
    intro t ht
    unfold billK at ht
    rcases List.mem_append.1 ht with ht | ht
    · exact ih (by omega) t ht
    · by_cases hp : 0 < ov (low l k) (l.getD k du0).a x y
      · rw [if_pos hp] at ht
        have e := List.mem_singleton.1 ht
        subst e
        have h1 := h.price k (by omega)
        have h2 := h.upto k (by omega)
        have h3 := h.low_pos k (by omega)
        exact ⟨by show 1 ≤ ov _ _ _ _; omega, by show ov _ _ _ _ ≤ _; unfold ov; omega, h1.1, h1.2, rfl⟩
      · rw [if_neg hp] at ht; cases ht
/-- The most that there can be. -/
def Top (x : Int) : Int := min 2097151 (10000000 - x)
def MostOf (l : List Du) (x m u : Int) : Prop := (0 ≤ u ∧ u ≤ Top x) ∧ cost l x (x + u) ≤ m ∧ (u = Top x ∨ m < cost l x (x + (u + 1)))
theorem MostOf.one {l : List Du} {x m u v : Int} (h : Right l) (hx : 0 ≤ x) (a : MostOf l x m u) (b : MostOf l x m v) : u = v := by
  obtain ⟨⟨a1, a2⟩, a3, a4⟩ := a
  obtain ⟨⟨b1, b2⟩, b3, b4⟩ := b
  rcases Int.lt_trichotomy u v with c | c | c
  · rcases a4 with a4 | a4
    · omega
    · have h1 := cost_adds h x (x + (u + 1)) (x + v) (by omega) (by omega)
      have h2 := cost_bd h (x + (u + 1)) (x + v) (by omega) (by omega) (by unfold Top at b2; omega)
      omega
  · exact c
  · rcases b4 with b4 | b4
    · omega
    · have h1 := cost_adds h x (x + (v + 1)) (x + u) (by omega) (by omega)
      have h2 := cost_bd h (x + (v + 1)) (x + u) (by omega) (by omega) (by unfold Top at a2; omega)
      omega
def MayMost (x m : Int) : Prop := (0 ≤ x ∧ x ≤ 10000000) ∧ 0 ≤ m ∧ m ≤ 1000000000000
def MostIs (l : List Du) (x m : Int) (u p e : Int) : Prop := (¬ Right l ∧ FaultIs l e ∧ u = 0 ∧ p = 0) ∨ (Right l ∧ ¬ MayMost x m ∧ e = 2 ∧ u = 0 ∧ p = 0) ∨ (Right l ∧ MayMost x m ∧ e = 0 ∧ MostOf l x m u ∧ p = cost l x (x + u))
theorem MostIs.one {l : List Du} {x m u p e u' p' e' : Int} (h : MostIs l x m u p e) (h' : MostIs l x m u' p' e') : u = u' ∧ p = p' ∧ e = e' := by
  rcases h with ⟨a, b, rfl, rfl⟩ | ⟨a, b, rfl, rfl, rfl⟩ | ⟨a, b, rfl, c, rfl⟩ <;> rcases h' with ⟨a', b', rfl, rfl⟩ | ⟨a', b', rfl, rfl, rfl⟩ | ⟨a', b', rfl, c', rfl⟩ <;> first | exact ⟨rfl, rfl, b.one b'⟩ | exact ⟨rfl, rfl, rfl⟩ | contradiction | skip
  obtain rfl := c.one a b.1.1 c'
  exact ⟨rfl, rfl, rfl⟩
theorem rise_not {l : List Du} {k : Nat} (h1 : 1 ≤ k) (hk : k < l.length) (h : (l.getD k du0).a ≤ (l.getD (k - 1) du0).a) : ¬ (Rises l ∧ Ends l) := fun hh => by
  have := hh.1 k h1 hk; omega
/-- What bounds a product. -/
theorem prod_bd {o p : Int} (h0 : 0 ≤ o) (h1 : o ≤ 10000000) (h2 : 1 ≤ p) (h3 : p ≤ 100000) : 0 ≤ o * p ∧ o * p ≤ 1000000000000 := by
  have a := Int.mul_nonneg h0 (show 0 ≤ p by omega)
  have b : o * p ≤ 10000000 * 100000 := Int.le_trans (Int.mul_le_mul_of_nonneg_left h3 h0) (Int.mul_le_mul_of_nonneg_right h1 (by decide))
  exact ⟨a, by omega⟩
theorem costK_le {l : List Du} (h : Right l) (x y : Int) (hx : 0 ≤ x) (hxy : x ≤ y) (hy : y ≤ 10000000) (k : Nat) (hk : k ≤ l.length) : costK l x y k ≤ 1000000000000 := by
  have h1 := costK_mono h x y k l.length hk (Nat.le_refl _)
  have h2 := (cost_bd h x y hx hxy hy).2
  unfold cost at h2
  omega
theorem ov_le (lo hi x y : Int) (h0 : 0 ≤ lo) (h1 : hi ≤ 10000000) : ov lo hi x y ≤ 10000000 := by unfold ov; omega
theorem billK_yes (l : List Du) (x y : Int) (k : Nat) (h : 0 < ov (low l k) (l.getD k du0).a x y) : billK l x y (k + 1) = billK l x y k ++ [⟨ov (low l k) (l.getD k du0).a x y, (l.getD k du0).b, ov (low l k) (l.getD k du0).a x y * (l.getD k du0).b⟩] := by
  unfold billK; rw [if_pos h]
  cases k <;> rfl
theorem billK_no (l : List Du) (x y : Int) (k : Nat) (h : ¬ 0 < ov (low l k) (l.getD k du0).a x y) : billK l x y (k + 1) = billK l x y k := by
  conv => lhs; unfold billK
  rw [if_neg h, List.append_nil]
theorem sums_pos (l : List Tr) (h : ∀ t ∈ l, LineOk t) : 0 ≤ sumA l ∧ 0 ≤ sumC l := by
  induction l with
  | nil => exact ⟨Int.le_refl _, Int.le_refl _⟩
  | cons t l ih =>
    have h1 := ih fun x hx => h x (List.mem_cons_of_mem _ hx)
    obtain ⟨a1, a2, a3, a4, a5⟩ := h t List.mem_cons_self
    have h2 := Int.mul_nonneg (show 0 ≤ t.a by omega) (show 0 ≤ t.b by omega)
    exact ⟨by show 0 ≤ t.a + sumA l; omega, by show 0 ≤ t.c + sumC l; omega⟩
theorem sums_take (l : List Tr) (h : ∀ t ∈ l, LineOk t) (k : Nat) : (0 ≤ sumA (l.take k) ∧ sumA (l.take k) ≤ sumA l) ∧ 0 ≤ sumC (l.take k) ∧ sumC (l.take k) ≤ sumC l := by
  have h1 := sums_pos (l.take k) fun x hx => h x (List.mem_of_mem_take hx)
  have h2 := sums_pos (l.drop k) fun x hx => h x (List.mem_of_mem_drop hx)
  have e1 := sumA_app (l.take k) (l.drop k)
  have e2 := sumC_app (l.take k) (l.drop k)
  rw [List.take_append_drop] at e1 e2
  exact ⟨⟨h1.1, by omega⟩, h1.2, by omega⟩
theorem sums_next (l : List Tr) (k : Nat) (hk : k < l.length) : sumA (l.take (k + 1)) = sumA (l.take k) + (l.getD k tr0).a ∧ sumC (l.take (k + 1)) = sumC (l.take k) + (l.getD k tr0).c := by
  rw [List.take_succ_eq_append_getElem hk, sumA_app, sumC_app]
  simp [List.getD, List.getElem?_eq_getElem hk, sumA, sumC]
theorem line_at {l : List Tr} (h : ∀ t ∈ l, LineOk t) (k : Nat) (hk : k < l.length) : LineOk (l.getD k tr0) := by
  have e : l.getD k tr0 = l[k] := by simp [List.getD, List.getElem?_eq_getElem hk]
  rw [e]; exact h _ (List.getElem_mem hk)

end Go.Proofs.YtlicdeppfhmfjaaGreatDoor.tar

/- Rows of pairs of numbers: that came in, and that a call owns. -/
namespace Go.Proofs.YtlicdeppfhmfjaaGreatDoor.tar
open Go.RowKit
set_option maxRecDepth 100000

/-- The slice a, len reads as the pairs ls. -/
def RowD (w : World) (a : Option Addr) (len : Nat) (ls : List Du) : Prop :=
  ls.length = len ∧ (len = 0 ∨ ∃ b off, a = some ⟨b, off, none⟩ ∧ ∀ i, i < len → w.cell? ⟨b, off + i * 2, none⟩ = some (.int .i64 (ls.getD i du0).a) ∧ w.cell? ⟨b, off + i * 2 + 1, none⟩ = some (.int .i64 (ls.getD i du0).b))
theorem RowD.below {w w' : World} {a : Option Addr} {n : Nat} {zs : List Du} (h : RowD w a n zs) (hb : Below w.heap.size w w') : RowD w' a n zs := by
  refine ⟨h.1, ?_⟩
  rcases h.2 with h0 | ⟨b, off, rfl, hc⟩
  · exact .inl h0
  · refine .inr ⟨b, off, rfl, fun i hi => ?_⟩
    have h1 := hc i hi
    rw [hb.cell (p := ⟨b, off + i * 2, none⟩) (World.block_lt_of_cell? w _ h1.1), hb.cell (p := ⟨b, off + i * 2 + 1, none⟩) (World.block_lt_of_cell? w _ h1.2)]
    exact h1
theorem RowD.nil (w : World) (a : Option Addr) : RowD w a 0 [] := ⟨rfl, .inl rfl⟩
theorem RowD.at {w : World} {a : Option Addr} {n : Nat} {zs : List Du} (h : RowD w a n zs) (h0 : 0 < n) : ∃ b off, a = some ⟨b, off, none⟩ ∧ b < w.heap.size ∧ ∀ i, i < n → w.cell? ⟨b, off + i * 2, none⟩ = some (.int .i64 (zs.getD i du0).a) ∧ w.cell? ⟨b, off + i * 2 + 1, none⟩ = some (.int .i64 (zs.getD i du0).b) := by
  rcases h.2 with h1 | ⟨b, off, rfl, hc⟩
  · omega
  · exact ⟨b, off, rfl, World.block_lt_of_cell? w _ (hc 0 h0).1, hc⟩
/-- What the frame hands to the walk of pairs that came in. -/
theorem rowD_of {w : World} {a : Addr} {m len : Nat} (hl : len ≤ m)
    (h : ∀ j, j < m → ∃ z0 z1, w.cell? (a.add (j * 2)) = some (.int .i64 z0) ∧ w.cell? (a.add (j * 2 + 1)) = some (.int .i64 z1) ∧ (Lit.int .i64 z0).wf = true ∧ (Lit.int .i64 z1).wf = true) :
    ∃ zs : List Du, RowD w (some a) len zs ∧ ∀ x ∈ zs, (Lit.int .i64 x.a).wf = true ∧ (Lit.int .i64 x.b).wf = true := by
  have h' : ∀ j, ∃ e : Du, j < m → w.cell? (a.add (j * 2)) = some (.int .i64 e.a) ∧ w.cell? (a.add (j * 2 + 1)) = some (.int .i64 e.b) ∧ (Lit.int .i64 e.a).wf = true ∧ (Lit.int .i64 e.b).wf = true := fun j => by
    by_cases hj : j < m
    · obtain ⟨z0, z1, hz⟩ := h j hj
      exact ⟨⟨z0, z1⟩, fun _ => hz⟩
    · exact ⟨du0, fun hh => absurd hh hj⟩
  obtain ⟨f, hf⟩ : ∃ f : Nat → Du, ∀ j, j < m → w.cell? (a.add (j * 2)) = some (.int .i64 (f j).a) ∧ w.cell? (a.add (j * 2 + 1)) = some (.int .i64 (f j).b) ∧ (Lit.int .i64 (f j).a).wf = true ∧ (Lit.int .i64 (f j).b).wf = true := ⟨fun j => Classical.choose (h' j), fun j hj => Classical.choose_spec (h' j) hj⟩
  clear h' h
  refine ⟨(List.range len).map f, ⟨by simp, ?_⟩, fun x hx => ?_⟩
  · by_cases h0 : len = 0
    · exact .inl h0
    · obtain ⟨b, off, spot⟩ := a
      have hs : spot = none := by simpa [Addr.add] using World.cell?_spot (hf 0 (by omega)).1
      subst hs
      refine .inr ⟨b, off, rfl, fun i hi => ?_⟩
      have h1 := hf i (by omega)
      rw [Addr.add_lit, Addr.add_lit, ← Nat.add_assoc] at h1
      have e : ((List.range len).map f).getD i du0 = f i := by simp [List.getD, hi]
      rw [e]
      exact ⟨h1.1, h1.2.1⟩
  · obtain ⟨j, hj, rfl⟩ := List.mem_map.1 hx
    exact (hf j (by have := List.mem_range.1 hj; omega)).2.2
def cellsD : List Du → List Value
  | [] => []
  | e :: l => .int .i64 e.a :: .int .i64 e.b :: cellsD l
theorem cellsD_len (l : List Du) : (cellsD l).length = l.length * 2 := by
  induction l with
  | nil => rfl
  | cons e l ih => simp [cellsD, ih]; omega
theorem cellsD_app (l m : List Du) : cellsD (l ++ m) = cellsD l ++ cellsD m := by
  induction l with
  | nil => rfl
  | cons e l ih => simp [cellsD, ih]
theorem oneD (l : List Du) : ∀ u ∈ cellsD l, u.oneCell' = true := by
  induction l with
  | nil => intro u hu; cases hu
  | cons e l ih =>
    intro u hu
    simp only [cellsD, List.mem_cons] at hu
    rcases hu with rfl | rfl | hu
    · rfl
    · rfl
    · exact ih u hu
theorem cellsD_at (l : List Du) (k : Nat) (hk : k < l.length) : (cellsD l)[k * 2]? = some (.int .i64 (l.getD k du0).a) ∧ (cellsD l)[k * 2 + 1]? = some (.int .i64 (l.getD k du0).b) := by
  induction l generalizing k with
  | nil => simp at hk
  | cons x l ih =>
    cases k with
    | zero => exact ⟨rfl, rfl⟩
    | succ k =>
      rw [show (k + 1) * 2 = k * 2 + 1 + 1 by omega]
      have := ih k (by simpa using hk)
      simpa [cellsD] using this
theorem cellsD_get {w : World} {b off len : Nat} {zs : List Du} (hz : zs.length = len) (hc : ∀ i, i < len → w.cell? ⟨b, off + i * 2, none⟩ = some (.int .i64 (zs.getD i du0).a) ∧ w.cell? ⟨b, off + i * 2 + 1, none⟩ = some (.int .i64 (zs.getD i du0).b)) (j : Nat) (u : Value) (hu : (cellsD zs)[j]? = some u) : w.cell? ⟨b, off + j, none⟩ = some u := by
  have hj : j < (cellsD zs).length := by
    by_cases h : j < (cellsD zs).length
    · exact h
    · rw [List.getElem?_eq_none (by omega)] at hu; cases hu
  rw [cellsD_len] at hj
  have h1 := cellsD_at zs (j / 2) (by omega)
  have h2 := hc (j / 2) (by omega)
  rcases Nat.mod_two_eq_zero_or_one j with e | e
  · have e2 : j / 2 * 2 = j := by omega
    rw [e2] at h1 h2
    rw [h1.1] at hu
    rw [h2.1]; exact hu
  · have e2 : j / 2 * 2 + 1 = j := by omega
    rw [Nat.add_assoc, e2] at h2
    rw [e2] at h1
    rw [h1.2] at hu
    rw [h2.2]; exact hu
/-- Pairs (of the kind T) that nobody else holds. -/
def Ld (T : TypeId) (w : World) (base : Nat) (v : Value) (l : List Du) : Prop := w.ownsRow base T 2 v l.length (cellsD l)
theorem Ld.zero (T : TypeId) (w : World) (base : Nat) : Ld T w base (.slice none 0 0) [] := World.ownsRow_nil _ _ _ _
theorem Ld.alloc {T : TypeId} {w : World} {base : Nat} {v : Value} {l : List Du} (h : Ld T w base v l) (o : Obj) : Ld T (w.alloc o) base v l := World.ownsRow.alloc h o
theorem Ld.next {T : TypeId} {w w' : World} {base : Nat} {v : Value} {l : List Du} (h : Ld T w base v l) (hb : Below w.heap.size w w') : Ld T w' base v l := by
  refine ⟨h.1, ?_⟩
  rcases h.2 with hn | ⟨g, cap, cur, hv, hg, hc, rest⟩
  · exact .inl hn
  · exact .inr ⟨g, cap, cur, hv, hg, Blk.next hc hb, rest⟩
theorem Ld.low {T : TypeId} {w : World} {base base' : Nat} {v : Value} {l : List Du} (h : Ld T w base v l) (hb : base' ≤ base) : Ld T w base' v l := by
  refine ⟨h.1, ?_⟩
  rcases h.2 with hn | ⟨g, cap, cur, hv, hg, rest⟩
  · exact .inl hn
  · exact .inr ⟨g, cap, cur, hv, by omega, rest⟩
theorem Ld.row {T : TypeId} {w : World} {base : Nat} {v : Value} {l : List Du} (h : Ld T w base v l) : ∃ a cap, v = .slice a l.length cap ∧ RowD w a l.length l ∧ (a = none → cap = 0) ∧ l.length ≤ cap ∧ (∀ x, a = some x → x.off = 0 ∧ x.spot = none) := by
  rcases h.2 with ⟨hv, hn⟩ | ⟨g, cap, cur, hv, _, _, h1, _⟩
  · exact ⟨none, 0, by rw [hn]; exact hv, ⟨rfl, .inl hn⟩, fun _ => rfl, by omega, fun x h => by cases h⟩
  · subst hv
    refine ⟨_, cap, rfl, ⟨rfl, .inr ⟨g, 0, rfl, fun i hi => ?_⟩⟩, (fun h => by cases h), h1, fun x h => by cases h; exact ⟨rfl, rfl⟩⟩
    have e1 := World.ownsRow.cellAt h (i * 2) (by omega)
    have e2 := World.ownsRow.cellAt h (i * 2 + 1) (by omega)
    rw [Nat.zero_add, e1, e2]
    exact cellsD_at l i hi
theorem own_far {w : World} {base n k : Nat} {t : TypeId} {v : Value} {l : List Value} (h : w.ownsRow base t n v k l) {G : Nat} (hG : G < base) : some G ≠ v.ownBlock := by
  intro e
  have := (World.ownsRow.lt h G e.symm).1
  omega
theorem own_bel {w0 w w' : World} {base B n k : Nat} {t : TypeId} {v : Value} {l : List Value} (h : w.ownsRow base t n v k l) (hg : w.grownBy w' v.ownBlock) (hb : Below B w0 w) (hB : B ≤ base) (hw : B ≤ w.heap.size) : Below B w0 w' := by
  refine ⟨hg.os.trans hb.os, hg.tape.trans hb.tape, hg.output.trans hb.output, Nat.le_trans hb.size hg.size, fun k hk => ?_⟩
  rw [← hb.block k hk]
  exact hg.block k (by omega) (own_far h (by omega))
theorem bel_drewN {B : Nat} {w w' : World} (h : Below B w w') (n : Nat) : Below B w (w'.drewN n) := ⟨h.os, h.tape, h.output, h.size, h.block⟩
/-- What is to be known of a kind T of pairs, whose slices are S. -/
structure PairT (P : Program) (T S : TypeId) : Prop where
  info : (P.info? T).map (fun i => (i.zero, i.size, i.bytes)) = some (some (.agg #[.int .i64 0, .int .i64 0]), 2, 16)
  under : P.underlying S = some (.slice T)
/-- One pair is put behind the others. -/
theorem wp_pair {P : Program} {T S : TypeId} (hP : PairT P T S) {w : World} {ops : Array Oper} {rest : List Oper} {o : Oper} {a : Act} {Q : Exit → Act → World → Prop} (hgd : o.guard = none) (s x : Operand)
    (ho : o.op = .call { callee := .builtin .append, args := #[s, x], argTypes := #[S, S] })
    (base G : Nat) (v : Value) (l : List Du) (r : Du) (hs : a.eval s = v) (hx : a.eval x = .slice (some ⟨G, 0, none⟩) 1 1) (hv : Ld T w base v l) (hu : w.cell? ⟨G, 0, none⟩ = some (.int .i64 r.a) ∧ w.cell? ⟨G, 1, none⟩ = some (.int .i64 r.b)) (hn : l.length ≤ 1000000) (hbase : base ≤ w.heap.size)
    (h : ∀ v' w', Ld T w' base v' (l ++ [r]) → w.grownBy w' v.ownBlock → wpList P ops Q rest (a.put o.dst v') w') : wpList P ops Q (o :: rest) a w := by
  obtain ⟨i0, hi, hz0, hz1, hz2⟩ := info_parts hP.info
  refine wpList_append_own w hgd s x S ho base T i0 (.agg #[.int .i64 0, .int .i64 0]) 2 16 hP.under hi hz0 hz1 hz2 rfl (by decide) v l.length (cellsD l) hs hv ⟨G, 0, none⟩ 1 1 (cellsD [r]) hx rfl ?_ (oneD [r]) (by unfold maxLen; omega) (by omega) hbase ?_
  · intro j u hj
    match j, hj with
    | 0, hj => simp [cellsD] at hj; subst hj; simpa [Addr.add] using hu.1
    | 1, hj => simp [cellsD] at hj; subst hj; simpa [Addr.add] using hu.2
    | j + 2, hj => simp [cellsD] at hj
  intro v' w' h1 h2 _
  refine h v' w' ?_ h2
  unfold Ld
  rw [List.length_append, cellsD_app]
  exact h1
/-- The same, in a region that draws its order. -/
theorem step_pair {P : Program} {T S : TypeId} (hP : PairT P T S) {w : World} {ops : Array Oper} {o : Oper} {a : Act} {K : Act → World → Prop} {Q : Exit → Act → World → Prop} {E : Prop} (hgd : o.guard = none) (s x : Operand)
    (ho : o.op = .call { callee := .builtin .append, args := #[s, x], argTypes := #[S, S] })
    (base G : Nat) (v : Value) (l : List Du) (r : Du) (hs : a.eval s = v) (hx : a.eval x = .slice (some ⟨G, 0, none⟩) 1 1) (hv : Ld T w base v l) (hu : w.cell? ⟨G, 0, none⟩ = some (.int .i64 r.a) ∧ w.cell? ⟨G, 1, none⟩ = some (.int .i64 r.b)) (hn : l.length ≤ 1000000) (hbase : base ≤ w.heap.size)
    (h : ∀ v' w', Ld T w' base v' (l ++ [r]) → w.grownBy w' v.ownBlock → K (a.put o.dst v') w') : if Region.wanted o (yielded ops a.tmps) = true then Oper.wp P o a w K Q else E := by
  have hw : Region.wanted o (yielded ops a.tmps) = true := by simp [Region.wanted, hgd]
  rw [if_pos hw]
  obtain ⟨i0, hi, hz0, hz1, hz2⟩ := info_parts hP.info
  obtain ⟨v', w', hr, h2, h3, _⟩ := run_append_own (P := P) w base S o.type T i0 (.agg #[.int .i64 0, .int .i64 0]) 2 16 hP.under hi hz0 hz1 hz2 rfl (by decide) v l.length (cellsD l) hv ⟨G, 0, none⟩ 1 1 (cellsD [r]) rfl (by
    intro j u hj
    match j, hj with
    | 0, hj => simp [cellsD] at hj; subst hj; simpa [Addr.add] using hu.1
    | 1, hj => simp [cellsD] at hj; subst hj; simpa [Addr.add] using hu.2
    | j + 2, hj => simp [cellsD] at hj) (oneD [r]) (by unfold maxLen; omega) (by omega) hbase
  unfold Oper.wp execOp
  simp only [ho, resolve, invoke, builtin, Sem.run_bind, Sem.run_pure, Result.andThen_ok, List.map_toArray, List.map_cons, List.map_nil, hs, hx, hr]
  refine h v' w' ?_ h3
  unfold Ld
  rw [List.length_append, cellsD_app]
  exact h2
/-- A copy of pairs: append(nil, l...). -/
theorem wp_pairs {P : Program} {T S : TypeId} (hP : PairT P T S) {w : World} {ops : Array Oper} {rest : List Oper} {o : Oper} {a : Act} {Q : Exit → Act → World → Prop} (hgd : o.guard = none) (s x : Operand)
    (ho : o.op = .call { callee := .builtin .append, args := #[s, x], argTypes := #[S, S] })
    (base : Nat) (A : Addr) (len cap : Nat) (zs : List Du) (hs : a.eval s = .slice none 0 0) (hx : a.eval x = .slice (some A) len cap) (hr : RowD w (some A) len zs) (hl : len * 16 ≤ 140737488351232) (hbase : base ≤ w.heap.size)
    (h : ∀ v' w', Ld T w' base v' zs → w.grownBy w' none → wpList P ops Q rest (a.put o.dst v') w') : wpList P ops Q (o :: rest) a w := by
  obtain ⟨i0, hi, hz0, hz1, hz2⟩ := info_parts hP.info
  obtain ⟨hz, hr⟩ := hr
  refine wpList_append_own w hgd s x S ho base T i0 (.agg #[.int .i64 0, .int .i64 0]) 2 16 hP.under hi hz0 hz1 hz2 rfl (by decide) _ _ _ hs (World.ownsRow_nil _ _ _ _) A len cap (cellsD zs) hx ?_ ?_ (oneD zs) (by unfold maxLen; omega) (by omega) hbase ?_
  · rw [cellsD_len, hz]
  · intro j u hu
    rcases hr with h | ⟨b, off, h, hc⟩
    · rw [List.getElem?_eq_none (by rw [cellsD_len]; omega)] at hu; cases hu
    · obtain rfl := Option.some.inj h
      rw [Addr.add_lit]
      exact cellsD_get hz hc j u hu
  · intro v' w' h1 h2 _
    refine h v' w' ?_ (by simpa [Value.ownBlock] using h2)
    show w'.ownsRow _ _ _ _ _ _
    rw [hz]; simpa using h1

end Go.Proofs.YtlicdeppfhmfjaaGreatDoor.tar

/- Rows of texts that a call owns. -/
namespace Go.Proofs.YtlicdeppfhmfjaaGreatDoor.rcp
open Go.RowKit
set_option maxRecDepth 100000

def cellsS (l : List ByteArray) : List Value := l.map Value.string
theorem oneS (l : List ByteArray) : ∀ u ∈ cellsS l, u.oneCell' = true := fun u hu => by
  obtain ⟨s, _, rfl⟩ := List.mem_map.1 hu
  rfl
/-- Texts (of the kind T) that nobody else holds. -/
def Ls (T : TypeId) (w : World) (base : Nat) (v : Value) (l : List ByteArray) : Prop := w.ownsRow base T 1 v l.length (cellsS l)
theorem Ls.zero (T : TypeId) (w : World) (base : Nat) : Ls T w base (.slice none 0 0) [] := World.ownsRow_nil _ _ _ _
theorem Ls.alloc {T : TypeId} {w : World} {base : Nat} {v : Value} {l : List ByteArray} (h : Ls T w base v l) (o : Obj) : Ls T (w.alloc o) base v l := World.ownsRow.alloc h o
theorem Ls.next {T : TypeId} {w w' : World} {base : Nat} {v : Value} {l : List ByteArray} (h : Ls T w base v l) (hb : Below w.heap.size w w') : Ls T w' base v l := by
  refine ⟨h.1, ?_⟩
  rcases h.2 with hn | ⟨g, cap, cur, hv, hg, hc, rest⟩
  · exact .inl hn
  · exact .inr ⟨g, cap, cur, hv, hg, Blk.next hc hb, rest⟩
theorem Ls.row {T : TypeId} {w : World} {base : Nat} {v : Value} {l : List ByteArray} (h : Ls T w base v l) (h0 : 0 < l.length) : ∃ g cap, v = .slice (some ⟨g, 0, none⟩) l.length cap ∧ base ≤ g ∧ g < w.heap.size ∧ l.length ≤ cap ∧ ∀ i, i < l.length → w.cell? ⟨g, i, none⟩ = some (.string (l.getD i ByteArray.empty)) := by
  rcases h.2 with ⟨hv, hn⟩ | ⟨g, cap, cur, hv, hg, hc, h1, _⟩
  · omega
  · subst hv
    refine ⟨g, cap, rfl, hg, Blk.lt hc, h1, fun i hi => ?_⟩
    have e1 := World.ownsRow.cellAt h i (by omega)
    rw [e1]
    simp [cellsS, List.getD, hi]
theorem Ls.len {T : TypeId} {w : World} {base : Nat} {v : Value} {l : List ByteArray} (h : Ls T w base v l) : ∃ a cap, v = .slice a l.length cap := by
  rcases h.2 with ⟨hv, hn⟩ | ⟨g, cap, cur, hv, _⟩
  · exact ⟨none, 0, by rw [hn]; exact hv⟩
  · exact ⟨_, cap, hv⟩
/-- What is to be known of a kind T of texts, whose slices are S. -/
structure TextT (P : Program) (T S : TypeId) : Prop where
  info : (P.info? T).map (fun i => (i.zero, i.size, i.bytes)) = some (some (.string ByteArray.empty), 1, 16)
  under : P.underlying S = some (.slice T)
/-- One text is put behind the others. -/
theorem wp_str {P : Program} {T S : TypeId} (hP : TextT P T S) {w : World} {ops : Array Oper} {rest : List Oper} {o : Oper} {a : Act} {Q : Exit → Act → World → Prop} (hgd : o.guard = none) (s x : Operand)
    (ho : o.op = .call { callee := .builtin .append, args := #[s, x], argTypes := #[S, S] })
    (base G : Nat) (v : Value) (l : List ByteArray) (r : ByteArray) (hs : a.eval s = v) (hx : a.eval x = .slice (some ⟨G, 0, none⟩) 1 1) (hv : Ls T w base v l) (hu : w.cell? ⟨G, 0, none⟩ = some (.string r)) (hn : l.length ≤ 1000000) (hbase : base ≤ w.heap.size)
    (h : ∀ v' w', Ls T w' base v' (l ++ [r]) → w.grownBy w' v.ownBlock → wpList P ops Q rest (a.put o.dst v') w') : wpList P ops Q (o :: rest) a w := by
  obtain ⟨i0, hi, hz0, hz1, hz2⟩ := info_parts hP.info
  refine wpList_append_own w hgd s x S ho base T i0 (.string ByteArray.empty) 1 16 hP.under hi hz0 hz1 hz2 rfl (by decide) v l.length (cellsS l) hs hv ⟨G, 0, none⟩ 1 1 (cellsS [r]) hx rfl ?_ (oneS [r]) (by unfold maxLen; omega) (by omega) hbase ?_
  · intro j u hj
    match j, hj with
    | 0, hj => simp [cellsS] at hj; subst hj; simpa [Addr.add] using hu
    | j + 1, hj => simp [cellsS] at hj
  intro v' w' h1 h2 _
  refine h v' w' ?_ h2
  unfold Ls
  rw [List.length_append]
  unfold cellsS at *
  rw [List.map_append]
  exact h1

end Go.Proofs.YtlicdeppfhmfjaaGreatDoor.rcp

/- Twenty digits, four by four, in the program. -/
namespace Go.Proofs.YtlicdeppfhmfjaaGreatDoor.rcf
open Go.Proofs.YtlicdeppfhmfjaaGreatDoor.rcp (Ls wp_str TextT four)
open Go.RowKit
set_option maxRecDepth 100000
set_option linter.unusedVariables false

theorem textT : TextT Tryz.prog 9 45 := ⟨by kernel_rfl, Tryz.underlying45⟩
def szOf : Value → Nat
  | .string s => s.size
  | _ => 0
/-- The first k groups. -/
def grp (l : List UInt8) (k : Nat) : List (List UInt8) := (List.range k).map fun i => (l.drop (4 * i)).take 4
def lists (l : List ByteArray) : List (List UInt8) := l.map fun s => s.data.toList
theorem grp_snoc (l : List UInt8) (k : Nat) : grp l (k + 1) = grp l k ++ [(l.drop (4 * k)).take 4] := by
  unfold grp; rw [List.range_succ, List.map_append]; rfl
theorem lists_snoc (l : List ByteArray) (s : ByteArray) : lists (l ++ [s]) = lists l ++ [s.data.toList] := by unfold lists; rw [List.map_append]; rfl
theorem join_grp {l : List UInt8} (h : l.length = 20) : Lib.join (grp l 5) [32] = four l := by
  match l, h with
  | [a, b, c, d, e, f, g, i, j, l, m, n, o, p, q, r, s, t, u, v], _ => rfl
theorem ext_take (d : ByteArray) (k : Nat) : (d.extract 0 k).data.toList = d.data.toList.take k := by simp [ByteArray.data_extract]
theorem ext_drop (d : ByteArray) (k : Nat) : (d.extract k d.size).data.toList = d.data.toList.drop k := by
  simp [ByteArray.data_extract]
  exact List.take_of_length_le (by rw [List.length_drop, Array.length_toList]; exact Nat.le_refl _)

set_option maxHeartbeats 1000000 in
theorem fours_any (s : ByteArray) (w : World) (hs : s.size = 20) :
    Calls Tryz.prog 34 #[.string s] w fun e w' => e = .returned (.string ⟨(four s.data.toList).toArray⟩) ∧ Below w.heap.size w w' := by
  have HLN : Hid (s.data.toList.length = 20) := (Array.length_toList).trans hs
  have HS : Hid (s.size = 20) := hs
  clear hs
  go_enter Tryz.func34, Tryz.ntmps34
  go_wp2_with fail
  go_loopw [0, 3] (fun v0 v3 wr => ∃ (k : Nat) (D : ByteArray) (V : Value) (out : List ByteArray), k ≤ 5 ∧ D.size = 20 - 4 * k ∧ v0 = .string D ∧ V = v3 ∧ D.data.toList = s.data.toList.drop (4 * k) ∧ out.length = k ∧ lists out = grp s.data.toList k ∧ Ls 9 wr w.heap.size V out ∧ Below w.heap.size w wr) (fun v0 _ _ => szOf v0)
  case atStart => exact ⟨0, s, _, [], by decide, HS.out, rfl, rfl, rfl, rfl, rfl, Ls.zero _ _ _, Below.refl _ _⟩
  case round =>
    obtain ⟨k, D, V, out, hk, hD, rfl, hV, hDl, hol, hli, hls, hbel⟩ := hrel
    subst hV
    have HLS : Hid (Ls 9 wr w.heap.size V out) := hls
    have HDL : Hid (D.data.toList = s.data.toList.drop (4 * k)) := hDl
    have HLI : Hid (lists out = grp s.data.toList k) := hli
    have HBL : Hid (Below w.heap.size w wr) := hbel
    have HDS : Hid (D.size = 20 - 4 * k) := hD
    have HOL : Hid (out.length = k) := hol
    have hol6 : out.length ≤ 1000000 := by omega
    clear hls hDl hli hbel
    by_cases h5 : k = 5
    · have hne : D = ⟨#[]⟩ := by
        apply ByteArray.ext
        have : D.data.size = 0 := by show D.size = 0; omega
        exact Array.eq_empty_of_size_eq_zero this
      have HJ : Hid (∀ w', Below w.heap.size wr w' → True) := fun _ _ => trivial
      obtain ⟨g, cap, hV2, hg0, hg1, hcap, hcells⟩ := HLS.out.row (by omega)
      subst hV2 hne
      have HJN : Hid (Calls Tryz.prog 63 #[.slice (some ⟨g, 0, none⟩) out.length cap, .string ⟨#[32]⟩] wr fun e w' => e = .returned (.string ⟨(four s.data.toList).toArray⟩) ∧ Below wr.heap.size wr w') := by
        have hq : Lib.join (out.map (·.data.toList)) [32] = four s.data.toList := by
          have := HLI.out
          rw [h5] at this
          show Lib.join (lists out) [32] = _
          rw [this, join_grp HLN.out]
        have hfl : (four s.data.toList).length = 24 := rcp.four_len HLN.out
        have h := Tryz.strings_Join g 0 cap out ⟨#[32]⟩ wr (fun j x hx => by
          have hj : j < out.length := by
            rcases Nat.lt_or_ge j out.length with h | h
            · exact h
            · rw [List.getElem?_eq_none h] at hx; cases hx
          have := hcells j hj
          rw [List.getD_eq_getElem?_getD, hx] at this
          simpa using this) hg1 (by omega) hcap (by show (Lib.join (out.map (·.data.toList)) [32]).length ≤ _; rw [hq, hfl]; decide)
        have hq' : Lib.join (out.map (·.data.toList)) (⟨#[32]⟩ : ByteArray).data.toList = four s.data.toList := hq
        rw [hq'] at h
        exact h
      clear hcells hg0 hg1 hcap HLI HDL HDS HOL h5 hD hol hk
      go_wp2_with fail
      refine HJN.out.mono ?_
      rintro e w' ⟨rfl, hb⟩
      have HB2 : Hid (Below w.heap.size w w') := HBL.out.trans (hb.mono HBL.out.size)
      clear hb HJN
      go_wp2_with fail
      go_ret
      exact ⟨rfl, HB2.out⟩
    · have hD4 : 4 ≤ D.size := by omega
      have hne : D ≠ ⟨#[]⟩ := by rintro rfl; exact absurd hD4 (by decide)
      have hE : D.toList.isEmpty = false := by
        cases hx : D.toList.isEmpty with
        | false => rfl
        | true =>
          exfalso
          have h1 : D.toList = [] := List.isEmpty_iff.1 hx
          have h2 : D.data.toList = [] := by rw [← h1, ByteArray.toList_eq]
          have h3 : D.data.toList.length = D.size := Array.length_toList
          rw [h2] at h3
          simp at h3
          omega
      have HUA : Hid (∀ o, Ls 9 (wr.alloc o) w.heap.size V out) := fun o => HLS.out.alloc o
      have HBA : Hid (∀ o, Below w.heap.size w (wr.alloc o)) := fun o => HBL.out.alloc HBL.out.size o
      have HK : Hid (k < 5) := by show k < 5; omega
      clear hD hol hk h5
      go_wp2_with (first | (refine wp_str textT rfl _ _ rfl w.heap.size wr.heap.size V out (D.extract 0 4) rfl rfl (HUA.out _) ((Blk.new wr _ _).cell 0) hol6 (by have := HBL.out.size; simp; omega) ?_; intro v3 w3 h3 hg3; have HB3 : Hid (Below w.heap.size w w3) := tar.own_bel (HUA.out _) hg3 (HBA.out _) (Nat.le_refl _) (by have := HBL.out.size; simp; omega); have H3 : Hid (Ls 9 w3 w.heap.size v3 (out ++ [D.extract 0 4])) := h3; clear h3 hg3) | fail)
      go_roundw
      case rel =>
        refine ⟨k + 1, D.extract 4 D.size, v3, out ++ [D.extract 0 4], HK.out, ?_, rfl, rfl, ?_, ?_, ?_, H3.out, HB3.out⟩
        · have := HDS.out; rw [ByteArray.size_extract]; omega
        · rw [ext_drop, HDL.out, List.drop_drop]; congr 1
        · rw [List.length_append, HOL.out]; rfl
        · rw [lists_snoc, HLI.out, grp_snoc, ext_take, HDL.out]
      case measure => simp [szOf]; omega

end Go.Proofs.YtlicdeppfhmfjaaGreatDoor.rcf

/- Texts of digits: what flaw gives back. -/
namespace Go.Proofs.YtlicdeppfhmfjaaGreatDoor.check
open Go.RowKit

set_option maxHeartbeats 400000 in
theorem flaw_any (s : ByteArray) (w : World) :
    Calls Tryz.prog 97 #[.string s] w fun e w' => e = .returned (.int .i64 (flawR s.data.toList)) ∧ Below w.heap.size w w' := by
  have el := ByteArray.toList_eq s
  have ln := len_eq s
  by_cases h0 : s.size = 0
  · rw [flawR_size (.inl (by omega))]
    have e : (s.toList == []) = true := by rw [el, List.eq_nil_of_length_eq_zero (by omega : s.data.toList.length = 0)]; rfl
    clear el ln
    go_enter Tryz.func97, Tryz.ntmps97
    go_wp2
    go_ret
    exact ⟨rfl, Below.refl _ _⟩
  · have e : (s.toList == []) = false := by
      rw [el]; cases hl : s.data.toList with
      | nil => rw [hl] at ln; simp at ln; omega
      | cons a r => rfl
    by_cases h2 : 200 < s.size
    · rw [flawR_size (.inr (by omega))]
      have h3 : (200 : Int) < (s.size : Int) := by omega
      clear el ln
      go_enter Tryz.func97, Tryz.ntmps97
      go_wp2
      go_ret
      exact ⟨rfl, Below.refl _ _⟩
    · have h3 : ¬ (200 : Int) < (s.size : Int) := by omega
      have HS : Hid (¬ (s.data.toList.length = 0 ∨ 200 < s.data.toList.length)) := by intro h; omega
      clear el ln
      go_enter Tryz.func97, Tryz.ntmps97
      go_wp2
      go_loopw [] (fun wr => ∃ k : Nat, k ≤ s.size ∧ wr = w.iter s k ∧ allD (s.data.toList.take k) = true) (fun wr => s.size - wr.iterPos w.heap.size)
      case atStart => exact ⟨0, Nat.zero_le _, rfl, rfl⟩
      case round =>
        obtain ⟨k, hk, rfl, hok⟩ := hrel
        have HK : Hid (allD (s.data.toList.take k) = true) := hok
        clear hok
        by_cases hp : k < s.size
        · by_cases ha : (s[k]'hp).toNat < 128
          · have hnx : ∀ ty, (Instr.next (.pointer (some ⟨w.heap.size, 0, none⟩)) true ty).run Tryz.prog (w.iter s k) = _ := fun ty => run_next_ascii w s k ty hp ha
            have HT : Hid (s.data.toList.take (k + 1) = s.data.toList.take k ++ [s[k]]) := take_snoc s k hp
            have HN : Hid (isD s[k] = false → allD s.data.toList = false) := allD_take_no s k hp
            have HY : Hid (48 ≤ ((s[k].toNat : Nat) : Int) → ((s[k].toNat : Nat) : Int) ≤ 57 → isD s[k] = true) := fun a b => isD_yes a b
            have HL : Hid (((s[k].toNat : Nat) : Int) < 48 → isD s[k] = false) := fun a => isD_lo a
            have HH : Hid (57 < ((s[k].toNat : Nat) : Int) → isD s[k] = false) := fun a => isD_hi a
            clear ha
            generalize s[k] = c at *
            generalize hcc : ((c.toNat : Nat) : Int) = z at *
            clear hcc
            by_cases h1 : z < 48
            · go_wp2
              go_ret
              exact ⟨ret_int (flawR_no HS.out (HN.out (HL.out h1))).symm, iter_below _ _ _⟩
            · by_cases h2 : 57 < z
              · go_wp2
                go_ret
                exact ⟨ret_int (flawR_no HS.out (HN.out (HH.out h2))).symm, iter_below _ _ _⟩
              · go_wp2
                go_roundw
                case rel => exact ⟨k + 1, by omega, rfl, by rw [HT.out, allD_append, HK.out]; simp [allD, HY.out (by omega) (by omega)]⟩
                case measure => simp; omega
          · have hd := (decode_high s k hp (by omega)).1
            have hnx : ∀ ty, (Instr.next (.pointer (some ⟨w.heap.size, 0, none⟩)) true ty).run Tryz.prog (w.iter s k) = _ := fun ty => run_next_any w s k ty hp
            have HN : Hid (allD s.data.toList = false) := allD_take_no s k hp (isD_hi (by omega))
            clear ha
            have hd2 := decode_le s k
            generalize (Utf8.decode s k).1 = r at *
            generalize (Utf8.decode s k).2 = n at *
            go_wp2
            go_ret
            exact ⟨ret_int (flawR_no HS.out HN.out).symm, iter_below _ _ _⟩
        · have hnx : ∀ ty, (Instr.next (.pointer (some ⟨w.heap.size, 0, none⟩)) true ty).run Tryz.prog (w.iter s k) = _ := fun ty => run_next_end w s k ty hp
          go_wp2
          go_ret
          refine ⟨ret_int ?_, iter_below _ _ _⟩
          have := HK.out
          rw [List.take_of_length_le (by simp; omega)] at this
          exact (flawR_ok HS.out this).symm

theorem value_any (z : Int) (w : World) (h1 : 48 ≤ z) (h2 : z ≤ 57) :
    Calls Tryz.prog 165 #[.int .i32 z] w fun e w' => e = .returned (.int .i64 (z - 48)) ∧ w' = w := by
  go_enter Tryz.func165, Tryz.ntmps165
  go_wp2
  go_ret
  exact ⟨rfl, rfl⟩

end Go.Proofs.YtlicdeppfhmfjaaGreatDoor.check

/- The motions of a pentagon: what Mul and Inv give back. -/
namespace Go.Proofs.YtlicdeppfhmfjaaGreatDoor.check
open Go.RowKit

theorem flips_yes (n : Int) (w : World) (h : 5 ≤ n) :
    Calls Tryz.prog 138 #[.int .i64 n] w fun e w' => e = .returned (.bool true) ∧ w' = w := by
  go_enter Tryz.func138, Tryz.ntmps138
  go_wp2
  go_ret
  exact ⟨rfl, rfl⟩
theorem flips_no (n : Int) (w : World) (h : n < 5) :
    Calls Tryz.prog 138 #[.int .i64 n] w fun e w' => e = .returned (.bool false) ∧ w' = w := by
  have h1 : decide (5 ≤ n) = false := by simp; omega
  go_enter Tryz.func138, Tryz.ntmps138
  go_wp2
  go_ret
  exact ⟨rfl, rfl⟩

theorem mul_form (a b : Nat) (ha : a < 10) (hb : b < 10) : ((mulN a b : Nat) : Int) =
    if (a : Int) < 5 then (if (b : Int) < 5 then ((a : Int) + b) % 5 else 5 + ((a : Int) + b) % 5)
    else (if (b : Int) < 5 then 5 + ((a : Int) - (b : Int)) % 5 else ((a : Int) % 5 - (b : Int) % 5 + 5) % 5) := by
  unfold mulN
  split <;> split <;> (first | omega | (rw [if_pos (by omega), if_pos (by omega)]; omega) | (rw [if_pos (by omega), if_neg (by omega)]; omega) | (rw [if_neg (by omega), if_pos (by omega)]; omega) | (rw [if_neg (by omega), if_neg (by omega)]; omega))

set_option maxHeartbeats 400000 in
theorem then_ll (x y : Int) (w : World) (x0 : 0 ≤ x) (x1 : x < 5) (y0 : 0 ≤ y) (y1 : y < 5) :
    Calls Tryz.prog 137 #[.int .i64 x, .int .i64 y] w fun e w' => e = .returned (.int .i64 ((x + y) % 5)) ∧ w' = w := by
  go_enter Tryz.func137, Tryz.ntmps137
  go_wp2
  go_ret
  exact ⟨rfl, rfl⟩
set_option maxHeartbeats 400000 in
theorem then_lh (x y : Int) (w : World) (x0 : 0 ≤ x) (x1 : x < 5) (y0 : 5 ≤ y) (y1 : y < 10) :
    Calls Tryz.prog 137 #[.int .i64 x, .int .i64 y] w fun e w' => e = .returned (.int .i64 (5 + (x + y) % 5)) ∧ w' = w := by
  go_enter Tryz.func137, Tryz.ntmps137
  go_wp2
  go_ret
  exact ⟨rfl, rfl⟩
set_option maxHeartbeats 400000 in
theorem then_hl (x y : Int) (w : World) (x0 : 5 ≤ x) (x1 : x < 10) (y0 : 0 ≤ y) (y1 : y < 5) :
    Calls Tryz.prog 137 #[.int .i64 x, .int .i64 y] w fun e w' => e = .returned (.int .i64 (5 + (x - y) % 5)) ∧ w' = w := by
  have hd : decide (5 ≤ y) = false := by simp; omega
  go_enter Tryz.func137, Tryz.ntmps137
  go_wp2
  go_ret
  exact ⟨rfl, rfl⟩
set_option maxHeartbeats 400000 in
theorem then_hh (x y : Int) (w : World) (x0 : 5 ≤ x) (x1 : x < 10) (y0 : 5 ≤ y) (y1 : y < 10) :
    Calls Tryz.prog 137 #[.int .i64 x, .int .i64 y] w fun e w' => e = .returned (.int .i64 ((x % 5 - y % 5 + 5) % 5)) ∧ w' = w := by
  go_enter Tryz.func137, Tryz.ntmps137
  go_wp2
  go_ret
  exact ⟨rfl, rfl⟩

theorem then_any (a b : Nat) (w : World) (ha : a < 10) (hb : b < 10) :
    Calls Tryz.prog 137 #[.int .i64 (a : Int), .int .i64 (b : Int)] w fun e w' => e = .returned (.int .i64 ((mulN a b : Nat) : Int)) ∧ w' = w := by
  rw [mul_form a b ha hb]
  by_cases h1 : (a : Int) < 5
  · by_cases h2 : (b : Int) < 5
    · rw [if_pos h1, if_pos h2]; exact then_ll _ _ w (by omega) h1 (by omega) h2
    · rw [if_pos h1, if_neg h2]; exact then_lh _ _ w (by omega) h1 (by omega) (by omega)
  · by_cases h2 : (b : Int) < 5
    · rw [if_neg h1, if_pos h2]; exact then_hl _ _ w (by omega) (by omega) (by omega) h2
    · rw [if_neg h1, if_neg h2]; exact then_hh _ _ w (by omega) (by omega) (by omega) (by omega)

theorem undo_any (a : Nat) (w : World) (ha : a < 10) :
    Calls Tryz.prog 99 #[.int .i64 (a : Int)] w fun e w' => e = .returned (.int .i64 ((invN a : Nat) : Int)) ∧ w' = w := by
  by_cases h : a < 5
  · have e : ((invN a : Nat) : Int) = (5 - (a : Int)) % 5 := by unfold invN; rw [if_pos h]; omega
    rw [e]
    have x0 : (0 : Int) ≤ a := by omega
    have x1 : (a : Int) < 5 := by omega
    clear e h ha
    generalize (a : Int) = x at *
    go_enter Tryz.func99, Tryz.ntmps99
    go_wp2
    go_ret
    exact ⟨rfl, rfl⟩
  · have e : ((invN a : Nat) : Int) = (a : Int) := by unfold invN; rw [if_neg h]
    rw [e]
    have x1 : 5 ≤ (a : Int) := by omega
    clear e h ha
    generalize (a : Int) = x at *
    go_enter Tryz.func99, Tryz.ntmps99
    go_wp2
    go_ret
    exact ⟨rfl, rfl⟩

end Go.Proofs.YtlicdeppfhmfjaaGreatDoor.check

/- Where a digit comes to, and the motions of a text. -/
namespace Go.Proofs.YtlicdeppfhmfjaaGreatDoor.check
open Go.RowKit

/-- The table of the moves, in memory. -/
def MTab (w : World) : Prop := ∀ d, d < 10 → w.cell? ⟨8, d, none⟩ = some (.int .i64 ((mv1 d : Nat) : Int))
theorem MTab.below {w w' : World} (h : MTab w) (hb : Below w.heap.size w w') : MTab w' := fun d hd => by
  have h1 := h d hd
  rw [hb.cell (World.block_lt_of_cell? w _ h1)]; exact h1
theorem mtab_of {w : World} {name : String} (hg : Tryz.prog.globalNamed name = some 8) (h : Lib.TabIs Tryz.prog w name .i64 [1, 5, 7, 6, 2, 8, 3, 0, 9, 4]) : MTab w := by
  unfold Lib.TabIs World.var? at h
  rw [hg] at h
  simp only [Option.bind_some] at h
  intro d hd
  split at h
  · rename_i cs t fr hc
    have hcs := Option.some.inj h
    simp only [World.cell?, hc]
    rw [hcs]
    have : ∀ d, d < 10 → (List.map (fun z => Value.int .i64 z) [1, 5, 7, 6, 2, 8, 3, 0, 9, 4]).toArray[d]? = some (Value.int .i64 ((mv1 d : Nat) : Int)) := by
      intro d hd
      match d, hd with
      | 0, _ | 1, _ | 2, _ | 3, _ | 4, _ | 5, _ | 6, _ | 7, _ | 8, _ | 9, _ => rfl
    simpa using this d hd
  · cases h

set_option maxHeartbeats 400000 in
theorem moved_any (d place : Nat) (w : World) (hd : d < 10) (hp : place ≤ 1000) (ht : MTab w) :
    Calls Tryz.prog 164 #[.int .i64 (d : Int), .int .i64 (place : Int)] w fun e w' => e = .returned (.int .i64 ((mvN (place % 8) d : Nat) : Int)) ∧ w' = w := by
  have e8 : ((place : Nat) : Int) % 8 = ((place % 8 : Nat) : Int) := by omega
  have hm : place % 8 < 8 := Nat.mod_lt _ (by decide)
  have HT : Hid (MTab w) := ht
  clear ht
  generalize hq : place % 8 = q at *
  clear hq
  go_enter Tryz.func164, Tryz.ntmps164
  go_wp2_with fail
  go_loop [0, 7] (fun v i => ∃ k : Nat, k ≤ q ∧ i = .int .i64 (k : Int) ∧ v = .int .i64 ((mvN k d : Nat) : Int)) (fun _ i => q - (intOf i).toNat)
  case atStart => exact ⟨0, Nat.zero_le _, rfl, rfl⟩
  case round =>
    obtain ⟨k, hk, rfl, rfl⟩ := hrel
    have hx := mvN_lt k d hd
    have HS : Hid (mvN (k + 1) d = mv1 (mvN k d)) := rfl
    by_cases hlt : k < q
    · have hcell := HT.out (mvN k d) hx
      generalize mvN k d = x at *
      generalize mv1 x = y at *
      go_wp2_with fail
      go_round
      case rel => exact ⟨k + 1, by omega, by go_num, by rw [HS.out]⟩
      case measure => simp [intOf]; omega
    · have hkq : k = q := by omega
      rw [hkq]
      generalize hgx : mvN q d = x at *
      have HG : Hid (mvN q d = x) := hgx
      clear hkq hgx
      go_wp2_with fail
      go_ret
      exact ⟨by rw [HG.out]; rfl, rfl⟩

/-- Block g holds the n motions f. -/
def RowM (w : World) (g n : Nat) (f : Nat → Nat) : Prop := w.heap[g]? = some (.cells ((List.range n).map fun i => Value.int .i64 ((f i : Nat) : Int)).toArray 141 (0, 0))
variable {w w' : World} {g n : Nat} {f : Nat → Nat}
theorem RowM.cell (h : RowM w g n f) {i : Nat} (hi : i < n) : w.cell? ⟨g, i, none⟩ = some (.int .i64 ((f i : Nat) : Int)) := by unfold RowM at h; simp [World.cell?, h, hi]
theorem RowM.free (h : RowM w g n f) (i : Nat) : w.frozen? ⟨g, i, none⟩ = false := by unfold RowM at h; simp [World.frozen?, h]
def updM (f : Nat → Nat) (i v : Nat) : Nat → Nat := fun k => if k = i then v else f k
theorem RowM.set (h : RowM w g n f) (i v : Nat) : RowM (w.setCell ⟨g, i, none⟩ (.int .i64 ((v : Nat) : Int))) g n (updM f i v) := by
  unfold RowM at *
  simp only [World.setCell, Array.getElem?_modify, h, if_true, Option.map_some]
  congr 2
  simp only [Option.isSome_none, Bool.false_eq_true, if_false]
  apply Array.ext'
  simp only [Array.toList_setIfInBounds]
  apply List.ext_getElem?
  intro k
  by_cases hk : k < n
  · by_cases e : k = i
    · subst e; simp [updM, hk]
    · rw [List.getElem?_set_ne (by omega)]; simp [updM, hk, e]
  · rw [List.getElem?_eq_none (by simp; omega), List.getElem?_eq_none (by simp; omega)]
theorem rowM_made {w1 : World} {n g base : Nat} (h : w1.ownsRow base 141 1 (.slice (some ⟨g, 0, none⟩) n n) n (madeCells #[Value.int .i64 0] n).toList) : RowM w1 g n (fun _ => 0) := by
  rcases h.2 with ⟨h1, _⟩ | ⟨g', cap, cur, h1, _, h2, _, _, h3, h4⟩
  · cases h1
  · simp only [Value.slice.injEq, Option.some.injEq, Addr.mk.injEq] at h1
    obtain ⟨⟨rfl, -⟩, -, rfl⟩ := h1
    unfold RowM
    rw [h2]
    congr 2
    apply Array.ext'
    have e1 : cur.toList = (madeCells #[Value.int .i64 0] n).toList := by
      rw [← h4, List.take_of_length_le (by simp; omega)]
    rw [e1, toList_madeCells_one]
    apply List.ext_getElem?
    intro k
    by_cases hk : k < n
    · simp [hk]
    · rw [List.getElem?_eq_none (by simp; omega), List.getElem?_eq_none (by simp; omega)]
theorem info_motion : (Tryz.prog.info? 141).map (fun i => (i.zero, i.size, i.bytes)) = some (some (.int .i64 0), 1, 8) := by kernel_rfl

/-- What motions make, one behind the other. -/
def foldM (f : Nat → Nat) : Nat → Nat
  | 0 => 0
  | k + 1 => mulN (foldM f k) (f k)
theorem foldM_lt (f : Nat → Nat) (k : Nat) (h : ∀ j, j < k → f j < 10) : foldM f k < 10 := by
  induction k with
  | zero => exact (by decide : 0 < 10)
  | succ k ih => exact mul_lt _ (ih fun j hj => h j (by omega)) _ (h k (by omega))
theorem foldM_congr {f f' : Nat → Nat} (k : Nat) (h : ∀ j, j < k → f j = f' j) : foldM f k = foldM f' k := by
  induction k with
  | zero => rfl
  | succ k ih => simp only [foldM]; rw [ih fun j hj => h j (by omega), h k (by omega)]
/-- The motion of the digit at a place. -/
def motN (last : Nat) (l : List Nat) (j : Nat) : Nat := mvN ((last + j) % 8) (l.getD j 0)
theorem foldM_fold (last : Nat) (l : List Nat) : foldM (motN last l) l.length = foldN last 0 l := by
  induction l using list_snoc_ind with
  | h0 => rfl
  | h1 l d ih =>
    rw [foldN_append, List.length_append, List.length_singleton, foldM]
    have e1 : foldM (motN last (l ++ [d])) l.length = foldM (motN last l) l.length := foldM_congr _ fun j hj => by
      unfold motN; congr 1; simp [List.getD, List.getElem?_append_left hj]
    rw [e1, ih]
    show mulN _ (motN last (l ++ [d]) l.length) = mulN _ _
    congr 1
    unfold motN; congr 1; simp [List.getD]

set_option maxHeartbeats 400000 in
theorem follow_any (g n : Nat) (f : Nat → Nat) (w : World) (hr : RowM w g n f) (hf : ∀ j, j < n → f j < 10) (hn : n ≤ 200) :
    Calls Tryz.prog 135 #[.slice (some ⟨g, 0, none⟩) n n, .func (.func 137) #[] #[]] w fun e w' => e = .returned (.int .i64 ((foldM f n : Nat) : Int)) ∧ w' = w := by
  have HR : Hid (RowM w g n f ∧ ∀ j, j < n → f j < 10) := ⟨hr, hf⟩
  clear hr hf
  go_enter Tryz.func135, Tryz.ntmps135
  go_wp2_with fail
  go_loop [5, 10] (fun v i => ∃ k : Nat, k ≤ n ∧ i = .int .i64 (k : Int) ∧ v = .int .i64 ((foldM f k : Nat) : Int)) (fun _ i => n - (intOf i).toNat)
  case atStart => exact ⟨0, Nat.zero_le _, rfl, rfl⟩
  case round =>
    obtain ⟨k, hk, rfl, rfl⟩ := hrel
    have hx := foldM_lt f k fun j hj => HR.out.2 j (by omega)
    have HS : Hid (foldM f (k + 1) = mulN (foldM f k) (f k)) := rfl
    by_cases hlt : k < n
    · have hcell := HR.out.1.cell hlt
      have hy := HR.out.2 k hlt
      have HC := then_any (foldM f k) (f k) w hx hy
      generalize foldM f k = x at *
      generalize f k = y at *
      generalize mulN x y = z at *
      go_wp2_with fail
      refine HC.mono ?_
      rintro e w1 ⟨rfl, rfl⟩
      go_wp2_with fail
      go_round
      case rel => exact ⟨k + 1, by omega, by go_num, by rw [HS.out]⟩
      case measure => simp [intOf]; omega
    · have hkq : k = n := by omega
      rw [hkq]
      generalize hgx : foldM f n = x at *
      have HG : Hid (foldM f n = x) := hgx
      clear hkq hgx
      go_wp2_with fail
      go_ret
      exact ⟨by rw [HG.out]; rfl, rfl⟩

end Go.Proofs.YtlicdeppfhmfjaaGreatDoor.check

/- The motions of a text, and its sum. -/
namespace Go.Proofs.YtlicdeppfhmfjaaGreatDoor.check
open Go.RowKit

theorem below_set {B : Nat} {w w' : World} (h : Below B w w') (G i : Nat) (u : Value) (hG : B ≤ G) : Below B w (w'.setCell ⟨G, i, none⟩ u) := by
  refine ⟨h.os, h.tape, h.output, by simp [World.setCell]; exact h.size, fun k hk => ?_⟩
  rw [← h.block k hk]
  simp only [World.setCell, Array.getElem?_modify]
  rw [if_neg (by omega)]
theorem it_set {w : World} {I G : Nat} {o : Obj} (h : w.heap[I]? = some o) (i : Nat) (u : Value) (hne : G ≠ I) : (w.setCell ⟨G, i, none⟩ u).heap[I]? = some o := by
  simp only [World.setCell, Array.getElem?_modify]; rw [if_neg hne]; exact h
theorem iterPos_of {w : World} {I p : Nat} {s : ByteArray} (h : w.heap[I]? = some (.stringIter s p)) : w.iterPos I = p := by simp [World.iterPos, h]
theorem RowM.iter {w : World} {g n I : Nat} {f : Nat → Nat} {s : ByteArray} {k : Nat} (h : RowM w g n f) (hne : g ≠ I) : RowM (w.iterAt I s k) g n f := by
  unfold RowM at *
  rw [Lib.iterAt_other _ _ _ _ _ hne]; exact h
theorem RowM.alloc {w : World} {g n : Nat} {f : Nat → Nat} (h : RowM w g n f) (o : Obj) : RowM (w.alloc o) g n f := by
  unfold RowM at *
  have hlt : g < w.heap.size := by
    by_cases hh : g < w.heap.size
    · exact hh
    · rw [Array.getElem?_eq_none (by omega)] at h; cases h
  show (w.heap.push o)[g]? = _
  rw [Array.getElem?_push, if_neg (by omega)]; exact h

theorem rev_getD (s : ByteArray) (k j : Nat) (h : k < s.size) (hj : j + 1 + k = s.size) : (digs s.data.toList).reverse.getD j 0 = s[k].toNat - 48 := by
  have hl : (digs s.data.toList).length = s.size := by rw [digs_len, len_eq]
  rw [List.getD, List.getElem?_reverse (by omega), hl, show s.size - 1 - j = k by omega]
  simp only [digs, List.getElem?_map]
  rw [List.getElem?_eq_getElem (by simpa using h)]
  rfl

/-- What holds of the world while motions are laid: k digits are. -/
structure Lay (w wr : World) (s : ByteArray) (last I k : Nat) (f : Nat → Nat) : Prop where
  below : Below w.heap.size w wr
  row : RowM wr w.heap.size s.size f
  it : wr.heap[I]? = some (.stringIter s k)
  done : ∀ j, j < s.size → s.size ≤ j + k → f j = motN last (digs s.data.toList).reverse j

/-- The motions were given back, in a new row. -/
def MotPost (w : World) (s : ByteArray) (last : Nat) (e : Ending) (w' : World) : Prop :=
  ∃ f, e = .returned (.slice (some ⟨w.heap.size, 0, none⟩) s.size s.size) ∧ RowM w' w.heap.size s.size f ∧ (∀ j, j < s.size → f j = motN last (digs s.data.toList).reverse j) ∧ Below w.heap.size w w'

set_option maxHeartbeats 2000000 in
theorem motions_any (s : ByteArray) (last : Nat) (w : World) (h1 : 1 ≤ s.size) (h2 : s.size ≤ 200) (hd : allD s.data.toList = true) (hlast : last ≤ 1) (ht : MTab w) :
    Calls Tryz.prog 136 #[.string s, .int .i64 (last : Int)] w fun e w' => MotPost w s last e w' := by
  obtain ⟨i0, hi, hz0, hz1, hz2⟩ := info_parts info_motion
  have HD : Hid (allD s.data.toList = true) := hd
  have HT : Hid (MTab w) := ht
  clear hd ht
  go_enter Tryz.func136, Tryz.ntmps136
  go_wp2_with (first
    | (at_make; refine wpList_make_full _ rfl _ _ 178 rfl w.heap.size 141 i0 (.int .i64 0) 1 Tryz.underlying178 hi hz0 hz1 _ _ _ _ s.size rfl rfl ?c0 ?c1 ?c2 ?c3 ?c4 ?_))
  try (case c0 => first | rfl | (congr 1; omega))
  try (case c1 => first | rfl | (congr 1; omega))
  case c2 => first | omega | (rw [hz2]; omega)
  case c3 => unfold maxLen; omega
  try (case c4 => simp)
  intro w1 hown hgr
  have HR1 : Hid (RowM w1 w.heap.size s.size (fun _ => 0)) := rowM_made hown
  have HB1 : Hid (Below w.heap.size w w1) := (Below.refl _ _).grown hgr (Nat.le_refl _) (fun k hk => by cases hk)
  clear hown hgr hi hz0 hz1 hz2
  have hw1 : w.heap.size < w1.heap.size := by
    have h := HR1.out
    unfold RowM at h
    by_cases hh : w.heap.size < w1.heap.size
    · exact hh
    · rw [Array.getElem?_eq_none (by omega)] at h; cases h
  have HL0 : Hid (Lay w (w1.iter s 0) s last w1.heap.size 0 (fun _ => 0)) := ⟨HB1.out.alloc HB1.out.size _, HR1.out.alloc _, World.iter_heap w1 s 0, fun j h1 h2 => by omega⟩
  generalize hI : w1.heap.size = I at *
  have HI : Hid (w1.heap.size = I) := hI
  clear hI HR1 HB1
  go_wp2_with fail
  rw [HI.out]
  go_loopw [] (fun wr => ∃ (k : Nat) (f : Nat → Nat), k ≤ s.size ∧ Lay w wr s last I k f) (fun wr => s.size - wr.iterPos I)
  case atStart => exact ⟨0, _, Nat.zero_le _, HL0.out⟩
  case round =>
    obtain ⟨k, f, hk, hl⟩ := hrel
    have HP0 : Hid (wr.iterPos I = k) := iterPos_of hl.it
    by_cases hp : k < s.size
    · obtain ⟨hk1, hk2, hk3⟩ := take_parts s k hp HD.out
      have hcb := isD_bd hk2
      have ha : (s[k]'hp).toNat < 128 := by omega
      have hnx : ∀ ty, (Instr.next (.pointer (some ⟨I, 0, none⟩)) true ty).run Tryz.prog wr = _ := fun ty => Lib.run_next_ascii_at wr I s k ty hl.it hp ha
      obtain ⟨j, hj⟩ : ∃ j, j + 1 + k = s.size := ⟨s.size - 1 - k, by omega⟩
      have BN := Lib.below_iterAt hl.below (k := I) (by omega) s (k + 1)
      have IT := Lib.iterAt_heap wr I s k (k + 1) hl.it
      have RN := hl.row.iter (I := I) (s := s) (k := k + 1) (by omega)
      have HM : Hid (motN last (digs s.data.toList).reverse j = mvN ((last + j) % 8) (s[k].toNat - 48)) := by
        show _ = _
        unfold motN; rw [rev_getD s k j hp hj]
      have HDN : Hid (∀ i, i < s.size → s.size ≤ i + k → f i = motN last (digs s.data.toList).reverse i) := hl.done
      clear hk1 hk2 hk3 ha hl
      generalize hwn : wr.iterAt I s (k + 1) = wn at *
      clear hwn
      have r0 := RN.cell (i := j) (by omega)
      have f0 := RN.free j
      have hcz : ((s[k].toNat - 48 : Nat) : Int) = ((s[k].toNat : Nat) : Int) - 48 := by omega
      have HMV := moved_any (s[k].toNat - 48) (last + j) wn (by omega) (by omega) (HT.out.below BN)
      rw [hcz, Int.natCast_add] at HMV
      have HMV' : Hid (Calls Tryz.prog 164 #[.int .i64 (((s[k].toNat : Nat) : Int) - 48), .int .i64 ((last : Int) + (j : Int))] wn fun e w' => e = .returned (.int .i64 ((mvN ((last + j) % 8) (s[k].toNat - 48) : Nat) : Int)) ∧ w' = wn) := HMV
      have HLN : Hid (Lay w (wn.setCell ⟨w.heap.size, j, none⟩ (.int .i64 ((mvN ((last + j) % 8) (s[k].toNat - 48) : Nat) : Int))) s last I (k + 1) (updM f j (mvN ((last + j) % 8) (s[k].toNat - 48)))) := by
        refine ⟨below_set BN _ _ _ (Nat.le_refl _), RN.set _ _, it_set IT _ _ (by omega), fun i h1 h2 => ?_⟩
        unfold updM
        by_cases e : i = j
        · rw [if_pos e, e, HM.out]
        · rw [if_neg e]; exact HDN.out i h1 (by omega)
      clear BN IT RN HM HDN HMV hcz
      have ej : ((s.size : Int) - 1 - (k : Int)) = (j : Int) := by omega
      generalize ((mvN ((last + j) % 8) (s[k].toNat - 48) : Nat) : Int) = mv at *
      generalize ((f j : Nat) : Int) = old at *
      generalize updM f j (mvN ((last + j) % 8) (s[k].toNat - 48)) = f' at *
      generalize s[k] = c at *
      generalize hcc : ((c.toNat : Nat) : Int) = z at *
      clear hcc
      obtain ⟨z1, z2⟩ := hcb
      have hjs : (j : Int) < (s.size : Int) := by omega
      clear hj
      go_wp2_with fail
      refine (value_any _ _ z1 z2).mono ?_
      rintro e w' ⟨rfl, rfl⟩
      go_wp2_with fail
      refine HMV'.out.mono ?_
      rintro e w' ⟨rfl, rfl⟩
      go_wp2_with fail
      go_roundw
      case rel => exact ⟨k + 1, f', by omega, HLN.out⟩
      case measure =>
        rw [HP0.out, iterPos_of HLN.out.it]
        omega
    · have hnx : ∀ ty, (Instr.next (.pointer (some ⟨I, 0, none⟩)) true ty).run Tryz.prog wr = _ := fun ty => Lib.run_next_end_at wr I s k ty hl.it hp
      have HP : Hid (MotPost w s last (.returned (.slice (some ⟨w.heap.size, 0, none⟩) s.size s.size)) wr) := ⟨f, rfl, hl.row, fun j hj => hl.done j hj (by omega), hl.below⟩
      clear hl
      go_wp2_with fail
      go_ret
      exact HP.out

theorem motN_lt {last : Nat} {l : List Nat} (h : AllD l) {j : Nat} (hj : j < l.length) : motN last l j < 10 := by
  unfold motN
  exact mvN_lt _ _ (h _ (by simp [List.getD, List.getElem?_eq_getElem hj]))
set_option maxHeartbeats 400000 in
theorem sum_any (s : ByteArray) (last : Nat) (w : World) (h1 : 1 ≤ s.size) (h2 : s.size ≤ 200) (hd : allD s.data.toList = true) (hlast : last ≤ 1) (ht : MTab w) :
    Calls Tryz.prog 98 #[.string s, .int .i64 (last : Int)] w fun e w' => e = .returned (.int .i64 ((foldN last 0 (digs s.data.toList).reverse : Nat) : Int)) ∧ Below w.heap.size w w' := by
  have HM : Hid (Calls Tryz.prog 136 #[.string s, .int .i64 (last : Int)] w fun e w' => MotPost w s last e w') := motions_any s last w h1 h2 hd hlast ht
  have hL : (digs s.data.toList).reverse.length = s.size := by rw [List.length_reverse, digs_len, len_eq]
  have HK : Hid (∀ f, (∀ j, j < s.size → f j = motN last (digs s.data.toList).reverse j) → (∀ j, j < s.size → f j < 10) ∧ foldM f s.size = foldN last 0 (digs s.data.toList).reverse) := fun f hf => by
    refine ⟨fun j hj => by rw [hf j hj]; exact motN_lt (digs_ok hd).rev (by omega), ?_⟩
    rw [← foldM_fold, hL]
    exact foldM_congr _ hf
  clear hd ht hL
  go_enter Tryz.func98, Tryz.ntmps98
  go_wp2_with fail
  refine HM.out.mono ?_
  rintro e w1 ⟨f, rfl, hrow, hf, hb⟩
  obtain ⟨k1, k2⟩ := HK.out f hf
  have HF := follow_any w.heap.size s.size f w1 hrow k1 h2
  rw [k2] at HF
  have HFF : Hid (Calls Tryz.prog 135 #[.slice (some ⟨w.heap.size, 0, none⟩) s.size s.size, .func (.func 137) #[] #[]] w1 fun e w' => e = .returned (.int .i64 ((foldN last 0 (digs s.data.toList).reverse : Nat) : Int)) ∧ w' = w1) := HF
  have HB : Hid (Below w.heap.size w w1) := hb
  clear HF hrow hf hb k1 k2 HK HM
  go_wp2_with fail
  refine HFF.out.mono ?_
  rintro e w2 ⟨rfl, rfl⟩
  go_wp2_with fail
  go_ret
  exact ⟨rfl, HB.out⟩

end Go.Proofs.YtlicdeppfhmfjaaGreatDoor.check

/- What check.Digit and check.Good give back. -/
namespace Go.Proofs.YtlicdeppfhmfjaaGreatDoor.check
open Go.RowKit

set_option maxHeartbeats 400000 in
theorem digit_any (s : ByteArray) (w : World) (ht : MTab w) :
    Calls Tryz.prog 61 #[.string s] w fun e w' => e = .returned (.tuple #[.int .i64 (digitR s.data.toList), .int .i64 (flawR s.data.toList)]) ∧ Below w.heap.size w w' := by
  have HF := flaw_any s w
  by_cases h0 : flawR s.data.toList = 0
  · have e : digitR s.data.toList = ((invN (sumR s.data.toList 1) : Nat) : Int) := by unfold digitR; rw [if_pos h0]
    rw [e, h0]
    rw [h0] at HF
    obtain ⟨⟨l1, l2⟩, hd⟩ := flawR_zero h0
    rw [len_eq] at l1 l2
    have HU : Hid (∀ w, Calls Tryz.prog 99 #[.int .i64 ((sumR s.data.toList 1 : Nat) : Int)] w fun e w' => e = .returned (.int .i64 ((invN (sumR s.data.toList 1) : Nat) : Int)) ∧ w' = w) := fun w => undo_any _ w (sumR_lt hd 1)
    have HS : Hid (∀ w', Below w.heap.size w w' → Calls Tryz.prog 98 #[.string s, .int .i64 1] w' fun e w'' => e = .returned (.int .i64 ((sumR s.data.toList 1 : Nat) : Int)) ∧ Below w'.heap.size w' w'') := fun w' hb => sum_any s 1 w' l1 l2 hd (by omega) (ht.below hb)
    clear e h0 hd ht
    generalize ((invN (sumR s.data.toList 1) : Nat) : Int) = y at *
    generalize ((sumR s.data.toList 1 : Nat) : Int) = x at *
    go_enter Tryz.func61, Tryz.ntmps61
    go_wp2_with fail
    refine HF.mono ?_
    rintro e w1 ⟨rfl, hb⟩
    have HB : Hid (Below w.heap.size w w1) := hb
    clear hb HF
    go_wp2_with fail
    refine (HS.out _ HB.out).mono ?_
    rintro e w2 ⟨rfl, hb2⟩
    have HB2 : Hid (Below w.heap.size w w2) := HB.out.trans (hb2.mono HB.out.size)
    clear hb2
    go_wp2_with fail
    refine (HU.out _).mono ?_
    rintro e w3 ⟨rfl, rfl⟩
    go_wp2_with fail
    go_ret2
    exact ⟨rfl, HB2.out⟩
  · have e : digitR s.data.toList = 0 := by unfold digitR; rw [if_neg h0]
    rw [e]
    have hne : (flawR s.data.toList != 0) = true := by simpa using h0
    clear e h0 ht
    generalize flawR s.data.toList = f at *
    go_enter Tryz.func61, Tryz.ntmps61
    go_wp2_with fail
    refine HF.mono ?_
    rintro e w1 ⟨rfl, hb⟩
    clear HF
    go_wp2_with fail
    go_ret2
    exact ⟨rfl, hb⟩

set_option maxHeartbeats 400000 in
theorem good_any (s : ByteArray) (w : World) (ht : MTab w) :
    Calls Tryz.prog 82 #[.string s] w fun e w' => e = .returned (.bool (goodR s.data.toList)) ∧ Below w.heap.size w w' := by
  have HF := flaw_any s w
  by_cases h2 : 2 ≤ s.size
  · have h2' : (2 : Int) ≤ (s.size : Int) := by omega
    by_cases h0 : flawR s.data.toList = 0
    · have e : goodR s.data.toList = (sumR s.data.toList 0 == 0) := by unfold goodR; rw [len_eq, h0]; simp [h2]
      rw [e]
      rw [h0] at HF
      obtain ⟨⟨l1, l2⟩, hd⟩ := flawR_zero h0
      rw [len_eq] at l1 l2
      have HS : Hid (∀ w', Below w.heap.size w w' → Calls Tryz.prog 98 #[.string s, .int .i64 0] w' fun e w'' => e = .returned (.int .i64 ((sumR s.data.toList 0 : Nat) : Int)) ∧ Below w'.heap.size w' w'') := fun w' hb => sum_any s 0 w' l1 l2 hd (by omega) (ht.below hb)
      have e2 : (sumR s.data.toList 0 == 0) = (((sumR s.data.toList 0 : Nat) : Int) == 0) := by
        by_cases h : sumR s.data.toList 0 = 0
        · rw [h]; rfl
        · rw [beq_eq_false_iff_ne.2 h, beq_eq_false_iff_ne.2 (by omega)]
      rw [e2]
      clear e h0 hd ht e2
      generalize ((sumR s.data.toList 0 : Nat) : Int) = x at *
      go_enter Tryz.func82, Tryz.ntmps82
      go_wp2_with fail
      refine HF.mono ?_
      rintro e w1 ⟨rfl, hb⟩
      have HB : Hid (Below w.heap.size w w1) := hb
      clear hb HF
      go_wp2_with fail
      refine (HS.out _ HB.out).mono ?_
      rintro e w2 ⟨rfl, hb2⟩
      have HB2 : Hid (Below w.heap.size w w2) := HB.out.trans (hb2.mono HB.out.size)
      clear hb2
      go_wp2_with fail
      go_ret
      exact ⟨rfl, HB2.out⟩
    · have e : goodR s.data.toList = false := by unfold goodR; rw [beq_eq_false_iff_ne.2 h0]; simp
      rw [e]
      have hne : (flawR s.data.toList == 0) = false := by simpa using h0
      clear e h0 ht
      generalize flawR s.data.toList = f at *
      go_enter Tryz.func82, Tryz.ntmps82
      go_wp2_with fail
      refine HF.mono ?_
      rintro e w1 ⟨rfl, hb⟩
      clear HF
      go_wp2_with fail
      go_ret
      exact ⟨rfl, hb⟩
  · have e : goodR s.data.toList = false := by unfold goodR; rw [len_eq]; simp [h2]
    rw [e]
    have h2' : decide ((2 : Int) ≤ (s.size : Int)) = false := by simp; omega
    clear e HF ht
    go_enter Tryz.func82, Tryz.ntmps82
    go_wp2_with fail
    go_ret
    exact ⟨rfl, Below.refl _ _⟩

end Go.Proofs.YtlicdeppfhmfjaaGreatDoor.check

/- receipt.Number: what is asked of it. -/
namespace Go.Proofs.YtlicdeppfhmfjaaGreatDoor.rcp
open Go.RowKit

def KrNumber (w0 : World) : Prop := ∀ (W : World) (m : Int), Below w0.heap.size w0 W → (Lit.int .i64 m).wf = true → Calls Tryz.prog 32 #[.int .i64 m] W fun e w' => NumPost W m e w'

end Go.Proofs.YtlicdeppfhmfjaaGreatDoor.rcp

/- Contracts of the library, laid at this dump in plain words: strconv_Itoa, strconv_Itoa_small. -/
namespace Go.Proofs
open Go.Shelf
def Tryz.laysM171_ren : Go.Shelf.Ren := ⟨fun | 171 => 33 | 243 => 62 | 246 => 100 | 283 => 139 | 284 => 140 | 285 => 141 | 286 => 142 | 129 => 167 | 317 => 166 | 318 => 168 | 319 => 169 | 320 => 170 | 337 => 177 | 338 => 178 | n => n, fun | 3 => 3 | 9 => 9 | 2 => 2 | 4 => 4 | 171 => 183 | 0 => 0 | 53 => 129 | 37 => 61 | 5 => 5 | 173 => 186 | 212 => 206 | 51 => 83 | 20 => 20 | 213 => 207 | 46 => 111 | 232 => 220 | 233 => 221 | n => n, fun | 17 => 4 | 18 => 9 | 19 => 10 | n => n⟩
theorem Tryz.laysM171 : Go.Proofs.LaysM.n171 Tryz.prog Tryz.laysM171_ren := {
  mixed := by kernel_rfl
  f129 := Tryz.func167.trans (congrArg some (by kernel_rfl))
  f171 := Tryz.func33.trans (congrArg some (by kernel_rfl))
  f243 := Tryz.func62.trans (congrArg some (by kernel_rfl))
  f246 := Tryz.func100.trans (congrArg some (by kernel_rfl))
  f283 := Tryz.func139.trans (congrArg some (by kernel_rfl))
  f284 := Tryz.func140.trans (congrArg some (by kernel_rfl))
  f285 := Tryz.func141.trans (congrArg some (by kernel_rfl))
  f286 := Tryz.func142.trans (congrArg some (by kernel_rfl))
  f317 := Tryz.func166.trans (congrArg some (by kernel_rfl))
  f318 := Tryz.func168.trans (congrArg some (by kernel_rfl))
  f319 := Tryz.func169.trans (congrArg some (by kernel_rfl))
  f320 := Tryz.func170.trans (congrArg some (by kernel_rfl))
  f337 := Tryz.func177.trans (congrArg some (by kernel_rfl))
  f338 := Tryz.func178.trans (congrArg some (by kernel_rfl))
  t0 := Tryz.underlying0
  a0 := Tryz.isAgg0
  z0 := Tryz.sizeOf0
  v0 := Tryz.zeroValue0
  t2 := Tryz.underlying2
  a2 := Tryz.isAgg2
  z2 := Tryz.sizeOf2
  v2 := Tryz.zeroValue2
  t3 := Tryz.underlying3
  a3 := Tryz.isAgg3
  z3 := Tryz.sizeOf3
  v3 := Tryz.zeroValue3
  t4 := Tryz.underlying4
  a4 := Tryz.isAgg4
  z4 := Tryz.sizeOf4
  v4 := Tryz.zeroValue4
  t5 := Tryz.underlying5
  a5 := Tryz.isAgg5
  z5 := Tryz.sizeOf5
  v5 := Tryz.zeroValue5
  t9 := Tryz.underlying9
  a9 := Tryz.isAgg9
  z9 := Tryz.sizeOf9
  v9 := Tryz.zeroValue9
  t20 := Tryz.underlying20
  a20 := Tryz.isAgg20
  z20 := Tryz.sizeOf20
  v20 := Tryz.zeroValue20
  t37 := Tryz.underlying61
  a37 := Tryz.isAgg61
  z37 := Tryz.sizeOf61
  v37 := Tryz.zeroValue61
  t46 := Tryz.underlying111
  a46 := Tryz.isAgg111
  z46 := Tryz.sizeOf111
  v46 := Tryz.zeroValue111
  t51 := Tryz.underlying83
  a51 := Tryz.isAgg83
  z51 := Tryz.sizeOf83
  v51 := Tryz.zeroValue83
  t53 := Tryz.underlying129
  a53 := Tryz.isAgg129
  z53 := Tryz.sizeOf129
  v53 := Tryz.zeroValue129
  t171 := Tryz.underlying183
  a171 := Tryz.isAgg183
  z171 := Tryz.sizeOf183
  v171 := Tryz.zeroValue183
  t173 := Tryz.underlying186
  a173 := Tryz.isAgg186
  z173 := Tryz.sizeOf186
  v173 := Tryz.zeroValue186
  t212 := Tryz.underlying206
  a212 := Tryz.isAgg206
  z212 := Tryz.sizeOf206
  v212 := Tryz.zeroValue206
  t213 := Tryz.underlying207
  a213 := Tryz.isAgg207
  z213 := Tryz.sizeOf207
  t232 := Tryz.underlying220
  a232 := Tryz.isAgg220
  z232 := Tryz.sizeOf220
  v232 := Tryz.zeroValue220
  t233 := Tryz.underlying221
  a233 := Tryz.isAgg221
  z233 := Tryz.sizeOf221
  v233 := Tryz.zeroValue221
  g17 := by kernel_rfl
  g18 := by kernel_rfl
  g19 := by kernel_rfl
  i0 := by kernel_rfl
  i2 := by kernel_rfl
  i3 := by kernel_rfl
  i4 := by kernel_rfl
  i5 := by kernel_rfl
  i9 := by kernel_rfl
  i20 := by kernel_rfl
  i37 := by kernel_rfl
  i46 := by kernel_rfl
  i51 := by kernel_rfl
  i53 := by kernel_rfl
  i171 := by kernel_rfl
  i173 := by kernel_rfl
  i212 := by kernel_rfl
  i232 := by kernel_rfl
  i233 := by kernel_rfl
  m17 := by kernel_rfl
  m18 := by kernel_rfl
  m19 := by kernel_rfl }
open Go.RowKit Go.Sort Go.Lib in
theorem Tryz.strconv_Itoa (n : Int) (h0 : -9223372036854775808 ≤ n) (h1 : n ≤ 9223372036854775807) (w : World) (htab : Lib.TabIs Tryz.prog w "internal/strconv.uint64pow10" .u64 Lib.pow10Tab) :
    Calls Tryz.prog 33 #[.int .i64 n] w fun e w' => e = .returned (.string ⟨(Lib.itoa n).toArray⟩) ∧ ∃ k os, w' = grow (w.drewN k) os := Any.strconv_Itoa Tryz.laysM171 n h0 h1 w htab
def Tryz.lays171_ren : Go.Shelf.Ren := ⟨fun | 171 => 33 | 243 => 62 | 246 => 100 | 283 => 139 | 284 => 140 | 285 => 141 | 286 => 142 | 129 => 167 | 317 => 166 | 318 => 168 | 319 => 169 | 320 => 170 | 337 => 177 | 338 => 178 | n => n, fun | 3 => 3 | 9 => 9 | 2 => 2 | 4 => 4 | 171 => 183 | 0 => 0 | 53 => 129 | 37 => 61 | 5 => 5 | 173 => 186 | 212 => 206 | 51 => 83 | 20 => 20 | 213 => 207 | 46 => 111 | 232 => 220 | 233 => 221 | n => n, fun | 17 => 4 | 18 => 9 | 19 => 10 | n => n⟩
theorem Tryz.lays171 : Go.Proofs.Lays.n171 Tryz.prog Tryz.lays171_ren := {
  mixed := by kernel_rfl
  f129 := Tryz.func167.trans (congrArg some (by kernel_rfl))
  f171 := Tryz.func33.trans (congrArg some (by kernel_rfl))
  f243 := Tryz.func62.trans (congrArg some (by kernel_rfl))
  f246 := Tryz.func100.trans (congrArg some (by kernel_rfl))
  f283 := Tryz.func139.trans (congrArg some (by kernel_rfl))
  f284 := Tryz.func140.trans (congrArg some (by kernel_rfl))
  f285 := Tryz.func141.trans (congrArg some (by kernel_rfl))
  f286 := Tryz.func142.trans (congrArg some (by kernel_rfl))
  f317 := Tryz.func166.trans (congrArg some (by kernel_rfl))
  f318 := Tryz.func168.trans (congrArg some (by kernel_rfl))
  f319 := Tryz.func169.trans (congrArg some (by kernel_rfl))
  f320 := Tryz.func170.trans (congrArg some (by kernel_rfl))
  f337 := Tryz.func177.trans (congrArg some (by kernel_rfl))
  f338 := Tryz.func178.trans (congrArg some (by kernel_rfl))
  t0 := Tryz.underlying0
  a0 := Tryz.isAgg0
  z0 := Tryz.sizeOf0
  v0 := Tryz.zeroValue0
  t2 := Tryz.underlying2
  a2 := Tryz.isAgg2
  z2 := Tryz.sizeOf2
  v2 := Tryz.zeroValue2
  t3 := Tryz.underlying3
  a3 := Tryz.isAgg3
  z3 := Tryz.sizeOf3
  v3 := Tryz.zeroValue3
  t4 := Tryz.underlying4
  a4 := Tryz.isAgg4
  z4 := Tryz.sizeOf4
  v4 := Tryz.zeroValue4
  t5 := Tryz.underlying5
  a5 := Tryz.isAgg5
  z5 := Tryz.sizeOf5
  v5 := Tryz.zeroValue5
  t9 := Tryz.underlying9
  a9 := Tryz.isAgg9
  z9 := Tryz.sizeOf9
  v9 := Tryz.zeroValue9
  t20 := Tryz.underlying20
  a20 := Tryz.isAgg20
  z20 := Tryz.sizeOf20
  v20 := Tryz.zeroValue20
  t37 := Tryz.underlying61
  a37 := Tryz.isAgg61
  z37 := Tryz.sizeOf61
  v37 := Tryz.zeroValue61
  t46 := Tryz.underlying111
  a46 := Tryz.isAgg111
  z46 := Tryz.sizeOf111
  v46 := Tryz.zeroValue111
  t51 := Tryz.underlying83
  a51 := Tryz.isAgg83
  z51 := Tryz.sizeOf83
  v51 := Tryz.zeroValue83
  t53 := Tryz.underlying129
  a53 := Tryz.isAgg129
  z53 := Tryz.sizeOf129
  v53 := Tryz.zeroValue129
  t171 := Tryz.underlying183
  a171 := Tryz.isAgg183
  z171 := Tryz.sizeOf183
  v171 := Tryz.zeroValue183
  t173 := Tryz.underlying186
  a173 := Tryz.isAgg186
  z173 := Tryz.sizeOf186
  v173 := Tryz.zeroValue186
  t212 := Tryz.underlying206
  a212 := Tryz.isAgg206
  z212 := Tryz.sizeOf206
  v212 := Tryz.zeroValue206
  t213 := Tryz.underlying207
  a213 := Tryz.isAgg207
  z213 := Tryz.sizeOf207
  t232 := Tryz.underlying220
  a232 := Tryz.isAgg220
  z232 := Tryz.sizeOf220
  v232 := Tryz.zeroValue220
  t233 := Tryz.underlying221
  a233 := Tryz.isAgg221
  z233 := Tryz.sizeOf221
  v233 := Tryz.zeroValue221
  g17 := by kernel_rfl
  g18 := by kernel_rfl
  g19 := by kernel_rfl }
open Go.RowKit Go.Sort Go.Lib in
theorem Tryz.strconv_Itoa_small (i : Nat) (hi : i < 100) (w : World) :
    Calls Tryz.prog 33 #[.int .i64 i] w fun e w' => e = .returned (.string ⟨(Lib.decDigits i).toArray⟩) ∧ w' = w := Any.strconv_Itoa_small Tryz.lays171 i hi w
end Go.Proofs

/- Contracts of the library, laid at this dump in plain words: strings_Repeat. -/
namespace Go.Proofs
open Go.Shelf
def Tryz.lays105_ren : Go.Shelf.Ren := ⟨fun | 105 => 52 | 212 => 86 | 99 => 87 | 165 => 88 | 166 => 59 | 170 => 89 | 169 => 35 | 263 => 125 | 264 => 126 | 206 => 127 | 240 => 96 | 241 => 128 | 276 => 134 | 277 => 163 | n => n, fun | 9 => 9 | 3 => 3 | 4 => 4 | 20 => 20 | 0 => 0 | 46 => 111 | 109 => 124 | 5 => 5 | 72 => 63 | 76 => 78 | 51 => 83 | 146 => 167 | 53 => 129 | 148 => 169 | 70 => 60 | 37 => 61 | 75 => 77 | 127 => 100 | 164 => 175 | 80 => 69 | n => n, fun | n => n⟩
theorem Tryz.lays105 : Go.Proofs.Lays.n105 Tryz.prog Tryz.lays105_ren := {
  mixed := by kernel_rfl
  f99 := Tryz.func87.trans (congrArg some (by kernel_rfl))
  f105 := Tryz.func52.trans (congrArg some (by kernel_rfl))
  f165 := Tryz.func88.trans (congrArg some (by kernel_rfl))
  f166 := Tryz.func59.trans (congrArg some (by kernel_rfl))
  f169 := Tryz.func35.trans (congrArg some (by kernel_rfl))
  f170 := Tryz.func89.trans (congrArg some (by kernel_rfl))
  f206 := Tryz.func127.trans (congrArg some (by kernel_rfl))
  f212 := Tryz.func86.trans (congrArg some (by kernel_rfl))
  f240 := Tryz.func96.trans (congrArg some (by kernel_rfl))
  f241 := Tryz.func128.trans (congrArg some (by kernel_rfl))
  f263 := Tryz.func125.trans (congrArg some (by kernel_rfl))
  f264 := Tryz.func126.trans (congrArg some (by kernel_rfl))
  f276 := Tryz.func134.trans (congrArg some (by kernel_rfl))
  f277 := Tryz.func163.trans (congrArg some (by kernel_rfl))
  t0 := Tryz.underlying0
  a0 := Tryz.isAgg0
  z0 := Tryz.sizeOf0
  v0 := Tryz.zeroValue0
  t3 := Tryz.underlying3
  a3 := Tryz.isAgg3
  z3 := Tryz.sizeOf3
  v3 := Tryz.zeroValue3
  t4 := Tryz.underlying4
  a4 := Tryz.isAgg4
  z4 := Tryz.sizeOf4
  v4 := Tryz.zeroValue4
  t5 := Tryz.underlying5
  a5 := Tryz.isAgg5
  z5 := Tryz.sizeOf5
  v5 := Tryz.zeroValue5
  t9 := Tryz.underlying9
  a9 := Tryz.isAgg9
  z9 := Tryz.sizeOf9
  v9 := Tryz.zeroValue9
  t20 := Tryz.underlying20
  a20 := Tryz.isAgg20
  z20 := Tryz.sizeOf20
  v20 := Tryz.zeroValue20
  t37 := Tryz.underlying61
  a37 := Tryz.isAgg61
  z37 := Tryz.sizeOf61
  v37 := Tryz.zeroValue61
  t46 := Tryz.underlying111
  a46 := Tryz.isAgg111
  z46 := Tryz.sizeOf111
  v46 := Tryz.zeroValue111
  t51 := Tryz.underlying83
  a51 := Tryz.isAgg83
  z51 := Tryz.sizeOf83
  v51 := Tryz.zeroValue83
  t53 := Tryz.underlying129
  a53 := Tryz.isAgg129
  z53 := Tryz.sizeOf129
  v53 := Tryz.zeroValue129
  t70 := Tryz.underlying60
  a70 := Tryz.isAgg60
  z70 := Tryz.sizeOf60
  v70 := Tryz.zeroValue60
  t72 := Tryz.underlying63
  a72 := Tryz.isAgg63
  z72 := Tryz.sizeOf63
  v72 := Tryz.zeroValue63
  t75 := Tryz.underlying77
  a75 := Tryz.isAgg77
  z75 := Tryz.sizeOf77
  v75 := Tryz.zeroValue77
  t76 := Tryz.underlying78
  a76 := Tryz.isAgg78
  z76 := Tryz.sizeOf78
  v76 := Tryz.zeroValue78
  t109 := Tryz.underlying124
  a109 := Tryz.isAgg124
  z109 := Tryz.sizeOf124
  v109 := Tryz.zeroValue124
  t127 := Tryz.underlying100
  a127 := Tryz.isAgg100
  z127 := Tryz.sizeOf100
  v127 := Tryz.zeroValue100
  t146 := Tryz.underlying167
  a146 := Tryz.isAgg167
  z146 := Tryz.sizeOf167
  v146 := Tryz.zeroValue167
  t148 := Tryz.underlying169
  a148 := Tryz.isAgg169
  z148 := Tryz.sizeOf169
  v148 := Tryz.zeroValue169
  t164 := Tryz.underlying175
  a164 := Tryz.isAgg175
  z164 := Tryz.sizeOf175
  v164 := Tryz.zeroValue175 }
theorem Tryz.Builder_Extra_105 : Builder.Extra Tryz.prog Tryz.lays105_ren := {
  sizeBuilder := by kernel_rfl
  liesBuilder := by kernel_rfl
  t5 := Tryz.underlying5
  a5 := Tryz.isAgg5
  z5 := Tryz.sizeOf5
  v5 := Tryz.zeroValue5
  infoByte := by kernel_rfl
  cellsByte := by kernel_rfl
  sizeByte := by kernel_rfl
  neB5 := by decide }
open Go.RowKit Go.Lib in
theorem Tryz.strings_Repeat (s : ByteArray) (c : Nat) (w : World) (hc : c ≤ 9223372036854775807) (hlen : s.size * c ≤ 140737488355328) :
    Calls Tryz.prog 52 #[.string s, .int .i64 c] w fun e w' => e = .returned (.string ⟨(Lib.repeatL s.data.toList c).toArray⟩) ∧ Below w.heap.size w w' := Any.strings_Repeat Tryz.lays105 Tryz.Builder_Extra_105 s c w hc hlen
end Go.Proofs

/- A meter's number, in the program. -/
namespace Go.Proofs.YtlicdeppfhmfjaaGreatDoor.rcp
open Go.Proofs.YtlicdeppfhmfjaaGreatDoor.check (digitR MTab digit_any flawR)
open Go.RowKit
set_option maxRecDepth 100000
set_option linter.unusedVariables false

theorem rep_noughts (k : Nat) : Lib.repeatL [48] k = List.replicate k 48 := by
  induction k with
  | zero => rfl
  | succ k ih => simp [Lib.repeatL, List.replicate_succ] at *; exact ih
theorem dec_len2 : ∀ m : Nat, m < 50 → (Lib.decDigits m).length = (if m < 10 then 1 else 2) := by decide +kernel
theorem digit_bd : ∀ m : Nat, m < 50 → 0 ≤ digitR (pad m 10) ∧ digitR (pad m 10) < 10 := by decide +kernel
theorem itoa_2 (n : Int) (w : World) (h0 : 0 ≤ n) (h1 : n < 100) :
    Calls Tryz.prog 33 #[.int .i64 n] w fun e w' => e = .returned (.string ⟨(Lib.decDigits n.toNat).toArray⟩) ∧ w' = w := by
  obtain ⟨i, rfl⟩ := Int.eq_ofNat_of_zero_le h0
  exact Tryz.strconv_Itoa_small i (by omega) w

set_option maxHeartbeats 1000000 in
theorem number_abs (m d : Nat) (f : Int) (X Y Z PX : ByteArray) (w : World) (hm : m ≤ 49) (hX : X.size = (if m < 10 then 1 else 2)) (hY : Y.size ≤ 10) (hZ : Z.size ≤ 10) (hPX : PX = Y ++ X)
    (hI : ∀ w, Calls Tryz.prog 25 #[.int .i64 (m : Int)] w fun e w' => e = .returned (.bool true) ∧ Below w.heap.size w w')
    (hA : ∀ w, Calls Tryz.prog 33 #[.int .i64 (m : Int)] w fun e w' => e = .returned (.string X) ∧ w' = w)
    (hR : ∀ (w : World) (k : Int), k = ((10 - X.size : Nat) : Int) → Calls Tryz.prog 52 #[.string ⟨#[48]⟩, .int .i64 k] w fun e w' => e = .returned (.string Y) ∧ Below w.heap.size w w')
    (hD : ∀ w', Below w.heap.size w w' → Calls Tryz.prog 61 #[.string PX] w' fun e w'' => e = .returned (.tuple #[.int .i64 (d : Int), .int .i64 f]) ∧ Below w'.heap.size w' w'')
    (hB : ∀ w, Calls Tryz.prog 33 #[.int .i64 (d : Int)] w fun e w' => e = .returned (.string Z) ∧ w' = w) :
    Calls Tryz.prog 32 #[.int .i64 (m : Int)] w fun e w' => e = .returned (.tuple #[.string (PX ++ Z), .int .i64 0]) ∧ Below w.heap.size w w' := by
  have HI : Hid (∀ w, Calls Tryz.prog 25 #[.int .i64 (m : Int)] w fun e w' => e = .returned (.bool true) ∧ Below w.heap.size w w') := hI
  have HA : Hid (∀ w, Calls Tryz.prog 33 #[.int .i64 (m : Int)] w fun e w' => e = .returned (.string X) ∧ w' = w) := hA
  have HR : Hid (∀ (w : World) (k : Int), k = ((10 - X.size : Nat) : Int) → Calls Tryz.prog 52 #[.string ⟨#[48]⟩, .int .i64 k] w fun e w' => e = .returned (.string Y) ∧ Below w.heap.size w w') := hR
  have HD : Hid (∀ w', Below w.heap.size w w' → Calls Tryz.prog 61 #[.string (Y ++ X)] w' fun e w'' => e = .returned (.tuple #[.int .i64 (d : Int), .int .i64 f]) ∧ Below w'.heap.size w' w'') := hPX ▸ hD
  have HB : Hid (∀ w, Calls Tryz.prog 33 #[.int .i64 (d : Int)] w fun e w' => e = .returned (.string Z) ∧ w' = w) := hB
  have hX2 : X.size ≤ 2 := by split at hX <;> omega
  have hw : IntKind.i64.wrap (10 - (X.size : Int)) = 10 - (X.size : Int) := by rw [IntKind.wrap_i64]; omega
  have HK : Hid (10 - (X.size : Int) = ((10 - X.size : Nat) : Int)) := by show _ = _; omega
  have hs1 : ¬ (9223372036854775807 < Y.size + X.size) := by omega
  have hs2 : ¬ (9223372036854775807 < Y.size + X.size + Z.size) := by omega
  subst hPX
  clear hI hA hR hD hB hX hm
  go_enter Tryz.func32, Tryz.ntmps32
  go_wp2_with fail
  refine (HI.out _).mono ?_
  rintro e w1 ⟨rfl, hb⟩
  have HB1 : Hid (Below w.heap.size w w1) := hb
  clear hb HI
  go_wp2_with fail
  refine (HA.out _).mono ?_
  rintro e w1' ⟨rfl, rfl⟩
  clear HA
  go_wp2_with fail
  refine (HR.out _ _ HK.out).mono ?_
  rintro e w2 ⟨rfl, hb⟩
  have HB2 : Hid (Below w.heap.size w w2) := HB1.out.trans (hb.mono HB1.out.size)
  clear hb HR HB1
  go_wp2_with fail
  refine (HD.out _ HB2.out).mono ?_
  rintro e w3 ⟨rfl, hb⟩
  have HB3 : Hid (Below w.heap.size w w3) := HB2.out.trans (hb.mono HB2.out.size)
  clear hb HD HB2
  go_wp2_with fail
  refine (HB.out _).mono ?_
  rintro e w3' ⟨rfl, rfl⟩
  clear HB
  go_wp2_with fail
  go_ret2
  exact ⟨rfl, HB3.out⟩

set_option maxHeartbeats 1000000 in
theorem number_no (m : Int) (w : World) (h : ¬ MMay m) :
    Calls Tryz.prog 32 #[.int .i64 m] w fun e w' => e = .returned (.tuple #[.string ⟨#[]⟩, .int .i64 18]) ∧ Below w.heap.size w w' := by
  have HI := rci.isMeter_any m w
  rw [decide_eq_false (show ¬ (0 ≤ m ∧ m ≤ 49) from h)] at HI
  clear h
  go_enter Tryz.func32, Tryz.ntmps32
  go_wp2_with fail
  refine HI.mono ?_
  rintro e w1 ⟨rfl, hb⟩
  clear HI
  go_wp2_with fail
  go_ret2
  exact ⟨rfl, hb⟩

theorem pnumber_any (m : Int) (w : World) (ht : MTab w) : Calls Tryz.prog 32 #[.int .i64 m] w fun e w' => NumPost w m e w' := by
  by_cases h : MMay m
  · obtain ⟨n, rfl⟩ : ∃ n : Nat, m = (n : Int) := ⟨m.toNat, by have := h.1; omega⟩
    have hn : n ≤ 49 := by have := h.2; omega
    obtain ⟨d0, d1⟩ := digit_bd n (by omega)
    obtain ⟨d, hd⟩ : ∃ d : Nat, digitR (pad n 10) = (d : Int) := ⟨(digitR (pad n 10)).toNat, by omega⟩
    have hl := dec_len2 n (by omega)
    have hxs : (⟨(Lib.decDigits n).toArray⟩ : ByteArray).size = (if n < 10 then 1 else 2) := hl
    have hx2 : (if n < 10 then 1 else 2) ≤ 2 := by split <;> omega
    have hk : 10 - (Lib.decDigits n).length ≤ 10 := by omega
    have hrl : ∀ k, (Lib.repeatL [48] k).length = k := fun k => by rw [rep_noughts, List.length_replicate]
    refine (number_abs n d (flawR (pad n 10)) ⟨(Lib.decDigits n).toArray⟩ ⟨(Lib.repeatL [48] (10 - (Lib.decDigits n).length)).toArray⟩ ⟨(Lib.decDigits d).toArray⟩ ⟨(pad n 10).toArray⟩ w hn hxs
      (by show (Lib.repeatL [48] _).length ≤ 10; rw [hrl]; omega) ?_ ?_ (fun w => ?_) (fun w => itoa_2 (n : Int) w (by omega) (by omega)) (fun w k hk' => ?_) (fun w' hb => ?_) (fun w => itoa_2 (d : Int) w (by omega) (by omega))).mono ?_
    · have : ∀ d, d < 10 → (Lib.decDigits d).length ≤ 10 := by decide +kernel
      exact this d (by omega)
    · apply ByteArray.ext
      show (pad n 10).toArray = _
      rw [rep_noughts]
      simp [pad]
    · have := rci.isMeter_any (n : Int) w
      rw [decide_eq_true (show 0 ≤ (n : Int) ∧ (n : Int) ≤ 49 from h)] at this
      exact this
    · subst hk'
      exact Tryz.strings_Repeat ⟨#[48]⟩ (10 - (Lib.decDigits n).length) w (by omega) (by show 1 * _ ≤ _; omega)
    · have := digit_any ⟨(pad n 10).toArray⟩ w' (ht.below hb)
      simp only at this
      rw [hd] at this
      exact this
    · rintro e w' ⟨rfl, hb⟩
      refine ⟨numL n, 0, ?_, .inl ⟨h, ?_, rfl⟩, hb⟩
      · have e : ((⟨(pad n 10).toArray⟩ : ByteArray) ++ ⟨(Lib.decDigits d).toArray⟩) = ⟨(numL n).toArray⟩ := by
          apply ByteArray.ext
          simp [numL, hd]
        rw [e]
      · simp
  · refine (number_no m w h).mono ?_
    rintro e w' ⟨rfl, hb⟩
    exact ⟨[], 18, rfl, .inr ⟨h, rfl, rfl⟩, hb⟩
theorem knumber {w : World} (ht : MTab w) : KrNumber w := fun W m hb _ => pnumber_any m W (ht.below hb)

end Go.Proofs.YtlicdeppfhmfjaaGreatDoor.rcp

/- What the small functions of package cents, and of the document's answer to it, give back: one contract a function. -/
namespace Go.Proofs.YtlicdeppfhmfjaaGreatDoor.cents
open Go.RowKit

/-- The slice a, len, cap reads as the numbers zs: its elements alone. -/
def Row (w : World) (a : Option Addr) (len : Nat) (zs : List Int) : Prop :=
  zs.length = len ∧ (len = 0 ∨ ∃ b off, a = some ⟨b, off, none⟩ ∧ ∀ i, i < len → w.cell? ⟨b, off + i, none⟩ = some (.int .i64 (zs.getD i 0)))

def okAll (lo hi : Int) (l : List Int) : Bool := l.all fun n => decide (lo ≤ n) && decide (n ≤ hi)

theorem okAll_step (lo hi : Int) (zs : List Int) (k : Nat) (hk : k < zs.length) (h : okAll lo hi (zs.take k) = true) (h1 : lo ≤ zs.getD k 0) (h2 : zs.getD k 0 ≤ hi) : okAll lo hi (zs.take (k + 1)) = true := by
  unfold okAll at *
  rw [List.take_add_one, List.all_append, h]
  simp only [List.getD, List.getElem?_eq_getElem hk, Option.getD] at h1 h2 ⊢
  simp [h1, h2]

theorem okAll_no (lo hi : Int) (zs : List Int) (k : Nat) (hk : k < zs.length) (h : zs.getD k 0 < lo ∨ hi < zs.getD k 0) : okAll lo hi zs = false := by
  unfold okAll
  rw [List.all_eq_false]
  refine ⟨zs[k], List.getElem_mem hk, ?_⟩
  simp only [List.getD, List.getElem?_eq_getElem hk, Option.getD] at h
  simp; omega

theorem ret_bool {a b : Bool} (h : a = b) : Ending.returned (.bool a) = .returned (.bool b) := by rw [h]

set_option maxHeartbeats 400000 in
theorem within_any (lo hi : Int) (a : Option Addr) (len cap : Nat) (zs : List Int) (w : World) (hr : Row w a len zs) (hl : len ≤ maxLen) :
    Calls Tryz.prog 58 #[.int .i64 lo, .int .i64 hi, .slice a len cap] w fun e w' => e = .returned (.bool (okAll lo hi zs)) ∧ w' = w := by
  unfold maxLen at hl
  obtain ⟨hz, hr⟩ := hr
  go_enter Tryz.func58, Tryz.ntmps58
  go_wp2
  go_loop [11] (fun i => ∃ k : Nat, k ≤ len ∧ i = .int .i64 k ∧ okAll lo hi (zs.take k) = true) (fun i => len - (intOf i).toNat)
  case atStart => exact ⟨0, Nat.zero_le _, rfl, rfl⟩
  case round =>
    obtain ⟨k, hk, rfl, hok⟩ := hrel
    have HK : Hid (okAll lo hi (zs.take k) = true) := hok
    clear hok
    by_cases hlt : k < len
    · rcases hr with h0 | ⟨b, off, rfl, hc⟩
      · omega
      have hcell := hc k hlt
      clear hc
      generalize hzk : zs.getD k 0 = z at hcell
      have HZ : Hid (zs.getD k 0 = z) := hzk
      clear hzk
      by_cases h1 : z < lo
      · go_wp2
        go_ret
        exact ⟨ret_bool (okAll_no lo hi zs k (by omega) (.inl (by rw [HZ.out]; exact h1))).symm, rfl⟩
      · by_cases h2 : hi < z
        · go_wp2
          go_ret
          exact ⟨ret_bool (okAll_no lo hi zs k (by omega) (.inr (by rw [HZ.out]; exact h2))).symm, rfl⟩
        · go_wp2
          go_round
          case rel => exact ⟨k + 1, by omega, by go_num, okAll_step lo hi zs k (by omega) HK.out (by rw [HZ.out]; omega) (by rw [HZ.out]; omega)⟩
          case measure => simp [intOf]; omega
    · go_wp2
      go_ret
      refine ⟨ret_bool ?_, rfl⟩
      have := HK.out
      rw [List.take_of_length_le (by omega)] at this
      exact this.symm

end Go.Proofs.YtlicdeppfhmfjaaGreatDoor.cents

/- One number alone, held against its bounds. -/
namespace Go.Proofs.YtlicdeppfhmfjaaGreatDoor.cents
open Go.RowKit

theorem row_one (w : World) (z : Int) (t : TypeId) : Row (w.alloc (.cells #[.int .i64 z] t)) (some ⟨w.heap.size, 0, none⟩) 1 [z] := by
  refine ⟨rfl, .inr ⟨_, _, rfl, fun i hi => ?_⟩⟩
  obtain rfl : i = 0 := by omega
  simp

theorem okAll_yes {lo hi z : Int} (h1 : lo ≤ z) (h2 : z ≤ hi) : okAll lo hi [z] = true := by simp [okAll, h1, h2]
theorem okAll_not {lo hi z : Int} (h : z < lo ∨ hi < z) : okAll lo hi [z] = false := by simp [okAll]; omega

/-- One number alone, laid in a new block: it lies within the bounds. -/
theorem within_one_yes (lo hi z : Int) (w : World) (b : Nat) (hb : b = w.heap.size) (h1 : lo ≤ z) (h2 : z ≤ hi) :
    Calls Tryz.prog 58 #[.int .i64 lo, .int .i64 hi, .slice (some ⟨b, 0, none⟩) 1 1] (w.alloc (.cells #[.int .i64 z] 3)) fun e w' => e = .returned (.bool true) ∧ w' = w.alloc (.cells #[.int .i64 z] 3) := by
  have h := within_any lo hi _ 1 1 [z] _ (row_one w z 3) (by decide)
  rw [okAll_yes h1 h2] at h
  rw [hb]
  exact h

theorem within_one_no (lo hi z : Int) (w : World) (b : Nat) (hb : b = w.heap.size) (h0 : z < lo ∨ hi < z) :
    Calls Tryz.prog 58 #[.int .i64 lo, .int .i64 hi, .slice (some ⟨b, 0, none⟩) 1 1] (w.alloc (.cells #[.int .i64 z] 3)) fun e w' => e = .returned (.bool false) ∧ w' = w.alloc (.cells #[.int .i64 z] 3) := by
  have h := within_any lo hi _ 1 1 [z] _ (row_one w z 3) (by decide)
  rw [okAll_not h0] at h
  rw [hb]
  exact h

theorem prod_bd (a b A B : Int) (h1 : 0 ≤ a) (h2 : a ≤ A) (h3 : 0 ≤ b) (h4 : b ≤ B) : 0 ≤ a * b ∧ a * b ≤ A * B :=
  ⟨Int.mul_nonneg h1 h3, Int.mul_le_mul h2 h4 h3 (by omega)⟩

theorem bel1 (w : World) (o : Obj) : Below w.heap.size w (w.alloc o) := (Below.refl _ _).alloc (Nat.le_refl _) _
theorem bel2 (w : World) (o o' : Obj) : Below w.heap.size w ((w.alloc o).alloc o') := (bel1 w o).alloc (by simp) _

end Go.Proofs.YtlicdeppfhmfjaaGreatDoor.cents

/- What cents.Show gives back. -/
namespace Go.Proofs.YtlicdeppfhmfjaaGreatDoor.cents
open Go.RowKit

abbrev Tab (w : World) : Prop := Lib.TabIs Tryz.prog w "internal/strconv.uint64pow10" .u64 Lib.pow10Tab

theorem tab_below {w w' : World} (h : Tab w) (hb : Below w.heap.size w w') : Tab w' := Lib.tabBelow_of_tabIs h w' hb

theorem itoa_pos {n : Int} (h : 0 ≤ n) : Lib.itoa n = Lib.decDigits n.toNat := by unfold Lib.itoa; rw [if_neg (by omega)]

theorem itoa_big (n : Int) (w : World) (h0 : 0 ≤ n) (h1 : n ≤ 1000000000000) (ht : Tab w) :
    Calls Tryz.prog 33 #[.int .i64 n] w fun e w' => e = .returned (.string ⟨(Lib.decDigits n.toNat).toArray⟩) ∧ Below w.heap.size w w' := by
  refine (Tryz.strconv_Itoa n (by omega) (by omega) w ht).mono ?_
  rintro e w' ⟨rfl, k, os, rfl⟩
  rw [itoa_pos h0]
  exact ⟨rfl, Lib.below_grow _ _ (Nat.le_refl _) _ _⟩

theorem itoa_small (n : Int) (w : World) (h0 : 0 ≤ n) (h1 : n < 100) :
    Calls Tryz.prog 33 #[.int .i64 n] w fun e w' => e = .returned (.string ⟨(Lib.decDigits n.toNat).toArray⟩) ∧ w' = w := by
  obtain ⟨i, rfl⟩ := Int.eq_ofNat_of_zero_le h0
  exact Tryz.strconv_Itoa_small i (by omega) w

set_option maxHeartbeats 400000 in
theorem show_pos (n : Int) (w : World) (h0 : 0 ≤ n) (h1 : n ≤ 1000000000000) (ht : Tab w) :
    Calls Tryz.prog 30 #[.int .i64 n] w fun e w' => e = .returned (.tuple #[.string ⟨(showP n).toArray⟩, .int .i64 0]) ∧ Below w.heap.size w w' := by
  have hl1 := dec_len (n / 100).toNat (by omega)
  have hl2 := dec_len (n / 10 % 10).toNat (by omega)
  have hl3 := dec_len (n % 10).toNat (by omega)
  have hq : -1000000000000 ≤ n := by omega
  have HT : Hid (Tab w) := ht
  clear ht
  go_enter Tryz.func30, Tryz.ntmps30
  go_wp2_with fail
  refine (within_one_yes _ _ _ _ _ rfl hq h1).mono ?_
  rintro e w' ⟨rfl, rfl⟩
  go_wp2_with fail
  refine (itoa_big (n / 100) _ (by omega) (by omega) (Lib.tabIs_alloc HT.out _)).mono ?_
  rintro e w1 ⟨rfl, hb1⟩
  have hb : Below w.heap.size w w1 := (bel1 w _).trans (hb1.mono (by simp))
  clear hb1
  go_wp2_with fail
  refine (itoa_small (n / 10 % 10) _ (by omega) (by omega)).mono ?_
  rintro e w2 ⟨rfl, rfl⟩
  go_wp2_with fail
  refine (itoa_small (n % 10) _ (by omega) (by omega)).mono ?_
  rintro e w3 ⟨rfl, rfl⟩
  go_wp2_with fail
  go_ret2
  refine ⟨ret_str ?_, hb⟩
  apply ByteArray.ext
  simp [showP]

set_option maxHeartbeats 400000 in
theorem show_neg (m : Int) (w : World) (hm : 0 < m) (h1 : m ≤ 1000000000000) (ht : Tab w) :
    Calls Tryz.prog 30 #[.int .i64 (-m)] w fun e w' => e = .returned (.tuple #[.string ⟨(45 :: showP m).toArray⟩, .int .i64 0]) ∧ Below w.heap.size w w' := by
  have hl1 := dec_len (m / 100).toNat (by omega)
  have hl2 := dec_len (m / 10 % 10).toNat (by omega)
  have hl3 := dec_len (m % 10).toNat (by omega)
  have h0 : -1000000000000 ≤ -m := by omega
  have h2 : -m ≤ 1000000000000 := by omega
  have h3 : -m < 0 := by omega
  have HT : Hid (Tab w) := ht
  clear ht
  go_enter Tryz.func30, Tryz.ntmps30
  go_wp2_with fail
  refine (within_one_yes _ _ _ _ _ rfl h0 h2).mono ?_
  rintro e w' ⟨rfl, rfl⟩
  go_wp2_with fail
  refine (itoa_big (m / 100) _ (by omega) (by omega) (Lib.tabIs_alloc HT.out _)).mono ?_
  rintro e w1 ⟨rfl, hb1⟩
  have hb : Below w.heap.size w w1 := (bel1 w _).trans (hb1.mono (by simp))
  clear hb1
  go_wp2_with fail
  refine (itoa_small (m / 10 % 10) _ (by omega) (by omega)).mono ?_
  rintro e w2 ⟨rfl, rfl⟩
  go_wp2_with fail
  refine (itoa_small (m % 10) _ (by omega) (by omega)).mono ?_
  rintro e w3 ⟨rfl, rfl⟩
  go_wp2_with fail
  go_ret2
  refine ⟨ret_str ?_, hb⟩
  apply ByteArray.ext
  simp [showP]

theorem show_any (n : Int) (w : World) (h0 : -1000000000000 ≤ n) (h1 : n ≤ 1000000000000) (ht : Tab w) :
    Calls Tryz.prog 30 #[.int .i64 n] w fun e w' => e = .returned (.tuple #[.string ⟨(showT n).toArray⟩, .int .i64 0]) ∧ Below w.heap.size w w' := by
  by_cases hn : n < 0
  · have hs : showT n = 45 :: showP (-n) := by unfold showT; rw [if_pos hn]
    rw [hs]
    obtain ⟨m, rfl⟩ : ∃ m, n = -m := ⟨-n, by omega⟩
    rw [Int.neg_neg]
    exact show_neg m w (by omega) (by omega) ht
  · have hs : showT n = showP n := by unfold showT; rw [if_neg hn]
    rw [hs]; exact show_pos n w (by omega) h1 ht

set_option maxHeartbeats 400000 in
theorem show_no (n : Int) (w : World) (h : n < -1000000000000 ∨ 1000000000000 < n) :
    Calls Tryz.prog 30 #[.int .i64 n] w fun e w' => e = .returned (.tuple #[.string ⟨#[]⟩, .int .i64 2]) ∧ Below w.heap.size w w' := by
  go_enter Tryz.func30, Tryz.ntmps30
  go_wp2_with fail
  refine (within_one_no _ _ _ _ _ rfl h).mono ?_
  rintro e w' ⟨rfl, rfl⟩
  clear h
  go_wp2_with fail
  go_ret2
  exact ⟨rfl, bel1 _ _⟩

end Go.Proofs.YtlicdeppfhmfjaaGreatDoor.cents

/- A receipt is written. -/
namespace Go.Proofs.YtlicdeppfhmfjaaGreatDoor.rcp
open Go.Proofs.YtlicdeppfhmfjaaGreatDoor.rcb (Sb line_any amount_any text_any)
open Go.RowKit
set_option maxRecDepth 100000
set_option linter.unusedVariables false
set_option linter.unusedSimpArgs false

def EqL (a b : List UInt8) : Prop := a = b
/-- The lines, one behind the other. -/
def lns (l : List (List UInt8 × List UInt8)) : List UInt8 := l.foldl (fun a p => a ++ line p.1 p.2) []
theorem lns_snoc (l : List (List UInt8 × List UInt8)) (p : List UInt8 × List UInt8) : lns (l ++ [p]) = lns l ++ line p.1 p.2 := by unfold lns; rw [List.foldl_append]; rfl
theorem pline_len (n v : List UInt8) : (line n v).length = n.length + v.length + 2 := by unfold line; simp; omega
set_option maxHeartbeats 4000000 in
theorem write_abs (me id te de fe pr ch un : Int) (S X0 X1 X2 X3 X4 X5 X6 X7 X8 : ByteArray) (w : World) (z0 : X0.size ≤ 40) (z1 : X1.size ≤ 40) (z2 : X2.size ≤ 40) (z3 : X3.size ≤ 40) (z4 : X4.size ≤ 40) (z5 : X5.size ≤ 40) (z6 : X6.size ≤ 40) (z7 : X7.size ≤ 40) (z8 : X8.size ≤ 40)
    (h0 : ∀ w', Below w.heap.size w w' → Calls Tryz.prog 32 #[.int .i64 me] w' fun e w'' => e = .returned (.tuple #[.string X0, .int .i64 0]) ∧ Below w'.heap.size w' w'')
    (h1 : ∀ w', Below w.heap.size w w' → Calls Tryz.prog 33 #[.int .i64 id] w' fun e w'' => e = .returned (.string X1) ∧ Below w'.heap.size w' w'')
    (h2 : ∀ w', Below w.heap.size w w' → Calls Tryz.prog 30 #[.int .i64 te] w' fun e w'' => e = .returned (.tuple #[.string X2, .int .i64 0]) ∧ Below w'.heap.size w' w'')
    (h3 : ∀ w', Below w.heap.size w w' → Calls Tryz.prog 30 #[.int .i64 de] w' fun e w'' => e = .returned (.tuple #[.string X3, .int .i64 0]) ∧ Below w'.heap.size w' w'')
    (h4 : ∀ w', Below w.heap.size w w' → Calls Tryz.prog 30 #[.int .i64 fe] w' fun e w'' => e = .returned (.tuple #[.string X4, .int .i64 0]) ∧ Below w'.heap.size w' w'')
    (h5 : ∀ w', Below w.heap.size w w' → Calls Tryz.prog 30 #[.int .i64 pr] w' fun e w'' => e = .returned (.tuple #[.string X5, .int .i64 0]) ∧ Below w'.heap.size w' w'')
    (h6 : ∀ w', Below w.heap.size w w' → Calls Tryz.prog 30 #[.int .i64 ch] w' fun e w'' => e = .returned (.tuple #[.string X6, .int .i64 0]) ∧ Below w'.heap.size w' w'')
    (h7 : ∀ w', Below w.heap.size w w' → Calls Tryz.prog 33 #[.int .i64 un] w' fun e w'' => e = .returned (.string X7) ∧ Below w'.heap.size w' w'')
    (h8 : ∀ w', Below w.heap.size w w' → Calls Tryz.prog 34 #[.string S] w' fun e w'' => e = .returned (.string X8) ∧ Below w'.heap.size w' w'') :
    Calls Tryz.prog 12 #[.agg #[.int .i64 me, .int .i64 id, .int .i64 te, .int .i64 de, .int .i64 fe, .int .i64 pr, .int .i64 ch, .int .i64 un, .string S]] w fun e w' => ∃ L : List UInt8, e = .returned (.string ⟨L.toArray⟩) ∧ L = (((((((((([] : List UInt8) ++ line (⟨#[77, 69, 84, 69, 82]⟩ : ByteArray).data.toList X0.data.toList) ++ line (⟨#[78, 85, 77, 66, 69, 82]⟩ : ByteArray).data.toList X1.data.toList) ++ line (⟨#[84, 69, 78, 68, 69, 82]⟩ : ByteArray).data.toList X2.data.toList) ++ line (⟨#[68, 69, 66, 84]⟩ : ByteArray).data.toList X3.data.toList) ++ line (⟨#[70, 69, 69]⟩ : ByteArray).data.toList X4.data.toList) ++ line (⟨#[80, 82, 73, 67, 69]⟩ : ByteArray).data.toList X5.data.toList) ++ line (⟨#[67, 72, 65, 78, 71, 69]⟩ : ByteArray).data.toList X6.data.toList) ++ line (⟨#[85, 78, 73, 84, 83]⟩ : ByteArray).data.toList X7.data.toList) ++ line (⟨#[84, 79, 75, 69, 78]⟩ : ByteArray).data.toList X8.data.toList) ∧ Below w.heap.size w w' := by
  have H0 : Hid (∀ w', Below w.heap.size w w' → Calls Tryz.prog 32 #[.int .i64 me] w' fun e w'' => e = .returned (.tuple #[.string X0, .int .i64 0]) ∧ Below w'.heap.size w' w'') := h0
  have H1 : Hid (∀ w', Below w.heap.size w w' → Calls Tryz.prog 33 #[.int .i64 id] w' fun e w'' => e = .returned (.string X1) ∧ Below w'.heap.size w' w'') := h1
  have H2 : Hid (∀ w', Below w.heap.size w w' → Calls Tryz.prog 30 #[.int .i64 te] w' fun e w'' => e = .returned (.tuple #[.string X2, .int .i64 0]) ∧ Below w'.heap.size w' w'') := h2
  have H3 : Hid (∀ w', Below w.heap.size w w' → Calls Tryz.prog 30 #[.int .i64 de] w' fun e w'' => e = .returned (.tuple #[.string X3, .int .i64 0]) ∧ Below w'.heap.size w' w'') := h3
  have H4 : Hid (∀ w', Below w.heap.size w w' → Calls Tryz.prog 30 #[.int .i64 fe] w' fun e w'' => e = .returned (.tuple #[.string X4, .int .i64 0]) ∧ Below w'.heap.size w' w'') := h4
  have H5 : Hid (∀ w', Below w.heap.size w w' → Calls Tryz.prog 30 #[.int .i64 pr] w' fun e w'' => e = .returned (.tuple #[.string X5, .int .i64 0]) ∧ Below w'.heap.size w' w'') := h5
  have H6 : Hid (∀ w', Below w.heap.size w w' → Calls Tryz.prog 30 #[.int .i64 ch] w' fun e w'' => e = .returned (.tuple #[.string X6, .int .i64 0]) ∧ Below w'.heap.size w' w'') := h6
  have H7 : Hid (∀ w', Below w.heap.size w w' → Calls Tryz.prog 33 #[.int .i64 un] w' fun e w'' => e = .returned (.string X7) ∧ Below w'.heap.size w' w'') := h7
  have H8 : Hid (∀ w', Below w.heap.size w w' → Calls Tryz.prog 34 #[.string S] w' fun e w'' => e = .returned (.string X8) ∧ Below w'.heap.size w' w'') := h8
  clear h0 h1 h2 h3 h4 h5 h6 h7 h8
  have HX0 : Hid (Blk ((w.alloc (.cells #[.int .i64 me, .int .i64 id, .int .i64 te, .int .i64 de, .int .i64 fe, .int .i64 pr, .int .i64 ch, .int .i64 un, .string S] 25)).alloc (.cells #[.pointer none, .slice none 0 0] 65)) w.heap.size #[.int .i64 me, .int .i64 id, .int .i64 te, .int .i64 de, .int .i64 fe, .int .i64 pr, .int .i64 ch, .int .i64 un, .string S] 25) := (Blk.new _ _ _).alloc _
  have HB0 : Hid (Below w.heap.size w ((w.alloc (.cells #[.int .i64 me, .int .i64 id, .int .i64 te, .int .i64 de, .int .i64 fe, .int .i64 pr, .int .i64 ch, .int .i64 un, .string S] 25)).alloc (.cells #[.pointer none, .slice none 0 0] 65))) := ((Below.refl _ _).alloc (Nat.le_refl _) _).alloc (by simp) _
  have HS0 : Hid (Sb (w.heap.size + 1) (w.heap.size + 1) (Lib.byteCells []) ((w.alloc (.cells #[.int .i64 me, .int .i64 id, .int .i64 te, .int .i64 de, .int .i64 fe, .int .i64 pr, .int .i64 ch, .int .i64 un, .string S] 25)).alloc (.cells #[.pointer none, .slice none 0 0] 65))) := by
    have := Sb.fresh (w.alloc (.cells #[.int .i64 me, .int .i64 id, .int .i64 te, .int .i64 de, .int .i64 fe, .int .i64 pr, .int .i64 ch, .int .i64 un, .string S] 25))
    simp only [World.size_alloc] at this
    exact this
  have hz0 : w.heap.size + 1 ≤ ((w.alloc (.cells #[.int .i64 me, .int .i64 id, .int .i64 te, .int .i64 de, .int .i64 fe, .int .i64 pr, .int .i64 ch, .int .i64 un, .string S] 25)).alloc (.cells #[.pointer none, .slice none 0 0] 65)).heap.size := by simp
  go_enter Tryz.func12, Tryz.ntmps12
  go_upto_region 3 with fail
  generalize hgp : w.heap.size + 1 = gp at *
  have HGP : Hid (w.heap.size < gp) := by show _ < _; omega
  clear hgp
  generalize ((w.alloc (.cells #[.int .i64 me, .int .i64 id, .int .i64 te, .int .i64 de, .int .i64 fe, .int .i64 pr, .int .i64 ch, .int .i64 un, .string S] 25)).alloc (.cells #[.pointer none, .slice none 0 0] 65)) = V0 at *
  have x0 : V0.cell? ⟨w.heap.size, 0, none⟩ = some (.int .i64 me) := HX0.out.cell 0
  have HL0 : Hid (([] : List UInt8).length ≤ 0) := Nat.le_refl _
  have HE0 : Hid (EqL [] ([] : List UInt8)) := rfl
  have HC0 := H0.out V0 HB0.out
  go_wp2_with fail
  refine HC0.mono ?_
  rintro e U0 ⟨rfl, hb⟩
  have HSU0 : Hid (Sb gp gp (Lib.byteCells ([] : List UInt8)) U0) := HS0.out.next hb
  have HXU0 : Hid (Blk U0 w.heap.size #[.int .i64 me, .int .i64 id, .int .i64 te, .int .i64 de, .int .i64 fe, .int .i64 pr, .int .i64 ch, .int .i64 un, .string S] 25) := HX0.out.next hb
  have HBU0 : Hid (Below w.heap.size w U0) := bel_step HB0.out hb
  have hzU0 : gp ≤ U0.heap.size := Nat.le_trans hz0 hb.size
  clear hb HC0 HS0 HX0 HB0 hz0 x0
  have HA0 := line_any gp gp ([] : List UInt8) (⟨#[77, 69, 84, 69, 82]⟩ : ByteArray) X0 U0 HSU0.out (by have := HL0.out; omega) (by decide) (by omega) hzU0
  go_wp2_with fail
  refine HA0.mono ?_
  rintro e V1 ⟨rfl, hs, hb⟩
  have HX1 : Hid (Blk V1 w.heap.size #[.int .i64 me, .int .i64 id, .int .i64 te, .int .i64 de, .int .i64 fe, .int .i64 pr, .int .i64 ch, .int .i64 un, .string S] 25) := HXU0.out.below hb HGP.out
  have HB1 : Hid (Below w.heap.size w V1) := HBU0.out.trans (hb.mono (Nat.le_of_lt HGP.out))
  have hz1 : gp ≤ V1.heap.size := Nat.le_trans hzU0 hb.size
  have HL1 : Hid ((([] : List UInt8) ++ line (⟨#[77, 69, 84, 69, 82]⟩ : ByteArray).data.toList X0.data.toList).length ≤ 60) := by
    show _ ≤ _
    rw [List.length_append, pline_len]
    have h1 := HL0.out
    have h2 : X0.data.toList.length = X0.size := Array.length_toList
    have h3 : (⟨#[77, 69, 84, 69, 82]⟩ : ByteArray).data.toList.length ≤ 6 := by decide
    omega
  have HS1 : Hid (Sb gp gp (Lib.byteCells (([] : List UInt8) ++ line (⟨#[77, 69, 84, 69, 82]⟩ : ByteArray).data.toList X0.data.toList)) V1) := hs
  generalize hq : ([] : List UInt8) ++ line (⟨#[77, 69, 84, 69, 82]⟩ : ByteArray).data.toList X0.data.toList = l1 at HS1 HL1
  have HE1 : Hid (EqL l1 (([] : List UInt8) ++ line (⟨#[77, 69, 84, 69, 82]⟩ : ByteArray).data.toList X0.data.toList)) := by show l1 = _; rw [← hq, ← show ([] : List UInt8) = ([] : List UInt8) from HE0.out]
  clear hs hb HA0 HXU0 HBU0 hzU0 HSU0 H0 HL0 HE0 hq
  have x1 : V1.cell? ⟨w.heap.size, 1, none⟩ = some (.int .i64 id) := HX1.out.cell 1
  have HC1 := H1.out V1 HB1.out
  go_wp2_with fail
  refine HC1.mono ?_
  rintro e U1 ⟨rfl, hb⟩
  have HSU1 : Hid (Sb gp gp (Lib.byteCells l1) U1) := HS1.out.next hb
  have HXU1 : Hid (Blk U1 w.heap.size #[.int .i64 me, .int .i64 id, .int .i64 te, .int .i64 de, .int .i64 fe, .int .i64 pr, .int .i64 ch, .int .i64 un, .string S] 25) := HX1.out.next hb
  have HBU1 : Hid (Below w.heap.size w U1) := bel_step HB1.out hb
  have hzU1 : gp ≤ U1.heap.size := Nat.le_trans hz1 hb.size
  clear hb HC1 HS1 HX1 HB1 hz1 x1
  have HA1 := line_any gp gp l1 (⟨#[78, 85, 77, 66, 69, 82]⟩ : ByteArray) X1 U1 HSU1.out (by have := HL1.out; omega) (by decide) (by omega) hzU1
  go_wp2_with fail
  refine HA1.mono ?_
  rintro e V2 ⟨rfl, hs, hb⟩
  have HX2 : Hid (Blk V2 w.heap.size #[.int .i64 me, .int .i64 id, .int .i64 te, .int .i64 de, .int .i64 fe, .int .i64 pr, .int .i64 ch, .int .i64 un, .string S] 25) := HXU1.out.below hb HGP.out
  have HB2 : Hid (Below w.heap.size w V2) := HBU1.out.trans (hb.mono (Nat.le_of_lt HGP.out))
  have hz2 : gp ≤ V2.heap.size := Nat.le_trans hzU1 hb.size
  have HL2 : Hid ((l1 ++ line (⟨#[78, 85, 77, 66, 69, 82]⟩ : ByteArray).data.toList X1.data.toList).length ≤ 120) := by
    show _ ≤ _
    rw [List.length_append, pline_len]
    have h1 := HL1.out
    have h2 : X1.data.toList.length = X1.size := Array.length_toList
    have h3 : (⟨#[78, 85, 77, 66, 69, 82]⟩ : ByteArray).data.toList.length ≤ 6 := by decide
    omega
  have HS2 : Hid (Sb gp gp (Lib.byteCells (l1 ++ line (⟨#[78, 85, 77, 66, 69, 82]⟩ : ByteArray).data.toList X1.data.toList)) V2) := hs
  generalize hq : l1 ++ line (⟨#[78, 85, 77, 66, 69, 82]⟩ : ByteArray).data.toList X1.data.toList = l2 at HS2 HL2
  have HE2 : Hid (EqL l2 ((([] : List UInt8) ++ line (⟨#[77, 69, 84, 69, 82]⟩ : ByteArray).data.toList X0.data.toList) ++ line (⟨#[78, 85, 77, 66, 69, 82]⟩ : ByteArray).data.toList X1.data.toList)) := by show l2 = _; rw [← hq, ← show l1 = (([] : List UInt8) ++ line (⟨#[77, 69, 84, 69, 82]⟩ : ByteArray).data.toList X0.data.toList) from HE1.out]
  clear hs hb HA1 HXU1 HBU1 hzU1 HSU1 H1 HL1 HE1 hq
  have x2 : V2.cell? ⟨w.heap.size, 2, none⟩ = some (.int .i64 te) := HX2.out.cell 2
  have HA2 := amount_any gp gp l2 (⟨#[84, 69, 78, 68, 69, 82]⟩ : ByteArray) X2 te V2 HS2.out (by have := HL2.out; omega) (by decide) (by omega) hz2 (H2.out V2 HB2.out)
  go_wp2_with fail
  refine HA2.mono ?_
  rintro e V3 ⟨rfl, hs, hb⟩
  have HX3 : Hid (Blk V3 w.heap.size #[.int .i64 me, .int .i64 id, .int .i64 te, .int .i64 de, .int .i64 fe, .int .i64 pr, .int .i64 ch, .int .i64 un, .string S] 25) := HX2.out.below hb HGP.out
  have HB3 : Hid (Below w.heap.size w V3) := HB2.out.trans (hb.mono (Nat.le_of_lt HGP.out))
  have hz3 : gp ≤ V3.heap.size := Nat.le_trans hz2 hb.size
  have HL3 : Hid ((l2 ++ line (⟨#[84, 69, 78, 68, 69, 82]⟩ : ByteArray).data.toList X2.data.toList).length ≤ 180) := by
    show _ ≤ _
    rw [List.length_append, pline_len]
    have h1 := HL2.out
    have h2 : X2.data.toList.length = X2.size := Array.length_toList
    have h3 : (⟨#[84, 69, 78, 68, 69, 82]⟩ : ByteArray).data.toList.length ≤ 6 := by decide
    omega
  have HS3 : Hid (Sb gp gp (Lib.byteCells (l2 ++ line (⟨#[84, 69, 78, 68, 69, 82]⟩ : ByteArray).data.toList X2.data.toList)) V3) := hs
  generalize hq : l2 ++ line (⟨#[84, 69, 78, 68, 69, 82]⟩ : ByteArray).data.toList X2.data.toList = l3 at HS3 HL3
  have HE3 : Hid (EqL l3 (((([] : List UInt8) ++ line (⟨#[77, 69, 84, 69, 82]⟩ : ByteArray).data.toList X0.data.toList) ++ line (⟨#[78, 85, 77, 66, 69, 82]⟩ : ByteArray).data.toList X1.data.toList) ++ line (⟨#[84, 69, 78, 68, 69, 82]⟩ : ByteArray).data.toList X2.data.toList)) := by show l3 = _; rw [← hq, ← show l2 = ((([] : List UInt8) ++ line (⟨#[77, 69, 84, 69, 82]⟩ : ByteArray).data.toList X0.data.toList) ++ line (⟨#[78, 85, 77, 66, 69, 82]⟩ : ByteArray).data.toList X1.data.toList) from HE2.out]
  clear hs hb HA2 HX2 HB2 hz2 HS2 x2 H2 HL2 HE2 hq
  have x3 : V3.cell? ⟨w.heap.size, 3, none⟩ = some (.int .i64 de) := HX3.out.cell 3
  have HA3 := amount_any gp gp l3 (⟨#[68, 69, 66, 84]⟩ : ByteArray) X3 de V3 HS3.out (by have := HL3.out; omega) (by decide) (by omega) hz3 (H3.out V3 HB3.out)
  go_wp2_with fail
  refine HA3.mono ?_
  rintro e V4 ⟨rfl, hs, hb⟩
  have HX4 : Hid (Blk V4 w.heap.size #[.int .i64 me, .int .i64 id, .int .i64 te, .int .i64 de, .int .i64 fe, .int .i64 pr, .int .i64 ch, .int .i64 un, .string S] 25) := HX3.out.below hb HGP.out
  have HB4 : Hid (Below w.heap.size w V4) := HB3.out.trans (hb.mono (Nat.le_of_lt HGP.out))
  have hz4 : gp ≤ V4.heap.size := Nat.le_trans hz3 hb.size
  have HL4 : Hid ((l3 ++ line (⟨#[68, 69, 66, 84]⟩ : ByteArray).data.toList X3.data.toList).length ≤ 240) := by
    show _ ≤ _
    rw [List.length_append, pline_len]
    have h1 := HL3.out
    have h2 : X3.data.toList.length = X3.size := Array.length_toList
    have h3 : (⟨#[68, 69, 66, 84]⟩ : ByteArray).data.toList.length ≤ 6 := by decide
    omega
  have HS4 : Hid (Sb gp gp (Lib.byteCells (l3 ++ line (⟨#[68, 69, 66, 84]⟩ : ByteArray).data.toList X3.data.toList)) V4) := hs
  generalize hq : l3 ++ line (⟨#[68, 69, 66, 84]⟩ : ByteArray).data.toList X3.data.toList = l4 at HS4 HL4
  have HE4 : Hid (EqL l4 ((((([] : List UInt8) ++ line (⟨#[77, 69, 84, 69, 82]⟩ : ByteArray).data.toList X0.data.toList) ++ line (⟨#[78, 85, 77, 66, 69, 82]⟩ : ByteArray).data.toList X1.data.toList) ++ line (⟨#[84, 69, 78, 68, 69, 82]⟩ : ByteArray).data.toList X2.data.toList) ++ line (⟨#[68, 69, 66, 84]⟩ : ByteArray).data.toList X3.data.toList)) := by show l4 = _; rw [← hq, ← show l3 = (((([] : List UInt8) ++ line (⟨#[77, 69, 84, 69, 82]⟩ : ByteArray).data.toList X0.data.toList) ++ line (⟨#[78, 85, 77, 66, 69, 82]⟩ : ByteArray).data.toList X1.data.toList) ++ line (⟨#[84, 69, 78, 68, 69, 82]⟩ : ByteArray).data.toList X2.data.toList) from HE3.out]
  clear hs hb HA3 HX3 HB3 hz3 HS3 x3 H3 HL3 HE3 hq
  have x4 : V4.cell? ⟨w.heap.size, 4, none⟩ = some (.int .i64 fe) := HX4.out.cell 4
  have HA4 := amount_any gp gp l4 (⟨#[70, 69, 69]⟩ : ByteArray) X4 fe V4 HS4.out (by have := HL4.out; omega) (by decide) (by omega) hz4 (H4.out V4 HB4.out)
  go_wp2_with fail
  refine HA4.mono ?_
  rintro e V5 ⟨rfl, hs, hb⟩
  have HX5 : Hid (Blk V5 w.heap.size #[.int .i64 me, .int .i64 id, .int .i64 te, .int .i64 de, .int .i64 fe, .int .i64 pr, .int .i64 ch, .int .i64 un, .string S] 25) := HX4.out.below hb HGP.out
  have HB5 : Hid (Below w.heap.size w V5) := HB4.out.trans (hb.mono (Nat.le_of_lt HGP.out))
  have hz5 : gp ≤ V5.heap.size := Nat.le_trans hz4 hb.size
  have HL5 : Hid ((l4 ++ line (⟨#[70, 69, 69]⟩ : ByteArray).data.toList X4.data.toList).length ≤ 300) := by
    show _ ≤ _
    rw [List.length_append, pline_len]
    have h1 := HL4.out
    have h2 : X4.data.toList.length = X4.size := Array.length_toList
    have h3 : (⟨#[70, 69, 69]⟩ : ByteArray).data.toList.length ≤ 6 := by decide
    omega
  have HS5 : Hid (Sb gp gp (Lib.byteCells (l4 ++ line (⟨#[70, 69, 69]⟩ : ByteArray).data.toList X4.data.toList)) V5) := hs
  generalize hq : l4 ++ line (⟨#[70, 69, 69]⟩ : ByteArray).data.toList X4.data.toList = l5 at HS5 HL5
  have HE5 : Hid (EqL l5 (((((([] : List UInt8) ++ line (⟨#[77, 69, 84, 69, 82]⟩ : ByteArray).data.toList X0.data.toList) ++ line (⟨#[78, 85, 77, 66, 69, 82]⟩ : ByteArray).data.toList X1.data.toList) ++ line (⟨#[84, 69, 78, 68, 69, 82]⟩ : ByteArray).data.toList X2.data.toList) ++ line (⟨#[68, 69, 66, 84]⟩ : ByteArray).data.toList X3.data.toList) ++ line (⟨#[70, 69, 69]⟩ : ByteArray).data.toList X4.data.toList)) := by show l5 = _; rw [← hq, ← show l4 = ((((([] : List UInt8) ++ line (⟨#[77, 69, 84, 69, 82]⟩ : ByteArray).data.toList X0.data.toList) ++ line (⟨#[78, 85, 77, 66, 69, 82]⟩ : ByteArray).data.toList X1.data.toList) ++ line (⟨#[84, 69, 78, 68, 69, 82]⟩ : ByteArray).data.toList X2.data.toList) ++ line (⟨#[68, 69, 66, 84]⟩ : ByteArray).data.toList X3.data.toList) from HE4.out]
  clear hs hb HA4 HX4 HB4 hz4 HS4 x4 H4 HL4 HE4 hq
  have x5 : V5.cell? ⟨w.heap.size, 5, none⟩ = some (.int .i64 pr) := HX5.out.cell 5
  have HA5 := amount_any gp gp l5 (⟨#[80, 82, 73, 67, 69]⟩ : ByteArray) X5 pr V5 HS5.out (by have := HL5.out; omega) (by decide) (by omega) hz5 (H5.out V5 HB5.out)
  go_wp2_with fail
  refine HA5.mono ?_
  rintro e V6 ⟨rfl, hs, hb⟩
  have HX6 : Hid (Blk V6 w.heap.size #[.int .i64 me, .int .i64 id, .int .i64 te, .int .i64 de, .int .i64 fe, .int .i64 pr, .int .i64 ch, .int .i64 un, .string S] 25) := HX5.out.below hb HGP.out
  have HB6 : Hid (Below w.heap.size w V6) := HB5.out.trans (hb.mono (Nat.le_of_lt HGP.out))
  have hz6 : gp ≤ V6.heap.size := Nat.le_trans hz5 hb.size
  have HL6 : Hid ((l5 ++ line (⟨#[80, 82, 73, 67, 69]⟩ : ByteArray).data.toList X5.data.toList).length ≤ 360) := by
    show _ ≤ _
    rw [List.length_append, pline_len]
    have h1 := HL5.out
    have h2 : X5.data.toList.length = X5.size := Array.length_toList
    have h3 : (⟨#[80, 82, 73, 67, 69]⟩ : ByteArray).data.toList.length ≤ 6 := by decide
    omega
  have HS6 : Hid (Sb gp gp (Lib.byteCells (l5 ++ line (⟨#[80, 82, 73, 67, 69]⟩ : ByteArray).data.toList X5.data.toList)) V6) := hs
  generalize hq : l5 ++ line (⟨#[80, 82, 73, 67, 69]⟩ : ByteArray).data.toList X5.data.toList = l6 at HS6 HL6
  have HE6 : Hid (EqL l6 ((((((([] : List UInt8) ++ line (⟨#[77, 69, 84, 69, 82]⟩ : ByteArray).data.toList X0.data.toList) ++ line (⟨#[78, 85, 77, 66, 69, 82]⟩ : ByteArray).data.toList X1.data.toList) ++ line (⟨#[84, 69, 78, 68, 69, 82]⟩ : ByteArray).data.toList X2.data.toList) ++ line (⟨#[68, 69, 66, 84]⟩ : ByteArray).data.toList X3.data.toList) ++ line (⟨#[70, 69, 69]⟩ : ByteArray).data.toList X4.data.toList) ++ line (⟨#[80, 82, 73, 67, 69]⟩ : ByteArray).data.toList X5.data.toList)) := by show l6 = _; rw [← hq, ← show l5 = (((((([] : List UInt8) ++ line (⟨#[77, 69, 84, 69, 82]⟩ : ByteArray).data.toList X0.data.toList) ++ line (⟨#[78, 85, 77, 66, 69, 82]⟩ : ByteArray).data.toList X1.data.toList) ++ line (⟨#[84, 69, 78, 68, 69, 82]⟩ : ByteArray).data.toList X2.data.toList) ++ line (⟨#[68, 69, 66, 84]⟩ : ByteArray).data.toList X3.data.toList) ++ line (⟨#[70, 69, 69]⟩ : ByteArray).data.toList X4.data.toList) from HE5.out]
  clear hs hb HA5 HX5 HB5 hz5 HS5 x5 H5 HL5 HE5 hq
  have x6 : V6.cell? ⟨w.heap.size, 6, none⟩ = some (.int .i64 ch) := HX6.out.cell 6
  have HA6 := amount_any gp gp l6 (⟨#[67, 72, 65, 78, 71, 69]⟩ : ByteArray) X6 ch V6 HS6.out (by have := HL6.out; omega) (by decide) (by omega) hz6 (H6.out V6 HB6.out)
  go_wp2_with fail
  refine HA6.mono ?_
  rintro e V7 ⟨rfl, hs, hb⟩
  have HX7 : Hid (Blk V7 w.heap.size #[.int .i64 me, .int .i64 id, .int .i64 te, .int .i64 de, .int .i64 fe, .int .i64 pr, .int .i64 ch, .int .i64 un, .string S] 25) := HX6.out.below hb HGP.out
  have HB7 : Hid (Below w.heap.size w V7) := HB6.out.trans (hb.mono (Nat.le_of_lt HGP.out))
  have hz7 : gp ≤ V7.heap.size := Nat.le_trans hz6 hb.size
  have HL7 : Hid ((l6 ++ line (⟨#[67, 72, 65, 78, 71, 69]⟩ : ByteArray).data.toList X6.data.toList).length ≤ 420) := by
    show _ ≤ _
    rw [List.length_append, pline_len]
    have h1 := HL6.out
    have h2 : X6.data.toList.length = X6.size := Array.length_toList
    have h3 : (⟨#[67, 72, 65, 78, 71, 69]⟩ : ByteArray).data.toList.length ≤ 6 := by decide
    omega
  have HS7 : Hid (Sb gp gp (Lib.byteCells (l6 ++ line (⟨#[67, 72, 65, 78, 71, 69]⟩ : ByteArray).data.toList X6.data.toList)) V7) := hs
  generalize hq : l6 ++ line (⟨#[67, 72, 65, 78, 71, 69]⟩ : ByteArray).data.toList X6.data.toList = l7 at HS7 HL7
  have HE7 : Hid (EqL l7 (((((((([] : List UInt8) ++ line (⟨#[77, 69, 84, 69, 82]⟩ : ByteArray).data.toList X0.data.toList) ++ line (⟨#[78, 85, 77, 66, 69, 82]⟩ : ByteArray).data.toList X1.data.toList) ++ line (⟨#[84, 69, 78, 68, 69, 82]⟩ : ByteArray).data.toList X2.data.toList) ++ line (⟨#[68, 69, 66, 84]⟩ : ByteArray).data.toList X3.data.toList) ++ line (⟨#[70, 69, 69]⟩ : ByteArray).data.toList X4.data.toList) ++ line (⟨#[80, 82, 73, 67, 69]⟩ : ByteArray).data.toList X5.data.toList) ++ line (⟨#[67, 72, 65, 78, 71, 69]⟩ : ByteArray).data.toList X6.data.toList)) := by show l7 = _; rw [← hq, ← show l6 = ((((((([] : List UInt8) ++ line (⟨#[77, 69, 84, 69, 82]⟩ : ByteArray).data.toList X0.data.toList) ++ line (⟨#[78, 85, 77, 66, 69, 82]⟩ : ByteArray).data.toList X1.data.toList) ++ line (⟨#[84, 69, 78, 68, 69, 82]⟩ : ByteArray).data.toList X2.data.toList) ++ line (⟨#[68, 69, 66, 84]⟩ : ByteArray).data.toList X3.data.toList) ++ line (⟨#[70, 69, 69]⟩ : ByteArray).data.toList X4.data.toList) ++ line (⟨#[80, 82, 73, 67, 69]⟩ : ByteArray).data.toList X5.data.toList) from HE6.out]
  clear hs hb HA6 HX6 HB6 hz6 HS6 x6 H6 HL6 HE6 hq
  have x7 : V7.cell? ⟨w.heap.size, 7, none⟩ = some (.int .i64 un) := HX7.out.cell 7
  have HC7 := H7.out V7 HB7.out
  go_wp2_with fail
  refine HC7.mono ?_
  rintro e U7 ⟨rfl, hb⟩
  have HSU7 : Hid (Sb gp gp (Lib.byteCells l7) U7) := HS7.out.next hb
  have HXU7 : Hid (Blk U7 w.heap.size #[.int .i64 me, .int .i64 id, .int .i64 te, .int .i64 de, .int .i64 fe, .int .i64 pr, .int .i64 ch, .int .i64 un, .string S] 25) := HX7.out.next hb
  have HBU7 : Hid (Below w.heap.size w U7) := bel_step HB7.out hb
  have hzU7 : gp ≤ U7.heap.size := Nat.le_trans hz7 hb.size
  clear hb HC7 HS7 HX7 HB7 hz7 x7
  have HA7 := line_any gp gp l7 (⟨#[85, 78, 73, 84, 83]⟩ : ByteArray) X7 U7 HSU7.out (by have := HL7.out; omega) (by decide) (by omega) hzU7
  go_wp2_with fail
  refine HA7.mono ?_
  rintro e V8 ⟨rfl, hs, hb⟩
  have HX8 : Hid (Blk V8 w.heap.size #[.int .i64 me, .int .i64 id, .int .i64 te, .int .i64 de, .int .i64 fe, .int .i64 pr, .int .i64 ch, .int .i64 un, .string S] 25) := HXU7.out.below hb HGP.out
  have HB8 : Hid (Below w.heap.size w V8) := HBU7.out.trans (hb.mono (Nat.le_of_lt HGP.out))
  have hz8 : gp ≤ V8.heap.size := Nat.le_trans hzU7 hb.size
  have HL8 : Hid ((l7 ++ line (⟨#[85, 78, 73, 84, 83]⟩ : ByteArray).data.toList X7.data.toList).length ≤ 480) := by
    show _ ≤ _
    rw [List.length_append, pline_len]
    have h1 := HL7.out
    have h2 : X7.data.toList.length = X7.size := Array.length_toList
    have h3 : (⟨#[85, 78, 73, 84, 83]⟩ : ByteArray).data.toList.length ≤ 6 := by decide
    omega
  have HS8 : Hid (Sb gp gp (Lib.byteCells (l7 ++ line (⟨#[85, 78, 73, 84, 83]⟩ : ByteArray).data.toList X7.data.toList)) V8) := hs
  generalize hq : l7 ++ line (⟨#[85, 78, 73, 84, 83]⟩ : ByteArray).data.toList X7.data.toList = l8 at HS8 HL8
  have HE8 : Hid (EqL l8 ((((((((([] : List UInt8) ++ line (⟨#[77, 69, 84, 69, 82]⟩ : ByteArray).data.toList X0.data.toList) ++ line (⟨#[78, 85, 77, 66, 69, 82]⟩ : ByteArray).data.toList X1.data.toList) ++ line (⟨#[84, 69, 78, 68, 69, 82]⟩ : ByteArray).data.toList X2.data.toList) ++ line (⟨#[68, 69, 66, 84]⟩ : ByteArray).data.toList X3.data.toList) ++ line (⟨#[70, 69, 69]⟩ : ByteArray).data.toList X4.data.toList) ++ line (⟨#[80, 82, 73, 67, 69]⟩ : ByteArray).data.toList X5.data.toList) ++ line (⟨#[67, 72, 65, 78, 71, 69]⟩ : ByteArray).data.toList X6.data.toList) ++ line (⟨#[85, 78, 73, 84, 83]⟩ : ByteArray).data.toList X7.data.toList)) := by show l8 = _; rw [← hq, ← show l7 = (((((((([] : List UInt8) ++ line (⟨#[77, 69, 84, 69, 82]⟩ : ByteArray).data.toList X0.data.toList) ++ line (⟨#[78, 85, 77, 66, 69, 82]⟩ : ByteArray).data.toList X1.data.toList) ++ line (⟨#[84, 69, 78, 68, 69, 82]⟩ : ByteArray).data.toList X2.data.toList) ++ line (⟨#[68, 69, 66, 84]⟩ : ByteArray).data.toList X3.data.toList) ++ line (⟨#[70, 69, 69]⟩ : ByteArray).data.toList X4.data.toList) ++ line (⟨#[80, 82, 73, 67, 69]⟩ : ByteArray).data.toList X5.data.toList) ++ line (⟨#[67, 72, 65, 78, 71, 69]⟩ : ByteArray).data.toList X6.data.toList) from HE7.out]
  clear hs hb HA7 HXU7 HBU7 hzU7 HSU7 H7 HL7 HE7 hq
  have x8 : V8.cell? ⟨w.heap.size, 8, none⟩ = some (.string S) := HX8.out.cell 8
  have HC8 := H8.out V8 HB8.out
  go_wp2_with fail
  refine HC8.mono ?_
  rintro e U8 ⟨rfl, hb⟩
  have HSU8 : Hid (Sb gp gp (Lib.byteCells l8) U8) := HS8.out.next hb
  have HXU8 : Hid (Blk U8 w.heap.size #[.int .i64 me, .int .i64 id, .int .i64 te, .int .i64 de, .int .i64 fe, .int .i64 pr, .int .i64 ch, .int .i64 un, .string S] 25) := HX8.out.next hb
  have HBU8 : Hid (Below w.heap.size w U8) := bel_step HB8.out hb
  have hzU8 : gp ≤ U8.heap.size := Nat.le_trans hz8 hb.size
  clear hb HC8 HS8 HX8 HB8 hz8 x8
  have HA8 := line_any gp gp l8 (⟨#[84, 79, 75, 69, 78]⟩ : ByteArray) X8 U8 HSU8.out (by have := HL8.out; omega) (by decide) (by omega) hzU8
  go_wp2_with fail
  refine HA8.mono ?_
  rintro e V9 ⟨rfl, hs, hb⟩
  have HX9 : Hid (Blk V9 w.heap.size #[.int .i64 me, .int .i64 id, .int .i64 te, .int .i64 de, .int .i64 fe, .int .i64 pr, .int .i64 ch, .int .i64 un, .string S] 25) := HXU8.out.below hb HGP.out
  have HB9 : Hid (Below w.heap.size w V9) := HBU8.out.trans (hb.mono (Nat.le_of_lt HGP.out))
  have hz9 : gp ≤ V9.heap.size := Nat.le_trans hzU8 hb.size
  have HL9 : Hid ((l8 ++ line (⟨#[84, 79, 75, 69, 78]⟩ : ByteArray).data.toList X8.data.toList).length ≤ 540) := by
    show _ ≤ _
    rw [List.length_append, pline_len]
    have h1 := HL8.out
    have h2 : X8.data.toList.length = X8.size := Array.length_toList
    have h3 : (⟨#[84, 79, 75, 69, 78]⟩ : ByteArray).data.toList.length ≤ 6 := by decide
    omega
  have HS9 : Hid (Sb gp gp (Lib.byteCells (l8 ++ line (⟨#[84, 79, 75, 69, 78]⟩ : ByteArray).data.toList X8.data.toList)) V9) := hs
  generalize hq : l8 ++ line (⟨#[84, 79, 75, 69, 78]⟩ : ByteArray).data.toList X8.data.toList = l9 at HS9 HL9
  have HE9 : Hid (EqL l9 (((((((((([] : List UInt8) ++ line (⟨#[77, 69, 84, 69, 82]⟩ : ByteArray).data.toList X0.data.toList) ++ line (⟨#[78, 85, 77, 66, 69, 82]⟩ : ByteArray).data.toList X1.data.toList) ++ line (⟨#[84, 69, 78, 68, 69, 82]⟩ : ByteArray).data.toList X2.data.toList) ++ line (⟨#[68, 69, 66, 84]⟩ : ByteArray).data.toList X3.data.toList) ++ line (⟨#[70, 69, 69]⟩ : ByteArray).data.toList X4.data.toList) ++ line (⟨#[80, 82, 73, 67, 69]⟩ : ByteArray).data.toList X5.data.toList) ++ line (⟨#[67, 72, 65, 78, 71, 69]⟩ : ByteArray).data.toList X6.data.toList) ++ line (⟨#[85, 78, 73, 84, 83]⟩ : ByteArray).data.toList X7.data.toList) ++ line (⟨#[84, 79, 75, 69, 78]⟩ : ByteArray).data.toList X8.data.toList)) := by show l9 = _; rw [← hq, ← show l8 = ((((((((([] : List UInt8) ++ line (⟨#[77, 69, 84, 69, 82]⟩ : ByteArray).data.toList X0.data.toList) ++ line (⟨#[78, 85, 77, 66, 69, 82]⟩ : ByteArray).data.toList X1.data.toList) ++ line (⟨#[84, 69, 78, 68, 69, 82]⟩ : ByteArray).data.toList X2.data.toList) ++ line (⟨#[68, 69, 66, 84]⟩ : ByteArray).data.toList X3.data.toList) ++ line (⟨#[70, 69, 69]⟩ : ByteArray).data.toList X4.data.toList) ++ line (⟨#[80, 82, 73, 67, 69]⟩ : ByteArray).data.toList X5.data.toList) ++ line (⟨#[67, 72, 65, 78, 71, 69]⟩ : ByteArray).data.toList X6.data.toList) ++ line (⟨#[85, 78, 73, 84, 83]⟩ : ByteArray).data.toList X7.data.toList) from HE8.out]
  clear hs hb HA8 HXU8 HBU8 hzU8 HSU8 H8 HL8 HE8 hq
  have hne : l9 ≠ [] := by
    rw [show l9 = _ from HE9.out]
    intro h
    have := congrArg List.length h
    rw [List.length_append, pline_len] at this
    simp at this
  have HT := text_any gp gp l9 V9 HS9.out hne
  clear HS9 HX9
  go_wp2_with fail
  refine HT.mono ?_
  rintro e V10 ⟨rfl, hb⟩
  have HB10 : Hid (Below w.heap.size w V10) := HB9.out.trans (hb.mono (Nat.le_of_lt HGP.out))
  clear hb HT HB9
  go_wp2_with fail
  go_ret
  exact ⟨l9, rfl, HE9.out, HB10.out⟩

theorem big_itoa (n : Int) (w : World) (h0 : 0 ≤ n) (h1 : n ≤ 1000000000000) (ht : cents.Tab w) :
    Calls Tryz.prog 33 #[.int .i64 n] w fun e w' => e = .returned (.string ⟨(Lib.decDigits n.toNat).toArray⟩) ∧ Below w.heap.size w w' := cents.itoa_big n w h0 h1 ht
theorem dec_len40 (n : Nat) (h : n ≤ 100000000) : (Lib.decDigits n).length ≤ 20 := by
  have step : ∀ k : Nat, ∀ v : Nat, v < 10 ^ (k + 1) → (Lib.decDigits v).length ≤ k + 1 := fun k => by
    induction k with
    | zero =>
      intro v hv
      have : ∀ x, x < 10 → (Lib.decDigits x).length ≤ 0 + 1 := by decide +kernel
      exact this v (by omega)
    | succ k ih =>
      intro v hv
      by_cases h10 : v < 10
      · have : ∀ x, x < 10 → (Lib.decDigits x).length ≤ 1 := by decide +kernel
        have := this v h10
        omega
      · rw [cents.dec_step h10, List.length_append]
        have := ih (v / 10) (by rw [Nat.pow_succ] at hv; omega)
        simp
        omega
  have := step 8 n (by omega)
  omega
theorem show_len40 {n : Int} (h0 : 0 ≤ n) (h1 : n ≤ 100000000) : (cents.showT n).length ≤ 40 := by
  unfold cents.showT
  rw [if_neg (by omega)]
  unfold cents.showP
  have a := dec_len40 (n / 100).toNat (by omega)
  have b : ∀ x, x < 10 → (Lib.decDigits x).length = 1 := by decide +kernel
  have b1 := b (n / 10 % 10).toNat (by omega)
  have b2 := b (n % 10).toNat (by omega)
  simp only [List.length_append, List.length_cons, List.length_nil]
  omega
theorem write_any (r : Rc) (w : World) (hr : Right r) (hm : check.MTab w) (hc : cents.Tab w) : Calls Tryz.prog 12 #[r.v] w fun e w' => e = .returned (.string ⟨(paper r).toArray⟩) ∧ Below w.heap.size w w' := by
  obtain ⟨hme, ⟨⟨⟨t0, t1⟩, ⟨d0, d1⟩, ⟨f0, f1⟩, p0, p1⟩, ⟨c0, c1⟩, ⟨i0, i1⟩, u0, u1⟩, _, hp, _⟩ := hr
  have hl20 := (parse_len hp).1
  have sh : ∀ (n : Int) (w' : World), Below w.heap.size w w' → 0 ≤ n → n ≤ 100000000 → Calls Tryz.prog 30 #[.int .i64 n] w' fun e w'' => e = .returned (.tuple #[.string ⟨(cents.showT n).toArray⟩, .int .i64 0]) ∧ Below w'.heap.size w' w'' := fun n w' hb a b => cents.show_any n w' (by omega) (by omega) (cents.tab_below hc hb)
  refine (write_abs r.me r.id r.te r.de r.fe r.pr r.ch r.un ⟨r.tk.toArray⟩ ⟨(numL r.me.toNat).toArray⟩ ⟨(Lib.decDigits r.id.toNat).toArray⟩ ⟨(cents.showT r.te).toArray⟩ ⟨(cents.showT r.de).toArray⟩ ⟨(cents.showT r.fe).toArray⟩ ⟨(cents.showT r.pr).toArray⟩ ⟨(cents.showT r.ch).toArray⟩ ⟨(Lib.decDigits r.un.toNat).toArray⟩ ⟨(four r.tk).toArray⟩ w
    ?_ ?_ (show_len40 t0 t1) (show_len40 d0 d1) (show_len40 f0 f1) (show_len40 p0 p1) (show_len40 c0 c1) ?_ ?_ ?_ ?_ (fun w' hb => sh _ w' hb t0 t1) (fun w' hb => sh _ w' hb d0 d1) (fun w' hb => sh _ w' hb f0 f1) (fun w' hb => sh _ w' hb p0 p1) (fun w' hb => sh _ w' hb c0 c1) ?_ ?_).mono ?_
  · show (numL r.me.toNat).length ≤ 40
    have := (num_all r.me.toNat (by have := hme.2; have := hme.1; omega)).1
    omega
  · have := dec_len40 r.id.toNat (by omega); show (Lib.decDigits r.id.toNat).length ≤ 40; omega
  · have := dec_len40 r.un.toNat (by omega); show (Lib.decDigits r.un.toNat).length ≤ 40; omega
  · show (four r.tk).length ≤ 40; rw [four_len hl20]; decide
  · intro w' hb
    refine (pnumber_any r.me w' (hm.below hb)).mono ?_
    rintro e w'' ⟨l, f, rfl, hi, hb2⟩
    rcases hi with ⟨_, rfl, rfl⟩ | ⟨h, _⟩
    · exact ⟨rfl, hb2⟩
    · exact absurd hme h
  · intro w' hb; exact big_itoa _ w' (by omega) (by omega) (cents.tab_below hc hb)
  · intro w' hb; exact big_itoa _ w' (by omega) (by omega) (cents.tab_below hc hb)
  · intro w' hb; exact rcf.fours_any ⟨r.tk.toArray⟩ w' hl20
  · rintro e w' ⟨L, rfl, hL, hb⟩
    refine ⟨?_, hb⟩
    have e : L = paper r := by
      rw [hL]
      unfold paper
      simp only [List.nil_append, List.append_assoc]
      rfl
    rw [e]

end Go.Proofs.YtlicdeppfhmfjaaGreatDoor.rcp

/- A receipt is shown. -/
namespace Go.Proofs.YtlicdeppfhmfjaaGreatDoor.rcp
open Go.RowKit
set_option maxRecDepth 100000
set_option linter.unusedVariables false
set_option linter.unusedSimpArgs false

/-- The tables that showing a receipt reads. -/
structure STab (w : World) : Prop where
  m : check.MTab w
  c : cents.Tab w
  t : token.TTab w
theorem STab.below {w w' : World} (h : STab w) (hb : Below w.heap.size w w') : STab w' := ⟨h.m.below hb, cents.tab_below h.c hb, h.t.below hb⟩
set_option maxHeartbeats 2000000 in
theorem show_abs (me id te de fe pr ch un f : Int) (S T R : ByteArray) (w : World) (hf : -1000 ≤ f ∧ f ≤ 1000) (hR0 : f = 0 → R = T) (hR1 : f ≠ 0 → R = ⟨#[]⟩)
    (hC : ∀ w', Below w.heap.size w w' → Calls Tryz.prog 11 #[.agg #[.int .i64 me, .int .i64 id, .int .i64 te, .int .i64 de, .int .i64 fe, .int .i64 pr, .int .i64 ch, .int .i64 un, .string S]] w' fun e w'' => e = .returned (.int .i64 f) ∧ Below w'.heap.size w' w'')
    (hW : f = 0 → ∀ w', Below w.heap.size w w' → Calls Tryz.prog 12 #[.agg #[.int .i64 me, .int .i64 id, .int .i64 te, .int .i64 de, .int .i64 fe, .int .i64 pr, .int .i64 ch, .int .i64 un, .string S]] w' fun e w'' => e = .returned (.string T) ∧ Below w'.heap.size w' w'') :
    Calls Tryz.prog 6 #[.agg #[.int .i64 me, .int .i64 id, .int .i64 te, .int .i64 de, .int .i64 fe, .int .i64 pr, .int .i64 ch, .int .i64 un, .string S]] w fun e w' => e = .returned (.tuple #[.string R, .int .i64 f]) ∧ Below w.heap.size w w' := by
  have HX0 : Hid (Blk (w.alloc (.cells #[.int .i64 me, .int .i64 id, .int .i64 te, .int .i64 de, .int .i64 fe, .int .i64 pr, .int .i64 ch, .int .i64 un, .string S] 25)) w.heap.size #[.int .i64 me, .int .i64 id, .int .i64 te, .int .i64 de, .int .i64 fe, .int .i64 pr, .int .i64 ch, .int .i64 un, .string S] 25) := Blk.new _ _ _
  have HB0 : Hid (Below w.heap.size w (w.alloc (.cells #[.int .i64 me, .int .i64 id, .int .i64 te, .int .i64 de, .int .i64 fe, .int .i64 pr, .int .i64 ch, .int .i64 un, .string S] 25))) := (Below.refl _ _).alloc (Nat.le_refl _) _
  go_enter Tryz.func6, Tryz.ntmps6
  go_upto_region 1 with fail
  generalize w.alloc (.cells #[.int .i64 me, .int .i64 id, .int .i64 te, .int .i64 de, .int .i64 fe, .int .i64 pr, .int .i64 ch, .int .i64 un, .string S] 25) = W0 at *
  have HC := hC W0 HB0.out
  have HW : Hid (f = 0 → ∀ w', Below w.heap.size w w' → Calls Tryz.prog 12 #[.agg #[.int .i64 me, .int .i64 id, .int .i64 te, .int .i64 de, .int .i64 fe, .int .i64 pr, .int .i64 ch, .int .i64 un, .string S]] w' fun e w'' => e = .returned (.string T) ∧ Below w'.heap.size w' w'') := hW
  clear hC hW
  have c0 : W0.cell? ⟨w.heap.size, 0, none⟩ = some (.int .i64 me) := HX0.out.cell 0
  have c1 : W0.cell? ⟨w.heap.size, 1, none⟩ = some (.int .i64 id) := HX0.out.cell 1
  have c2 : W0.cell? ⟨w.heap.size, 2, none⟩ = some (.int .i64 te) := HX0.out.cell 2
  have c3 : W0.cell? ⟨w.heap.size, 3, none⟩ = some (.int .i64 de) := HX0.out.cell 3
  have c4 : W0.cell? ⟨w.heap.size, 4, none⟩ = some (.int .i64 fe) := HX0.out.cell 4
  have c5 : W0.cell? ⟨w.heap.size, 5, none⟩ = some (.int .i64 pr) := HX0.out.cell 5
  have c6 : W0.cell? ⟨w.heap.size, 6, none⟩ = some (.int .i64 ch) := HX0.out.cell 6
  have c7 : W0.cell? ⟨w.heap.size, 7, none⟩ = some (.int .i64 un) := HX0.out.cell 7
  have c8 : W0.cell? ⟨w.heap.size, 8, none⟩ = some (.string S) := HX0.out.cell 8
  go_wp2_with fail
  refine HC.mono ?_
  rintro e W1 ⟨rfl, hb⟩
  have HX1 : Hid (Blk W1 w.heap.size #[.int .i64 me, .int .i64 id, .int .i64 te, .int .i64 de, .int .i64 fe, .int .i64 pr, .int .i64 ch, .int .i64 un, .string S] 25) := HX0.out.next hb
  have HB1 : Hid (Below w.heap.size w W1) := bel_step HB0.out hb
  clear hb HC HX0 HB0 c0 c1 c2 c3 c4 c5 c6 c7 c8
  obtain ⟨f0, f1⟩ := hf
  by_cases h : f = 0
  · have hq : (f != 0) = false := by simpa using h
    have HWW := HW.out h W1 HB1.out
    have HF : Hid (f = 0) := h
    have HR : Hid (R = T) := hR0 h
    clear h HW hR0 hR1
    have c0 : W1.cell? ⟨w.heap.size, 0, none⟩ = some (.int .i64 me) := HX1.out.cell 0
    have c1 : W1.cell? ⟨w.heap.size, 1, none⟩ = some (.int .i64 id) := HX1.out.cell 1
    have c2 : W1.cell? ⟨w.heap.size, 2, none⟩ = some (.int .i64 te) := HX1.out.cell 2
    have c3 : W1.cell? ⟨w.heap.size, 3, none⟩ = some (.int .i64 de) := HX1.out.cell 3
    have c4 : W1.cell? ⟨w.heap.size, 4, none⟩ = some (.int .i64 fe) := HX1.out.cell 4
    have c5 : W1.cell? ⟨w.heap.size, 5, none⟩ = some (.int .i64 pr) := HX1.out.cell 5
    have c6 : W1.cell? ⟨w.heap.size, 6, none⟩ = some (.int .i64 ch) := HX1.out.cell 6
    have c7 : W1.cell? ⟨w.heap.size, 7, none⟩ = some (.int .i64 un) := HX1.out.cell 7
    have c8 : W1.cell? ⟨w.heap.size, 8, none⟩ = some (.string S) := HX1.out.cell 8
    go_wp2_with fail
    refine HWW.mono ?_
    rintro e W2 ⟨rfl, hb⟩
    have HB2 : Hid (Below w.heap.size w W2) := bel_step HB1.out hb
    clear hb HWW HX1 HB1 c0 c1 c2 c3 c4 c5 c6 c7 c8
    go_wp2_with fail
    go_ret2
    exact ⟨by rw [HF.out, HR.out]; rfl, HB2.out⟩
  · have hq : (f != 0) = true := by simpa using h
    have HR : Hid (R = ⟨#[]⟩) := hR1 h
    clear h HW hR0 hR1
    go_wp2_with fail
    go_ret2
    exact ⟨by rw [HR.out]; rfl, HB1.out⟩
theorem FaultIs.bd {r : Rc} {f : Int} (h : FaultIs r f) : -1000 ≤ f ∧ f ≤ 1000 := by
  rcases h with ⟨_, rfl⟩ | ⟨_, _, rfl⟩ | ⟨_, _, _, rfl⟩ | ⟨_, _, _, _, rfl⟩ | ⟨_, _, _, _, _, rfl⟩ | ⟨_, _, _, _, _, rfl⟩ <;> first | exact ⟨by decide, by decide⟩ | (unfold token.parseE; repeat' split) <;> exact ⟨by decide, by decide⟩
theorem fault_ex (r : Rc) : ∃ f, FaultIs r f := by
  by_cases h1 : 0 ≤ r.me ∧ r.me ≤ 49
  case neg => exact ⟨_, .inl ⟨h1, rfl⟩⟩
  have d : ∀ p : Prop, p ∨ ¬ p := Classical.em
  rcases d (RRange r) with h2 | h2
  case inr => exact ⟨_, .inr (.inl ⟨h1, h2, rfl⟩)⟩
  rcases d (RSum r) with h3 | h3
  case inr => exact ⟨_, .inr (.inr (.inl ⟨h1, h2, h3, rfl⟩))⟩
  rcases d (token.parseE r.tk = 0) with h4 | h4
  case inr => exact ⟨_, .inr (.inr (.inr (.inl ⟨h1, h2, h3, h4, rfl⟩)))⟩
  rcases d (RTok r) with h5 | h5
  case inr => exact ⟨_, .inr (.inr (.inr (.inr (.inl ⟨h1, h2, h3, h4, h5, rfl⟩))))⟩
  exact ⟨_, .inr (.inr (.inr (.inr (.inr ⟨h1, h2, h3, h4, h5, rfl⟩))))⟩
theorem show_any (r : Rc) (w : World) (ht : STab w) : Calls Tryz.prog 6 #[r.v] w fun e w' => ShowPost w r e w' := by
  obtain ⟨f, hf⟩ := fault_ex r
  refine (show_abs r.me r.id r.te r.de r.fe r.pr r.ch r.un f ⟨r.tk.toArray⟩ ⟨(paper r).toArray⟩ (if f = 0 then ⟨(paper r).toArray⟩ else ⟨#[]⟩) w hf.bd (fun h => if_pos h) (fun h => if_neg h) (fun w' hb => ?_) (fun h0 w' hb => ?_)).mono ?_
  · refine (check_any r w' (ht.below hb).t).mono ?_
    rintro e w'' ⟨g, rfl, hg, hb2⟩
    rw [hg.one hf]
    exact ⟨rfl, hb2⟩
  · exact write_any r w' (hf.ok.1 h0) (ht.below hb).m (ht.below hb).c
  · rintro e w' ⟨rfl, hb⟩
    by_cases h : f = 0
    · rw [if_pos h]; exact ⟨paper r, f, rfl, ⟨hf, .inl ⟨h, rfl⟩⟩, hb⟩
    · rw [if_neg h]; exact ⟨[], f, rfl, ⟨hf, .inr ⟨h, rfl⟩⟩, hb⟩
theorem kshow {w : World} (ht : STab w) : KrShow w := fun W r hb _ => show_any r W (ht.below hb)

end Go.Proofs.YtlicdeppfhmfjaaGreatDoor.rcp

/- QuoRem of numbers not below 0. -/
namespace Go.Proofs.YtlicdeppfhmfjaaGreatDoor.words
open Go.RowKit
set_option maxRecDepth 100000

theorem dig_small {d : Nat} (h0 : 0 < d) (h : d < 4294967296) : (dig d).length = 1 := by
  rw [dig_pos (by omega), List.length_cons, Nat.div_eq_of_lt h, dig_zero]; rfl

theorem div_small (M d : Nat) (h0 : 0 < d) (hd : d < 4294967296) (hM : (dig M).length ≤ 60) : ∀ w' xa xn xc ya yn yc, Ru w' xa xn xc (dig M) → Ru w' ya yn yc (dig d) → Calls Tryz.prog 106 #[.slice xa xn xc, .slice ya yn yc] w' fun e w'' => DivGives w' (M / d) (M % d) e w'' := by
  intro w' xa xn xc ya yn yc hx hy
  have ey := hy.len
  rw [dig_small h0 hd] at ey
  subst ey
  have ex := hx.len
  by_cases h : M < d
  · have := div_less xa ya xn 1 xc yc M d w' hx hy (by omega) (by omega) h
    rw [Nat.div_eq_of_lt h, Nat.mod_eq_of_lt h]
    exact this
  · by_cases h2 : xn ≤ 2
    · exact div_two xa ya xn 1 xc yc M d w' hx hy h2 h0 (by omega)
    · exact div_one xa ya xn xc yc M d w' hx hy (by omega) (by omega)

/-- QuoRem of numbers not below 0. -/
theorem quoRem_any (z x y r M d : Nat) (w : World) (hx : Bg w x M) (hy : Bg w y d) (hz : Ob w z) (hr : Ob w r) (hzr : r ≠ z) (h0 : 0 < d) (hd : d < 4294967296) (hM : (dig M).length ≤ 60) :
    Calls Tryz.prog 68 #[.pointer (some ⟨z, 0, none⟩), .pointer (some ⟨x, 0, none⟩), .pointer (some ⟨y, 0, none⟩), .pointer (some ⟨r, 0, none⟩)] w fun e w' => QuoPost w z r (M / d) (M % d) e w' := by
  obtain ⟨xa, xn, xc, x0, x1, xr⟩ := hx.parts
  obtain ⟨ya, yn, yc, y0, y1, yr⟩ := hy.parts
  exact quo_of z x y r _ _ xa ya xn xc yn yc w x0 x1 y0 y1 hz hr hzr fun w' hb => div_small M d h0 hd hM w' xa xn xc ya yn yc (xr.below hb) (yr.below hb)

end Go.Proofs.YtlicdeppfhmfjaaGreatDoor.words

/- BitLen, Sign and Int64 of numbers not below 0. -/
namespace Go.Proofs.YtlicdeppfhmfjaaGreatDoor.words
open Go.RowKit
set_option maxRecDepth 100000

theorem bitLen_any (z m : Nat) (w : World) (hg : Bg w z m) (hm : (dig m).length ≤ 100) :
    Calls Tryz.prog 67 #[.pointer (some ⟨z, 0, none⟩)] w fun e w' => LenPost w m e w' := by
  obtain ⟨xa, xn, xc, x0, x1, xr⟩ := hg.parts
  have HL : Hid (Calls Tryz.prog 105 #[.slice xa xn xc] w fun e w' => LenPost w m e w') := length_any xa xn xc m w xr (by rw [← xr.len]; exact hm)
  clear hg xr hm
  go_enter Tryz.func67, Tryz.ntmps67
  go_wp2_with fail
  refine HL.out.mono ?_
  rintro e w1 ⟨rfl, L, rfl, hL⟩
  have HP : Hid (LenPost w1 m (.returned (.int .i64 ((L : Nat) : Int))) w1) := ⟨rfl, L, rfl, hL⟩
  clear hL
  go_wp2_with fail
  go_ret
  exact HP.out

/-- More than n bits. -/
theorem bits_gt {m L n : Nat} (h : BitsOf m L) : n < L ↔ 2 ^ n ≤ m := by
  constructor
  · intro hl
    have h0 : 0 < m := by
      rcases Nat.eq_zero_or_pos m with e | e
      · have := h.2.1 e; omega
      · exact e
    exact Nat.le_trans (Nat.pow_le_pow_right (by decide) (by omega)) (h.2.2 h0).2
  · intro hm
    rcases Nat.lt_or_ge n L with h1 | h1
    · exact h1
    · have h2 : (2 : Nat) ^ L ≤ 2 ^ n := Nat.pow_le_pow_right (by decide) h1
      have := h.1
      omega

theorem sign_zero (z : Nat) (w : World) (hg : Bg w z 0) :
    Calls Tryz.prog 69 #[.pointer (some ⟨z, 0, none⟩)] w fun e w' => e = .returned (.int .i64 0) ∧ w' = w := by
  obtain ⟨xa, xn, xc, x0, x1, xr⟩ := hg.parts
  have hn : xn = 0 := by have := xr.len; rw [dig_zero] at this; simpa using this.symm
  subst hn
  clear hg xr
  go_enter Tryz.func69, Tryz.ntmps69
  go_wp2_with fail
  go_ret
  exact ⟨rfl, rfl⟩
theorem sign_pos (z m : Nat) (w : World) (hg : Bg w z m) (hm : m ≠ 0) :
    Calls Tryz.prog 69 #[.pointer (some ⟨z, 0, none⟩)] w fun e w' => e = .returned (.int .i64 1) ∧ w' = w := by
  obtain ⟨xa, xn, xc, x0, x1, xr⟩ := hg.parts
  have hlen := xr.len
  have hn : xn ≠ 0 := by
    intro h0
    have h1 := nv_dig m
    rw [List.eq_nil_of_length_eq_zero (by omega : (dig m).length = 0)] at h1
    exact hm h1.symm
  have hb : ((xn : Int) == 0) = false := beq_eq_false_iff_ne.2 (by omega)
  clear hg xr hn hlen hm
  go_enter Tryz.func69, Tryz.ntmps69
  go_wp2_with fail
  go_ret
  exact ⟨rfl, rfl⟩
theorem int64_any (z m : Nat) (w : World) (hg : Bg w z m) (hm : m < 9223372036854775808) :
    Calls Tryz.prog 70 #[.pointer (some ⟨z, 0, none⟩)] w fun e w' => e = .returned (.int .i64 (m : Int)) ∧ w' = w := by
  obtain ⟨xa, xn, xc, x0, x1, xr⟩ := hg.parts
  have HU : Hid (Calls Tryz.prog 107 #[.pointer (some ⟨z, 0, none⟩)] w fun e w' => e = .returned (.int .u64 (m : Int)) ∧ w' = w) := uint64_any z m w hg (by omega)
  have hwr : IntKind.i64.wrap (m : Int) = (m : Int) := by rw [IntKind.wrap_i64]; omega
  clear hg xr
  go_enter Tryz.func70, Tryz.ntmps70
  go_wp2_with fail
  refine HU.out.mono ?_
  rintro e w1 ⟨rfl, rfl⟩
  go_wp2_with fail
  go_ret
  exact ⟨rfl, rfl⟩

end Go.Proofs.YtlicdeppfhmfjaaGreatDoor.words

/- The document's answer to Parse. -/
namespace Go.Proofs.YtlicdeppfhmfjaaGreatDoor.token
open Go.Proofs.YtlicdeppfhmfjaaGreatDoor.words Go.Proofs.YtlicdeppfhmfjaaGreatDoor.check
open Go.RowKit
set_option maxRecDepth 100000
set_option linter.unusedSimpArgs false
set_option linter.unusedVariables false

theorem digit_yes (z : Int) (w : World) (h1 : 48 ≤ z) (h2 : z ≤ 57) :
    Calls Tryz.prog 49 #[.int .u8 z] w fun e w' => e = .returned (.bool true) ∧ w' = w := by
  go_enter Tryz.func49, Tryz.ntmps49
  go_wp2
  go_ret
  exact ⟨rfl, rfl⟩
theorem digit_no (z : Int) (w : World) (h : z < 48 ∨ 57 < z) :
    Calls Tryz.prog 49 #[.int .u8 z] w fun e w' => e = .returned (.bool false) ∧ w' = w := by
  by_cases h0 : z < 48
  · clear h
    go_enter Tryz.func49, Tryz.ntmps49
    go_wp2
    go_ret
    exact ⟨rfl, rfl⟩
  · have h1 : 48 ≤ z := by omega
    have h2 : decide (z ≤ 57) = false := by simp; omega
    clear h h0
    go_enter Tryz.func49, Tryz.ntmps49
    go_wp2
    go_ret
    exact ⟨rfl, rfl⟩

theorem pz_ex {w w' : World} {G z : Nat} {cs : Array Value} {t : TypeId} (h : Blk w G cs t) (he : Ex w w' z) (hne : G ≠ z) : Blk w' G cs t := by
  have hl := h.lt
  unfold Blk at *
  rw [he.block G hl hne]; exact h

theorem ex2_below {w0 w w' : World} {z r : Nat} (hb : Below w0.heap.size w0 w) (h : Ex2 w w' z r) (hz : w0.heap.size ≤ z) (hr : w0.heap.size ≤ r) : Below w0.heap.size w0 w' :=
  hb.trans ⟨h.os, h.tape, h.output, h.size, fun k hk => h.block k (Nat.lt_of_lt_of_le hk hb.size) (by omega) (by omega)⟩
theorem ex2_blk {w w' : World} {G z r : Nat} {cs : Array Value} {t : TypeId} (h : Blk w G cs t) (he : Ex2 w w' z r) (h1 : G ≠ z) (h2 : G ≠ r) : Blk w' G cs t := by
  have hl := h.lt
  unfold Blk at *
  rw [he.block G hl h1 h2]; exact h

/-- While the document reads digits: k of them are. -/
structure Rp (w wr : World) (M : Nat) : Prop where
  below : Below w.heap.size w wr
  res : Blk wr w.heap.size #[.int .i64 0, .int .i64 0, .int .i64 0, .int .i64 0] 51
  num : Bg wr (w.heap.size + 1) M

set_option maxHeartbeats 400000 in
theorem parsed_len (s : ByteArray) (w : World) (h : s.size ≠ 20) :
    Calls Tryz.prog 37 #[.string s] w fun e w' => e = .returned (.tuple #[noTok, .int .i64 6]) ∧ Below w.heap.size w w' := by
  have hd : ((s.size : Int) != 20) = true := by simp; omega
  have hX := Blk.new w #[.int .i64 0, .int .i64 0, .int .i64 0, .int .i64 0] 51
  have HB : Hid (Below w.heap.size w (w.alloc (.cells #[.int .i64 0, .int .i64 0, .int .i64 0, .int .i64 0] 51))) := (Below.refl _ _).alloc (Nat.le_refl _) _
  have R0 : Hid (_ = _) := hX.cell 0
  have R1 : Hid (_ = _) := hX.cell 1
  have R2 : Hid (_ = _) := hX.cell 2
  have R3 : Hid (_ = _) := hX.cell 3
  clear h hX
  go_enter Tryz.func37, Tryz.ntmps37
  go_wp2_with fail
  refine bodyPost_ret (v := .tuple #[.agg #[.int .i64 0, .int .i64 0, .int .i64 0, .int .i64 0], .int .i64 6]) (by simp [results, Tryz.results37, R0.out, R1.out, R2.out, R3.out, go_sem]) rfl ⟨rfl, HB.out⟩

set_option maxHeartbeats 4000000 in
theorem parsed_any (s : ByteArray) (w : World) (h : s.size = 20) :
    Calls Tryz.prog 37 #[.string s] w fun e w' => e = .returned (.tuple #[parseV s.data.toList, .int .i64 (parseE s.data.toList)]) ∧ Below w.heap.size w w' := by
  have hd : ((s.size : Int) != 20) = false := by simp; omega
  have hb0 : Below w.heap.size w ((w.alloc (.cells #[.int .i64 0, .int .i64 0, .int .i64 0, .int .i64 0] 51)).alloc (.cells #[.bool false, .slice none 0 0] 104)) := ((Below.refl _ _).alloc (Nat.le_refl _) _).alloc (by simp) _
  have HR0 : Hid (Rp w ((w.alloc (.cells #[.int .i64 0, .int .i64 0, .int .i64 0, .int .i64 0] 51)).alloc (.cells #[.bool false, .slice none 0 0] 104)) 0) :=
    ⟨hb0, (Blk.new _ _ _).alloc _, ⟨none, 0, 0, Blk.new1 _ _ _ _, by rw [dig_zero]; exact ru_nil _⟩⟩
  have HS : Hid (s.size = 20) := h
  clear h hb0
  go_enter Tryz.func37, Tryz.ntmps37
  go_wp2_with fail
  generalize ((w.alloc (.cells #[.int .i64 0, .int .i64 0, .int .i64 0, .int .i64 0] 51)).alloc (.cells #[.bool false, .slice none 0 0] 104)) = W0 at *
  go_loopw [5] (fun iv wr => ∃ k M : Nat, k ≤ 20 ∧ iv = .int .i64 (k : Int) ∧ allD (s.data.toList.take k) = true ∧ dv (s.data.toList.take k) = M ∧ Rp w wr M) (fun iv _ => 20 - (intOf iv).toNat)
  case atStart => exact ⟨0, 0, by omega, rfl, rfl, rfl, HR0.out⟩
  case round =>
    obtain ⟨k, M, hk, rfl, hok, hM, hr⟩ := hrel
    have HK : Hid (allD (s.data.toList.take k) = true ∧ dv (s.data.toList.take k) = M) := ⟨hok, hM⟩
    clear hok hM
    by_cases hp : k < 20
    · have hps : k < s.size := by have := HS.out; omega
      have hkk : (k : Int) < 20 := by omega
      have hki : (k : Int) < (s.size : Int) := by omega
      have HN : Hid (isD s[k] = false → allD s.data.toList = false) := allD_take_no s k hps
      have HL : Hid (((s[k].toNat : Nat) : Int) < 48 ∨ 57 < ((s[k].toNat : Nat) : Int) → isD s[k] = false) := fun hh => by
        rcases hh with h1 | h1
        · exact isD_lo h1
        · exact isD_hi h1
      have HA : Hid (48 ≤ ((s[k].toNat : Nat) : Int) → ((s[k].toNat : Nat) : Int) ≤ 57 → allD (s.data.toList.take (k + 1)) = true ∧ dv (s.data.toList.take (k + 1)) = M * 10 + (s[k].toNat - 48)) := fun h1 h2 => by
        refine ⟨by rw [take_snoc s k hps, allD_append, HK.out.1]; simp [allD, isD_yes h1 h2], by rw [take_snoc s k hps, dv_snoc, HK.out.2]⟩
      have HM : Hid (M < 100000000000000000000) := by
        have h1 := dv_lt _ HK.out.1
        have h2 : (s.data.toList.take k).length ≤ 20 := by rw [List.length_take, len_eq, HS.out]; omega
        rw [HK.out.2] at h1
        exact Nat.lt_of_lt_of_le h1 (Nat.pow_le_pow_right (by decide) h2)
      have HE7 : Hid (allD s.data.toList = false → parseE s.data.toList = 7 ∧ parseV s.data.toList = noTok) := fun hh => parse_dig (by rw [len_eq]; exact HS.out) hh
      obtain ⟨z, hzz⟩ : ∃ z : Nat, (s[k]'hps).toNat = z := ⟨_, rfl⟩
      rw [hzz] at HL HA
      by_cases hz : (z : Int) < 48 ∨ 57 < (z : Int)
      · obtain ⟨e1, e2⟩ := HE7.out (HN.out (HL.out hz))
        have EE : Hid (parseE s.data.toList = 7 ∧ parseV s.data.toList = noTok) := ⟨e1, e2⟩
        have HDG : Hid (∀ W, Calls Tryz.prog 49 #[.int .u8 (z : Int)] W fun e w' => e = .returned (.bool false) ∧ w' = W) := fun W => digit_no _ W hz
        have hR := hr.res
        have RR := (((hR.set 0 (.int .i64 0)).set 1 (.int .i64 0)).set 2 (.int .i64 0)).set 3 (.int .i64 0)
        have HBB : Hid (Below w.heap.size w ((((wr.setCell ⟨w.heap.size, 0, none⟩ (.int .i64 0)).setCell ⟨w.heap.size, 1, none⟩ (.int .i64 0)).setCell ⟨w.heap.size, 2, none⟩ (.int .i64 0)).setCell ⟨w.heap.size, 3, none⟩ (.int .i64 0))) := bel_set (bel_set (bel_set (bel_set hr.below _ _ _ (Nat.le_refl _)) _ _ _ (Nat.le_refl _)) _ _ _ (Nat.le_refl _)) _ _ _ (Nat.le_refl _)
        have R0 : Hid (_ = _) := RR.cell 0
        have R1 : Hid (_ = _) := RR.cell 1
        have R2 : Hid (_ = _) := RR.cell 2
        have R3 : Hid (_ = _) := RR.cell 3
        have p0 := hR.cell 0
        have p1 := hR.cell 1
        have p2 := hR.cell 2
        have p3 := hR.cell 3
        have f0 := hR.free 0
        have f1 := hR.free 1
        have f2 := hR.free 2
        have f3 := hR.free 3
        clear e1 e2 HE7 HN HL HA HM hz RR hR hr HK
        go_wp2_with fail
        refine (HDG.out _).mono ?_
        rintro e w1 ⟨rfl, rfl⟩
        go_wp2_with fail
        refine bodyPost_ret (v := .tuple #[.agg #[.int .i64 0, .int .i64 0, .int .i64 0, .int .i64 0], .int .i64 7]) (by simp [results, Tryz.results37, R0.out, R1.out, R2.out, R3.out, go_sem]) rfl ⟨by rw [EE.out.1, EE.out.2]; rfl, HBB.out⟩
      · obtain ⟨d, hzd⟩ : ∃ d : Nat, z = d + 48 := ⟨z - 48, by omega⟩
        subst hzd
        have hd9 : d ≤ 9 := by omega
        have HDG : Hid (∀ W, Calls Tryz.prog 49 #[.int .u8 ((d + 48 : Nat) : Int)] W fun e w' => e = .returned (.bool true) ∧ w' = W) := fun W => digit_yes _ W (by omega) (by omega)
        have ez : (((d + 48 : Nat) : Int)) = (d : Int) + 48 := by omega
        rw [ez] at HDG
        clear ez
        have hwz : IntKind.u8.wrap ((d : Int) + 48 - 48) = (d : Int) := by rw [IntKind.wrap_u8]; omega
        obtain ⟨M1, hM1⟩ : ∃ M1, M * 10 = M1 := ⟨_, rfl⟩
        obtain ⟨M2, hM2⟩ : ∃ M2, M1 + d = M2 := ⟨_, rfl⟩
        have HEE : Hid (M * 10 = M1 ∧ M1 + d = M2) := ⟨hM1, hM2⟩
        have HAA : Hid (allD (s.data.toList.take (k + 1)) = true ∧ dv (s.data.toList.take (k + 1)) = M2) := by
          have := HA.out (by omega) (by omega)
          rw [show d + 48 - 48 = d by omega] at this
          exact ⟨this.1, by rw [this.2]; omega⟩
        have HLL : Hid ((dig M).length ≤ 100 ∧ (dig 10).length ≤ 100 ∧ (dig M1).length ≤ 100 ∧ (dig d).length ≤ 100) := by
          have hm := HM.out
          exact ⟨len100 (Nat.lt_trans hm (by decide)), len100 (by decide), len100 (Nat.lt_of_lt_of_le (show M1 < 1000000000000000000000 by omega) (by decide)), len100 (Nat.lt_of_le_of_lt hd9 (by decide))⟩
        have HBr : Hid (Below w.heap.size w wr) := hr.below
        have HRr : Hid (Blk wr w.heap.size #[.int .i64 0, .int .i64 0, .int .i64 0, .int .i64 0] 51) := hr.res
        have HNr : Hid (Bg wr (w.heap.size + 1) M) := hr.num
        have hdb : d < 9223372036854775808 := by omega
        clear HE7 HN HL HA HM hz HK hr hM1 hM2
        go_wp2_with fail
        refine (HDG.out _).mono ?_
        rintro e w1 ⟨rfl, rfl⟩
        go_wp2_with fail
        refine (newInt_any 10 _ (by decide)).mono ?_
        rintro e w2 ⟨q2, rfl, hq2, hg2, hb2⟩
        have HB2 : Hid (Below w.heap.size w w2) := bel_step HBr.out hb2
        have HR2 : Hid (Blk w2 w.heap.size #[.int .i64 0, .int .i64 0, .int .i64 0, .int .i64 0] 51) := HRr.out.next hb2
        have N2 := HNr.out.below hb2
        have nl := HNr.out.ob.lt
        have ne2 : q2 ≠ w.heap.size + 1 := by omega
        have HN2 : Hid (Bg w2 (w.heap.size + 1) M) := N2
        have HQ2 : Hid (Bg w2 q2 10) := hg2
        clear hb2 hg2 hq2 HBr HRr N2 nl HNr
        go_wp2_with fail
        refine (Mul_any (w.heap.size + 1) (w.heap.size + 1) q2 M 10 _ HN2.out HQ2.out HN2.out.ob ne2 HLL.out.1 HLL.out.2.1).mono ?_
        rintro e w3 ⟨rfl, hg3, hx3⟩
        rw [HEE.out.1] at hg3
        have HB3 : Hid (Below w.heap.size w w3) := hx3.below HB2.out (by omega)
        have HR3 : Hid (Blk w3 w.heap.size #[.int .i64 0, .int .i64 0, .int .i64 0, .int .i64 0] 51) := pz_ex HR2.out hx3 (by omega)
        have HN3 : Hid (Bg w3 (w.heap.size + 1) M1) := hg3
        clear hg3 hx3 ne2 HB2 HR2 HN2 HQ2
        go_wp2_with fail
        refine (newInt_any d _ hdb).mono ?_
        rintro e w4 ⟨q4, rfl, hq4, hg4, hb4⟩
        have HB4 : Hid (Below w.heap.size w w4) := bel_step HB3.out hb4
        have HR4 : Hid (Blk w4 w.heap.size #[.int .i64 0, .int .i64 0, .int .i64 0, .int .i64 0] 51) := HR3.out.next hb4
        have N4 := HN3.out.below hb4
        have nl := HN3.out.ob.lt
        have ne4 : q4 ≠ w.heap.size + 1 := by omega
        have HN4 : Hid (Bg w4 (w.heap.size + 1) M1) := N4
        have HQ4 : Hid (Bg w4 q4 d) := hg4
        clear hb4 hg4 hq4 HB3 HR3 N4 nl HN3
        go_wp2_with fail
        refine (Add_any (w.heap.size + 1) (w.heap.size + 1) q4 M1 d _ HN4.out HQ4.out HN4.out.ob ne4 HLL.out.2.2.1 HLL.out.2.2.2).mono ?_
        rintro e w5 ⟨rfl, hg5, hx5⟩
        rw [HEE.out.2] at hg5
        have HRP : Hid (Rp w w5 M2) := ⟨hx5.below HB4.out (by omega), pz_ex HR4.out hx5 (by omega), hg5⟩
        clear hg5 hx5 ne4 HB4 HR4 HN4 HQ4
        go_wp2_with fail
        go_roundw
        case rel => exact ⟨k + 1, M2, by omega, by go_num, HAA.out.1, HAA.out.2, HRP.out⟩
        case measure => simp [intOf]; omega
    · have hk20 : k = 20 := by omega
      have hkt : s.data.toList.take k = s.data.toList := List.take_of_length_le (by rw [len_eq, HS.out]; omega)
      have hok : allD s.data.toList = true := by have := HK.out.1; rwa [hkt] at this
      have hMv : dv s.data.toList = M := by have := HK.out.2; rwa [hkt] at this
      have hlen : s.data.toList.length = 20 := by rw [len_eq]; exact HS.out
      have hM20 : M < 100000000000000000000 := by
        have h1 := dv_lt _ hok
        rw [hMv, hlen] at h1
        exact h1
      have hkn : ¬ (k : Int) < 20 := by omega
      have HBr : Hid (Below w.heap.size w wr) := hr.below
      have HRr : Hid (Blk wr w.heap.size #[.int .i64 0, .int .i64 0, .int .i64 0, .int .i64 0] 51) := hr.res
      have HNr : Hid (Bg wr (w.heap.size + 1) M) := hr.num
      have HBL : Hid (Calls Tryz.prog 67 #[.pointer (some ⟨w.heap.size + 1, 0, none⟩)] wr fun e w' => LenPost wr M e w') := bitLen_any _ _ _ hr.num (len100 (Nat.lt_trans hM20 (by decide)))
      by_cases hbig : 73786976294838206464 ≤ M
      · have EE : Hid (parseE s.data.toList = 2 ∧ parseV s.data.toList = noTok) := parse_big hlen hok (by rw [hMv]; exact hbig)
        have HBG : Hid (∀ L, BitsOf M L → 66 < L) := fun L hL => (bits_gt hL).2 hbig
        clear hk20 hkt hok hMv hlen hM20 hr HK HS hp
        go_wp2_with fail
        refine HBL.out.mono ?_
        rintro e w1 ⟨rfl, L, rfl, hL, hL2⟩
        have hL66 : (66 : Int) < (L : Int) := by have := HBG.out L hL; omega
        clear HBL HBG hL HNr
        have hR := HRr.out
        have hB := HBr.out
        clear HRr HBr
        have RR := (((hR.set 0 (.int .i64 0)).set 1 (.int .i64 0)).set 2 (.int .i64 0)).set 3 (.int .i64 0)
        have HBB : Hid (Below w.heap.size w (((((w1).setCell ⟨w.heap.size, 0, none⟩ (.int .i64 0)).setCell ⟨w.heap.size, 1, none⟩ (.int .i64 0)).setCell ⟨w.heap.size, 2, none⟩ (.int .i64 0)).setCell ⟨w.heap.size, 3, none⟩ (.int .i64 0))) := bel_set (bel_set (bel_set (bel_set hB _ _ _ (Nat.le_refl _)) _ _ _ (Nat.le_refl _)) _ _ _ (Nat.le_refl _)) _ _ _ (Nat.le_refl _)
        have R0 : Hid (_ = _) := RR.cell 0
        have R1 : Hid (_ = _) := RR.cell 1
        have R2 : Hid (_ = _) := RR.cell 2
        have R3 : Hid (_ = _) := RR.cell 3
        have p0 := hR.cell 0
        have p1 := hR.cell 1
        have p2 := hR.cell 2
        have p3 := hR.cell 3
        have f0 := hR.free 0
        have f1 := hR.free 1
        have f2 := hR.free 2
        have f3 := hR.free 3
        clear RR
        go_wp2_with fail
        refine bodyPost_ret (v := .tuple #[.agg #[.int .i64 0, .int .i64 0, .int .i64 0, .int .i64 0], .int .i64 2]) (by simp [results, Tryz.results37, R0.out, R1.out, R2.out, R3.out, go_sem]) rfl ⟨by rw [EE.out.1, EE.out.2]; rfl, HBB.out⟩
      · have HBG : Hid (∀ L, BitsOf M L → ¬ 66 < L) := fun L hL h => hbig ((bits_gt hL).1 h)
        have hMs : M < 73786976294838206464 := by omega
        obtain ⟨q, hq⟩ : ∃ q, M / 97 = q := ⟨_, rfl⟩
        obtain ⟨r, hrr⟩ : ∃ r, M % 97 = r := ⟨_, rfl⟩
        have hqb : q < 1152921504606846976 := by omega
        have HQB : Hid (q < 1152921504606846976) := hqb
        have HQR : Hid (∀ z y r' W, Bg W (w.heap.size + 1) M → Bg W y 97 → Ob W z → Ob W r' → r' ≠ z → Calls Tryz.prog 68 #[.pointer (some ⟨z, 0, none⟩), .pointer (some ⟨w.heap.size + 1, 0, none⟩), .pointer (some ⟨y, 0, none⟩), .pointer (some ⟨r', 0, none⟩)] W fun e w' => QuoPost W z r' q r e w') := fun z y r' W h1 h2 h3 h4 h5 => by
          rw [← hq, ← hrr]
          exact quoRem_any z (w.heap.size + 1) y r' M 97 W h1 h2 h3 h4 h5 (by decide) (by decide) (by have := dig_len (m := M) 3 (by omega); omega)
        have HPE : Hid ((r ≠ 0 → parseE s.data.toList = 8 ∧ parseV s.data.toList = noTok) ∧ (r = 0 → okB (tokOf q) = false → parseE s.data.toList = 2 ∧ parseV s.data.toList = noTok) ∧ (r = 0 → okB (tokOf q) = true → parseE s.data.toList = 0 ∧ parseV s.data.toList = (tokOf q).v)) := by
          refine ⟨fun h1 => parse_chk hlen hok (by rw [hMv]; exact hMs) (by rw [hMv, hrr]; exact h1), fun h1 h2 => parse_no hlen hok (by rw [hMv]; exact hMs) (by rw [hMv, hrr]; exact h1) (by rw [hMv, hq]; exact h2), fun h1 h2 => ?_⟩
          have := parse_ok hlen hok (by rw [hMv]; exact hMs) (by rw [hMv, hrr]; exact h1) (by rw [hMv, hq]; exact h2)
          rwa [hMv, hq] at this
        clear hk20 hkt hok hMv hlen hM20 hr HK HS hp hbig hMs hq hrr hqb
        go_wp2_with fail
        refine HBL.out.mono ?_
        rintro e w1 ⟨rfl, L, rfl, hL, hL2⟩
        have hL66 : ¬ (66 : Int) < (L : Int) := by have := HBG.out L hL; omega
        have HB2 : Hid (Below w.heap.size w (w1.alloc (.cells #[.bool false, .slice none 0 0] 104))) := HBr.out.alloc HBr.out.size _
        have HR2 : Hid (Blk (w1.alloc (.cells #[.bool false, .slice none 0 0] 104)) w.heap.size #[.int .i64 0, .int .i64 0, .int .i64 0, .int .i64 0] 51) := HRr.out.alloc _
        have HN2 : Hid (Bg (w1.alloc (.cells #[.bool false, .slice none 0 0] 104)) (w.heap.size + 1) M) := HNr.out.below ((Below.refl _ _).alloc (Nat.le_refl _) _)
        have HZ2 : Hid (Blk (w1.alloc (.cells #[.bool false, .slice none 0 0] 104)) w1.heap.size #[.bool false, .slice none 0 0] 104) := Blk.new _ _ _
        have HF2 : Hid (w.heap.size + 1 < w1.heap.size) := HNr.out.ob.lt
        clear HBL HBG hL HNr HRr HBr
        go_wp2_with fail
        refine (newInt_any 97 _ (by decide)).mono ?_
        rintro e w2 ⟨y, rfl, hy, hg2, hb2⟩
        have HB3 : Hid (Below w.heap.size w (w2.alloc (.cells #[.bool false, .slice none 0 0] 104))) := (bel_step HB2.out hb2).alloc (bel_step HB2.out hb2).size _
        have HR3 : Hid (Blk (w2.alloc (.cells #[.bool false, .slice none 0 0] 104)) w.heap.size #[.int .i64 0, .int .i64 0, .int .i64 0, .int .i64 0] 51) := (HR2.out.next hb2).alloc _
        have HN3 : Hid (Bg (w2.alloc (.cells #[.bool false, .slice none 0 0] 104)) (w.heap.size + 1) M) := (HN2.out.below hb2).below ((Below.refl _ _).alloc (Nat.le_refl _) _)
        have HY3 : Hid (Bg (w2.alloc (.cells #[.bool false, .slice none 0 0] 104)) y 97) := hg2.below ((Below.refl _ _).alloc (Nat.le_refl _) _)
        have HZ3 : Hid (Blk (w2.alloc (.cells #[.bool false, .slice none 0 0] 104)) w1.heap.size #[.bool false, .slice none 0 0] 104) := (HZ2.out.next hb2).alloc _
        have HT3 : Hid (Blk (w2.alloc (.cells #[.bool false, .slice none 0 0] 104)) w2.heap.size #[.bool false, .slice none 0 0] 104) := Blk.new _ _ _
        have HF3 : Hid (w2.heap.size ≠ w1.heap.size) := Nat.ne_of_gt (HZ2.out.next hb2).lt
        have HG3 : Hid (w.heap.size + 1 < w2.heap.size) := (HN2.out.below hb2).ob.lt
        clear hb2 hg2 hy HB2 HR2 HN2 HZ2
        go_wp2_with fail
        refine (HQR.out _ _ _ _ HN3.out HY3.out ⟨_, _, _, _, HZ3.out⟩ ⟨_, _, _, _, HT3.out⟩ HF3.out).mono ?_
        rintro e w3 ⟨rfl, hgq, hgr, hx3⟩
        have HB4 : Hid (Below w.heap.size w w3) := ex2_below HB3.out hx3 (by have := HF2.out; omega) (by have := HG3.out; omega)
        have HR4 : Hid (Blk w3 w.heap.size #[.int .i64 0, .int .i64 0, .int .i64 0, .int .i64 0] 51) := ex2_blk HR3.out hx3 (by have := HF2.out; omega) (by have := HG3.out; omega)
        have HGQ : Hid (Bg w3 w1.heap.size q) := hgq
        have HGR : Hid (Bg w3 w2.heap.size r) := hgr
        clear hx3 hgq hgr HB3 HR3 HN3 HY3 HZ3 HT3 HF3 HG3 HQR HF2
        by_cases hr0 : r = 0
        · subst hr0
          have hP2 := HPE.out.2.1 rfl
          have hP0 := HPE.out.2.2 rfl
          have HBQ : Hid (Calls Tryz.prog 67 #[.pointer (some ⟨w1.heap.size, 0, none⟩)] w3 fun e w' => LenPost w3 q e w') := bitLen_any _ _ _ HGQ.out (by have h0 := HQB.out; exact len100 (Nat.lt_trans h0 (by decide)))
          by_cases hq59 : 576460752303423488 ≤ q
          · have EE : Hid (parseE s.data.toList = 2 ∧ parseV s.data.toList = noTok) := hP2 (by
              have h0 := HQB.out
              have h1 : ¬ (tokOf q).c ≤ 3 := by show ¬ q / 144115188075855872 % 8 ≤ 3; omega
              unfold okB
              simp [h1])
            have HBG : Hid (∀ L, BitsOf q L → 59 < L) := fun L hL => (bits_gt hL).2 hq59
            clear hP2 hP0 HPE hq59 HQB
            go_wp2_with fail
            refine (sign_zero _ _ HGR.out).mono ?_
            rintro e w4 ⟨rfl, rfl⟩
            go_wp2_with fail
            refine HBQ.out.mono ?_
            rintro e w5 ⟨rfl, L', rfl, hL', hL2'⟩
            have hL59 : (59 : Int) < (L' : Int) := by have := HBG.out L' hL'; omega
            have hR := HR4.out
            have hB := HB4.out
            clear HBQ HBG hL' HR4 HB4 HGQ HGR
            have RR := (((hR.set 0 (.int .i64 0)).set 1 (.int .i64 0)).set 2 (.int .i64 0)).set 3 (.int .i64 0)
            have HBB : Hid (Below w.heap.size w (((((w5).setCell ⟨w.heap.size, 0, none⟩ (.int .i64 0)).setCell ⟨w.heap.size, 1, none⟩ (.int .i64 0)).setCell ⟨w.heap.size, 2, none⟩ (.int .i64 0)).setCell ⟨w.heap.size, 3, none⟩ (.int .i64 0))) := bel_set (bel_set (bel_set (bel_set hB _ _ _ (Nat.le_refl _)) _ _ _ (Nat.le_refl _)) _ _ _ (Nat.le_refl _)) _ _ _ (Nat.le_refl _)
            have R0 : Hid (_ = _) := RR.cell 0
            have R1 : Hid (_ = _) := RR.cell 1
            have R2 : Hid (_ = _) := RR.cell 2
            have R3 : Hid (_ = _) := RR.cell 3
            have p0 := hR.cell 0
            have p1 := hR.cell 1
            have p2 := hR.cell 2
            have p3 := hR.cell 3
            have f0 := hR.free 0
            have f1 := hR.free 1
            have f2 := hR.free 2
            have f3 := hR.free 3
            clear RR
            go_wp2_with fail
            refine bodyPost_ret (v := .tuple #[.agg #[.int .i64 0, .int .i64 0, .int .i64 0, .int .i64 0], .int .i64 2]) (by simp [results, Tryz.results37, R0.out, R1.out, R2.out, R3.out, go_sem]) rfl ⟨by rw [EE.out.1, EE.out.2]; rfl, HBB.out⟩
          · have HBG : Hid (∀ L, BitsOf q L → ¬ 59 < L) := fun L hL h => hq59 ((bits_gt hL).1 h)
            have hqs : q < 576460752303423488 := by omega
            have HI : Hid (Calls Tryz.prog 70 #[.pointer (some ⟨w1.heap.size, 0, none⟩)] w3 fun e w' => e = .returned (.int .i64 (q : Int)) ∧ w' = w3) := int64_any _ _ _ HGQ.out (by omega)
            have HQS : Hid (q < 576460752303423488) := hqs
            clear HPE hq59 HQB hqs
            have HP2 : Hid (okB (tokOf q) = false → parseE s.data.toList = 2 ∧ parseV s.data.toList = noTok) := hP2
            have HP0 : Hid (okB (tokOf q) = true → parseE s.data.toList = 0 ∧ parseV s.data.toList = (tokOf q).v) := hP0
            clear hP2 hP0
            go_wp2_with fail
            refine (sign_zero _ _ HGR.out).mono ?_
            rintro e w4 ⟨rfl, rfl⟩
            go_wp2_with fail
            refine HBQ.out.mono ?_
            rintro e w5 ⟨rfl, L', rfl, hL', hL2'⟩
            have hL59 : ¬ (59 : Int) < (L' : Int) := by have := HBG.out L' hL'; omega
            clear HBQ HBG hL'
            go_wp2_with fail
            refine HI.out.mono ?_
            rintro e w6 ⟨rfl, rfl⟩
            go_wp2_with fail
            have HTV : Hid (((tokOf q).c : Int) = (q : Int) / 144115188075855872 ∧ ((tokOf q).i : Int) = (q : Int) / 137438953472 % 1048576 ∧ ((tokOf q).a : Int) = (q : Int) / 65536 % 2097152 ∧ ((tokOf q).t : Int) = (q : Int) % 65536) := by
              have h0 := HQS.out
              refine ⟨?_, ?_, ?_, ?_⟩
              · show ((q / 144115188075855872 % 8 : Nat) : Int) = _; omega
              · show ((q / 137438953472 % 1048576 : Nat) : Int) = _; omega
              · show ((q / 65536 % 2097152 : Nat) : Int) = _; omega
              · show ((q % 65536 : Nat) : Int) = _; omega
            generalize (q : Int) / 144115188075855872 = A1 at *
            generalize (q : Int) / 137438953472 % 1048576 = A2 at *
            generalize (q : Int) / 65536 % 2097152 = A3 at *
            generalize (q : Int) % 65536 = A4 at *
            have HB7 : Hid (Below w.heap.size w (w6.alloc (.cells #[.int .i64 A1, .int .i64 A2, .int .i64 A3, .int .i64 A4] 51))) := HB4.out.alloc HB4.out.size _
            have HR7 : Hid (Blk (w6.alloc (.cells #[.int .i64 A1, .int .i64 A2, .int .i64 A3, .int .i64 A4] 51)) w.heap.size #[.int .i64 0, .int .i64 0, .int .i64 0, .int .i64 0] 51) := HR4.out.alloc _
            have HK7 : Hid (Blk (w6.alloc (.cells #[.int .i64 A1, .int .i64 A2, .int .i64 A3, .int .i64 A4] 51)) w6.heap.size #[.int .i64 A1, .int .i64 A2, .int .i64 A3, .int .i64 A4] 51) := Blk.new _ _ _
            have HVV : Hid ((tokOf q).v = .agg #[.int .i64 A1, .int .i64 A2, .int .i64 A3, .int .i64 A4]) := by
              show Value.agg #[.int .i64 ((tokOf q).c : Int), .int .i64 ((tokOf q).i : Int), .int .i64 ((tokOf q).a : Int), .int .i64 ((tokOf q).t : Int)] = _
              rw [HTV.out.1, HTV.out.2.1, HTV.out.2.2.1, HTV.out.2.2.2]
            have HFW : Hid (flawT A1 A2 A3 A4 = 0 ↔ okB (tokOf q) = true) := by
              show _ ↔ _
              rw [← HTV.out.1, ← HTV.out.2.1, ← HTV.out.2.2.1, ← HTV.out.2.2.2, flaw_tok, okB_ok]
            clear HTV HB4 HR4 HGQ HGR HI HQS
            refine (fault_any A1 A2 A3 A4 _).mono ?_
            rintro e w7 ⟨he7, hb7⟩
            have hR := HR7.out.next hb7
            have hB := bel_step HB7.out hb7
            have hK := HK7.out.next hb7
            clear HB7 HR7 HK7 hb7
            have HE7 : Hid (e = .returned (.int .i64 (flawT A1 A2 A3 A4))) := he7
            clear he7
            cases hokb : okB (tokOf q) with
            | true =>
              have hf0 := HFW.out.2 hokb
              rw [hf0] at HE7
              obtain rfl := HE7.out
              have EE : Hid (parseE s.data.toList = 0 ∧ parseV s.data.toList = .agg #[.int .i64 A1, .int .i64 A2, .int .i64 A3, .int .i64 A4]) := by
                have := HP0.out hokb
                rwa [HVV.out] at this
              have l0 := hK.cell 0
              have l1 := hK.cell 1
              have l2 := hK.cell 2
              have l3 := hK.cell 3
              clear HE7 hf0 hokb HP0 HP2 HFW HVV hK
              have RR := (((hR.set 0 (.int .i64 A1)).set 1 (.int .i64 A2)).set 2 (.int .i64 A3)).set 3 (.int .i64 A4)
              have HBB : Hid (Below w.heap.size w (((((w7).setCell ⟨w.heap.size, 0, none⟩ (.int .i64 A1)).setCell ⟨w.heap.size, 1, none⟩ (.int .i64 A2)).setCell ⟨w.heap.size, 2, none⟩ (.int .i64 A3)).setCell ⟨w.heap.size, 3, none⟩ (.int .i64 A4))) := bel_set (bel_set (bel_set (bel_set hB _ _ _ (Nat.le_refl _)) _ _ _ (Nat.le_refl _)) _ _ _ (Nat.le_refl _)) _ _ _ (Nat.le_refl _)
              have R0 : Hid (_ = _) := RR.cell 0
              have R1 : Hid (_ = _) := RR.cell 1
              have R2 : Hid (_ = _) := RR.cell 2
              have R3 : Hid (_ = _) := RR.cell 3
              have p0 := hR.cell 0
              have p1 := hR.cell 1
              have p2 := hR.cell 2
              have p3 := hR.cell 3
              have f0 := hR.free 0
              have f1 := hR.free 1
              have f2 := hR.free 2
              have f3 := hR.free 3
              clear RR
              go_wp2_with fail
              refine bodyPost_ret (v := .tuple #[.agg #[.int .i64 A1, .int .i64 A2, .int .i64 A3, .int .i64 A4], .int .i64 0]) (by simp [results, Tryz.results37, R0.out, R1.out, R2.out, R3.out, go_sem]) rfl ⟨by rw [EE.out.1, EE.out.2], HBB.out⟩
            | false =>
              have hf0 : flawT A1 A2 A3 A4 ≠ 0 := fun h => by rw [HFW.out.1 h] at hokb; cases hokb
              have hff : (flawT A1 A2 A3 A4 != 0) = true := by simpa using hf0
              have EE : Hid (parseE s.data.toList = 2 ∧ parseV s.data.toList = noTok) := HP2.out hokb
              obtain rfl := HE7.out
              clear HE7 hf0 hokb HP0 HP2 HFW HVV hK
              generalize flawT A1 A2 A3 A4 = ff at *
              have RR := (((hR.set 0 (.int .i64 0)).set 1 (.int .i64 0)).set 2 (.int .i64 0)).set 3 (.int .i64 0)
              have HBB : Hid (Below w.heap.size w (((((w7).setCell ⟨w.heap.size, 0, none⟩ (.int .i64 0)).setCell ⟨w.heap.size, 1, none⟩ (.int .i64 0)).setCell ⟨w.heap.size, 2, none⟩ (.int .i64 0)).setCell ⟨w.heap.size, 3, none⟩ (.int .i64 0))) := bel_set (bel_set (bel_set (bel_set hB _ _ _ (Nat.le_refl _)) _ _ _ (Nat.le_refl _)) _ _ _ (Nat.le_refl _)) _ _ _ (Nat.le_refl _)
              have R0 : Hid (_ = _) := RR.cell 0
              have R1 : Hid (_ = _) := RR.cell 1
              have R2 : Hid (_ = _) := RR.cell 2
              have R3 : Hid (_ = _) := RR.cell 3
              have p0 := hR.cell 0
              have p1 := hR.cell 1
              have p2 := hR.cell 2
              have p3 := hR.cell 3
              have f0 := hR.free 0
              have f1 := hR.free 1
              have f2 := hR.free 2
              have f3 := hR.free 3
              clear RR
              go_wp2_with fail
              refine bodyPost_ret (v := .tuple #[.agg #[.int .i64 0, .int .i64 0, .int .i64 0, .int .i64 0], .int .i64 2]) (by simp [results, Tryz.results37, R0.out, R1.out, R2.out, R3.out, go_sem]) rfl ⟨by rw [EE.out.1, EE.out.2]; rfl, HBB.out⟩
        · have EE : Hid (parseE s.data.toList = 8 ∧ parseV s.data.toList = noTok) := HPE.out.1 hr0
          have HSG : Hid (Calls Tryz.prog 69 #[.pointer (some ⟨w2.heap.size, 0, none⟩)] w3 fun e w' => e = .returned (.int .i64 1) ∧ w' = w3) := sign_pos _ _ _ HGR.out hr0
          clear HPE hr0 HQB
          go_wp2_with fail
          refine HSG.out.mono ?_
          rintro e w4 ⟨rfl, rfl⟩
          have hR := HR4.out
          have hB := HB4.out
          clear HSG HR4 HB4 HGQ HGR
          have RR := (((hR.set 0 (.int .i64 0)).set 1 (.int .i64 0)).set 2 (.int .i64 0)).set 3 (.int .i64 0)
          have HBB : Hid (Below w.heap.size w (((((w4).setCell ⟨w.heap.size, 0, none⟩ (.int .i64 0)).setCell ⟨w.heap.size, 1, none⟩ (.int .i64 0)).setCell ⟨w.heap.size, 2, none⟩ (.int .i64 0)).setCell ⟨w.heap.size, 3, none⟩ (.int .i64 0))) := bel_set (bel_set (bel_set (bel_set hB _ _ _ (Nat.le_refl _)) _ _ _ (Nat.le_refl _)) _ _ _ (Nat.le_refl _)) _ _ _ (Nat.le_refl _)
          have R0 : Hid (_ = _) := RR.cell 0
          have R1 : Hid (_ = _) := RR.cell 1
          have R2 : Hid (_ = _) := RR.cell 2
          have R3 : Hid (_ = _) := RR.cell 3
          have p0 := hR.cell 0
          have p1 := hR.cell 1
          have p2 := hR.cell 2
          have p3 := hR.cell 3
          have f0 := hR.free 0
          have f1 := hR.free 1
          have f2 := hR.free 2
          have f3 := hR.free 3
          clear RR
          go_wp2_with fail
          refine bodyPost_ret (v := .tuple #[.agg #[.int .i64 0, .int .i64 0, .int .i64 0, .int .i64 0], .int .i64 8]) (by simp [results, Tryz.results37, R0.out, R1.out, R2.out, R3.out, go_sem]) rfl ⟨by rw [EE.out.1, EE.out.2]; rfl, HBB.out⟩

end Go.Proofs.YtlicdeppfhmfjaaGreatDoor.token

/- The contract of vendmeterref.Parsed, that the receipts lean on. -/
namespace Go.Proofs.YtlicdeppfhmfjaaGreatDoor.rcp
open Go.RowKit

theorem kpar : KPar := fun s w => by
  by_cases h : s.size = 20
  · exact token.parsed_any s w h
  · have hl := check.len_eq s
    obtain ⟨e1, e2⟩ := token.parse_len (l := s.data.toList) (by omega)
    rw [e1, e2]
    exact token.parsed_len s w h

end Go.Proofs.YtlicdeppfhmfjaaGreatDoor.rcp

/- A receipt that came in. -/
namespace Go.Proofs.YtlicdeppfhmfjaaGreatDoor.rcp
open Go.ChangeShapes Go.WideShapes Go.ChangeAt Go.RowKit Go.Deep
set_option maxRecDepth 100000
set_option linter.unusedVariables false

theorem open_rec {H : Type} {enc : TypeId × Value → H} {W : World} {r : Reach} {b0 b1 : Nat} {spare : Nat → Bool} {held : Bool} {v : Value} {d : DataW H} {ps : List MemPlace}
    (hval : Value.okWide Tryz.prog W r b0 25 v) (h : DataW.Trod enc Tryz.prog W b1 spare held 25 v d ps) :
    ∃ x : Rc, v = x.v ∧ wf8 x := by
  have hu := Tryz.underlying25
  have hc : Tryz.prog.cellsOf 25 = 9 := by kernel_rfl
  have ci : Tryz.prog.cellsOf 3 = 1 := by kernel_rfl
  have cb : Tryz.prog.cellsOf 23 = 7 := by kernel_rfl
  obtain ⟨cs, rfl, hsz⟩ := okWide_struct hu hval
  rw [hc] at hsz
  obtain ⟨c0, c1, c2, c3, c4, c5, c6, c7, c8, rfl⟩ : ∃ c0 c1 c2 c3 c4 c5 c6 c7 c8, cs = #[c0, c1, c2, c3, c4, c5, c6, c7, c8] := by
    cases cs with
    | mk l => match l, hsz with
      | [c0, c1, c2, c3, c4, c5, c6, c7, c8], _ => exact ⟨c0, c1, c2, c3, c4, c5, c6, c7, c8, rfl⟩
  obtain ⟨fuel, hf⟩ := h
  obtain ⟨xs, n, _, _, _, hlen, hg⟩ := DataW.trod_struct hu hf
  have cst : Tryz.prog.cellsOf 9 = 1 := by kernel_rfl
  match xs, hlen with
  | [y0, y1, y2], _ =>
    have g0 := hg 0 _ rfl
    have g1 := hg 1 _ rfl
    have g2 := hg 2 _ rfl
    simp [Value.cells, ci, cb, cst] at g0 g1 g2
    obtain ⟨x0, e0, -, w0⟩ := DataW.trod_int Tryz.underlying3 g0
    obtain ⟨s, es, -, -⟩ := DataW.trod_string Tryz.underlying9 g2
    obtain ⟨ys, k, _, _, _, hlen2, hq⟩ := DataW.trod_struct Tryz.underlying23 g1
    match ys, hlen2 with
    | [z0, z1, z2, z3, z4, z5, z6], _ =>
      have q0 := hq 0 _ rfl
      have q1 := hq 1 _ rfl
      have q2 := hq 2 _ rfl
      have q3 := hq 3 _ rfl
      have q4 := hq 4 _ rfl
      have q5 := hq 5 _ rfl
      have q6 := hq 6 _ rfl
      simp [ci] at q0 q1 q2 q3 q4 q5 q6
      obtain ⟨x1, e1, -, w1⟩ := DataW.trod_int Tryz.underlying3 q0
      obtain ⟨x2, e2, -, w2⟩ := DataW.trod_int Tryz.underlying3 q1
      obtain ⟨x3, e3, -, w3⟩ := DataW.trod_int Tryz.underlying3 q2
      obtain ⟨x4, e4, -, w4⟩ := DataW.trod_int Tryz.underlying3 q3
      obtain ⟨x5, e5, -, w5⟩ := DataW.trod_int Tryz.underlying3 q4
      obtain ⟨x6, e6, -, w6⟩ := DataW.trod_int Tryz.underlying3 q5
      obtain ⟨x7, e7, -, w7⟩ := DataW.trod_int Tryz.underlying3 q6
      simp at e0 e1 e2 e3 e4 e5 e6 e7 es
      subst e0 e1 e2 e3 e4 e5 e6 e7 es
      exact ⟨⟨x0, x1, x2, x3, x4, x5, x6, x7, s.data.toList⟩, rfl, ⟨w0, w1, w2, w3⟩, w4, w5, w6, w7⟩

end Go.Proofs.YtlicdeppfhmfjaaGreatDoor.rcp

/- The two tables of token, out of what a row says of them; raw numbers that came in. -/
namespace Go.Proofs.YtlicdeppfhmfjaaGreatDoor.token
open Go.ChangeShapes Go.WideShapes Go.ChangeAt Go.RowKit Go.Deep
set_option maxRecDepth 100000

theorem laid_tail {P : Program} {x : String × DataW Unit} {rest : List (String × DataW Unit)} {W : World} (h : laidMet P (x :: rest) W) : laidMet P rest W := by
  obtain ⟨ps, ⟨g, t, cs, fuel, p, q, _, _, _, _, hrest, hps⟩, hnd, hcell⟩ := h
  subst hps
  exact ⟨q, hrest, (List.nodup_append.1 hnd).2.1, fun b off hm => hcell b off (List.mem_append_right _ hm)⟩
theorem ttab_of {W : World} {n1 n2 : String} (h1 : Tryz.prog.globalNamed n1 = some 0) (h2 : Tryz.prog.globalNamed n2 = some 1)
    (h : laidMet Tryz.prog [(n1, .agg [.agg [.lit (.int .i64 57), .lit (.int .i64 3)], .agg [.lit (.int .i64 37), .lit (.int .i64 20)], .agg [.lit (.int .i64 16), .lit (.int .i64 21)], .agg [.lit (.int .i64 0), .lit (.int .i64 16)]]),
      (n2, .agg [.agg [.lit (.int .i64 1), .lit (.int .i64 2097151)], .agg [.lit (.int .i64 0), .lit (.int .i64 0)], .agg [.lit (.int .i64 1), .lit (.int .i64 15)], .agg [.lit (.int .i64 0), .lit (.int .i64 0)]])] W) : TTab W :=
  ⟨eight_of h1 (by kernel_rfl) Tryz.underlying135 (by kernel_rfl) (by kernel_rfl) Tryz.underlying134 (by kernel_rfl) Tryz.underlying3 rfl rfl h,
   eight_of h2 (by kernel_rfl) Tryz.underlying140 (by kernel_rfl) (by kernel_rfl) Tryz.underlying139 (by kernel_rfl) Tryz.underlying3 rfl rfl (laid_tail h)⟩

end Go.Proofs.YtlicdeppfhmfjaaGreatDoor.token

/- What a list of laid variables gives: the tail of the list; an error that is there; a number that is there. -/
namespace Go.Proofs.YtlicdeppfhmfjaaGreatDoor.rct
open Go.RowKit

theorem met_tail {P : Program} {x : String × DataW Unit} {rest : List (String × DataW Unit)} {W : World} (h : laidMet P (x :: rest) W) : laidMet P rest W := by
  obtain ⟨ps, hv, hn, hc⟩ := h
  obtain ⟨g', t', cs, fuel, p, q, hg', ht', hvar, hd, hr, rfl⟩ := hv
  exact ⟨q, hr, (List.nodup_append.1 hn).2.1, fun b off hm => hc b off (List.mem_append_right _ hm)⟩
theorem err_of {P : Program} {n nm : String} {d : DataW Unit} {rest : List (String × DataW Unit)} {W : World} {g : Nat} {ti : TypeId} {ms : Array (String × TypeId)} (h : laidMet P ((n, .iface nm d) :: rest) W)
    (hg : P.globalNamed n = some g) (ht : (P.globals[g]?).map (·.type) = some ti) (hi : P.underlying ti = some (.interface ms)) :
    ∃ tp p, W.var? P n = some #[.iface tp p] := by
  obtain ⟨ps, ⟨g0, t0, cs0, f0, p0, q0, hg0, ht0, hv0, hd0, _, e0⟩, _, _⟩ := h
  obtain rfl := Option.some.inj (hg.symm.trans hg0)
  obtain rfl := Option.some.inj (ht.symm.trans ht0)
  obtain ⟨f1, u, v, hcs, _, _⟩ := iface_of_trod hi hd0
  refine ⟨u, v, ?_⟩
  rw [hv0]
  obtain ⟨l0⟩ := cs0
  simp only at hcs
  rw [hcs]

end Go.Proofs.YtlicdeppfhmfjaaGreatDoor.rct
