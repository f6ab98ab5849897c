/- The three tables, out of what the statement lists. -/
import Derived.Test.YtkobdkkgkpgcbaaDoorKpTyped
import Derived.Test.YtkobdkkgkpgcbaaDoorRows
import Derived.WalkKit
import Derived.ProofKit
import Derived.Lib.LaidTab
namespace Go.Proofs.YtkobdkkgkpgcbaaDoor.keypad
open Go.ChangeShapes Go.WideShapes Go.ChangeAt Go.RowKit
set_option maxRecDepth 100000

/-- The cells of acceptRanges. -/
def acc : List Int := (List.range 16).flatMap fun i => [(Lib.accLo i : Int), (Lib.accHi i : Int)]
theorem met_tail {P : Program} {x : String × DataW Unit} {rest : List (String × DataW Unit)} {W : World} (h : laidMet P (x :: rest) W) : laidMet P rest W := by
  obtain ⟨ps, hv, hn, hc⟩ := h
  obtain ⟨g', t', cs, fuel, p, q, hg', ht', hvar, hd, hr, rfl⟩ := hv
  exact ⟨q, hr, (List.nodup_append.1 hn).2.1, fun b off hm => hc b off (List.mem_append_right _ hm)⟩
theorem first_eq : Rows.laid_unicode_utf8_first = Lib.firstData := by kernel_rfl
theorem acc_eq : (Rows.laid_unicode_utf8_acceptRanges : DataW Unit) = Lib.acceptData := by kernel_rfl
theorem gN : (Tryd.prog.globals[0]?).map (·.type) = some 56 := by kernel_rfl
theorem cN : Tryd.prog.cellsOf 56 = 6 := by kernel_rfl
theorem cI : Tryd.prog.cellsOf 21 = 1 := by kernel_rfl
theorem extra : U8Extra Tryd.prog Tryd.lays260_ren := ⟨by kernel_rfl, by kernel_rfl, by kernel_rfl, by kernel_rfl, by kernel_rfl, by kernel_rfl, by kernel_rfl⟩
theorem ktab_of {W : World} (h : laidMetH Tryd.prog Rows.padKeysRow.laid W) : KTab W := by
  have h' : laidMet Tryd.prog Rows.padKeysRow.laid W := h
  refine ⟨ntab_of (by kernel_rfl) (Lib.tabIs_of_head (g := 0) (by kernel_rfl) gN Tryd.underlying56 Tryd.underlying21 cI cN (met_tail h')), ?_⟩
  have r1 := Lib.laidMet.reads h' (n := (Rows.padKeysRow.laid.getD 0 (default, .nil)).1) (d := Rows.laid_unicode_utf8_acceptRanges) (.head _)
  have r2 := Lib.laidMet.reads h' (n := (Rows.padKeysRow.laid.getD 2 (default, .nil)).1) (d := Rows.laid_unicode_utf8_first) (.tail _ (.tail _ (.head _)))
  rw [acc_eq] at r1
  rw [first_eq] at r2
  exact utf8Tabs_of_readsT (ρ := Tryd.lays260_ren) (U8Types.of260 Tryd.lays260) extra r2 r1

end Go.Proofs.YtkobdkkgkpgcbaaDoor.keypad
