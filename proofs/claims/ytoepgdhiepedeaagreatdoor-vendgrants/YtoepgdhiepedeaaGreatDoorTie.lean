/-
  DERIVED. GIVEN WITH THE SEED: THE PROGRAM's TIES (one call each: nine closed facts by the kernel) AND EACH ROW's TIE, after the 31st guide's Derived/Test/Toyas{Tie, Card}.lean. No idea stands in it: it is a product of the set-up. Laid BY PROGRAM, IN A SANDBOX (cutbox-door.mjs). By AI agents, Wed Nov 11 2026. No macro, syntax, notation, axiom, sorry.
-/
import Derived.Test.YtoepgdhiepedeaaGreatDoorRows
import Derived.LaidByTextLater
import Derived.SevenTiedAt
import Derived.LaidSub
import Derived.LaidOnce
namespace Go.Proofs.YtoepgdhiepedeaaGreatDoor
open Go
set_option maxRecDepth 100000
theorem seatTie1 : Tryz.prog.laidByTextLater [("vendmeter/token.places", Rows.laid_vendmeter_token_places), ("vendmeter/token.amounts", Rows.laid_vendmeter_token_amounts)] [.data, .wider] true :=
  Program.laidByTextLater_by_one 27 8 9 (by kernel_rfl) (by kernel_rfl) (by kernel_rfl) (by kernel_rfl) (by kernel_rfl) (by kernel_rfl) (fun _ _ => by kernel_rfl)
theorem noOwnUnsafe : Tryz.pinned.checked.prog.headLifts.contains "ownunsafe" = false := by kernel_rfl
theorem tie : Tryz.prog.laidByTextLater [("vendmeter/token.places", Rows.laid_vendmeter_token_places), ("vendmeter/token.amounts", Rows.laid_vendmeter_token_amounts)] [.data, .wider] true :=
  Program.laidByTextLater.sub seatTie1 ["vendmeter/token.places", "vendmeter/token.amounts"] (by kernel_rfl) (by kernel_rfl)
theorem vendSells_row_tie : Rows.vendSellsRow.laidByTextAt .later Tryz.pinned [.data, .wider] true :=
  OpenClaim.laidByTextAt_later rfl rfl tie noOwnUnsafe
theorem vendGrants_row_tie : Rows.vendGrantsRow.laidByTextAt .later Tryz.pinned [.data, .wider] true :=
  OpenClaim.laidByTextAt_later rfl rfl tie noOwnUnsafe
theorem vendRekeys_row_tie : Rows.vendRekeysRow.laidByTextAt .later Tryz.pinned [.data, .wider] true :=
  OpenClaim.laidByTextAt_later rfl rfl tie noOwnUnsafe
theorem vendSellsUpto_row_tie : Rows.vendSellsUptoRow.laidByTextAt .later Tryz.pinned [.data, .wider] true :=
  OpenClaim.laidByTextAt_later rfl rfl tie noOwnUnsafe
theorem vendGrantsUpto_row_tie : Rows.vendGrantsUptoRow.laidByTextAt .later Tryz.pinned [.data, .wider] true :=
  OpenClaim.laidByTextAt_later rfl rfl tie noOwnUnsafe
theorem vendRekeysUpto_row_tie : Rows.vendRekeysUptoRow.laidByTextAt .later Tryz.pinned [.data, .wider] true :=
  OpenClaim.laidByTextAt_later rfl rfl tie noOwnUnsafe
end Go.Proofs.YtoepgdhiepedeaaGreatDoor
