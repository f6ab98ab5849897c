/-
  DERIVED. GIVEN WITH THE SEED: THE PROGRAM's TIES (one call each: nine closed facts by the kernel) AND EACH ROW's TIE, after the 31st guide's Derived/Test/Toyas{Tie, Card}.lean. No idea stands in it: it is a product of the set-up. Laid BY PROGRAM, IN A SANDBOX (cutbox-door.mjs). By AI agents, Wed Nov 11 2026. No macro, syntax, notation, axiom, sorry.
-/
import Derived.Test.YtnpblpbohcegoaaGreatDoorRows
import Derived.LaidByTextLater
import Derived.SevenTiedAt
import Derived.LaidSub
import Derived.LaidOnce
namespace Go.Proofs.YtnpblpbohcegoaaGreatDoor
open Go
set_option maxRecDepth 100000
theorem seatTie1 : Tryz.prog.laidByTextLater [("vendmeter/token.places", Rows.laid_vendmeter_token_places), ("vendmeter/token.amounts", Rows.laid_vendmeter_token_amounts)] [.data, .wider] true :=
  Program.laidByTextLater_by_one 27 8 9 (by kernel_rfl) (by kernel_rfl) (by kernel_rfl) (by kernel_rfl) (by kernel_rfl) (by kernel_rfl) (fun _ _ => by kernel_rfl)
theorem noOwnUnsafe : Tryz.pinned.checked.prog.headLifts.contains "ownunsafe" = false := by kernel_rfl
theorem tie : Tryz.prog.laidByTextLater [("vendmeter/token.places", Rows.laid_vendmeter_token_places), ("vendmeter/token.amounts", Rows.laid_vendmeter_token_amounts)] [.data, .wider] true :=
  Program.laidByTextLater.sub seatTie1 ["vendmeter/token.places", "vendmeter/token.amounts"] (by kernel_rfl) (by kernel_rfl)
theorem vendReprints_row_tie : Rows.vendReprintsRow.laidByTextAt .later Tryz.pinned [.data, .wider] true :=
  OpenClaim.laidByTextAt_later rfl rfl tie noOwnUnsafe
theorem bookNumbers_row_tie : Rows.bookNumbersRow.laidByTextAt .later Tryz.pinned [.data, .wider] true :=
  OpenClaim.laidByTextAt_later rfl rfl tie noOwnUnsafe
theorem bookGrows_row_tie : Rows.bookGrowsRow.laidByTextAt .later Tryz.pinned [.data, .wider] true :=
  OpenClaim.laidByTextAt_later rfl rfl tie noOwnUnsafe
theorem bookTurned_row_tie : Rows.bookTurnedRow.laidByTextAt .later Tryz.pinned [.data, .wider] true :=
  OpenClaim.laidByTextAt_later rfl rfl tie noOwnUnsafe
theorem vendCut_row_tie : Rows.vendCutRow.laidByTextAt .later Tryz.pinned [.data, .wider] true :=
  OpenClaim.laidByTextAt_later rfl rfl tie noOwnUnsafe
theorem vendRetry_row_tie : Rows.vendRetryRow.laidByTextAt .later Tryz.pinned [.data, .wider] true :=
  OpenClaim.laidByTextAt_later rfl rfl tie noOwnUnsafe
theorem vendReprintsUpto_row_tie : Rows.vendReprintsUptoRow.laidByTextAt .later Tryz.pinned [.data, .wider] true :=
  OpenClaim.laidByTextAt_later rfl rfl tie noOwnUnsafe
theorem bookNumbersUpto_row_tie : Rows.bookNumbersUptoRow.laidByTextAt .later Tryz.pinned [.data, .wider] true :=
  OpenClaim.laidByTextAt_later rfl rfl tie noOwnUnsafe
theorem bookGrowsUpto_row_tie : Rows.bookGrowsUptoRow.laidByTextAt .later Tryz.pinned [.data, .wider] true :=
  OpenClaim.laidByTextAt_later rfl rfl tie noOwnUnsafe
theorem bookTurnedUpto_row_tie : Rows.bookTurnedUptoRow.laidByTextAt .later Tryz.pinned [.data, .wider] true :=
  OpenClaim.laidByTextAt_later rfl rfl tie noOwnUnsafe
theorem vendCutUpto_row_tie : Rows.vendCutUptoRow.laidByTextAt .later Tryz.pinned [.data, .wider] true :=
  OpenClaim.laidByTextAt_later rfl rfl tie noOwnUnsafe
theorem vendRetryUpto_row_tie : Rows.vendRetryUptoRow.laidByTextAt .later Tryz.pinned [.data, .wider] true :=
  OpenClaim.laidByTextAt_later rfl rfl tie noOwnUnsafe
end Go.Proofs.YtnpblpbohcegoaaGreatDoor
