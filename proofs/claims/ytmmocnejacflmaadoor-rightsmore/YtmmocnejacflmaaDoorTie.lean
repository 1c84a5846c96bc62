/-
  DERIVED. GIVEN WITH THE SEED: THE PROGRAM's TIES (one call each: nine closed facts by the kernel) AND EACH ROW's TIE, after the 31st guide's Derived/Test/Toyas{Tie, Card}.lean. No idea stands in it: it is a product of the set-up. Laid BY PROGRAM, IN A SANDBOX (cutbox-door.mjs). By AI agents, Wed Nov 11 2026. No macro, syntax, notation, axiom, sorry.
-/
import Derived.Test.YtmmocnejacflmaaDoorRows
import Derived.LaidByTextLater
import Derived.SevenTiedAt
import Derived.LaidSub
import Derived.LaidOnce
namespace Go.Proofs.YtmmocnejacflmaaDoor
open Go
set_option maxRecDepth 100000
theorem seatTie1 : Tryd.prog.laidByTextLater [("atlas/rights.byAP", Rows.laid_atlas_rights_byAP), ("atlas/rights.byHalf", Rows.laid_atlas_rights_byHalf), ("atlas/rights.forms", Rows.laid_atlas_rights_forms)] [.data, .data, .data] true :=
  Program.laidByTextLater_by_one 71 8 45 (by kernel_rfl) (by kernel_rfl) (by kernel_rfl) (by kernel_rfl) (by kernel_rfl) (by kernel_rfl) (fun _ _ => by kernel_rfl)
theorem noOwnUnsafe : Tryd.pinned.checked.prog.headLifts.contains "ownunsafe" = false := by kernel_rfl
theorem tie : Tryd.prog.laidByTextLater [("atlas/rights.byAP", Rows.laid_atlas_rights_byAP), ("atlas/rights.byHalf", Rows.laid_atlas_rights_byHalf)] [.data, .data] true :=
  Program.laidByTextLater.sub seatTie1 ["atlas/rights.byAP", "atlas/rights.byHalf"] (by kernel_rfl) (by kernel_rfl)
theorem rightsAllows_row_tie : Rows.rightsAllowsRow.laidByTextAt .later Tryd.pinned [.data, .data] true :=
  OpenClaim.laidByTextAt_later rfl rfl tie noOwnUnsafe
theorem tie2 : Tryd.prog.laidByTextLater [("atlas/rights.forms", Rows.laid_atlas_rights_forms)] [.data] true :=
  Program.laidByTextLater.sub seatTie1 ["atlas/rights.forms"] (by kernel_rfl) (by kernel_rfl)
theorem rightsStatus_row_tie : Rows.rightsStatusRow.laidByTextAt .later Tryd.pinned [.data] true :=
  OpenClaim.laidByTextAt_later rfl rfl tie2 noOwnUnsafe
theorem rightsFault_row_tie : Rows.rightsFaultRow.laidByTextAt .later Tryd.pinned [.data] true :=
  OpenClaim.laidByTextAt_later rfl rfl tie2 noOwnUnsafe
theorem tie3 : Tryd.prog.laidByTextLater [("atlas/rights.byAP", Rows.laid_atlas_rights_byAP), ("atlas/rights.byHalf", Rows.laid_atlas_rights_byHalf), ("atlas/rights.forms", Rows.laid_atlas_rights_forms)] [.data, .data, .data] true :=
  Program.laidByTextLater.sub seatTie1 ["atlas/rights.byAP", "atlas/rights.byHalf", "atlas/rights.forms"] (by kernel_rfl) (by kernel_rfl)
theorem rightsWords_row_tie : Rows.rightsWordsRow.laidByTextAt .later Tryd.pinned [.data, .data, .data] true :=
  OpenClaim.laidByTextAt_later rfl rfl tie3 noOwnUnsafe
theorem rightsMore_row_tie : Rows.rightsMoreRow.laidByTextAt .later Tryd.pinned [.data, .data, .data] true :=
  OpenClaim.laidByTextAt_later rfl rfl tie3 noOwnUnsafe
theorem rightsAllowsUpto_row_tie : Rows.rightsAllowsUptoRow.laidByTextAt .later Tryd.pinned [.data, .data] true :=
  OpenClaim.laidByTextAt_later rfl rfl tie noOwnUnsafe
theorem rightsStatusUpto_row_tie : Rows.rightsStatusUptoRow.laidByTextAt .later Tryd.pinned [.data] true :=
  OpenClaim.laidByTextAt_later rfl rfl tie2 noOwnUnsafe
theorem rightsWordsUpto_row_tie : Rows.rightsWordsUptoRow.laidByTextAt .later Tryd.pinned [.data, .data, .data] true :=
  OpenClaim.laidByTextAt_later rfl rfl tie3 noOwnUnsafe
theorem rightsMoreUpto_row_tie : Rows.rightsMoreUptoRow.laidByTextAt .later Tryd.pinned [.data, .data, .data] true :=
  OpenClaim.laidByTextAt_later rfl rfl tie3 noOwnUnsafe
theorem rightsFaultUpto_row_tie : Rows.rightsFaultUptoRow.laidByTextAt .later Tryd.pinned [.data] true :=
  OpenClaim.laidByTextAt_later rfl rfl tie2 noOwnUnsafe
end Go.Proofs.YtmmocnejacflmaaDoor
