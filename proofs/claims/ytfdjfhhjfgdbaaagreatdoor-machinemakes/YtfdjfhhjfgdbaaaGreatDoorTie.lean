/-
  DERIVED. GIVEN WITH THE SEED: THE PROGRAM's TIES (one call each: nine closed facts by the kernel) AND EACH ROW's TIE, after the 31st guide's Derived/Test/Toyas{Tie, Card}.lean. No idea stands in it: it is a product of the set-up. Laid BY PROGRAM, IN A SANDBOX (cutbox-door.mjs). By AI agents, Wed Nov 11 2026. No macro, syntax, notation, axiom, sorry.
-/
import Derived.Test.YtfdjfhhjfgdbaaaGreatDoorRows
import Derived.LaidByTextLater
import Derived.SevenTiedAt
import Derived.LaidSub
import Derived.LaidOnce
namespace Go.Proofs.YtfdjfhhjfgdbaaaGreatDoor
open Go
set_option maxRecDepth 100000
theorem seatTie1 : Tryz.prog.laidByTextLater [("atlas/cp15.registers", Rows.laid_atlas_cp15_registers), ("atlas/desc.firstKinds", Rows.laid_atlas_desc_firstKinds), ("atlas/desc.secondKinds", Rows.laid_atlas_desc_secondKinds), ("atlas/desc.tags", Rows.laid_atlas_desc_tags), ("atlas/desc.baseAt", Rows.laid_atlas_desc_baseAt), ("atlas/desc.leafAt", Rows.laid_atlas_desc_leafAt), ("atlas/desc.kindOfSize", Rows.laid_atlas_desc_kindOfSize), ("atlas/desc.sizeOfKind", Rows.laid_atlas_desc_sizeOfKind), ("atlas/desc.repeats", Rows.laid_atlas_desc_repeats)] [.data, .data, .data, .data, .data, .data, .data, .data, .data] true :=
  Program.laidByTextLater_by_one 84 8 92 (by kernel_rfl) (by kernel_rfl) (by kernel_rfl) (by kernel_rfl) (by kernel_rfl) (by kernel_rfl) (fun _ _ => by kernel_rfl)
theorem noOwnUnsafe : Tryz.pinned.checked.prog.headLifts.contains "ownunsafe" = false := by kernel_rfl
theorem tie : Tryz.prog.laidByTextLater [("atlas/cp15.registers", Rows.laid_atlas_cp15_registers), ("atlas/desc.firstKinds", Rows.laid_atlas_desc_firstKinds), ("atlas/desc.secondKinds", Rows.laid_atlas_desc_secondKinds), ("atlas/desc.tags", Rows.laid_atlas_desc_tags), ("atlas/desc.baseAt", Rows.laid_atlas_desc_baseAt), ("atlas/desc.leafAt", Rows.laid_atlas_desc_leafAt), ("atlas/desc.kindOfSize", Rows.laid_atlas_desc_kindOfSize), ("atlas/desc.sizeOfKind", Rows.laid_atlas_desc_sizeOfKind), ("atlas/desc.repeats", Rows.laid_atlas_desc_repeats)] [.data, .data, .data, .data, .data, .data, .data, .data, .data] true :=
  Program.laidByTextLater.sub seatTie1 ["atlas/cp15.registers", "atlas/desc.firstKinds", "atlas/desc.secondKinds", "atlas/desc.tags", "atlas/desc.baseAt", "atlas/desc.leafAt", "atlas/desc.kindOfSize", "atlas/desc.sizeOfKind", "atlas/desc.repeats"] (by kernel_rfl) (by kernel_rfl)
theorem machineMakes_row_tie : Rows.machineMakesRow.laidByTextAt .later Tryz.pinned [.data, .data, .data, .data, .data, .data, .data, .data, .data] true :=
  OpenClaim.laidByTextAt_later rfl rfl tie noOwnUnsafe
theorem machineMakesUpto_row_tie : Rows.machineMakesUptoRow.laidByTextAt .later Tryz.pinned [.data, .data, .data, .data, .data, .data, .data, .data, .data] true :=
  OpenClaim.laidByTextAt_later rfl rfl tie noOwnUnsafe
end Go.Proofs.YtfdjfhhjfgdbaaaGreatDoor
