/-
  DERIVED. GIVEN WITH THE SEED: THE PROGRAM's TIES (one call each: nine closed facts by the kernel) AND EACH ROW's TIE, after the 31st guide's Derived/Test/Toyas{Tie, Card}.lean. No idea stands in it: it is a product of the set-up. Laid BY PROGRAM, IN A SANDBOX (cutbox-door.mjs). By AI agents, Wed Nov 11 2026. No macro, syntax, notation, axiom, sorry.
-/
import Derived.Test.YtbbnodhpafiplaaDoorRows
import Derived.LaidByTextLater
import Derived.SevenTiedAt
import Derived.LaidSub
import Derived.LaidOnce
namespace Go.Proofs.YtbbnodhpafiplaaDoor
open Go
set_option maxRecDepth 100000
theorem seatTie1 : Tryd.prog.laidByTextLater [("atlas/desc.firstKinds", Rows.laid_atlas_desc_firstKinds), ("atlas/desc.secondKinds", Rows.laid_atlas_desc_secondKinds), ("atlas/desc.tags", Rows.laid_atlas_desc_tags), ("atlas/desc.baseAt", Rows.laid_atlas_desc_baseAt), ("atlas/desc.leafAt", Rows.laid_atlas_desc_leafAt), ("atlas/desc.kindOfSize", Rows.laid_atlas_desc_kindOfSize), ("atlas/desc.sizeOfKind", Rows.laid_atlas_desc_sizeOfKind)] [.data, .data, .data, .data, .data, .data, .data] true :=
  Program.laidByTextLater_by_one 48 8 37 (by kernel_rfl) (by kernel_rfl) (by kernel_rfl) (by kernel_rfl) (by kernel_rfl) (by kernel_rfl) (fun _ _ => by kernel_rfl)
theorem noOwnUnsafe : Tryd.pinned.checked.prog.headLifts.contains "ownunsafe" = false := by kernel_rfl
theorem tie : Tryd.prog.laidByTextLater [("atlas/desc.firstKinds", Rows.laid_atlas_desc_firstKinds), ("atlas/desc.secondKinds", Rows.laid_atlas_desc_secondKinds), ("atlas/desc.tags", Rows.laid_atlas_desc_tags), ("atlas/desc.baseAt", Rows.laid_atlas_desc_baseAt), ("atlas/desc.leafAt", Rows.laid_atlas_desc_leafAt), ("atlas/desc.kindOfSize", Rows.laid_atlas_desc_kindOfSize), ("atlas/desc.sizeOfKind", Rows.laid_atlas_desc_sizeOfKind)] [.data, .data, .data, .data, .data, .data, .data] true :=
  Program.laidByTextLater.sub seatTie1 ["atlas/desc.firstKinds", "atlas/desc.secondKinds", "atlas/desc.tags", "atlas/desc.baseAt", "atlas/desc.leafAt", "atlas/desc.kindOfSize", "atlas/desc.sizeOfKind"] (by kernel_rfl) (by kernel_rfl)
theorem hierOrder_row_tie : Rows.hierOrderRow.laidByTextAt .later Tryd.pinned [.data, .data, .data, .data, .data, .data, .data] true :=
  OpenClaim.laidByTextAt_later rfl rfl tie noOwnUnsafe
theorem hierOnly_row_tie : Rows.hierOnlyRow.laidByTextAt .later Tryd.pinned [.data, .data, .data, .data, .data, .data, .data] true :=
  OpenClaim.laidByTextAt_later rfl rfl tie noOwnUnsafe
theorem hierAll_row_tie : Rows.hierAllRow.laidByTextAt .later Tryd.pinned [.data, .data, .data, .data, .data, .data, .data] true :=
  OpenClaim.laidByTextAt_later rfl rfl tie noOwnUnsafe
theorem hierOwn_row_tie : Rows.hierOwnRow.laidByTextAt .later Tryd.pinned [.data, .data, .data, .data, .data, .data, .data] true :=
  OpenClaim.laidByTextAt_later rfl rfl tie noOwnUnsafe
theorem hierFinds_row_tie : Rows.hierFindsRow.laidByTextAt .later Tryd.pinned [.data, .data, .data, .data, .data, .data, .data] true :=
  OpenClaim.laidByTextAt_later rfl rfl tie noOwnUnsafe
theorem hierOrderUpto_row_tie : Rows.hierOrderUptoRow.laidByTextAt .later Tryd.pinned [.data, .data, .data, .data, .data, .data, .data] true :=
  OpenClaim.laidByTextAt_later rfl rfl tie noOwnUnsafe
theorem hierOnlyUpto_row_tie : Rows.hierOnlyUptoRow.laidByTextAt .later Tryd.pinned [.data, .data, .data, .data, .data, .data, .data] true :=
  OpenClaim.laidByTextAt_later rfl rfl tie noOwnUnsafe
theorem hierAllUpto_row_tie : Rows.hierAllUptoRow.laidByTextAt .later Tryd.pinned [.data, .data, .data, .data, .data, .data, .data] true :=
  OpenClaim.laidByTextAt_later rfl rfl tie noOwnUnsafe
theorem hierOwnUpto_row_tie : Rows.hierOwnUptoRow.laidByTextAt .later Tryd.pinned [.data, .data, .data, .data, .data, .data, .data] true :=
  OpenClaim.laidByTextAt_later rfl rfl tie noOwnUnsafe
theorem hierFindsUpto_row_tie : Rows.hierFindsUptoRow.laidByTextAt .later Tryd.pinned [.data, .data, .data, .data, .data, .data, .data] true :=
  OpenClaim.laidByTextAt_later rfl rfl tie noOwnUnsafe
end Go.Proofs.YtbbnodhpafiplaaDoor
