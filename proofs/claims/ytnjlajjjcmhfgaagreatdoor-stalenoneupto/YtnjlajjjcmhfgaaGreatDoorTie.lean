/-
  DERIVED. GIVEN WITH THE SEED: THE PROGRAM's TIES (one call each: nine closed facts by the kernel) AND EACH ROW's TIE, after the 31st guide's Derived/Test/Toyas{Tie, Card}.lean. No idea stands in it: it is a product of the set-up. Laid BY PROGRAM, IN A SANDBOX (cutbox-door.mjs). By AI agents, Wed Nov 11 2026. No macro, syntax, notation, axiom, sorry.
-/
import Derived.Test.YtnjlajjjcmhfgaaGreatDoorRows
import Derived.LaidByTextLater
import Derived.SevenTiedAt
import Derived.LaidSub
import Derived.LaidOnce
namespace Go.Proofs.YtnjlajjjcmhfgaaGreatDoor
open Go
set_option maxRecDepth 100000
theorem seatTie1 : Tryz.prog.laidByTextLater [("atlas/desc.firstKinds", Rows.laid_atlas_desc_firstKinds), ("atlas/desc.secondKinds", Rows.laid_atlas_desc_secondKinds), ("atlas/desc.tags", Rows.laid_atlas_desc_tags), ("atlas/desc.baseAt", Rows.laid_atlas_desc_baseAt), ("atlas/desc.leafAt", Rows.laid_atlas_desc_leafAt), ("atlas/desc.kindOfSize", Rows.laid_atlas_desc_kindOfSize), ("atlas/desc.sizeOfKind", Rows.laid_atlas_desc_sizeOfKind), ("atlas/desc.repeats", Rows.laid_atlas_desc_repeats), ("atlas/stale.said", Rows.laid_atlas_stale_said)] [.data, .data, .data, .data, .data, .data, .data, .data, .data] true :=
  Program.laidByTextLater_by_one 62 8 37 (by kernel_rfl) (by kernel_rfl) (by kernel_rfl) (by kernel_rfl) (by kernel_rfl) (by kernel_rfl) (fun _ _ => by kernel_rfl)
theorem noOwnUnsafe : Tryz.pinned.checked.prog.headLifts.contains "ownunsafe" = false := by kernel_rfl
theorem tie : Tryz.prog.laidByTextLater [("atlas/desc.firstKinds", Rows.laid_atlas_desc_firstKinds), ("atlas/desc.secondKinds", Rows.laid_atlas_desc_secondKinds), ("atlas/desc.tags", Rows.laid_atlas_desc_tags), ("atlas/desc.baseAt", Rows.laid_atlas_desc_baseAt), ("atlas/desc.leafAt", Rows.laid_atlas_desc_leafAt), ("atlas/desc.kindOfSize", Rows.laid_atlas_desc_kindOfSize), ("atlas/desc.sizeOfKind", Rows.laid_atlas_desc_sizeOfKind), ("atlas/desc.repeats", Rows.laid_atlas_desc_repeats)] [.data, .data, .data, .data, .data, .data, .data, .data] true :=
  Program.laidByTextLater.sub seatTie1 ["atlas/desc.firstKinds", "atlas/desc.secondKinds", "atlas/desc.tags", "atlas/desc.baseAt", "atlas/desc.leafAt", "atlas/desc.kindOfSize", "atlas/desc.sizeOfKind", "atlas/desc.repeats"] (by kernel_rfl) (by kernel_rfl)
theorem staleSeen_row_tie : Rows.staleSeenRow.laidByTextAt .later Tryz.pinned [.data, .data, .data, .data, .data, .data, .data, .data] true :=
  OpenClaim.laidByTextAt_later rfl rfl tie noOwnUnsafe
theorem staleDrops_row_tie : Rows.staleDropsRow.laidByTextAt .later Tryz.pinned [.data, .data, .data, .data, .data, .data, .data, .data] true :=
  OpenClaim.laidByTextAt_later rfl rfl tie noOwnUnsafe
theorem staleServes_row_tie : Rows.staleServesRow.laidByTextAt .later Tryz.pinned [.data, .data, .data, .data, .data, .data, .data, .data] true :=
  OpenClaim.laidByTextAt_later rfl rfl tie noOwnUnsafe
theorem tie2 : Tryz.prog.laidByTextLater [("atlas/desc.firstKinds", Rows.laid_atlas_desc_firstKinds), ("atlas/desc.secondKinds", Rows.laid_atlas_desc_secondKinds), ("atlas/desc.tags", Rows.laid_atlas_desc_tags), ("atlas/desc.baseAt", Rows.laid_atlas_desc_baseAt), ("atlas/desc.leafAt", Rows.laid_atlas_desc_leafAt), ("atlas/desc.kindOfSize", Rows.laid_atlas_desc_kindOfSize), ("atlas/desc.sizeOfKind", Rows.laid_atlas_desc_sizeOfKind), ("atlas/desc.repeats", Rows.laid_atlas_desc_repeats), ("atlas/stale.said", Rows.laid_atlas_stale_said)] [.data, .data, .data, .data, .data, .data, .data, .data, .data] true :=
  Program.laidByTextLater.sub seatTie1 ["atlas/desc.firstKinds", "atlas/desc.secondKinds", "atlas/desc.tags", "atlas/desc.baseAt", "atlas/desc.leafAt", "atlas/desc.kindOfSize", "atlas/desc.sizeOfKind", "atlas/desc.repeats", "atlas/stale.said"] (by kernel_rfl) (by kernel_rfl)
theorem staleNone_row_tie : Rows.staleNoneRow.laidByTextAt .later Tryz.pinned [.data, .data, .data, .data, .data, .data, .data, .data, .data] true :=
  OpenClaim.laidByTextAt_later rfl rfl tie2 noOwnUnsafe
theorem staleFresh_row_tie : Rows.staleFreshRow.laidByTextAt .later Tryz.pinned [.data, .data, .data, .data, .data, .data, .data, .data, .data] true :=
  OpenClaim.laidByTextAt_later rfl rfl tie2 noOwnUnsafe
theorem stalePages_row_tie : Rows.stalePagesRow.laidByTextAt .later Tryz.pinned [.data, .data, .data, .data, .data, .data, .data, .data, .data] true :=
  OpenClaim.laidByTextAt_later rfl rfl tie2 noOwnUnsafe
theorem staleSeenUpto_row_tie : Rows.staleSeenUptoRow.laidByTextAt .later Tryz.pinned [.data, .data, .data, .data, .data, .data, .data, .data] true :=
  OpenClaim.laidByTextAt_later rfl rfl tie noOwnUnsafe
theorem staleDropsUpto_row_tie : Rows.staleDropsUptoRow.laidByTextAt .later Tryz.pinned [.data, .data, .data, .data, .data, .data, .data, .data] true :=
  OpenClaim.laidByTextAt_later rfl rfl tie noOwnUnsafe
theorem staleServesUpto_row_tie : Rows.staleServesUptoRow.laidByTextAt .later Tryz.pinned [.data, .data, .data, .data, .data, .data, .data, .data] true :=
  OpenClaim.laidByTextAt_later rfl rfl tie noOwnUnsafe
theorem staleNoneUpto_row_tie : Rows.staleNoneUptoRow.laidByTextAt .later Tryz.pinned [.data, .data, .data, .data, .data, .data, .data, .data, .data] true :=
  OpenClaim.laidByTextAt_later rfl rfl tie2 noOwnUnsafe
theorem staleFreshUpto_row_tie : Rows.staleFreshUptoRow.laidByTextAt .later Tryz.pinned [.data, .data, .data, .data, .data, .data, .data, .data, .data] true :=
  OpenClaim.laidByTextAt_later rfl rfl tie2 noOwnUnsafe
theorem stalePagesUpto_row_tie : Rows.stalePagesUptoRow.laidByTextAt .later Tryz.pinned [.data, .data, .data, .data, .data, .data, .data, .data, .data] true :=
  OpenClaim.laidByTextAt_later rfl rfl tie2 noOwnUnsafe
end Go.Proofs.YtnjlajjjcmhfgaaGreatDoor
