/-
  DERIVED. GIVEN WITH THE SEED: THE PROGRAM's TIES (one call each: nine closed facts by the kernel) AND EACH ROW's TIE, after the 31st guide's Derived/Test/Toyas{Tie, Card}.lean. No idea stands in it: it is a product of the set-up. Laid BY PROGRAM, IN A SANDBOX (cutbox-door.mjs). By AI agents, Wed Nov 11 2026. No macro, syntax, notation, axiom, sorry.
-/
import Derived.Test.YtcpcmjmgiagnoaaDoorRows
import Derived.LaidByTextLater
import Derived.SevenTiedAt
import Derived.LaidSub
import Derived.LaidOnce
namespace Go.Proofs.YtcpcmjmgiagnoaaDoor
open Go
set_option maxRecDepth 100000
theorem seatTie1 : Tryd.prog.laidByTextLater [("atlas/desc.firstKinds", Rows.laid_atlas_desc_firstKinds), ("atlas/desc.secondKinds", Rows.laid_atlas_desc_secondKinds), ("atlas/desc.tags", Rows.laid_atlas_desc_tags), ("atlas/desc.baseAt", Rows.laid_atlas_desc_baseAt), ("atlas/desc.leafAt", Rows.laid_atlas_desc_leafAt), ("atlas/desc.kindOfSize", Rows.laid_atlas_desc_kindOfSize), ("atlas/desc.sizeOfKind", Rows.laid_atlas_desc_sizeOfKind), ("atlas/desc.repeats", Rows.laid_atlas_desc_repeats)] [.data, .data, .data, .data, .data, .data, .data, .data] true :=
  Program.laidByTextLater_by_one 53 8 37 (by kernel_rfl) (by kernel_rfl) (by kernel_rfl) (by kernel_rfl) (by kernel_rfl) (by kernel_rfl) (fun _ _ => by kernel_rfl)
theorem noOwnUnsafe : Tryd.pinned.checked.prog.headLifts.contains "ownunsafe" = false := by kernel_rfl
theorem tie : Tryd.prog.laidByTextLater [("atlas/desc.baseAt", Rows.laid_atlas_desc_baseAt), ("atlas/desc.kindOfSize", Rows.laid_atlas_desc_kindOfSize), ("atlas/desc.repeats", Rows.laid_atlas_desc_repeats)] [.data, .data, .data] true :=
  Program.laidByTextLater.sub seatTie1 ["atlas/desc.baseAt", "atlas/desc.kindOfSize", "atlas/desc.repeats"] (by kernel_rfl) (by kernel_rfl)
theorem descSizes_row_tie : Rows.descSizesRow.laidByTextAt .later Tryd.pinned [.data, .data, .data] true :=
  OpenClaim.laidByTextAt_later rfl rfl tie noOwnUnsafe
theorem tie2 : Tryd.prog.laidByTextLater [("atlas/desc.firstKinds", Rows.laid_atlas_desc_firstKinds), ("atlas/desc.secondKinds", Rows.laid_atlas_desc_secondKinds), ("atlas/desc.baseAt", Rows.laid_atlas_desc_baseAt), ("atlas/desc.leafAt", Rows.laid_atlas_desc_leafAt)] [.data, .data, .data, .data] true :=
  Program.laidByTextLater.sub seatTie1 ["atlas/desc.firstKinds", "atlas/desc.secondKinds", "atlas/desc.baseAt", "atlas/desc.leafAt"] (by kernel_rfl) (by kernel_rfl)
theorem descReads_row_tie : Rows.descReadsRow.laidByTextAt .later Tryd.pinned [.data, .data, .data, .data] true :=
  OpenClaim.laidByTextAt_later rfl rfl tie2 noOwnUnsafe
theorem tie3 : Tryd.prog.laidByTextLater [("atlas/desc.firstKinds", Rows.laid_atlas_desc_firstKinds), ("atlas/desc.secondKinds", Rows.laid_atlas_desc_secondKinds), ("atlas/desc.tags", Rows.laid_atlas_desc_tags), ("atlas/desc.baseAt", Rows.laid_atlas_desc_baseAt), ("atlas/desc.leafAt", Rows.laid_atlas_desc_leafAt), ("atlas/desc.kindOfSize", Rows.laid_atlas_desc_kindOfSize), ("atlas/desc.sizeOfKind", Rows.laid_atlas_desc_sizeOfKind)] [.data, .data, .data, .data, .data, .data, .data] true :=
  Program.laidByTextLater.sub seatTie1 ["atlas/desc.firstKinds", "atlas/desc.secondKinds", "atlas/desc.tags", "atlas/desc.baseAt", "atlas/desc.leafAt", "atlas/desc.kindOfSize", "atlas/desc.sizeOfKind"] (by kernel_rfl) (by kernel_rfl)
theorem descEntry_row_tie : Rows.descEntryRow.laidByTextAt .later Tryd.pinned [.data, .data, .data, .data, .data, .data, .data] true :=
  OpenClaim.laidByTextAt_later rfl rfl tie3 noOwnUnsafe
theorem tie4 : Tryd.prog.laidByTextLater [("atlas/desc.firstKinds", Rows.laid_atlas_desc_firstKinds), ("atlas/desc.secondKinds", Rows.laid_atlas_desc_secondKinds), ("atlas/desc.tags", Rows.laid_atlas_desc_tags), ("atlas/desc.baseAt", Rows.laid_atlas_desc_baseAt), ("atlas/desc.leafAt", Rows.laid_atlas_desc_leafAt)] [.data, .data, .data, .data, .data] true :=
  Program.laidByTextLater.sub seatTie1 ["atlas/desc.firstKinds", "atlas/desc.secondKinds", "atlas/desc.tags", "atlas/desc.baseAt", "atlas/desc.leafAt"] (by kernel_rfl) (by kernel_rfl)
theorem descFlip_row_tie : Rows.descFlipRow.laidByTextAt .later Tryd.pinned [.data, .data, .data, .data, .data] true :=
  OpenClaim.laidByTextAt_later rfl rfl tie4 noOwnUnsafe
theorem descSaid_row_tie : Rows.descSaidRow.laidByTextAt .later Tryd.pinned [.data, .data, .data, .data, .data] true :=
  OpenClaim.laidByTextAt_later rfl rfl tie4 noOwnUnsafe
theorem tie5 : Tryd.prog.laidByTextLater [("atlas/desc.firstKinds", Rows.laid_atlas_desc_firstKinds), ("atlas/desc.secondKinds", Rows.laid_atlas_desc_secondKinds), ("atlas/desc.tags", Rows.laid_atlas_desc_tags), ("atlas/desc.baseAt", Rows.laid_atlas_desc_baseAt), ("atlas/desc.leafAt", Rows.laid_atlas_desc_leafAt), ("atlas/desc.sizeOfKind", Rows.laid_atlas_desc_sizeOfKind)] [.data, .data, .data, .data, .data, .data] true :=
  Program.laidByTextLater.sub seatTie1 ["atlas/desc.firstKinds", "atlas/desc.secondKinds", "atlas/desc.tags", "atlas/desc.baseAt", "atlas/desc.leafAt", "atlas/desc.sizeOfKind"] (by kernel_rfl) (by kernel_rfl)
theorem descTrans_row_tie : Rows.descTransRow.laidByTextAt .later Tryd.pinned [.data, .data, .data, .data, .data, .data] true :=
  OpenClaim.laidByTextAt_later rfl rfl tie5 noOwnUnsafe
theorem descSizesUpto_row_tie : Rows.descSizesUptoRow.laidByTextAt .later Tryd.pinned [.data, .data, .data] true :=
  OpenClaim.laidByTextAt_later rfl rfl tie noOwnUnsafe
theorem descReadsUpto_row_tie : Rows.descReadsUptoRow.laidByTextAt .later Tryd.pinned [.data, .data, .data, .data] true :=
  OpenClaim.laidByTextAt_later rfl rfl tie2 noOwnUnsafe
theorem descEntryUpto_row_tie : Rows.descEntryUptoRow.laidByTextAt .later Tryd.pinned [.data, .data, .data, .data, .data, .data, .data] true :=
  OpenClaim.laidByTextAt_later rfl rfl tie3 noOwnUnsafe
theorem descFlipUpto_row_tie : Rows.descFlipUptoRow.laidByTextAt .later Tryd.pinned [.data, .data, .data, .data, .data] true :=
  OpenClaim.laidByTextAt_later rfl rfl tie4 noOwnUnsafe
theorem descSaidUpto_row_tie : Rows.descSaidUptoRow.laidByTextAt .later Tryd.pinned [.data, .data, .data, .data, .data] true :=
  OpenClaim.laidByTextAt_later rfl rfl tie4 noOwnUnsafe
theorem descTransUpto_row_tie : Rows.descTransUptoRow.laidByTextAt .later Tryd.pinned [.data, .data, .data, .data, .data, .data] true :=
  OpenClaim.laidByTextAt_later rfl rfl tie5 noOwnUnsafe
end Go.Proofs.YtcpcmjmgiagnoaaDoor
