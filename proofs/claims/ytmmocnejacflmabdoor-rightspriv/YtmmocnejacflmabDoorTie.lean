/-
  DERIVED. GIVEN WITH THE SEED: THE PROGRAM's TIES (one call each: nine closed facts by the kernel) AND EACH ROW's TIE, after the 31st guide's Derived/Test/Toyas{Tie, Card}.lean. No idea stands in it: it is a product of the set-up. Laid BY PROGRAM, IN A SANDBOX (cutbox-door.mjs). By AI agents, Wed Nov 11 2026. No macro, syntax, notation, axiom, sorry.
-/
import Derived.Test.YtmmocnejacflmabDoorRows
import Derived.LaidByTextLater
import Derived.SevenTiedAt
import Derived.LaidSub
import Derived.LaidOnce
namespace Go.Proofs.YtmmocnejacflmabDoor
open Go
set_option maxRecDepth 100000
theorem seatTie1 : Tryd.prog.laidByTextLater [("math/bits.deBruijn32tab", Rows.laid_math_bits_deBruijn32tab), ("math/bits.deBruijn64tab", Rows.laid_math_bits_deBruijn64tab), ("internal/strconv.uint64pow10", Rows.laid_internal_strconv_uint64pow10), ("atlas/desc.firstKinds", Rows.laid_atlas_desc_firstKinds), ("atlas/desc.secondKinds", Rows.laid_atlas_desc_secondKinds), ("atlas/desc.tags", Rows.laid_atlas_desc_tags), ("atlas/desc.baseAt", Rows.laid_atlas_desc_baseAt), ("atlas/desc.leafAt", Rows.laid_atlas_desc_leafAt), ("atlas/desc.kindOfSize", Rows.laid_atlas_desc_kindOfSize), ("atlas/desc.sizeOfKind", Rows.laid_atlas_desc_sizeOfKind), ("atlas/rights.byAP", Rows.laid_atlas_rights_byAP), ("atlas/rights.byHalf", Rows.laid_atlas_rights_byHalf), ("atlas/rights.forms", Rows.laid_atlas_rights_forms), ("atlas/rights.texts", Rows.laid_atlas_rights_texts)] [.data, .data, .data, .data, .data, .data, .data, .data, .data, .data, .data, .data, .data, .data] true :=
  Program.laidByTextLater_by_one 130 8 65 (by kernel_rfl) (by kernel_rfl) (by kernel_rfl) (by kernel_rfl) (by kernel_rfl) (by kernel_rfl) (fun _ _ => by kernel_rfl)
theorem noOwnUnsafe : Tryd.pinned.checked.prog.headLifts.contains "ownunsafe" = false := by kernel_rfl
theorem tie : Tryd.prog.laidByTextLater [("atlas/rights.byAP", Rows.laid_atlas_rights_byAP), ("atlas/rights.byHalf", Rows.laid_atlas_rights_byHalf)] [.data, .data] true :=
  Program.laidByTextLater.sub seatTie1 ["atlas/rights.byAP", "atlas/rights.byHalf"] (by kernel_rfl) (by kernel_rfl)
theorem rightsLeaf_row_tie : Rows.rightsLeafRow.laidByTextAt .later Tryd.pinned [.data, .data] true :=
  OpenClaim.laidByTextAt_later rfl rfl tie noOwnUnsafe
theorem tie2 : Tryd.prog.laidByTextLater [("atlas/desc.firstKinds", Rows.laid_atlas_desc_firstKinds), ("atlas/desc.secondKinds", Rows.laid_atlas_desc_secondKinds), ("atlas/desc.tags", Rows.laid_atlas_desc_tags), ("atlas/desc.baseAt", Rows.laid_atlas_desc_baseAt), ("atlas/desc.leafAt", Rows.laid_atlas_desc_leafAt), ("atlas/desc.kindOfSize", Rows.laid_atlas_desc_kindOfSize), ("atlas/desc.sizeOfKind", Rows.laid_atlas_desc_sizeOfKind), ("atlas/rights.byAP", Rows.laid_atlas_rights_byAP), ("atlas/rights.byHalf", Rows.laid_atlas_rights_byHalf), ("atlas/rights.forms", Rows.laid_atlas_rights_forms)] [.data, .data, .data, .data, .data, .data, .data, .data, .data, .data] true :=
  Program.laidByTextLater.sub seatTie1 ["atlas/desc.firstKinds", "atlas/desc.secondKinds", "atlas/desc.tags", "atlas/desc.baseAt", "atlas/desc.leafAt", "atlas/desc.kindOfSize", "atlas/desc.sizeOfKind", "atlas/rights.byAP", "atlas/rights.byHalf", "atlas/rights.forms"] (by kernel_rfl) (by kernel_rfl)
theorem rightsPriv_row_tie : Rows.rightsPrivRow.laidByTextAt .later Tryd.pinned [.data, .data, .data, .data, .data, .data, .data, .data, .data, .data] true :=
  OpenClaim.laidByTextAt_later rfl rfl tie2 noOwnUnsafe
theorem tie3 : Tryd.prog.laidByTextLater [("atlas/desc.firstKinds", Rows.laid_atlas_desc_firstKinds), ("atlas/desc.secondKinds", Rows.laid_atlas_desc_secondKinds), ("atlas/desc.tags", Rows.laid_atlas_desc_tags), ("atlas/desc.baseAt", Rows.laid_atlas_desc_baseAt), ("atlas/desc.leafAt", Rows.laid_atlas_desc_leafAt), ("atlas/desc.kindOfSize", Rows.laid_atlas_desc_kindOfSize), ("atlas/desc.sizeOfKind", Rows.laid_atlas_desc_sizeOfKind), ("atlas/rights.byAP", Rows.laid_atlas_rights_byAP), ("atlas/rights.byHalf", Rows.laid_atlas_rights_byHalf)] [.data, .data, .data, .data, .data, .data, .data, .data, .data] true :=
  Program.laidByTextLater.sub seatTie1 ["atlas/desc.firstKinds", "atlas/desc.secondKinds", "atlas/desc.tags", "atlas/desc.baseAt", "atlas/desc.leafAt", "atlas/desc.kindOfSize", "atlas/desc.sizeOfKind", "atlas/rights.byAP", "atlas/rights.byHalf"] (by kernel_rfl) (by kernel_rfl)
theorem rightsCheck_row_tie : Rows.rightsCheckRow.laidByTextAt .later Tryd.pinned [.data, .data, .data, .data, .data, .data, .data, .data, .data] true :=
  OpenClaim.laidByTextAt_later rfl rfl tie3 noOwnUnsafe
theorem tie4 : Tryd.prog.laidByTextLater [("math/bits.deBruijn32tab", Rows.laid_math_bits_deBruijn32tab), ("math/bits.deBruijn64tab", Rows.laid_math_bits_deBruijn64tab), ("internal/strconv.uint64pow10", Rows.laid_internal_strconv_uint64pow10), ("atlas/rights.forms", Rows.laid_atlas_rights_forms), ("atlas/rights.texts", Rows.laid_atlas_rights_texts)] [.data, .data, .data, .data, .data] true :=
  Program.laidByTextLater.sub seatTie1 ["math/bits.deBruijn32tab", "math/bits.deBruijn64tab", "internal/strconv.uint64pow10", "atlas/rights.forms", "atlas/rights.texts"] (by kernel_rfl) (by kernel_rfl)
theorem rightsText_row_tie : Rows.rightsTextRow.laidByTextAt .later Tryd.pinned [.data, .data, .data, .data, .data] true :=
  OpenClaim.laidByTextAt_later rfl rfl tie4 noOwnUnsafe
theorem rightsLeafUpto_row_tie : Rows.rightsLeafUptoRow.laidByTextAt .later Tryd.pinned [.data, .data] true :=
  OpenClaim.laidByTextAt_later rfl rfl tie noOwnUnsafe
theorem rightsPrivUpto_row_tie : Rows.rightsPrivUptoRow.laidByTextAt .later Tryd.pinned [.data, .data, .data, .data, .data, .data, .data, .data, .data, .data] true :=
  OpenClaim.laidByTextAt_later rfl rfl tie2 noOwnUnsafe
theorem rightsCheckUpto_row_tie : Rows.rightsCheckUptoRow.laidByTextAt .later Tryd.pinned [.data, .data, .data, .data, .data, .data, .data, .data, .data] true :=
  OpenClaim.laidByTextAt_later rfl rfl tie3 noOwnUnsafe
theorem rightsTextUpto_row_tie : Rows.rightsTextUptoRow.laidByTextAt .later Tryd.pinned [.data, .data, .data, .data, .data] true :=
  OpenClaim.laidByTextAt_later rfl rfl tie4 noOwnUnsafe
end Go.Proofs.YtmmocnejacflmabDoor
