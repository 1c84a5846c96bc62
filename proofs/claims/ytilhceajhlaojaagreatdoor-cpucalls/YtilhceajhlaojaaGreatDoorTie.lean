/-
  DERIVED. GIVEN WITH THE SEED: THE PROGRAM's TIES (one call each: nine closed facts by the kernel) AND EACH ROW's TIE, after the 31st guide's Derived/Test/Toyas{Tie, Card}.lean. No idea stands in it: it is a product of the set-up. Laid BY PROGRAM, IN A SANDBOX (cutbox-door.mjs). By AI agents, Wed Nov 11 2026. No macro, syntax, notation, axiom, sorry.
-/
import Derived.Test.YtilhceajhlaojaaGreatDoorRows
import Derived.LaidByTextLater
import Derived.SevenTiedAt
import Derived.LaidSub
import Derived.LaidOnce
namespace Go.Proofs.YtilhceajhlaojaaGreatDoor
open Go
set_option maxRecDepth 100000
theorem seatTie1 : Tryz.prog.laidByTextLater [("math/bits.deBruijn32tab", Rows.laid_math_bits_deBruijn32tab), ("atlas/isa.places", Rows.laid_atlas_isa_places), ("atlas/isa.lowRows", Rows.laid_atlas_isa_lowRows), ("atlas/isa.highRows", Rows.laid_atlas_isa_highRows), ("atlas/cpu.exceptions", Rows.laid_atlas_cpu_exceptions)] [.data, .data, .wider, .wider, .data] true :=
  Program.laidByTextLater_by_one 126 8 186 (by kernel_rfl) (by kernel_rfl) (by kernel_rfl) (by kernel_rfl) (by kernel_rfl) (by kernel_rfl) (fun _ _ => by kernel_rfl)
theorem noOwnUnsafe : Tryz.pinned.checked.prog.headLifts.contains "ownunsafe" = false := by kernel_rfl
theorem tie : Tryz.prog.laidByTextLater [("math/bits.deBruijn32tab", Rows.laid_math_bits_deBruijn32tab), ("atlas/isa.places", Rows.laid_atlas_isa_places), ("atlas/isa.lowRows", Rows.laid_atlas_isa_lowRows), ("atlas/isa.highRows", Rows.laid_atlas_isa_highRows), ("atlas/cpu.exceptions", Rows.laid_atlas_cpu_exceptions)] [.data, .data, .wider, .wider, .data] true :=
  Program.laidByTextLater.sub seatTie1 ["math/bits.deBruijn32tab", "atlas/isa.places", "atlas/isa.lowRows", "atlas/isa.highRows", "atlas/cpu.exceptions"] (by kernel_rfl) (by kernel_rfl)
theorem cpuPassed_row_tie : Rows.cpuPassedRow.laidByTextAt .later Tryz.pinned [.data, .data, .wider, .wider, .data] true :=
  OpenClaim.laidByTextAt_later rfl rfl tie noOwnUnsafe
theorem cpuCalls_row_tie : Rows.cpuCallsRow.laidByTextAt .later Tryz.pinned [.data, .data, .wider, .wider, .data] true :=
  OpenClaim.laidByTextAt_later rfl rfl tie noOwnUnsafe
theorem cpuAgain_row_tie : Rows.cpuAgainRow.laidByTextAt .later Tryz.pinned [.data, .data, .wider, .wider, .data] true :=
  OpenClaim.laidByTextAt_later rfl rfl tie noOwnUnsafe
theorem cpuBanks_row_tie : Rows.cpuBanksRow.laidByTextAt .later Tryz.pinned [.data, .data, .wider, .wider, .data] true :=
  OpenClaim.laidByTextAt_later rfl rfl tie noOwnUnsafe
theorem cpuSame_row_tie : Rows.cpuSameRow.laidByTextAt .later Tryz.pinned [.data, .data, .wider, .wider, .data] true :=
  OpenClaim.laidByTextAt_later rfl rfl tie noOwnUnsafe
theorem cpuStates_row_tie : Rows.cpuStatesRow.laidByTextAt .later Tryz.pinned [.data, .data, .wider, .wider, .data] true :=
  OpenClaim.laidByTextAt_later rfl rfl tie noOwnUnsafe
theorem cpuPassedUpto_row_tie : Rows.cpuPassedUptoRow.laidByTextAt .later Tryz.pinned [.data, .data, .wider, .wider, .data] true :=
  OpenClaim.laidByTextAt_later rfl rfl tie noOwnUnsafe
theorem cpuCallsUpto_row_tie : Rows.cpuCallsUptoRow.laidByTextAt .later Tryz.pinned [.data, .data, .wider, .wider, .data] true :=
  OpenClaim.laidByTextAt_later rfl rfl tie noOwnUnsafe
theorem cpuAgainUpto_row_tie : Rows.cpuAgainUptoRow.laidByTextAt .later Tryz.pinned [.data, .data, .wider, .wider, .data] true :=
  OpenClaim.laidByTextAt_later rfl rfl tie noOwnUnsafe
theorem cpuBanksUpto_row_tie : Rows.cpuBanksUptoRow.laidByTextAt .later Tryz.pinned [.data, .data, .wider, .wider, .data] true :=
  OpenClaim.laidByTextAt_later rfl rfl tie noOwnUnsafe
theorem cpuSameUpto_row_tie : Rows.cpuSameUptoRow.laidByTextAt .later Tryz.pinned [.data, .data, .wider, .wider, .data] true :=
  OpenClaim.laidByTextAt_later rfl rfl tie noOwnUnsafe
theorem cpuStatesUpto_row_tie : Rows.cpuStatesUptoRow.laidByTextAt .later Tryz.pinned [.data, .data, .wider, .wider, .data] true :=
  OpenClaim.laidByTextAt_later rfl rfl tie noOwnUnsafe
end Go.Proofs.YtilhceajhlaojaaGreatDoor
