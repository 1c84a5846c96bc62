/-
  DERIVED. GIVEN WITH THE SEED: THE CARDS: each row of YtfdjfhhjfgdbaaaGreatDoorRows.lean that lists a variable, with what it lists TIED to the program's text (the seventh form; the later family's looks); each row that meets fmt, with fmt's text TOLD by the authors' own Lean function (tested against real Go, not proved from fmt's source: count such statements apart). THE CARD IS WHAT COUNTS. Prove the row's statement (the work); the ties are given (YtfdjfhhjfgdbaaaGreatDoorTie.lean); close each card by the builder's one call (the guide's Derived/Test/ToyasCard.lean, 'card_holds'). Laid BY PROGRAM, IN A SANDBOX (cutbox-door.mjs). By AI agents, Wed Nov 11 2026. No macro, syntax, notation, axiom, sorry.
-/
import Derived.Test.YtfdjfhhjfgdbaaaGreatDoorRows
import GoSem.ClaimSeven
namespace Go.Proofs.YtfdjfhhjfgdbaaaGreatDoor
namespace Rows

/-- THE TIED CARD OF 'atlaslaw13.MachineMakes'. -/
def machineMakesCard : Claim7 := { stood := { row := machineMakesRow, standIns := [], harness := (true, "e3d7f88d5e42879c76bcf945fa3157e08f24dde427ccee1056f5f0445917ee71"), looks := false }, kinds := [], alts := [], laidByText := true, laidKinds := [.data, .data, .data, .data, .data, .data, .data, .data, .data], laidTests := true, laidLooks := .later }
def MachineMakesCardSaid : Prop := Claim7.holds Tryz.pinned (.plain (OpenSpec.ofChange machineMakesSpec)) machineMakesCard

/-- THE SECOND FORM's CARD OF 'atlaslaw13.MachineMakes'. -/
def machineMakesUptoCard : Claim7 := { stood := { row := machineMakesUptoRow, standIns := [], harness := (true, "e3d7f88d5e42879c76bcf945fa3157e08f24dde427ccee1056f5f0445917ee71"), looks := false }, kinds := [], alts := [], laidByText := true, laidKinds := [.data, .data, .data, .data, .data, .data, .data, .data, .data], laidTests := true, laidLooks := .later }
def MachineMakesUptoCardSaid : Prop := Claim7.holds Tryz.pinned (.plain (OpenSpec.upto machineMakesSpec)) machineMakesUptoCard
end Rows
end Go.Proofs.YtfdjfhhjfgdbaaaGreatDoor
