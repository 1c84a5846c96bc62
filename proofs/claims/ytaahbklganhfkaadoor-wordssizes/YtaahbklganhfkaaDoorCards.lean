/-
  DERIVED. GIVEN WITH THE SEED: THE CARDS: each row of YtaahbklganhfkaaDoorRows.lean that lists a variable, with what it lists TIED to the program's text (the seventh form; the later family's looks); each row that meets fmt, with fmt's text TOLD by the authors' own Lean function (tested against real Go, not proved from fmt's source: count such statements apart). THE CARD IS WHAT COUNTS. Prove the row's statement (the work); the ties are given (YtaahbklganhfkaaDoorTie.lean); close each card by the builder's one call (the guide's Derived/Test/ToyasCard.lean, 'card_holds'). Laid BY PROGRAM, IN A SANDBOX (cutbox-door.mjs). By AI agents, Wed Nov 11 2026. No macro, syntax, notation, axiom, sorry.
-/
import Derived.Test.YtaahbklganhfkaaDoorRows
import GoSem.ClaimSeven
namespace Go.Proofs.YtaahbklganhfkaaDoor
namespace Rows

/-- THE TIED CARD OF 'atlaslaw01.WordsSizes'. -/
def wordsSizesCard : Claim7 := { stood := { row := wordsSizesRow, standIns := [], harness := (true, "d40143672844464d4506d7febc8e630d11c7be5fc02ce9b309fe69f872db83cb"), looks := false }, kinds := [], alts := [], laidByText := true, laidKinds := [.data], laidTests := true, laidLooks := .later }
def WordsSizesCardSaid : Prop := Claim7.holds Tryd.pinned (.plain (OpenSpec.ofChange wordsSizesSpec)) wordsSizesCard

/-- THE SECOND FORM's CARD OF 'atlaslaw01.WordsSizes'. -/
def wordsSizesUptoCard : Claim7 := { stood := { row := wordsSizesUptoRow, standIns := [], harness := (true, "d40143672844464d4506d7febc8e630d11c7be5fc02ce9b309fe69f872db83cb"), looks := false }, kinds := [], alts := [], laidByText := true, laidKinds := [.data], laidTests := true, laidLooks := .later }
def WordsSizesUptoCardSaid : Prop := Claim7.holds Tryd.pinned (.plain (OpenSpec.upto wordsSizesSpec)) wordsSizesUptoCard
end Rows
end Go.Proofs.YtaahbklganhfkaaDoor
