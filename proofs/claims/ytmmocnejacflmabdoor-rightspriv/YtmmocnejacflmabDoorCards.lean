/-
  DERIVED. GIVEN WITH THE SEED: THE CARDS: each row of YtmmocnejacflmabDoorRows.lean that lists a variable, with what it lists TIED to the program's text (the seventh form; the later family's looks); each row that meets fmt, with fmt's text TOLD by the authors' own Lean function (tested against real Go, not proved from fmt's source: count such statements apart). THE CARD IS WHAT COUNTS. Prove the row's statement (the work); the ties are given (YtmmocnejacflmabDoorTie.lean); close each card by the builder's one call (the guide's Derived/Test/ToyasCard.lean, 'card_holds'). Laid BY PROGRAM, IN A SANDBOX (cutbox-door.mjs). By AI agents, Wed Nov 11 2026. No macro, syntax, notation, axiom, sorry.
-/
import Derived.Test.YtmmocnejacflmabDoorRows
import GoSem.ClaimSeven
namespace Go.Proofs.YtmmocnejacflmabDoor
namespace Rows

/-- THE TIED CARD OF 'atlaslaw07.RightsLeaf'. -/
def rightsLeafCard : Claim7 := { stood := { row := rightsLeafRow, standIns := [], harness := (true, "ad304349de8c3f3e456f8ce37468c459565c98ca9c101d09d6f43d5735154a67"), looks := false }, kinds := [], alts := [], laidByText := true, laidKinds := [.data, .data], laidTests := true, laidLooks := .later }
def RightsLeafCardSaid : Prop := Claim7.holds Tryd.pinned (.plain (OpenSpec.ofChange rightsLeafSpec)) rightsLeafCard

/-- THE TIED CARD OF 'atlaslaw07.RightsPriv'. -/
def rightsPrivCard : Claim7 := { stood := { row := rightsPrivRow, standIns := [], harness := (true, "ad304349de8c3f3e456f8ce37468c459565c98ca9c101d09d6f43d5735154a67"), looks := false }, kinds := [], alts := [], laidByText := true, laidKinds := [.data, .data, .data, .data, .data, .data, .data, .data, .data, .data], laidTests := true, laidLooks := .later }
def RightsPrivCardSaid : Prop := Claim7.holds Tryd.pinned (.plain (OpenSpec.ofChange rightsPrivSpec)) rightsPrivCard

/-- THE TIED CARD OF 'atlaslaw07.RightsCheck'. -/
def rightsCheckCard : Claim7 := { stood := { row := rightsCheckRow, standIns := [], harness := (true, "ad304349de8c3f3e456f8ce37468c459565c98ca9c101d09d6f43d5735154a67"), looks := false }, kinds := [], alts := [], laidByText := true, laidKinds := [.data, .data, .data, .data, .data, .data, .data, .data, .data], laidTests := true, laidLooks := .later }
def RightsCheckCardSaid : Prop := Claim7.holds Tryd.pinned (.plain (OpenSpec.ofChange rightsCheckSpec)) rightsCheckCard

/-- THE TIED CARD OF 'atlaslaw07.RightsText'. -/
def rightsTextCard : Claim7 := { stood := { row := rightsTextRow, standIns := [], harness := (true, "ad304349de8c3f3e456f8ce37468c459565c98ca9c101d09d6f43d5735154a67"), looks := false }, kinds := [], alts := [], laidByText := true, laidKinds := [.data, .data, .data, .data, .data], laidTests := true, laidLooks := .later }
def RightsTextCardSaid : Prop := Claim7.holds Tryd.pinned (.plain (OpenSpec.ofChange rightsTextSpec)) rightsTextCard

/-- THE SECOND FORM's CARD OF 'atlaslaw07.RightsLeaf'. -/
def rightsLeafUptoCard : Claim7 := { stood := { row := rightsLeafUptoRow, standIns := [], harness := (true, "ad304349de8c3f3e456f8ce37468c459565c98ca9c101d09d6f43d5735154a67"), looks := false }, kinds := [], alts := [], laidByText := true, laidKinds := [.data, .data], laidTests := true, laidLooks := .later }
def RightsLeafUptoCardSaid : Prop := Claim7.holds Tryd.pinned (.plain (OpenSpec.upto rightsLeafSpec)) rightsLeafUptoCard

/-- THE SECOND FORM's CARD OF 'atlaslaw07.RightsPriv'. -/
def rightsPrivUptoCard : Claim7 := { stood := { row := rightsPrivUptoRow, standIns := [], harness := (true, "ad304349de8c3f3e456f8ce37468c459565c98ca9c101d09d6f43d5735154a67"), looks := false }, kinds := [], alts := [], laidByText := true, laidKinds := [.data, .data, .data, .data, .data, .data, .data, .data, .data, .data], laidTests := true, laidLooks := .later }
def RightsPrivUptoCardSaid : Prop := Claim7.holds Tryd.pinned (.plain (OpenSpec.upto rightsPrivSpec)) rightsPrivUptoCard

/-- THE SECOND FORM's CARD OF 'atlaslaw07.RightsCheck'. -/
def rightsCheckUptoCard : Claim7 := { stood := { row := rightsCheckUptoRow, standIns := [], harness := (true, "ad304349de8c3f3e456f8ce37468c459565c98ca9c101d09d6f43d5735154a67"), looks := false }, kinds := [], alts := [], laidByText := true, laidKinds := [.data, .data, .data, .data, .data, .data, .data, .data, .data], laidTests := true, laidLooks := .later }
def RightsCheckUptoCardSaid : Prop := Claim7.holds Tryd.pinned (.plain (OpenSpec.upto rightsCheckSpec)) rightsCheckUptoCard

/-- THE SECOND FORM's CARD OF 'atlaslaw07.RightsText'. -/
def rightsTextUptoCard : Claim7 := { stood := { row := rightsTextUptoRow, standIns := [], harness := (true, "ad304349de8c3f3e456f8ce37468c459565c98ca9c101d09d6f43d5735154a67"), looks := false }, kinds := [], alts := [], laidByText := true, laidKinds := [.data, .data, .data, .data, .data], laidTests := true, laidLooks := .later }
def RightsTextUptoCardSaid : Prop := Claim7.holds Tryd.pinned (.plain (OpenSpec.upto rightsTextSpec)) rightsTextUptoCard
end Rows
end Go.Proofs.YtmmocnejacflmabDoor
