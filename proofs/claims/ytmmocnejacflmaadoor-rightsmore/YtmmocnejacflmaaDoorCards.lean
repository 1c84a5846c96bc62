/-
  DERIVED. GIVEN WITH THE SEED: THE CARDS: each row of YtmmocnejacflmaaDoorRows.lean that lists a variable, with what it lists TIED to the program's text (the seventh form; the later family's looks); each row that meets fmt, with fmt's text TOLD by the authors' own Lean function (tested against real Go, not proved from fmt's source: count such statements apart). THE CARD IS WHAT COUNTS. Prove the row's statement (the work); the ties are given (YtmmocnejacflmaaDoorTie.lean); close each card by the builder's one call (the guide's Derived/Test/ToyasCard.lean, 'card_holds'). Laid BY PROGRAM, IN A SANDBOX (cutbox-door.mjs). By AI agents, Wed Nov 11 2026. No macro, syntax, notation, axiom, sorry.
-/
import Derived.Test.YtmmocnejacflmaaDoorRows
import GoSem.ClaimSeven
namespace Go.Proofs.YtmmocnejacflmaaDoor
namespace Rows

/-- THE TIED CARD OF 'atlaslaw07.RightsAllows'. -/
def rightsAllowsCard : Claim7 := { stood := { row := rightsAllowsRow, standIns := [], harness := (true, "b6f0e225c8fcfbec37570979f4b7191d882c7c2cac8c57c0580e838fb0a1971d"), looks := false }, kinds := [], alts := [], laidByText := true, laidKinds := [.data, .data], laidTests := true, laidLooks := .later }
def RightsAllowsCardSaid : Prop := Claim7.holds Tryd.pinned (.plain (OpenSpec.ofChange rightsAllowsSpec)) rightsAllowsCard

/-- THE TIED CARD OF 'atlaslaw07.RightsStatus'. -/
def rightsStatusCard : Claim7 := { stood := { row := rightsStatusRow, standIns := [], harness := (true, "b6f0e225c8fcfbec37570979f4b7191d882c7c2cac8c57c0580e838fb0a1971d"), looks := false }, kinds := [], alts := [], laidByText := true, laidKinds := [.data], laidTests := true, laidLooks := .later }
def RightsStatusCardSaid : Prop := Claim7.holds Tryd.pinned (.plain (OpenSpec.ofChange rightsStatusSpec)) rightsStatusCard

/-- THE TIED CARD OF 'atlaslaw07.RightsWords'. -/
def rightsWordsCard : Claim7 := { stood := { row := rightsWordsRow, standIns := [], harness := (true, "b6f0e225c8fcfbec37570979f4b7191d882c7c2cac8c57c0580e838fb0a1971d"), looks := false }, kinds := [], alts := [], laidByText := true, laidKinds := [.data, .data, .data], laidTests := true, laidLooks := .later }
def RightsWordsCardSaid : Prop := Claim7.holds Tryd.pinned (.plain (OpenSpec.ofChange rightsWordsSpec)) rightsWordsCard

/-- THE TIED CARD OF 'atlaslaw07.RightsMore'. -/
def rightsMoreCard : Claim7 := { stood := { row := rightsMoreRow, standIns := [], harness := (true, "b6f0e225c8fcfbec37570979f4b7191d882c7c2cac8c57c0580e838fb0a1971d"), looks := false }, kinds := [], alts := [], laidByText := true, laidKinds := [.data, .data, .data], laidTests := true, laidLooks := .later }
def RightsMoreCardSaid : Prop := Claim7.holds Tryd.pinned (.plain (OpenSpec.ofChange rightsMoreSpec)) rightsMoreCard

/-- THE TIED CARD OF 'atlaslaw07.RightsFault'. -/
def rightsFaultCard : Claim7 := { stood := { row := rightsFaultRow, standIns := [], harness := (true, "b6f0e225c8fcfbec37570979f4b7191d882c7c2cac8c57c0580e838fb0a1971d"), looks := false }, kinds := [], alts := [], laidByText := true, laidKinds := [.data], laidTests := true, laidLooks := .later }
def RightsFaultCardSaid : Prop := Claim7.holds Tryd.pinned (.plain (OpenSpec.ofChange rightsFaultSpec)) rightsFaultCard

/-- THE SECOND FORM's CARD OF 'atlaslaw07.RightsAllows'. -/
def rightsAllowsUptoCard : Claim7 := { stood := { row := rightsAllowsUptoRow, standIns := [], harness := (true, "b6f0e225c8fcfbec37570979f4b7191d882c7c2cac8c57c0580e838fb0a1971d"), looks := false }, kinds := [], alts := [], laidByText := true, laidKinds := [.data, .data], laidTests := true, laidLooks := .later }
def RightsAllowsUptoCardSaid : Prop := Claim7.holds Tryd.pinned (.plain (OpenSpec.upto rightsAllowsSpec)) rightsAllowsUptoCard

/-- THE SECOND FORM's CARD OF 'atlaslaw07.RightsStatus'. -/
def rightsStatusUptoCard : Claim7 := { stood := { row := rightsStatusUptoRow, standIns := [], harness := (true, "b6f0e225c8fcfbec37570979f4b7191d882c7c2cac8c57c0580e838fb0a1971d"), looks := false }, kinds := [], alts := [], laidByText := true, laidKinds := [.data], laidTests := true, laidLooks := .later }
def RightsStatusUptoCardSaid : Prop := Claim7.holds Tryd.pinned (.plain (OpenSpec.upto rightsStatusSpec)) rightsStatusUptoCard

/-- THE SECOND FORM's CARD OF 'atlaslaw07.RightsWords'. -/
def rightsWordsUptoCard : Claim7 := { stood := { row := rightsWordsUptoRow, standIns := [], harness := (true, "b6f0e225c8fcfbec37570979f4b7191d882c7c2cac8c57c0580e838fb0a1971d"), looks := false }, kinds := [], alts := [], laidByText := true, laidKinds := [.data, .data, .data], laidTests := true, laidLooks := .later }
def RightsWordsUptoCardSaid : Prop := Claim7.holds Tryd.pinned (.plain (OpenSpec.upto rightsWordsSpec)) rightsWordsUptoCard

/-- THE SECOND FORM's CARD OF 'atlaslaw07.RightsMore'. -/
def rightsMoreUptoCard : Claim7 := { stood := { row := rightsMoreUptoRow, standIns := [], harness := (true, "b6f0e225c8fcfbec37570979f4b7191d882c7c2cac8c57c0580e838fb0a1971d"), looks := false }, kinds := [], alts := [], laidByText := true, laidKinds := [.data, .data, .data], laidTests := true, laidLooks := .later }
def RightsMoreUptoCardSaid : Prop := Claim7.holds Tryd.pinned (.plain (OpenSpec.upto rightsMoreSpec)) rightsMoreUptoCard

/-- THE SECOND FORM's CARD OF 'atlaslaw07.RightsFault'. -/
def rightsFaultUptoCard : Claim7 := { stood := { row := rightsFaultUptoRow, standIns := [], harness := (true, "b6f0e225c8fcfbec37570979f4b7191d882c7c2cac8c57c0580e838fb0a1971d"), looks := false }, kinds := [], alts := [], laidByText := true, laidKinds := [.data], laidTests := true, laidLooks := .later }
def RightsFaultUptoCardSaid : Prop := Claim7.holds Tryd.pinned (.plain (OpenSpec.upto rightsFaultSpec)) rightsFaultUptoCard
end Rows
end Go.Proofs.YtmmocnejacflmaaDoor
