/-
  DERIVED. GIVEN WITH THE SEED: THE CARDS: each row of YtfbapflbjkmocaaDoorRows.lean that lists a variable, with what it lists TIED to the program's text (the seventh form; the later family's looks); each row that meets fmt, with fmt's text TOLD by the authors' own Lean function (tested against real Go, not proved from fmt's source: count such statements apart). THE CARD IS WHAT COUNTS. Prove the row's statement (the work); the ties are given (YtfbapflbjkmocaaDoorTie.lean); close each card by the builder's one call (the guide's Derived/Test/ToyasCard.lean, 'card_holds'). Laid BY PROGRAM, IN A SANDBOX (cutbox-door.mjs). By AI agents, Wed Nov 11 2026. No macro, syntax, notation, axiom, sorry.
-/
import Derived.Test.YtfbapflbjkmocaaDoorRows
import GoSem.ClaimSeven
namespace Go.Proofs.YtfbapflbjkmocaaDoor
namespace Rows

/-- THE TIED CARD OF 'atlaslaw10.TlbDrops'. -/
def tlbDropsCard : Claim7 := { stood := { row := tlbDropsRow, standIns := [], harness := (true, "7977269923ea92eea6adfb5e0b7c69a790446df7576aadf438353f5238bca282"), looks := false }, kinds := [], alts := [], laidByText := true, laidKinds := [.data, .data, .data, .data, .data, .data, .data], laidTests := true, laidLooks := .later }
def TlbDropsCardSaid : Prop := Claim7.holds Tryd.pinned (.plain (OpenSpec.ofChange tlbDropsSpec)) tlbDropsCard

/-- THE TIED CARD OF 'atlaslaw10.TlbMatches'. -/
def tlbMatchesCard : Claim7 := { stood := { row := tlbMatchesRow, standIns := [], harness := (true, "7977269923ea92eea6adfb5e0b7c69a790446df7576aadf438353f5238bca282"), looks := false }, kinds := [], alts := [], laidByText := true, laidKinds := [.data, .data, .data, .data, .data, .data, .data], laidTests := true, laidLooks := .later }
def TlbMatchesCardSaid : Prop := Claim7.holds Tryd.pinned (.plain (OpenSpec.ofChange tlbMatchesSpec)) tlbMatchesCard

/-- THE TIED CARD OF 'atlaslaw10.TlbKeeps'. -/
def tlbKeepsCard : Claim7 := { stood := { row := tlbKeepsRow, standIns := [], harness := (true, "7977269923ea92eea6adfb5e0b7c69a790446df7576aadf438353f5238bca282"), looks := false }, kinds := [], alts := [], laidByText := true, laidKinds := [.data, .data, .data, .data, .data, .data, .data], laidTests := true, laidLooks := .later }
def TlbKeepsCardSaid : Prop := Claim7.holds Tryd.pinned (.plain (OpenSpec.ofChange tlbKeepsSpec)) tlbKeepsCard

/-- THE TIED CARD OF 'atlaslaw10.TlbFresh'. -/
def tlbFreshCard : Claim7 := { stood := { row := tlbFreshRow, standIns := [], harness := (true, "7977269923ea92eea6adfb5e0b7c69a790446df7576aadf438353f5238bca282"), looks := false }, kinds := [], alts := [], laidByText := true, laidKinds := [.data, .data, .data, .data, .data, .data, .data], laidTests := true, laidLooks := .later }
def TlbFreshCardSaid : Prop := Claim7.holds Tryd.pinned (.plain (OpenSpec.ofChange tlbFreshSpec)) tlbFreshCard

/-- THE TIED CARD OF 'atlaslaw10.TlbTells'. -/
def tlbTellsCard : Claim7 := { stood := { row := tlbTellsRow, standIns := [], harness := (true, "7977269923ea92eea6adfb5e0b7c69a790446df7576aadf438353f5238bca282"), looks := false }, kinds := [], alts := [], laidByText := true, laidKinds := [.data, .data, .data, .data, .data, .data, .data], laidTests := true, laidLooks := .later }
def TlbTellsCardSaid : Prop := Claim7.holds Tryd.pinned (.plain (OpenSpec.ofChange tlbTellsSpec)) tlbTellsCard

/-- THE TIED CARD OF 'atlaslaw10.TlbPlays'. -/
def tlbPlaysCard : Claim7 := { stood := { row := tlbPlaysRow, standIns := [], harness := (true, "7977269923ea92eea6adfb5e0b7c69a790446df7576aadf438353f5238bca282"), looks := false }, kinds := [], alts := [], laidByText := true, laidKinds := [.data, .data, .data, .data, .data, .data, .data], laidTests := true, laidLooks := .later }
def TlbPlaysCardSaid : Prop := Claim7.holds Tryd.pinned (.plain (OpenSpec.ofChange tlbPlaysSpec)) tlbPlaysCard

/-- THE SECOND FORM's CARD OF 'atlaslaw10.TlbDrops'. -/
def tlbDropsUptoCard : Claim7 := { stood := { row := tlbDropsUptoRow, standIns := [], harness := (true, "7977269923ea92eea6adfb5e0b7c69a790446df7576aadf438353f5238bca282"), looks := false }, kinds := [], alts := [], laidByText := true, laidKinds := [.data, .data, .data, .data, .data, .data, .data], laidTests := true, laidLooks := .later }
def TlbDropsUptoCardSaid : Prop := Claim7.holds Tryd.pinned (.plain (OpenSpec.upto tlbDropsSpec)) tlbDropsUptoCard

/-- THE SECOND FORM's CARD OF 'atlaslaw10.TlbMatches'. -/
def tlbMatchesUptoCard : Claim7 := { stood := { row := tlbMatchesUptoRow, standIns := [], harness := (true, "7977269923ea92eea6adfb5e0b7c69a790446df7576aadf438353f5238bca282"), looks := false }, kinds := [], alts := [], laidByText := true, laidKinds := [.data, .data, .data, .data, .data, .data, .data], laidTests := true, laidLooks := .later }
def TlbMatchesUptoCardSaid : Prop := Claim7.holds Tryd.pinned (.plain (OpenSpec.upto tlbMatchesSpec)) tlbMatchesUptoCard

/-- THE SECOND FORM's CARD OF 'atlaslaw10.TlbKeeps'. -/
def tlbKeepsUptoCard : Claim7 := { stood := { row := tlbKeepsUptoRow, standIns := [], harness := (true, "7977269923ea92eea6adfb5e0b7c69a790446df7576aadf438353f5238bca282"), looks := false }, kinds := [], alts := [], laidByText := true, laidKinds := [.data, .data, .data, .data, .data, .data, .data], laidTests := true, laidLooks := .later }
def TlbKeepsUptoCardSaid : Prop := Claim7.holds Tryd.pinned (.plain (OpenSpec.upto tlbKeepsSpec)) tlbKeepsUptoCard

/-- THE SECOND FORM's CARD OF 'atlaslaw10.TlbFresh'. -/
def tlbFreshUptoCard : Claim7 := { stood := { row := tlbFreshUptoRow, standIns := [], harness := (true, "7977269923ea92eea6adfb5e0b7c69a790446df7576aadf438353f5238bca282"), looks := false }, kinds := [], alts := [], laidByText := true, laidKinds := [.data, .data, .data, .data, .data, .data, .data], laidTests := true, laidLooks := .later }
def TlbFreshUptoCardSaid : Prop := Claim7.holds Tryd.pinned (.plain (OpenSpec.upto tlbFreshSpec)) tlbFreshUptoCard

/-- THE SECOND FORM's CARD OF 'atlaslaw10.TlbTells'. -/
def tlbTellsUptoCard : Claim7 := { stood := { row := tlbTellsUptoRow, standIns := [], harness := (true, "7977269923ea92eea6adfb5e0b7c69a790446df7576aadf438353f5238bca282"), looks := false }, kinds := [], alts := [], laidByText := true, laidKinds := [.data, .data, .data, .data, .data, .data, .data], laidTests := true, laidLooks := .later }
def TlbTellsUptoCardSaid : Prop := Claim7.holds Tryd.pinned (.plain (OpenSpec.upto tlbTellsSpec)) tlbTellsUptoCard

/-- THE SECOND FORM's CARD OF 'atlaslaw10.TlbPlays'. -/
def tlbPlaysUptoCard : Claim7 := { stood := { row := tlbPlaysUptoRow, standIns := [], harness := (true, "7977269923ea92eea6adfb5e0b7c69a790446df7576aadf438353f5238bca282"), looks := false }, kinds := [], alts := [], laidByText := true, laidKinds := [.data, .data, .data, .data, .data, .data, .data], laidTests := true, laidLooks := .later }
def TlbPlaysUptoCardSaid : Prop := Claim7.holds Tryd.pinned (.plain (OpenSpec.upto tlbPlaysSpec)) tlbPlaysUptoCard
end Rows
end Go.Proofs.YtfbapflbjkmocaaDoor
