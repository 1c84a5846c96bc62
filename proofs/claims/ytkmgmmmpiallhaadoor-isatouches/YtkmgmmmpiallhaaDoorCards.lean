/-
  DERIVED. GIVEN WITH THE SEED: THE CARDS: each row of YtkmgmmmpiallhaaDoorRows.lean that lists a variable, with what it lists TIED to the program's text (the seventh form; the later family's looks); each row that meets fmt, with fmt's text TOLD by the authors' own Lean function (tested against real Go, not proved from fmt's source: count such statements apart). THE CARD IS WHAT COUNTS. Prove the row's statement (the work); the ties are given (YtkmgmmmpiallhaaDoorTie.lean); close each card by the builder's one call (the guide's Derived/Test/ToyasCard.lean, 'card_holds'). Laid BY PROGRAM, IN A SANDBOX (cutbox-door.mjs). By AI agents, Wed Nov 11 2026. No macro, syntax, notation, axiom, sorry.
-/
import Derived.Test.YtkmgmmmpiallhaaDoorRows
import GoSem.ClaimSeven
namespace Go.Proofs.YtkmgmmmpiallhaaDoor
namespace Rows

/-- THE TIED CARD OF 'atlaslaw19.IsaBits'. -/
def isaBitsCard : Claim7 := { stood := { row := isaBitsRow, standIns := [], harness := (true, "2efc9772262f929f91f6b68fc0f0889089b8d04e2ef4dc4819cb23e5379f77a0"), looks := false }, kinds := [], alts := [], laidByText := true, laidKinds := [.data, .data, .wider, .wider], laidTests := true, laidLooks := .later }
def IsaBitsCardSaid : Prop := Claim7.holds Tryd.pinned (.plain (OpenSpec.ofChange isaBitsSpec)) isaBitsCard

/-- THE TIED CARD OF 'atlaslaw19.IsaBack'. -/
def isaBackCard : Claim7 := { stood := { row := isaBackRow, standIns := [], harness := (true, "2efc9772262f929f91f6b68fc0f0889089b8d04e2ef4dc4819cb23e5379f77a0"), looks := false }, kinds := [], alts := [], laidByText := true, laidKinds := [.data, .data, .wider, .wider], laidTests := true, laidLooks := .later }
def IsaBackCardSaid : Prop := Claim7.holds Tryd.pinned (.plain (OpenSpec.ofChange isaBackSpec)) isaBackCard

/-- THE TIED CARD OF 'atlaslaw19.IsaSaid'. -/
def isaSaidCard : Claim7 := { stood := { row := isaSaidRow, standIns := [], harness := (true, "2efc9772262f929f91f6b68fc0f0889089b8d04e2ef4dc4819cb23e5379f77a0"), looks := false }, kinds := [], alts := [], laidByText := true, laidKinds := [.data, .data, .wider, .wider], laidTests := true, laidLooks := .later }
def IsaSaidCardSaid : Prop := Claim7.holds Tryd.pinned (.plain (OpenSpec.ofChange isaSaidSpec)) isaSaidCard

/-- THE TIED CARD OF 'atlaslaw19.IsaDecodes'. -/
def isaDecodesCard : Claim7 := { stood := { row := isaDecodesRow, standIns := [], harness := (true, "2efc9772262f929f91f6b68fc0f0889089b8d04e2ef4dc4819cb23e5379f77a0"), looks := false }, kinds := [], alts := [], laidByText := true, laidKinds := [.data, .data, .wider, .wider], laidTests := true, laidLooks := .later }
def IsaDecodesCardSaid : Prop := Claim7.holds Tryd.pinned (.plain (OpenSpec.ofChange isaDecodesSpec)) isaDecodesCard

/-- THE TIED CARD OF 'atlaslaw19.IsaEncodes'. -/
def isaEncodesCard : Claim7 := { stood := { row := isaEncodesRow, standIns := [], harness := (true, "2efc9772262f929f91f6b68fc0f0889089b8d04e2ef4dc4819cb23e5379f77a0"), looks := false }, kinds := [], alts := [], laidByText := true, laidKinds := [.data, .data, .wider, .wider], laidTests := true, laidLooks := .later }
def IsaEncodesCardSaid : Prop := Claim7.holds Tryd.pinned (.plain (OpenSpec.ofChange isaEncodesSpec)) isaEncodesCard

/-- THE TIED CARD OF 'atlaslaw19.IsaTouches'. -/
def isaTouchesCard : Claim7 := { stood := { row := isaTouchesRow, standIns := [], harness := (true, "2efc9772262f929f91f6b68fc0f0889089b8d04e2ef4dc4819cb23e5379f77a0"), looks := false }, kinds := [], alts := [], laidByText := true, laidKinds := [.data, .data, .wider, .wider], laidTests := true, laidLooks := .later }
def IsaTouchesCardSaid : Prop := Claim7.holds Tryd.pinned (.plain (OpenSpec.ofChange isaTouchesSpec)) isaTouchesCard

/-- THE SECOND FORM's CARD OF 'atlaslaw19.IsaBits'. -/
def isaBitsUptoCard : Claim7 := { stood := { row := isaBitsUptoRow, standIns := [], harness := (true, "2efc9772262f929f91f6b68fc0f0889089b8d04e2ef4dc4819cb23e5379f77a0"), looks := false }, kinds := [], alts := [], laidByText := true, laidKinds := [.data, .data, .wider, .wider], laidTests := true, laidLooks := .later }
def IsaBitsUptoCardSaid : Prop := Claim7.holds Tryd.pinned (.plain (OpenSpec.upto isaBitsSpec)) isaBitsUptoCard

/-- THE SECOND FORM's CARD OF 'atlaslaw19.IsaBack'. -/
def isaBackUptoCard : Claim7 := { stood := { row := isaBackUptoRow, standIns := [], harness := (true, "2efc9772262f929f91f6b68fc0f0889089b8d04e2ef4dc4819cb23e5379f77a0"), looks := false }, kinds := [], alts := [], laidByText := true, laidKinds := [.data, .data, .wider, .wider], laidTests := true, laidLooks := .later }
def IsaBackUptoCardSaid : Prop := Claim7.holds Tryd.pinned (.plain (OpenSpec.upto isaBackSpec)) isaBackUptoCard

/-- THE SECOND FORM's CARD OF 'atlaslaw19.IsaSaid'. -/
def isaSaidUptoCard : Claim7 := { stood := { row := isaSaidUptoRow, standIns := [], harness := (true, "2efc9772262f929f91f6b68fc0f0889089b8d04e2ef4dc4819cb23e5379f77a0"), looks := false }, kinds := [], alts := [], laidByText := true, laidKinds := [.data, .data, .wider, .wider], laidTests := true, laidLooks := .later }
def IsaSaidUptoCardSaid : Prop := Claim7.holds Tryd.pinned (.plain (OpenSpec.upto isaSaidSpec)) isaSaidUptoCard

/-- THE SECOND FORM's CARD OF 'atlaslaw19.IsaDecodes'. -/
def isaDecodesUptoCard : Claim7 := { stood := { row := isaDecodesUptoRow, standIns := [], harness := (true, "2efc9772262f929f91f6b68fc0f0889089b8d04e2ef4dc4819cb23e5379f77a0"), looks := false }, kinds := [], alts := [], laidByText := true, laidKinds := [.data, .data, .wider, .wider], laidTests := true, laidLooks := .later }
def IsaDecodesUptoCardSaid : Prop := Claim7.holds Tryd.pinned (.plain (OpenSpec.upto isaDecodesSpec)) isaDecodesUptoCard

/-- THE SECOND FORM's CARD OF 'atlaslaw19.IsaEncodes'. -/
def isaEncodesUptoCard : Claim7 := { stood := { row := isaEncodesUptoRow, standIns := [], harness := (true, "2efc9772262f929f91f6b68fc0f0889089b8d04e2ef4dc4819cb23e5379f77a0"), looks := false }, kinds := [], alts := [], laidByText := true, laidKinds := [.data, .data, .wider, .wider], laidTests := true, laidLooks := .later }
def IsaEncodesUptoCardSaid : Prop := Claim7.holds Tryd.pinned (.plain (OpenSpec.upto isaEncodesSpec)) isaEncodesUptoCard

/-- THE SECOND FORM's CARD OF 'atlaslaw19.IsaTouches'. -/
def isaTouchesUptoCard : Claim7 := { stood := { row := isaTouchesUptoRow, standIns := [], harness := (true, "2efc9772262f929f91f6b68fc0f0889089b8d04e2ef4dc4819cb23e5379f77a0"), looks := false }, kinds := [], alts := [], laidByText := true, laidKinds := [.data, .data, .wider, .wider], laidTests := true, laidLooks := .later }
def IsaTouchesUptoCardSaid : Prop := Claim7.holds Tryd.pinned (.plain (OpenSpec.upto isaTouchesSpec)) isaTouchesUptoCard
end Rows
end Go.Proofs.YtkmgmmmpiallhaaDoor
