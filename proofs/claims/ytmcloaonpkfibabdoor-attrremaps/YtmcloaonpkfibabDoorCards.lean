/-
  DERIVED. GIVEN WITH THE SEED: THE CARDS: each row of YtmcloaonpkfibabDoorRows.lean that lists a variable, with what it lists TIED to the program's text (the seventh form; the later family's looks); each row that meets fmt, with fmt's text TOLD by the authors' own Lean function (tested against real Go, not proved from fmt's source: count such statements apart). THE CARD IS WHAT COUNTS. Prove the row's statement (the work); the ties are given (YtmcloaonpkfibabDoorTie.lean); close each card by the builder's one call (the guide's Derived/Test/ToyasCard.lean, 'card_holds'). Laid BY PROGRAM, IN A SANDBOX (cutbox-door.mjs). By AI agents, Wed Nov 11 2026. No macro, syntax, notation, axiom, sorry.
-/
import Derived.Test.YtmcloaonpkfibabDoorRows
import GoSem.ClaimSeven
namespace Go.Proofs.YtmcloaonpkfibabDoor
namespace Rows

/-- THE TIED CARD OF 'atlaslaw06.AttrPlain'. -/
def attrPlainCard : Claim7 := { stood := { row := attrPlainRow, standIns := [], harness := (true, "579561ea25dc491dc2f6347e521d7b1f04f5d747648cf45fd05f68648aaa5d4f"), looks := false }, kinds := [], alts := [], laidByText := true, laidKinds := [.data, .data, .data, .data, .data, .pinned], laidTests := true, laidLooks := .later }
def AttrPlainCardSaid : Prop := Claim7.holds Tryd.pinned (.plain (OpenSpec.ofChange attrPlainSpec)) attrPlainCard

/-- THE TIED CARD OF 'atlaslaw06.AttrRemaps'. -/
def attrRemapsCard : Claim7 := { stood := { row := attrRemapsRow, standIns := [], harness := (true, "579561ea25dc491dc2f6347e521d7b1f04f5d747648cf45fd05f68648aaa5d4f"), looks := false }, kinds := [], alts := [], laidByText := true, laidKinds := [.data, .data, .data, .data, .data, .pinned], laidTests := true, laidLooks := .later }
def AttrRemapsCardSaid : Prop := Claim7.holds Tryd.pinned (.plain (OpenSpec.ofChange attrRemapsSpec)) attrRemapsCard

/-- THE TIED CARD OF 'atlaslaw06.AttrFinds'. -/
def attrFindsCard : Claim7 := { stood := { row := attrFindsRow, standIns := [], harness := (true, "579561ea25dc491dc2f6347e521d7b1f04f5d747648cf45fd05f68648aaa5d4f"), looks := false }, kinds := [], alts := [], laidByText := true, laidKinds := [.data, .data, .data, .data, .data, .pinned], laidTests := true, laidLooks := .later }
def AttrFindsCardSaid : Prop := Claim7.holds Tryd.pinned (.plain (OpenSpec.ofChange attrFindsSpec)) attrFindsCard

/-- THE SECOND FORM's CARD OF 'atlaslaw06.AttrPlain'. -/
def attrPlainUptoCard : Claim7 := { stood := { row := attrPlainUptoRow, standIns := [], harness := (true, "579561ea25dc491dc2f6347e521d7b1f04f5d747648cf45fd05f68648aaa5d4f"), looks := false }, kinds := [], alts := [], laidByText := true, laidKinds := [.data, .data, .data, .data, .data, .pinned], laidTests := true, laidLooks := .later }
def AttrPlainUptoCardSaid : Prop := Claim7.holds Tryd.pinned (.plain (OpenSpec.upto attrPlainSpec)) attrPlainUptoCard

/-- THE SECOND FORM's CARD OF 'atlaslaw06.AttrRemaps'. -/
def attrRemapsUptoCard : Claim7 := { stood := { row := attrRemapsUptoRow, standIns := [], harness := (true, "579561ea25dc491dc2f6347e521d7b1f04f5d747648cf45fd05f68648aaa5d4f"), looks := false }, kinds := [], alts := [], laidByText := true, laidKinds := [.data, .data, .data, .data, .data, .pinned], laidTests := true, laidLooks := .later }
def AttrRemapsUptoCardSaid : Prop := Claim7.holds Tryd.pinned (.plain (OpenSpec.upto attrRemapsSpec)) attrRemapsUptoCard

/-- THE SECOND FORM's CARD OF 'atlaslaw06.AttrFinds'. -/
def attrFindsUptoCard : Claim7 := { stood := { row := attrFindsUptoRow, standIns := [], harness := (true, "579561ea25dc491dc2f6347e521d7b1f04f5d747648cf45fd05f68648aaa5d4f"), looks := false }, kinds := [], alts := [], laidByText := true, laidKinds := [.data, .data, .data, .data, .data, .pinned], laidTests := true, laidLooks := .later }
def AttrFindsUptoCardSaid : Prop := Claim7.holds Tryd.pinned (.plain (OpenSpec.upto attrFindsSpec)) attrFindsUptoCard
end Rows
end Go.Proofs.YtmcloaonpkfibabDoor
