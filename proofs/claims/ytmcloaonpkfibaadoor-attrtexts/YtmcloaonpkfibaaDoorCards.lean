/-
  DERIVED. GIVEN WITH THE SEED: THE CARDS: each row of YtmcloaonpkfibaaDoorRows.lean that lists a variable, with what it lists TIED to the program's text (the seventh form; the later family's looks); each row that meets fmt, with fmt's text TOLD by the authors' own Lean function (tested against real Go, not proved from fmt's source: count such statements apart). THE CARD IS WHAT COUNTS. Prove the row's statement (the work); the ties are given (YtmcloaonpkfibaaDoorTie.lean); close each card by the builder's one call (the guide's Derived/Test/ToyasCard.lean, 'card_holds'). Laid BY PROGRAM, IN A SANDBOX (cutbox-door.mjs). By AI agents, Wed Nov 11 2026. No macro, syntax, notation, axiom, sorry.
-/
import Derived.Test.YtmcloaonpkfibaaDoorRows
import GoSem.ClaimSeven
namespace Go.Proofs.YtmcloaonpkfibaaDoor
namespace Rows

/-- THE TIED CARD OF 'atlaslaw06.AttrLeast'. -/
def attrLeastCard : Claim7 := { stood := { row := attrLeastRow, standIns := [], harness := (true, "1522d4295ec548cedb1d099063741afc5f0aef3c0ab59445c09fe413ccabae6e"), looks := false }, kinds := [], alts := [], laidByText := true, laidKinds := [.data, .data, .data, .data, .data, .pinned], laidTests := true, laidLooks := .later }
def AttrLeastCardSaid : Prop := Claim7.holds Tryd.pinned (.plain (OpenSpec.ofChange attrLeastSpec)) attrLeastCard

/-- THE TIED CARD OF 'atlaslaw06.AttrBack'. -/
def attrBackCard : Claim7 := { stood := { row := attrBackRow, standIns := [], harness := (true, "1522d4295ec548cedb1d099063741afc5f0aef3c0ab59445c09fe413ccabae6e"), looks := false }, kinds := [], alts := [], laidByText := true, laidKinds := [.data, .data, .data, .data, .data, .pinned], laidTests := true, laidLooks := .later }
def AttrBackCardSaid : Prop := Claim7.holds Tryd.pinned (.plain (OpenSpec.ofChange attrBackSpec)) attrBackCard

/-- THE TIED CARD OF 'atlaslaw06.AttrKinds'. -/
def attrKindsCard : Claim7 := { stood := { row := attrKindsRow, standIns := [], harness := (true, "1522d4295ec548cedb1d099063741afc5f0aef3c0ab59445c09fe413ccabae6e"), looks := false }, kinds := [], alts := [], laidByText := true, laidKinds := [.data, .data, .data, .data, .data, .pinned], laidTests := true, laidLooks := .later }
def AttrKindsCardSaid : Prop := Claim7.holds Tryd.pinned (.plain (OpenSpec.ofChange attrKindsSpec)) attrKindsCard

/-- THE TIED CARD OF 'atlaslaw06.AttrLeft'. -/
def attrLeftCard : Claim7 := { stood := { row := attrLeftRow, standIns := [], harness := (true, "1522d4295ec548cedb1d099063741afc5f0aef3c0ab59445c09fe413ccabae6e"), looks := false }, kinds := [], alts := [], laidByText := true, laidKinds := [.data, .data, .data, .data, .data, .pinned], laidTests := true, laidLooks := .later }
def AttrLeftCardSaid : Prop := Claim7.holds Tryd.pinned (.plain (OpenSpec.ofChange attrLeftSpec)) attrLeftCard

/-- THE TIED CARD OF 'atlaslaw06.AttrUsual'. -/
def attrUsualCard : Claim7 := { stood := { row := attrUsualRow, standIns := [], harness := (true, "1522d4295ec548cedb1d099063741afc5f0aef3c0ab59445c09fe413ccabae6e"), looks := false }, kinds := [], alts := [], laidByText := true, laidKinds := [.data, .data, .data, .data, .data, .pinned], laidTests := true, laidLooks := .later }
def AttrUsualCardSaid : Prop := Claim7.holds Tryd.pinned (.plain (OpenSpec.ofChange attrUsualSpec)) attrUsualCard

/-- THE TIED CARD OF 'atlaslaw06.AttrTexts'. -/
def attrTextsCard : Claim7 := { stood := { row := attrTextsRow, standIns := [], harness := (true, "1522d4295ec548cedb1d099063741afc5f0aef3c0ab59445c09fe413ccabae6e"), looks := false }, kinds := [], alts := [], laidByText := true, laidKinds := [.data, .data, .data, .data, .data, .pinned], laidTests := true, laidLooks := .later }
def AttrTextsCardSaid : Prop := Claim7.holds Tryd.pinned (.plain (OpenSpec.ofChange attrTextsSpec)) attrTextsCard

/-- THE SECOND FORM's CARD OF 'atlaslaw06.AttrLeast'. -/
def attrLeastUptoCard : Claim7 := { stood := { row := attrLeastUptoRow, standIns := [], harness := (true, "1522d4295ec548cedb1d099063741afc5f0aef3c0ab59445c09fe413ccabae6e"), looks := false }, kinds := [], alts := [], laidByText := true, laidKinds := [.data, .data, .data, .data, .data, .pinned], laidTests := true, laidLooks := .later }
def AttrLeastUptoCardSaid : Prop := Claim7.holds Tryd.pinned (.plain (OpenSpec.upto attrLeastSpec)) attrLeastUptoCard

/-- THE SECOND FORM's CARD OF 'atlaslaw06.AttrBack'. -/
def attrBackUptoCard : Claim7 := { stood := { row := attrBackUptoRow, standIns := [], harness := (true, "1522d4295ec548cedb1d099063741afc5f0aef3c0ab59445c09fe413ccabae6e"), looks := false }, kinds := [], alts := [], laidByText := true, laidKinds := [.data, .data, .data, .data, .data, .pinned], laidTests := true, laidLooks := .later }
def AttrBackUptoCardSaid : Prop := Claim7.holds Tryd.pinned (.plain (OpenSpec.upto attrBackSpec)) attrBackUptoCard

/-- THE SECOND FORM's CARD OF 'atlaslaw06.AttrKinds'. -/
def attrKindsUptoCard : Claim7 := { stood := { row := attrKindsUptoRow, standIns := [], harness := (true, "1522d4295ec548cedb1d099063741afc5f0aef3c0ab59445c09fe413ccabae6e"), looks := false }, kinds := [], alts := [], laidByText := true, laidKinds := [.data, .data, .data, .data, .data, .pinned], laidTests := true, laidLooks := .later }
def AttrKindsUptoCardSaid : Prop := Claim7.holds Tryd.pinned (.plain (OpenSpec.upto attrKindsSpec)) attrKindsUptoCard

/-- THE SECOND FORM's CARD OF 'atlaslaw06.AttrLeft'. -/
def attrLeftUptoCard : Claim7 := { stood := { row := attrLeftUptoRow, standIns := [], harness := (true, "1522d4295ec548cedb1d099063741afc5f0aef3c0ab59445c09fe413ccabae6e"), looks := false }, kinds := [], alts := [], laidByText := true, laidKinds := [.data, .data, .data, .data, .data, .pinned], laidTests := true, laidLooks := .later }
def AttrLeftUptoCardSaid : Prop := Claim7.holds Tryd.pinned (.plain (OpenSpec.upto attrLeftSpec)) attrLeftUptoCard

/-- THE SECOND FORM's CARD OF 'atlaslaw06.AttrUsual'. -/
def attrUsualUptoCard : Claim7 := { stood := { row := attrUsualUptoRow, standIns := [], harness := (true, "1522d4295ec548cedb1d099063741afc5f0aef3c0ab59445c09fe413ccabae6e"), looks := false }, kinds := [], alts := [], laidByText := true, laidKinds := [.data, .data, .data, .data, .data, .pinned], laidTests := true, laidLooks := .later }
def AttrUsualUptoCardSaid : Prop := Claim7.holds Tryd.pinned (.plain (OpenSpec.upto attrUsualSpec)) attrUsualUptoCard

/-- THE SECOND FORM's CARD OF 'atlaslaw06.AttrTexts'. -/
def attrTextsUptoCard : Claim7 := { stood := { row := attrTextsUptoRow, standIns := [], harness := (true, "1522d4295ec548cedb1d099063741afc5f0aef3c0ab59445c09fe413ccabae6e"), looks := false }, kinds := [], alts := [], laidByText := true, laidKinds := [.data, .data, .data, .data, .data, .pinned], laidTests := true, laidLooks := .later }
def AttrTextsUptoCardSaid : Prop := Claim7.holds Tryd.pinned (.plain (OpenSpec.upto attrTextsSpec)) attrTextsUptoCard
end Rows
end Go.Proofs.YtmcloaonpkfibaaDoor
