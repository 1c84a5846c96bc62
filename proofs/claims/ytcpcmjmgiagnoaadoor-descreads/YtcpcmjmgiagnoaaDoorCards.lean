/-
  DERIVED. GIVEN WITH THE SEED: THE CARDS: each row of YtcpcmjmgiagnoaaDoorRows.lean that lists a variable, with what it lists TIED to the program's text (the seventh form; the later family's looks); each row that meets fmt, with fmt's text TOLD by the authors' own Lean function (tested against real Go, not proved from fmt's source: count such statements apart). THE CARD IS WHAT COUNTS. Prove the row's statement (the work); the ties are given (YtcpcmjmgiagnoaaDoorTie.lean); close each card by the builder's one call (the guide's Derived/Test/ToyasCard.lean, 'card_holds'). Laid BY PROGRAM, IN A SANDBOX (cutbox-door.mjs). By AI agents, Wed Nov 11 2026. No macro, syntax, notation, axiom, sorry.
-/
import Derived.Test.YtcpcmjmgiagnoaaDoorRows
import GoSem.ClaimSeven
namespace Go.Proofs.YtcpcmjmgiagnoaaDoor
namespace Rows

/-- THE TIED CARD OF 'atlaslaw05.DescSizes'. -/
def descSizesCard : Claim7 := { stood := { row := descSizesRow, standIns := [], harness := (true, "e45bbba0689b8108de36de057e2c958d9dc9459ed7bf6e2e96ed2ea936f82221"), looks := false }, kinds := [], alts := [], laidByText := true, laidKinds := [.data, .data, .data], laidTests := true, laidLooks := .later }
def DescSizesCardSaid : Prop := Claim7.holds Tryd.pinned (.plain (OpenSpec.ofChange descSizesSpec)) descSizesCard

/-- THE TIED CARD OF 'atlaslaw05.DescReads'. -/
def descReadsCard : Claim7 := { stood := { row := descReadsRow, standIns := [], harness := (true, "e45bbba0689b8108de36de057e2c958d9dc9459ed7bf6e2e96ed2ea936f82221"), looks := false }, kinds := [], alts := [], laidByText := true, laidKinds := [.data, .data, .data, .data], laidTests := true, laidLooks := .later }
def DescReadsCardSaid : Prop := Claim7.holds Tryd.pinned (.plain (OpenSpec.ofChange descReadsSpec)) descReadsCard

/-- THE TIED CARD OF 'atlaslaw05.DescEntry'. -/
def descEntryCard : Claim7 := { stood := { row := descEntryRow, standIns := [], harness := (true, "e45bbba0689b8108de36de057e2c958d9dc9459ed7bf6e2e96ed2ea936f82221"), looks := false }, kinds := [], alts := [], laidByText := true, laidKinds := [.data, .data, .data, .data, .data, .data, .data], laidTests := true, laidLooks := .later }
def DescEntryCardSaid : Prop := Claim7.holds Tryd.pinned (.plain (OpenSpec.ofChange descEntrySpec)) descEntryCard

/-- THE TIED CARD OF 'atlaslaw05.DescFlip'. -/
def descFlipCard : Claim7 := { stood := { row := descFlipRow, standIns := [], harness := (true, "e45bbba0689b8108de36de057e2c958d9dc9459ed7bf6e2e96ed2ea936f82221"), looks := false }, kinds := [], alts := [], laidByText := true, laidKinds := [.data, .data, .data, .data, .data], laidTests := true, laidLooks := .later }
def DescFlipCardSaid : Prop := Claim7.holds Tryd.pinned (.plain (OpenSpec.ofChange descFlipSpec)) descFlipCard

/-- THE TIED CARD OF 'atlaslaw05.DescSaid'. -/
def descSaidCard : Claim7 := { stood := { row := descSaidRow, standIns := [], harness := (true, "e45bbba0689b8108de36de057e2c958d9dc9459ed7bf6e2e96ed2ea936f82221"), looks := false }, kinds := [], alts := [], laidByText := true, laidKinds := [.data, .data, .data, .data, .data], laidTests := true, laidLooks := .later }
def DescSaidCardSaid : Prop := Claim7.holds Tryd.pinned (.plain (OpenSpec.ofChange descSaidSpec)) descSaidCard

/-- THE TIED CARD OF 'atlaslaw05.DescTrans'. -/
def descTransCard : Claim7 := { stood := { row := descTransRow, standIns := [], harness := (true, "e45bbba0689b8108de36de057e2c958d9dc9459ed7bf6e2e96ed2ea936f82221"), looks := false }, kinds := [], alts := [], laidByText := true, laidKinds := [.data, .data, .data, .data, .data, .data], laidTests := true, laidLooks := .later }
def DescTransCardSaid : Prop := Claim7.holds Tryd.pinned (.plain (OpenSpec.ofChange descTransSpec)) descTransCard

/-- THE SECOND FORM's CARD OF 'atlaslaw05.DescSizes'. -/
def descSizesUptoCard : Claim7 := { stood := { row := descSizesUptoRow, standIns := [], harness := (true, "e45bbba0689b8108de36de057e2c958d9dc9459ed7bf6e2e96ed2ea936f82221"), looks := false }, kinds := [], alts := [], laidByText := true, laidKinds := [.data, .data, .data], laidTests := true, laidLooks := .later }
def DescSizesUptoCardSaid : Prop := Claim7.holds Tryd.pinned (.plain (OpenSpec.upto descSizesSpec)) descSizesUptoCard

/-- THE SECOND FORM's CARD OF 'atlaslaw05.DescReads'. -/
def descReadsUptoCard : Claim7 := { stood := { row := descReadsUptoRow, standIns := [], harness := (true, "e45bbba0689b8108de36de057e2c958d9dc9459ed7bf6e2e96ed2ea936f82221"), looks := false }, kinds := [], alts := [], laidByText := true, laidKinds := [.data, .data, .data, .data], laidTests := true, laidLooks := .later }
def DescReadsUptoCardSaid : Prop := Claim7.holds Tryd.pinned (.plain (OpenSpec.upto descReadsSpec)) descReadsUptoCard

/-- THE SECOND FORM's CARD OF 'atlaslaw05.DescEntry'. -/
def descEntryUptoCard : Claim7 := { stood := { row := descEntryUptoRow, standIns := [], harness := (true, "e45bbba0689b8108de36de057e2c958d9dc9459ed7bf6e2e96ed2ea936f82221"), looks := false }, kinds := [], alts := [], laidByText := true, laidKinds := [.data, .data, .data, .data, .data, .data, .data], laidTests := true, laidLooks := .later }
def DescEntryUptoCardSaid : Prop := Claim7.holds Tryd.pinned (.plain (OpenSpec.upto descEntrySpec)) descEntryUptoCard

/-- THE SECOND FORM's CARD OF 'atlaslaw05.DescFlip'. -/
def descFlipUptoCard : Claim7 := { stood := { row := descFlipUptoRow, standIns := [], harness := (true, "e45bbba0689b8108de36de057e2c958d9dc9459ed7bf6e2e96ed2ea936f82221"), looks := false }, kinds := [], alts := [], laidByText := true, laidKinds := [.data, .data, .data, .data, .data], laidTests := true, laidLooks := .later }
def DescFlipUptoCardSaid : Prop := Claim7.holds Tryd.pinned (.plain (OpenSpec.upto descFlipSpec)) descFlipUptoCard

/-- THE SECOND FORM's CARD OF 'atlaslaw05.DescSaid'. -/
def descSaidUptoCard : Claim7 := { stood := { row := descSaidUptoRow, standIns := [], harness := (true, "e45bbba0689b8108de36de057e2c958d9dc9459ed7bf6e2e96ed2ea936f82221"), looks := false }, kinds := [], alts := [], laidByText := true, laidKinds := [.data, .data, .data, .data, .data], laidTests := true, laidLooks := .later }
def DescSaidUptoCardSaid : Prop := Claim7.holds Tryd.pinned (.plain (OpenSpec.upto descSaidSpec)) descSaidUptoCard

/-- THE SECOND FORM's CARD OF 'atlaslaw05.DescTrans'. -/
def descTransUptoCard : Claim7 := { stood := { row := descTransUptoRow, standIns := [], harness := (true, "e45bbba0689b8108de36de057e2c958d9dc9459ed7bf6e2e96ed2ea936f82221"), looks := false }, kinds := [], alts := [], laidByText := true, laidKinds := [.data, .data, .data, .data, .data, .data], laidTests := true, laidLooks := .later }
def DescTransUptoCardSaid : Prop := Claim7.holds Tryd.pinned (.plain (OpenSpec.upto descTransSpec)) descTransUptoCard
end Rows
end Go.Proofs.YtcpcmjmgiagnoaaDoor
