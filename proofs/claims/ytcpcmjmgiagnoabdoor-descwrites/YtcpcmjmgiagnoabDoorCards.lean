/-
  DERIVED. GIVEN WITH THE SEED: THE CARDS: each row of YtcpcmjmgiagnoabDoorRows.lean that lists a variable, with what it lists TIED to the program's text (the seventh form; the later family's looks); each row that meets fmt, with fmt's text TOLD by the authors' own Lean function (tested against real Go, not proved from fmt's source: count such statements apart). THE CARD IS WHAT COUNTS. Prove the row's statement (the work); the ties are given (YtcpcmjmgiagnoabDoorTie.lean); close each card by the builder's one call (the guide's Derived/Test/ToyasCard.lean, 'card_holds'). Laid BY PROGRAM, IN A SANDBOX (cutbox-door.mjs). By AI agents, Wed Nov 11 2026. No macro, syntax, notation, axiom, sorry.
-/
import Derived.Test.YtcpcmjmgiagnoabDoorRows
import GoSem.ClaimSeven
namespace Go.Proofs.YtcpcmjmgiagnoabDoor
namespace Rows

/-- THE TIED CARD OF 'atlaslaw05.DescBack'. -/
def descBackCard : Claim7 := { stood := { row := descBackRow, standIns := [], harness := (true, "a71a5d12331769d18f0f0eb7a7103884c722cf0503521c9a668ac49560daf3ec"), looks := false }, kinds := [], alts := [], laidByText := true, laidKinds := [.data, .data, .data, .data, .data], laidTests := true, laidLooks := .later }
def DescBackCardSaid : Prop := Claim7.holds Tryd.pinned (.plain (OpenSpec.ofChange descBackSpec)) descBackCard

/-- THE TIED CARD OF 'atlaslaw05.DescBlock'. -/
def descBlockCard : Claim7 := { stood := { row := descBlockRow, standIns := [], harness := (true, "a71a5d12331769d18f0f0eb7a7103884c722cf0503521c9a668ac49560daf3ec"), looks := false }, kinds := [], alts := [], laidByText := true, laidKinds := [.data, .data, .data, .data, .data, .data, .data], laidTests := true, laidLooks := .later }
def DescBlockCardSaid : Prop := Claim7.holds Tryd.pinned (.plain (OpenSpec.ofChange descBlockSpec)) descBlockCard

/-- THE TIED CARD OF 'atlaslaw05.DescWrites'. -/
def descWritesCard : Claim7 := { stood := { row := descWritesRow, standIns := [], harness := (true, "a71a5d12331769d18f0f0eb7a7103884c722cf0503521c9a668ac49560daf3ec"), looks := false }, kinds := [], alts := [], laidByText := true, laidKinds := [.data, .data, .data, .data, .data], laidTests := true, laidLooks := .later }
def DescWritesCardSaid : Prop := Claim7.holds Tryd.pinned (.plain (OpenSpec.ofChange descWritesSpec)) descWritesCard

/-- THE SECOND FORM's CARD OF 'atlaslaw05.DescBack'. -/
def descBackUptoCard : Claim7 := { stood := { row := descBackUptoRow, standIns := [], harness := (true, "a71a5d12331769d18f0f0eb7a7103884c722cf0503521c9a668ac49560daf3ec"), looks := false }, kinds := [], alts := [], laidByText := true, laidKinds := [.data, .data, .data, .data, .data], laidTests := true, laidLooks := .later }
def DescBackUptoCardSaid : Prop := Claim7.holds Tryd.pinned (.plain (OpenSpec.upto descBackSpec)) descBackUptoCard

/-- THE SECOND FORM's CARD OF 'atlaslaw05.DescBlock'. -/
def descBlockUptoCard : Claim7 := { stood := { row := descBlockUptoRow, standIns := [], harness := (true, "a71a5d12331769d18f0f0eb7a7103884c722cf0503521c9a668ac49560daf3ec"), looks := false }, kinds := [], alts := [], laidByText := true, laidKinds := [.data, .data, .data, .data, .data, .data, .data], laidTests := true, laidLooks := .later }
def DescBlockUptoCardSaid : Prop := Claim7.holds Tryd.pinned (.plain (OpenSpec.upto descBlockSpec)) descBlockUptoCard

/-- THE SECOND FORM's CARD OF 'atlaslaw05.DescWrites'. -/
def descWritesUptoCard : Claim7 := { stood := { row := descWritesUptoRow, standIns := [], harness := (true, "a71a5d12331769d18f0f0eb7a7103884c722cf0503521c9a668ac49560daf3ec"), looks := false }, kinds := [], alts := [], laidByText := true, laidKinds := [.data, .data, .data, .data, .data], laidTests := true, laidLooks := .later }
def DescWritesUptoCardSaid : Prop := Claim7.holds Tryd.pinned (.plain (OpenSpec.upto descWritesSpec)) descWritesUptoCard
end Rows
end Go.Proofs.YtcpcmjmgiagnoabDoor
