/-
  DERIVED. GIVEN WITH THE SEED: THE CARDS: each row of YtbbnodhpafiplabDoorRows.lean that lists a variable, with what it lists TIED to the program's text (the seventh form; the later family's looks); each row that meets fmt, with fmt's text TOLD by the authors' own Lean function (tested against real Go, not proved from fmt's source: count such statements apart). THE CARD IS WHAT COUNTS. Prove the row's statement (the work); the ties are given (YtbbnodhpafiplabDoorTie.lean); close each card by the builder's one call (the guide's Derived/Test/ToyasCard.lean, 'card_holds'). Laid BY PROGRAM, IN A SANDBOX (cutbox-door.mjs). By AI agents, Wed Nov 11 2026. No macro, syntax, notation, axiom, sorry.
-/
import Derived.Test.YtbbnodhpafiplabDoorRows
import GoSem.ClaimSeven
namespace Go.Proofs.YtbbnodhpafiplabDoor
namespace Rows

/-- THE TIED CARD OF 'atlaslaw11.HierKeeps'. -/
def hierKeepsCard : Claim7 := { stood := { row := hierKeepsRow, standIns := [], harness := (true, "8523bb110bf5a4b1bae37e88b30aa386a3232e280f2c313b22f88132f962edb6"), looks := false }, kinds := [], alts := [], laidByText := true, laidKinds := [.data, .data, .data, .data, .data, .data, .data], laidTests := true, laidLooks := .later }
def HierKeepsCardSaid : Prop := Claim7.holds Tryd.pinned (.plain (OpenSpec.ofChange hierKeepsSpec)) hierKeepsCard

/-- THE TIED CARD OF 'atlaslaw11.HierEvicts'. -/
def hierEvictsCard : Claim7 := { stood := { row := hierEvictsRow, standIns := [], harness := (true, "8523bb110bf5a4b1bae37e88b30aa386a3232e280f2c313b22f88132f962edb6"), looks := false }, kinds := [], alts := [], laidByText := true, laidKinds := [.data, .data, .data, .data, .data, .data, .data], laidTests := true, laidLooks := .later }
def HierEvictsCardSaid : Prop := Claim7.holds Tryd.pinned (.plain (OpenSpec.ofChange hierEvictsSpec)) hierEvictsCard

/-- THE TIED CARD OF 'atlaslaw11.HierDrops'. -/
def hierDropsCard : Claim7 := { stood := { row := hierDropsRow, standIns := [], harness := (true, "8523bb110bf5a4b1bae37e88b30aa386a3232e280f2c313b22f88132f962edb6"), looks := false }, kinds := [], alts := [], laidByText := true, laidKinds := [.data, .data, .data, .data, .data, .data, .data], laidTests := true, laidLooks := .later }
def HierDropsCardSaid : Prop := Claim7.holds Tryd.pinned (.plain (OpenSpec.ofChange hierDropsSpec)) hierDropsCard

/-- THE SECOND FORM's CARD OF 'atlaslaw11.HierKeeps'. -/
def hierKeepsUptoCard : Claim7 := { stood := { row := hierKeepsUptoRow, standIns := [], harness := (true, "8523bb110bf5a4b1bae37e88b30aa386a3232e280f2c313b22f88132f962edb6"), looks := false }, kinds := [], alts := [], laidByText := true, laidKinds := [.data, .data, .data, .data, .data, .data, .data], laidTests := true, laidLooks := .later }
def HierKeepsUptoCardSaid : Prop := Claim7.holds Tryd.pinned (.plain (OpenSpec.upto hierKeepsSpec)) hierKeepsUptoCard

/-- THE SECOND FORM's CARD OF 'atlaslaw11.HierEvicts'. -/
def hierEvictsUptoCard : Claim7 := { stood := { row := hierEvictsUptoRow, standIns := [], harness := (true, "8523bb110bf5a4b1bae37e88b30aa386a3232e280f2c313b22f88132f962edb6"), looks := false }, kinds := [], alts := [], laidByText := true, laidKinds := [.data, .data, .data, .data, .data, .data, .data], laidTests := true, laidLooks := .later }
def HierEvictsUptoCardSaid : Prop := Claim7.holds Tryd.pinned (.plain (OpenSpec.upto hierEvictsSpec)) hierEvictsUptoCard

/-- THE SECOND FORM's CARD OF 'atlaslaw11.HierDrops'. -/
def hierDropsUptoCard : Claim7 := { stood := { row := hierDropsUptoRow, standIns := [], harness := (true, "8523bb110bf5a4b1bae37e88b30aa386a3232e280f2c313b22f88132f962edb6"), looks := false }, kinds := [], alts := [], laidByText := true, laidKinds := [.data, .data, .data, .data, .data, .data, .data], laidTests := true, laidLooks := .later }
def HierDropsUptoCardSaid : Prop := Claim7.holds Tryd.pinned (.plain (OpenSpec.upto hierDropsSpec)) hierDropsUptoCard
end Rows
end Go.Proofs.YtbbnodhpafiplabDoor
