/-
  DERIVED. GIVEN WITH THE SEED: THE CARDS: each row of YtmodcbdgnmjkoabDoorRows.lean that lists a variable, with what it lists TIED to the program's text (the seventh form; the later family's looks); each row that meets fmt, with fmt's text TOLD by the authors' own Lean function (tested against real Go, not proved from fmt's source: count such statements apart). THE CARD IS WHAT COUNTS. Prove the row's statement (the work); the ties are given (YtmodcbdgnmjkoabDoorTie.lean); close each card by the builder's one call (the guide's Derived/Test/ToyasCard.lean, 'card_holds'). Laid BY PROGRAM, IN A SANDBOX (cutbox-door.mjs). By AI agents, Wed Nov 11 2026. No macro, syntax, notation, axiom, sorry.
-/
import Derived.Test.YtmodcbdgnmjkoabDoorRows
import GoSem.ClaimSeven
namespace Go.Proofs.YtmodcbdgnmjkoabDoor
namespace Rows

/-- THE TIED CARD OF 'atlaslaw09.WalkGo'. -/
def walkGoCard : Claim7 := { stood := { row := walkGoRow, standIns := [], harness := (true, "98e5076a1c98ee23a5843456576d6745948675639c56666626370189e41ba8ac"), looks := false }, kinds := [], alts := [], laidByText := true, laidKinds := [.data, .data, .data, .data, .data, .data, .data, .data, .data], laidTests := true, laidLooks := .later }
def WalkGoCardSaid : Prop := Claim7.holds Tryd.pinned (.plain (OpenSpec.ofChange walkGoSpec)) walkGoCard

/-- THE TIED CARD OF 'atlaslaw09.WalkBlocks'. -/
def walkBlocksCard : Claim7 := { stood := { row := walkBlocksRow, standIns := [], harness := (true, "98e5076a1c98ee23a5843456576d6745948675639c56666626370189e41ba8ac"), looks := false }, kinds := [], alts := [], laidByText := true, laidKinds := [.data, .data, .data, .data, .data, .data], laidTests := true, laidLooks := .later }
def WalkBlocksCardSaid : Prop := Claim7.holds Tryd.pinned (.plain (OpenSpec.ofChange walkBlocksSpec)) walkBlocksCard

/-- THE SECOND FORM's CARD OF 'atlaslaw09.WalkGo'. -/
def walkGoUptoCard : Claim7 := { stood := { row := walkGoUptoRow, standIns := [], harness := (true, "98e5076a1c98ee23a5843456576d6745948675639c56666626370189e41ba8ac"), looks := false }, kinds := [], alts := [], laidByText := true, laidKinds := [.data, .data, .data, .data, .data, .data, .data, .data, .data], laidTests := true, laidLooks := .later }
def WalkGoUptoCardSaid : Prop := Claim7.holds Tryd.pinned (.plain (OpenSpec.upto walkGoSpec)) walkGoUptoCard

/-- THE SECOND FORM's CARD OF 'atlaslaw09.WalkBlocks'. -/
def walkBlocksUptoCard : Claim7 := { stood := { row := walkBlocksUptoRow, standIns := [], harness := (true, "98e5076a1c98ee23a5843456576d6745948675639c56666626370189e41ba8ac"), looks := false }, kinds := [], alts := [], laidByText := true, laidKinds := [.data, .data, .data, .data, .data, .data], laidTests := true, laidLooks := .later }
def WalkBlocksUptoCardSaid : Prop := Claim7.holds Tryd.pinned (.plain (OpenSpec.upto walkBlocksSpec)) walkBlocksUptoCard
end Rows
end Go.Proofs.YtmodcbdgnmjkoabDoor
