/-
  DERIVED. GIVEN WITH THE SEED: THE CARDS: each row of YtbbnodhpafiplaaDoorRows.lean that lists a variable, with what it lists TIED to the program's text (the seventh form; the later family's looks); each row that meets fmt, with fmt's text TOLD by the authors' own Lean function (tested against real Go, not proved from fmt's source: count such statements apart). THE CARD IS WHAT COUNTS. Prove the row's statement (the work); the ties are given (YtbbnodhpafiplaaDoorTie.lean); close each card by the builder's one call (the guide's Derived/Test/ToyasCard.lean, 'card_holds'). Laid BY PROGRAM, IN A SANDBOX (cutbox-door.mjs). By AI agents, Wed Nov 11 2026. No macro, syntax, notation, axiom, sorry.
-/
import Derived.Test.YtbbnodhpafiplaaDoorRows
import GoSem.ClaimSeven
namespace Go.Proofs.YtbbnodhpafiplaaDoor
namespace Rows

/-- THE TIED CARD OF 'atlaslaw11.HierOrder'. -/
def hierOrderCard : Claim7 := { stood := { row := hierOrderRow, standIns := [], harness := (true, "86888712a6be38297e7b34452d43e69f2f72ed0a8e70a568dc0d764858ecae67"), looks := false }, kinds := [], alts := [], laidByText := true, laidKinds := [.data, .data, .data, .data, .data, .data, .data], laidTests := true, laidLooks := .later }
def HierOrderCardSaid : Prop := Claim7.holds Tryd.pinned (.plain (OpenSpec.ofChange hierOrderSpec)) hierOrderCard

/-- THE TIED CARD OF 'atlaslaw11.HierOnly'. -/
def hierOnlyCard : Claim7 := { stood := { row := hierOnlyRow, standIns := [], harness := (true, "86888712a6be38297e7b34452d43e69f2f72ed0a8e70a568dc0d764858ecae67"), looks := false }, kinds := [], alts := [], laidByText := true, laidKinds := [.data, .data, .data, .data, .data, .data, .data], laidTests := true, laidLooks := .later }
def HierOnlyCardSaid : Prop := Claim7.holds Tryd.pinned (.plain (OpenSpec.ofChange hierOnlySpec)) hierOnlyCard

/-- THE TIED CARD OF 'atlaslaw11.HierAll'. -/
def hierAllCard : Claim7 := { stood := { row := hierAllRow, standIns := [], harness := (true, "86888712a6be38297e7b34452d43e69f2f72ed0a8e70a568dc0d764858ecae67"), looks := false }, kinds := [], alts := [], laidByText := true, laidKinds := [.data, .data, .data, .data, .data, .data, .data], laidTests := true, laidLooks := .later }
def HierAllCardSaid : Prop := Claim7.holds Tryd.pinned (.plain (OpenSpec.ofChange hierAllSpec)) hierAllCard

/-- THE TIED CARD OF 'atlaslaw11.HierOwn'. -/
def hierOwnCard : Claim7 := { stood := { row := hierOwnRow, standIns := [], harness := (true, "86888712a6be38297e7b34452d43e69f2f72ed0a8e70a568dc0d764858ecae67"), looks := false }, kinds := [], alts := [], laidByText := true, laidKinds := [.data, .data, .data, .data, .data, .data, .data], laidTests := true, laidLooks := .later }
def HierOwnCardSaid : Prop := Claim7.holds Tryd.pinned (.plain (OpenSpec.ofChange hierOwnSpec)) hierOwnCard

/-- THE TIED CARD OF 'atlaslaw11.HierFinds'. -/
def hierFindsCard : Claim7 := { stood := { row := hierFindsRow, standIns := [], harness := (true, "86888712a6be38297e7b34452d43e69f2f72ed0a8e70a568dc0d764858ecae67"), looks := false }, kinds := [], alts := [], laidByText := true, laidKinds := [.data, .data, .data, .data, .data, .data, .data], laidTests := true, laidLooks := .later }
def HierFindsCardSaid : Prop := Claim7.holds Tryd.pinned (.plain (OpenSpec.ofChange hierFindsSpec)) hierFindsCard

/-- THE SECOND FORM's CARD OF 'atlaslaw11.HierOrder'. -/
def hierOrderUptoCard : Claim7 := { stood := { row := hierOrderUptoRow, standIns := [], harness := (true, "86888712a6be38297e7b34452d43e69f2f72ed0a8e70a568dc0d764858ecae67"), looks := false }, kinds := [], alts := [], laidByText := true, laidKinds := [.data, .data, .data, .data, .data, .data, .data], laidTests := true, laidLooks := .later }
def HierOrderUptoCardSaid : Prop := Claim7.holds Tryd.pinned (.plain (OpenSpec.upto hierOrderSpec)) hierOrderUptoCard

/-- THE SECOND FORM's CARD OF 'atlaslaw11.HierOnly'. -/
def hierOnlyUptoCard : Claim7 := { stood := { row := hierOnlyUptoRow, standIns := [], harness := (true, "86888712a6be38297e7b34452d43e69f2f72ed0a8e70a568dc0d764858ecae67"), looks := false }, kinds := [], alts := [], laidByText := true, laidKinds := [.data, .data, .data, .data, .data, .data, .data], laidTests := true, laidLooks := .later }
def HierOnlyUptoCardSaid : Prop := Claim7.holds Tryd.pinned (.plain (OpenSpec.upto hierOnlySpec)) hierOnlyUptoCard

/-- THE SECOND FORM's CARD OF 'atlaslaw11.HierAll'. -/
def hierAllUptoCard : Claim7 := { stood := { row := hierAllUptoRow, standIns := [], harness := (true, "86888712a6be38297e7b34452d43e69f2f72ed0a8e70a568dc0d764858ecae67"), looks := false }, kinds := [], alts := [], laidByText := true, laidKinds := [.data, .data, .data, .data, .data, .data, .data], laidTests := true, laidLooks := .later }
def HierAllUptoCardSaid : Prop := Claim7.holds Tryd.pinned (.plain (OpenSpec.upto hierAllSpec)) hierAllUptoCard

/-- THE SECOND FORM's CARD OF 'atlaslaw11.HierOwn'. -/
def hierOwnUptoCard : Claim7 := { stood := { row := hierOwnUptoRow, standIns := [], harness := (true, "86888712a6be38297e7b34452d43e69f2f72ed0a8e70a568dc0d764858ecae67"), looks := false }, kinds := [], alts := [], laidByText := true, laidKinds := [.data, .data, .data, .data, .data, .data, .data], laidTests := true, laidLooks := .later }
def HierOwnUptoCardSaid : Prop := Claim7.holds Tryd.pinned (.plain (OpenSpec.upto hierOwnSpec)) hierOwnUptoCard

/-- THE SECOND FORM's CARD OF 'atlaslaw11.HierFinds'. -/
def hierFindsUptoCard : Claim7 := { stood := { row := hierFindsUptoRow, standIns := [], harness := (true, "86888712a6be38297e7b34452d43e69f2f72ed0a8e70a568dc0d764858ecae67"), looks := false }, kinds := [], alts := [], laidByText := true, laidKinds := [.data, .data, .data, .data, .data, .data, .data], laidTests := true, laidLooks := .later }
def HierFindsUptoCardSaid : Prop := Claim7.holds Tryd.pinned (.plain (OpenSpec.upto hierFindsSpec)) hierFindsUptoCard
end Rows
end Go.Proofs.YtbbnodhpafiplaaDoor
