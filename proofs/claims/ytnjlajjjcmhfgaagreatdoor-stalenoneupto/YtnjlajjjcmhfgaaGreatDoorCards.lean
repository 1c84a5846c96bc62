/-
  DERIVED. GIVEN WITH THE SEED: THE CARDS: each row of YtnjlajjjcmhfgaaGreatDoorRows.lean that lists a variable, with what it lists TIED to the program's text (the seventh form; the later family's looks); each row that meets fmt, with fmt's text TOLD by the authors' own Lean function (tested against real Go, not proved from fmt's source: count such statements apart). THE CARD IS WHAT COUNTS. Prove the row's statement (the work); the ties are given (YtnjlajjjcmhfgaaGreatDoorTie.lean); close each card by the builder's one call (the guide's Derived/Test/ToyasCard.lean, 'card_holds'). Laid BY PROGRAM, IN A SANDBOX (cutbox-door.mjs). By AI agents, Wed Nov 11 2026. No macro, syntax, notation, axiom, sorry.
-/
import Derived.Test.YtnjlajjjcmhfgaaGreatDoorRows
import GoSem.ClaimSeven
namespace Go.Proofs.YtnjlajjjcmhfgaaGreatDoor
namespace Rows

/-- THE TIED CARD OF 'atlaslaw12.StaleSeen'. -/
def staleSeenCard : Claim7 := { stood := { row := staleSeenRow, standIns := [], harness := (true, "d81ecff83d65315ab66a57671c52211763213aeffe9cc9b9aa116445edcc9cd6"), looks := false }, kinds := [], alts := [], laidByText := true, laidKinds := [.data, .data, .data, .data, .data, .data, .data, .data], laidTests := true, laidLooks := .later }
def StaleSeenCardSaid : Prop := Claim7.holds Tryz.pinned (.plain (OpenSpec.ofChange staleSeenSpec)) staleSeenCard

/-- THE TIED CARD OF 'atlaslaw12.StaleDrops'. -/
def staleDropsCard : Claim7 := { stood := { row := staleDropsRow, standIns := [], harness := (true, "d81ecff83d65315ab66a57671c52211763213aeffe9cc9b9aa116445edcc9cd6"), looks := false }, kinds := [], alts := [], laidByText := true, laidKinds := [.data, .data, .data, .data, .data, .data, .data, .data], laidTests := true, laidLooks := .later }
def StaleDropsCardSaid : Prop := Claim7.holds Tryz.pinned (.plain (OpenSpec.ofChange staleDropsSpec)) staleDropsCard

/-- THE TIED CARD OF 'atlaslaw12.StaleServes'. -/
def staleServesCard : Claim7 := { stood := { row := staleServesRow, standIns := [], harness := (true, "d81ecff83d65315ab66a57671c52211763213aeffe9cc9b9aa116445edcc9cd6"), looks := false }, kinds := [], alts := [], laidByText := true, laidKinds := [.data, .data, .data, .data, .data, .data, .data, .data], laidTests := true, laidLooks := .later }
def StaleServesCardSaid : Prop := Claim7.holds Tryz.pinned (.plain (OpenSpec.ofChange staleServesSpec)) staleServesCard

/-- THE TIED CARD OF 'atlaslaw12.StaleNone'. -/
def staleNoneCard : Claim7 := { stood := { row := staleNoneRow, standIns := [], harness := (true, "d81ecff83d65315ab66a57671c52211763213aeffe9cc9b9aa116445edcc9cd6"), looks := false }, kinds := [], alts := [], laidByText := true, laidKinds := [.data, .data, .data, .data, .data, .data, .data, .data, .data], laidTests := true, laidLooks := .later }
def StaleNoneCardSaid : Prop := Claim7.holds Tryz.pinned (.plain (OpenSpec.ofChange staleNoneSpec)) staleNoneCard

/-- THE TIED CARD OF 'atlaslaw12.StaleFresh'. -/
def staleFreshCard : Claim7 := { stood := { row := staleFreshRow, standIns := [], harness := (true, "d81ecff83d65315ab66a57671c52211763213aeffe9cc9b9aa116445edcc9cd6"), looks := false }, kinds := [], alts := [], laidByText := true, laidKinds := [.data, .data, .data, .data, .data, .data, .data, .data, .data], laidTests := true, laidLooks := .later }
def StaleFreshCardSaid : Prop := Claim7.holds Tryz.pinned (.plain (OpenSpec.ofChange staleFreshSpec)) staleFreshCard

/-- THE TIED CARD OF 'atlaslaw12.StalePages'. -/
def stalePagesCard : Claim7 := { stood := { row := stalePagesRow, standIns := [], harness := (true, "d81ecff83d65315ab66a57671c52211763213aeffe9cc9b9aa116445edcc9cd6"), looks := false }, kinds := [], alts := [], laidByText := true, laidKinds := [.data, .data, .data, .data, .data, .data, .data, .data, .data], laidTests := true, laidLooks := .later }
def StalePagesCardSaid : Prop := Claim7.holds Tryz.pinned (.plain (OpenSpec.ofChange stalePagesSpec)) stalePagesCard

/-- THE SECOND FORM's CARD OF 'atlaslaw12.StaleSeen'. -/
def staleSeenUptoCard : Claim7 := { stood := { row := staleSeenUptoRow, standIns := [], harness := (true, "d81ecff83d65315ab66a57671c52211763213aeffe9cc9b9aa116445edcc9cd6"), looks := false }, kinds := [], alts := [], laidByText := true, laidKinds := [.data, .data, .data, .data, .data, .data, .data, .data], laidTests := true, laidLooks := .later }
def StaleSeenUptoCardSaid : Prop := Claim7.holds Tryz.pinned (.plain (OpenSpec.upto staleSeenSpec)) staleSeenUptoCard

/-- THE SECOND FORM's CARD OF 'atlaslaw12.StaleDrops'. -/
def staleDropsUptoCard : Claim7 := { stood := { row := staleDropsUptoRow, standIns := [], harness := (true, "d81ecff83d65315ab66a57671c52211763213aeffe9cc9b9aa116445edcc9cd6"), looks := false }, kinds := [], alts := [], laidByText := true, laidKinds := [.data, .data, .data, .data, .data, .data, .data, .data], laidTests := true, laidLooks := .later }
def StaleDropsUptoCardSaid : Prop := Claim7.holds Tryz.pinned (.plain (OpenSpec.upto staleDropsSpec)) staleDropsUptoCard

/-- THE SECOND FORM's CARD OF 'atlaslaw12.StaleServes'. -/
def staleServesUptoCard : Claim7 := { stood := { row := staleServesUptoRow, standIns := [], harness := (true, "d81ecff83d65315ab66a57671c52211763213aeffe9cc9b9aa116445edcc9cd6"), looks := false }, kinds := [], alts := [], laidByText := true, laidKinds := [.data, .data, .data, .data, .data, .data, .data, .data], laidTests := true, laidLooks := .later }
def StaleServesUptoCardSaid : Prop := Claim7.holds Tryz.pinned (.plain (OpenSpec.upto staleServesSpec)) staleServesUptoCard

/-- THE SECOND FORM's CARD OF 'atlaslaw12.StaleNone'. -/
def staleNoneUptoCard : Claim7 := { stood := { row := staleNoneUptoRow, standIns := [], harness := (true, "d81ecff83d65315ab66a57671c52211763213aeffe9cc9b9aa116445edcc9cd6"), looks := false }, kinds := [], alts := [], laidByText := true, laidKinds := [.data, .data, .data, .data, .data, .data, .data, .data, .data], laidTests := true, laidLooks := .later }
def StaleNoneUptoCardSaid : Prop := Claim7.holds Tryz.pinned (.plain (OpenSpec.upto staleNoneSpec)) staleNoneUptoCard

/-- THE SECOND FORM's CARD OF 'atlaslaw12.StaleFresh'. -/
def staleFreshUptoCard : Claim7 := { stood := { row := staleFreshUptoRow, standIns := [], harness := (true, "d81ecff83d65315ab66a57671c52211763213aeffe9cc9b9aa116445edcc9cd6"), looks := false }, kinds := [], alts := [], laidByText := true, laidKinds := [.data, .data, .data, .data, .data, .data, .data, .data, .data], laidTests := true, laidLooks := .later }
def StaleFreshUptoCardSaid : Prop := Claim7.holds Tryz.pinned (.plain (OpenSpec.upto staleFreshSpec)) staleFreshUptoCard

/-- THE SECOND FORM's CARD OF 'atlaslaw12.StalePages'. -/
def stalePagesUptoCard : Claim7 := { stood := { row := stalePagesUptoRow, standIns := [], harness := (true, "d81ecff83d65315ab66a57671c52211763213aeffe9cc9b9aa116445edcc9cd6"), looks := false }, kinds := [], alts := [], laidByText := true, laidKinds := [.data, .data, .data, .data, .data, .data, .data, .data, .data], laidTests := true, laidLooks := .later }
def StalePagesUptoCardSaid : Prop := Claim7.holds Tryz.pinned (.plain (OpenSpec.upto stalePagesSpec)) stalePagesUptoCard
end Rows
end Go.Proofs.YtnjlajjjcmhfgaaGreatDoor
