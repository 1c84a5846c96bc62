/-
  DERIVED. GIVEN WITH THE SEED: THE CARDS: each row of YtilhceajhlaojaaGreatDoorRows.lean that lists a variable, with what it lists TIED to the program's text (the seventh form; the later family's looks); each row that meets fmt, with fmt's text TOLD by the authors' own Lean function (tested against real Go, not proved from fmt's source: count such statements apart). THE CARD IS WHAT COUNTS. Prove the row's statement (the work); the ties are given (YtilhceajhlaojaaGreatDoorTie.lean); close each card by the builder's one call (the guide's Derived/Test/ToyasCard.lean, 'card_holds'). Laid BY PROGRAM, IN A SANDBOX (cutbox-door.mjs). By AI agents, Wed Nov 11 2026. No macro, syntax, notation, axiom, sorry.
-/
import Derived.Test.YtilhceajhlaojaaGreatDoorRows
import GoSem.ClaimSeven
namespace Go.Proofs.YtilhceajhlaojaaGreatDoor
namespace Rows

/-- THE TIED CARD OF 'atlaslaw20.CpuPassed'. -/
def cpuPassedCard : Claim7 := { stood := { row := cpuPassedRow, standIns := [], harness := (true, "042e82add3fc090de0596f5fd894a37cb708c8a20ab67afac886e6cbc88b9cbe"), looks := true }, kinds := [], alts := [], laidByText := true, laidKinds := [.data, .data, .wider, .wider, .data], laidTests := true, laidLooks := .later }
def CpuPassedCardSaid : Prop := Claim7.holds Tryz.pinned (.plain (OpenSpec.ofChange cpuPassedSpec)) cpuPassedCard

/-- THE TIED CARD OF 'atlaslaw20.CpuCalls'. -/
def cpuCallsCard : Claim7 := { stood := { row := cpuCallsRow, standIns := [], harness := (true, "042e82add3fc090de0596f5fd894a37cb708c8a20ab67afac886e6cbc88b9cbe"), looks := true }, kinds := [], alts := [], laidByText := true, laidKinds := [.data, .data, .wider, .wider, .data], laidTests := true, laidLooks := .later }
def CpuCallsCardSaid : Prop := Claim7.holds Tryz.pinned (.plain (OpenSpec.ofChange cpuCallsSpec)) cpuCallsCard

/-- THE TIED CARD OF 'atlaslaw20.CpuAgain'. -/
def cpuAgainCard : Claim7 := { stood := { row := cpuAgainRow, standIns := [], harness := (true, "042e82add3fc090de0596f5fd894a37cb708c8a20ab67afac886e6cbc88b9cbe"), looks := true }, kinds := [], alts := [], laidByText := true, laidKinds := [.data, .data, .wider, .wider, .data], laidTests := true, laidLooks := .later }
def CpuAgainCardSaid : Prop := Claim7.holds Tryz.pinned (.plain (OpenSpec.ofChange cpuAgainSpec)) cpuAgainCard

/-- THE TIED CARD OF 'atlaslaw20.CpuBanks'. -/
def cpuBanksCard : Claim7 := { stood := { row := cpuBanksRow, standIns := [], harness := (true, "042e82add3fc090de0596f5fd894a37cb708c8a20ab67afac886e6cbc88b9cbe"), looks := true }, kinds := [], alts := [], laidByText := true, laidKinds := [.data, .data, .wider, .wider, .data], laidTests := true, laidLooks := .later }
def CpuBanksCardSaid : Prop := Claim7.holds Tryz.pinned (.plain (OpenSpec.ofChange cpuBanksSpec)) cpuBanksCard

/-- THE TIED CARD OF 'atlaslaw20.CpuSame'. -/
def cpuSameCard : Claim7 := { stood := { row := cpuSameRow, standIns := [], harness := (true, "042e82add3fc090de0596f5fd894a37cb708c8a20ab67afac886e6cbc88b9cbe"), looks := true }, kinds := [], alts := [], laidByText := true, laidKinds := [.data, .data, .wider, .wider, .data], laidTests := true, laidLooks := .later }
def CpuSameCardSaid : Prop := Claim7.holds Tryz.pinned (.plain (OpenSpec.ofChange cpuSameSpec)) cpuSameCard

/-- THE TIED CARD OF 'atlaslaw20.CpuStates'. -/
def cpuStatesCard : Claim7 := { stood := { row := cpuStatesRow, standIns := [], harness := (true, "042e82add3fc090de0596f5fd894a37cb708c8a20ab67afac886e6cbc88b9cbe"), looks := true }, kinds := [], alts := [], laidByText := true, laidKinds := [.data, .data, .wider, .wider, .data], laidTests := true, laidLooks := .later }
def CpuStatesCardSaid : Prop := Claim7.holds Tryz.pinned (.plain (OpenSpec.ofChange cpuStatesSpec)) cpuStatesCard

/-- THE SECOND FORM's CARD OF 'atlaslaw20.CpuPassed'. -/
def cpuPassedUptoCard : Claim7 := { stood := { row := cpuPassedUptoRow, standIns := [], harness := (true, "042e82add3fc090de0596f5fd894a37cb708c8a20ab67afac886e6cbc88b9cbe"), looks := true }, kinds := [], alts := [], laidByText := true, laidKinds := [.data, .data, .wider, .wider, .data], laidTests := true, laidLooks := .later }
def CpuPassedUptoCardSaid : Prop := Claim7.holds Tryz.pinned (.plain (OpenSpec.upto cpuPassedSpec)) cpuPassedUptoCard

/-- THE SECOND FORM's CARD OF 'atlaslaw20.CpuCalls'. -/
def cpuCallsUptoCard : Claim7 := { stood := { row := cpuCallsUptoRow, standIns := [], harness := (true, "042e82add3fc090de0596f5fd894a37cb708c8a20ab67afac886e6cbc88b9cbe"), looks := true }, kinds := [], alts := [], laidByText := true, laidKinds := [.data, .data, .wider, .wider, .data], laidTests := true, laidLooks := .later }
def CpuCallsUptoCardSaid : Prop := Claim7.holds Tryz.pinned (.plain (OpenSpec.upto cpuCallsSpec)) cpuCallsUptoCard

/-- THE SECOND FORM's CARD OF 'atlaslaw20.CpuAgain'. -/
def cpuAgainUptoCard : Claim7 := { stood := { row := cpuAgainUptoRow, standIns := [], harness := (true, "042e82add3fc090de0596f5fd894a37cb708c8a20ab67afac886e6cbc88b9cbe"), looks := true }, kinds := [], alts := [], laidByText := true, laidKinds := [.data, .data, .wider, .wider, .data], laidTests := true, laidLooks := .later }
def CpuAgainUptoCardSaid : Prop := Claim7.holds Tryz.pinned (.plain (OpenSpec.upto cpuAgainSpec)) cpuAgainUptoCard

/-- THE SECOND FORM's CARD OF 'atlaslaw20.CpuBanks'. -/
def cpuBanksUptoCard : Claim7 := { stood := { row := cpuBanksUptoRow, standIns := [], harness := (true, "042e82add3fc090de0596f5fd894a37cb708c8a20ab67afac886e6cbc88b9cbe"), looks := true }, kinds := [], alts := [], laidByText := true, laidKinds := [.data, .data, .wider, .wider, .data], laidTests := true, laidLooks := .later }
def CpuBanksUptoCardSaid : Prop := Claim7.holds Tryz.pinned (.plain (OpenSpec.upto cpuBanksSpec)) cpuBanksUptoCard

/-- THE SECOND FORM's CARD OF 'atlaslaw20.CpuSame'. -/
def cpuSameUptoCard : Claim7 := { stood := { row := cpuSameUptoRow, standIns := [], harness := (true, "042e82add3fc090de0596f5fd894a37cb708c8a20ab67afac886e6cbc88b9cbe"), looks := true }, kinds := [], alts := [], laidByText := true, laidKinds := [.data, .data, .wider, .wider, .data], laidTests := true, laidLooks := .later }
def CpuSameUptoCardSaid : Prop := Claim7.holds Tryz.pinned (.plain (OpenSpec.upto cpuSameSpec)) cpuSameUptoCard

/-- THE SECOND FORM's CARD OF 'atlaslaw20.CpuStates'. -/
def cpuStatesUptoCard : Claim7 := { stood := { row := cpuStatesUptoRow, standIns := [], harness := (true, "042e82add3fc090de0596f5fd894a37cb708c8a20ab67afac886e6cbc88b9cbe"), looks := true }, kinds := [], alts := [], laidByText := true, laidKinds := [.data, .data, .wider, .wider, .data], laidTests := true, laidLooks := .later }
def CpuStatesUptoCardSaid : Prop := Claim7.holds Tryz.pinned (.plain (OpenSpec.upto cpuStatesSpec)) cpuStatesUptoCard
end Rows
end Go.Proofs.YtilhceajhlaojaaGreatDoor
