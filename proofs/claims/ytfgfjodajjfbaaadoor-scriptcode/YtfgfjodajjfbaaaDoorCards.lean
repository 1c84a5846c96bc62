/-
  DERIVED. GIVEN WITH THE SEED: THE CARDS: each row of YtfgfjodajjfbaaaDoorRows.lean that lists a variable, with what it lists TIED to the program's text (the seventh form; the later family's looks); each row that meets fmt, with fmt's text TOLD by the authors' own Lean function (tested against real Go, not proved from fmt's source: count such statements apart). THE CARD IS WHAT COUNTS. Prove the row's statement (the work); the ties are given (YtfgfjodajjfbaaaDoorTie.lean); close each card by the builder's one call (the guide's Derived/Test/ToyasCard.lean, 'card_holds'). Laid BY PROGRAM, IN A SANDBOX (cutbox-door.mjs). By AI agents, Wed Nov 11 2026. No macro, syntax, notation, axiom, sorry.
-/
import Derived.Test.YtfgfjodajjfbaaaDoorRows
import GoSem.ClaimSeven
namespace Go.Proofs.YtfgfjodajjfbaaaDoor
namespace Rows

/-- THE TIED CARD OF 'atlaslaw15.ScriptCode'. -/
def scriptCodeCard : Claim7 := { stood := { row := scriptCodeRow, standIns := [], harness := (true, "52a04cc468cefa26fa32f6c6ccc08670f3e2387f0038081f64cd84b2d0b2c80a"), looks := true }, kinds := [], alts := [], laidByText := true, laidKinds := [.handle, .data, .data, .data], laidTests := true, laidLooks := .later }
def ScriptCodeCardSaid : Prop := Claim7.holds Tryd.pinned (.plain (OpenSpec.ofChange scriptCodeSpec)) scriptCodeCard

/-- THE TIED CARD OF 'atlaslaw15.ScriptBack'. -/
def scriptBackCard : Claim7 := { stood := { row := scriptBackRow, standIns := [], harness := (true, "52a04cc468cefa26fa32f6c6ccc08670f3e2387f0038081f64cd84b2d0b2c80a"), looks := true }, kinds := [], alts := [], laidByText := true, laidKinds := [.data, .data, .data], laidTests := true, laidLooks := .later }
def ScriptBackCardSaid : Prop := Claim7.holds Tryd.pinned (.plain (OpenSpec.ofChange scriptBackSpec)) scriptBackCard

/-- THE TIED CARD OF 'atlaslaw15.ScriptAgain'. -/
def scriptAgainCard : Claim7 := { stood := { row := scriptAgainRow, standIns := [], harness := (true, "52a04cc468cefa26fa32f6c6ccc08670f3e2387f0038081f64cd84b2d0b2c80a"), looks := true }, kinds := [], alts := [], laidByText := true, laidKinds := [.data, .data, .data], laidTests := true, laidLooks := .later }
def ScriptAgainCardSaid : Prop := Claim7.holds Tryd.pinned (.plain (OpenSpec.ofChange scriptAgainSpec)) scriptAgainCard

/-- THE TIED CARD OF 'atlaslaw15.ScriptWraps'. -/
def scriptWrapsCard : Claim7 := { stood := { row := scriptWrapsRow, standIns := [], harness := (true, "52a04cc468cefa26fa32f6c6ccc08670f3e2387f0038081f64cd84b2d0b2c80a"), looks := true }, kinds := [], alts := [], laidByText := true, laidKinds := [.data, .data, .data], laidTests := true, laidLooks := .later }
def ScriptWrapsCardSaid : Prop := Claim7.holds Tryd.pinned (.plain (OpenSpec.ofChange scriptWrapsSpec)) scriptWrapsCard

/-- THE SECOND FORM's CARD OF 'atlaslaw15.ScriptCode'. -/
def scriptCodeUptoCard : Claim7 := { stood := { row := scriptCodeUptoRow, standIns := [], harness := (true, "52a04cc468cefa26fa32f6c6ccc08670f3e2387f0038081f64cd84b2d0b2c80a"), looks := true }, kinds := [], alts := [], laidByText := true, laidKinds := [.handle, .data, .data, .data], laidTests := true, laidLooks := .later }
def ScriptCodeUptoCardSaid : Prop := Claim7.holds Tryd.pinned (.plain (OpenSpec.upto scriptCodeSpec)) scriptCodeUptoCard

/-- THE SECOND FORM's CARD OF 'atlaslaw15.ScriptBack'. -/
def scriptBackUptoCard : Claim7 := { stood := { row := scriptBackUptoRow, standIns := [], harness := (true, "52a04cc468cefa26fa32f6c6ccc08670f3e2387f0038081f64cd84b2d0b2c80a"), looks := true }, kinds := [], alts := [], laidByText := true, laidKinds := [.data, .data, .data], laidTests := true, laidLooks := .later }
def ScriptBackUptoCardSaid : Prop := Claim7.holds Tryd.pinned (.plain (OpenSpec.upto scriptBackSpec)) scriptBackUptoCard

/-- THE SECOND FORM's CARD OF 'atlaslaw15.ScriptAgain'. -/
def scriptAgainUptoCard : Claim7 := { stood := { row := scriptAgainUptoRow, standIns := [], harness := (true, "52a04cc468cefa26fa32f6c6ccc08670f3e2387f0038081f64cd84b2d0b2c80a"), looks := true }, kinds := [], alts := [], laidByText := true, laidKinds := [.data, .data, .data], laidTests := true, laidLooks := .later }
def ScriptAgainUptoCardSaid : Prop := Claim7.holds Tryd.pinned (.plain (OpenSpec.upto scriptAgainSpec)) scriptAgainUptoCard

/-- THE SECOND FORM's CARD OF 'atlaslaw15.ScriptWraps'. -/
def scriptWrapsUptoCard : Claim7 := { stood := { row := scriptWrapsUptoRow, standIns := [], harness := (true, "52a04cc468cefa26fa32f6c6ccc08670f3e2387f0038081f64cd84b2d0b2c80a"), looks := true }, kinds := [], alts := [], laidByText := true, laidKinds := [.data, .data, .data], laidTests := true, laidLooks := .later }
def ScriptWrapsUptoCardSaid : Prop := Claim7.holds Tryd.pinned (.plain (OpenSpec.upto scriptWrapsSpec)) scriptWrapsUptoCard
end Rows
end Go.Proofs.YtfgfjodajjfbaaaDoor
