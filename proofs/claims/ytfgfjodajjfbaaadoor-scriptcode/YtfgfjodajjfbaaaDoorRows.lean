/-
  NARROWER THAN 'FOR EVERY INPUT', by the rows' own cells (each row's printed sentence says how): ScriptCode: laid · ScriptBack: laid · ScriptAgain: laid · ScriptWraps: laid.
  DERIVED. THE GIVEN ROWS OF THIS SEAT. 4 by the template 'for every input the law returns true; each argument reads behind the call as it read before'; 0 by the template 'total and deterministic' (their statements: YtfgfjodajjfbaaaDoorTotals.lean).
  GIVEN WITH THE SEED: the statements are not yours to turn. If you find one false, say at which input.
  Laid BY PROGRAM, IN A SANDBOX (cutbox-rows.mjs): the forced cells as the released guide's own fill.sh prints them over the translation 59b2c2ec29568f22… (all of the seat's roots in one cut). By AI agents, Wed Nov 11 2026. No macro, syntax, notation, axiom, sorry.
-/
import Derived.Test.YtfgfjodajjfbaaaDoorChecked
import GoSem.Claim
import GoSem.ClaimJoined
import GoSem.ClaimMapViews
import Derived.JoinedTies
import Derived.KernelRfl
namespace Go.Proofs.YtfgfjodajjfbaaaDoor
/- THE CELL 'sum', in the pinned program and in every row, IS THE sha256 OF THE DUMP (.gsa) THAT YtfgfjodajjfbaaaDoorProg.lean LOADS. Nothing in Lean hashes anything: it is a label: what it is worth is what the hold of that sum in a sandbox is worth. -/
noncomputable def Tryd.pinned : Pinned := { name := "ytfgfjodajjfbaaadoor", sum := "59b2c2ec29568f229bd6531303389c4ec2ad9f13fafccf962b64e48244555d8d", checked := Tryd.checked }
namespace Rows
def none {H : Type} : Left H := { results := [], args := [] }

/- WHAT THE LISTED PACKAGE-LEVEL VARIABLES READ AS WHEN THE CALL BEGINS. Each datum BY PROGRAM (the guide's laid-datum.mjs) off the statement by which the dump's own 'gosem.cut.vars' lays the variable. In a bare row this is a premise. The card (YtfgfjodajjfbaaaDoorCards.lean) ties it to the program's text. -/
def laid_errors_errorType {H : Type} : DataW H := .iface "internal/reflectlite.rtype" (.agg [.ptr (.lit (.string [101, 114, 114, 111, 114]))])
def laid_atlas_script_actWords {H : Type} : DataW H := .agg [.lit (.string [110, 111, 110, 101]), .lit (.string [101, 118, 105, 99, 116]), .lit (.string [102, 105, 108, 108]), .lit (.string [])]
def laid_atlas_script_tlbWords {H : Type} : DataW H := .agg [.lit (.string []), .lit (.string [105]), .lit (.string [100]), .lit (.string [109, 97, 105, 110])]
def laid_atlas_script_names {H : Type} : DataW H := .agg [.lit (.string []), .lit (.string [98, 111, 111, 116]), .lit (.string [98, 97, 114, 101]), .lit (.string [110, 111, 105, 115, 101]), .lit (.string [99, 114, 101, 97, 116, 101]), .lit (.string [100, 101, 115, 116, 114, 111, 121]), .lit (.string [115, 119, 105, 116, 99, 104]), .lit (.string [109, 97, 112]), .lit (.string [117, 110, 109, 97, 112]), .lit (.string [112, 114, 111, 116, 101, 99, 116]), .lit (.string [115, 104, 97, 114, 101]), .lit (.string [113, 117, 101, 114, 121]), .lit (.string [108, 111, 97, 100]), .lit (.string [115, 116, 111, 114, 101]), .lit (.string [102, 101, 116, 99, 104]), .lit (.string [115, 112, 97, 99, 101, 115]), .lit (.string [112, 111, 107, 101]), .lit (.string [112, 101, 101, 107]), .lit (.string [109, 99, 114]), .lit (.string [109, 114, 99]), .lit (.string [100, 105, 114, 116, 121])]

/-- 'atlaslaw15.ScriptCode': WHATEVER THE INPUT: true; the input reads as it did. -/
def scriptCodeSpec : ChangeSpec := { name := "scriptCode", fn := fun _ => fun
  | [d] => { results := [.lit (.bool true)], args := [d] }
  | _ => none }
def scriptCodeRow : OpenClaim := { program := "ytfgfjodajjfbaaadoor", sum := "59b2c2ec29568f229bd6531303389c4ec2ad9f13fafccf962b64e48244555d8d", func := "atlas/atlaslaw15.ScriptCode", spec := "scriptCode", inPlace := ["internal/reflectlite.ValueOf", "(internal/reflectlite.Value).Type", "(internal/reflectlite.Value).IsNil", "internal/reflectlite.TypeOf", "(internal/reflectlite.Value).Elem", "(internal/reflectlite.Value).Set", "internal/bytealg.IndexByteString", "internal/bytealg.IndexString"], unfollowed := true, recurses := true, named := ["errors.errorType", "internal/bytealg.MaxLen", "atlas/script.names", "atlas/script.actWords", "atlas/script.tlbWords"], apart := false, laid := [("errors.errorType", laid_errors_errorType), ("atlas/script.actWords", laid_atlas_script_actWords), ("atlas/script.tlbWords", laid_atlas_script_tlbWords), ("atlas/script.names", laid_atlas_script_names)] }
def ScriptCodeSaid : Prop := scriptCodeRow.holds Tryd.pinned (OpenSpec.ofChange scriptCodeSpec)

/-- ITS FALSE NEIGHBOUR: 'it returns false'. Refute it at one input. -/
def scriptCodeWrong : ChangeSpec := { name := "scriptCode", fn := fun _ => fun
  | [d] => { results := [.lit (.bool false)], args := [d] }
  | _ => none }
def ScriptCodeWrongFalsely : Prop := scriptCodeRow.holds Tryd.pinned (OpenSpec.ofChange scriptCodeWrong)

/-- 'atlaslaw15.ScriptBack': WHATEVER THE INPUT: true; the input reads as it did. -/
def scriptBackSpec : ChangeSpec := { name := "scriptBack", fn := fun _ => fun
  | [d] => { results := [.lit (.bool true)], args := [d] }
  | _ => none }
def scriptBackRow : OpenClaim := { program := "ytfgfjodajjfbaaadoor", sum := "59b2c2ec29568f229bd6531303389c4ec2ad9f13fafccf962b64e48244555d8d", func := "atlas/atlaslaw15.ScriptBack", spec := "scriptBack", inPlace := ["internal/abi.NoEscape", "internal/bytealg.MakeNoZero", "internal/bytealg.IndexByteString", "internal/bytealg.IndexString"], unfollowed := true, recurses := true, named := ["atlas/script.names", "atlas/script.actWords", "atlas/script.tlbWords", "internal/bytealg.MaxLen"], apart := false, laid := [("atlas/script.actWords", laid_atlas_script_actWords), ("atlas/script.tlbWords", laid_atlas_script_tlbWords), ("atlas/script.names", laid_atlas_script_names)] }
def ScriptBackSaid : Prop := scriptBackRow.holds Tryd.pinned (OpenSpec.ofChange scriptBackSpec)

/-- ITS FALSE NEIGHBOUR: 'it returns false'. Refute it at one input. -/
def scriptBackWrong : ChangeSpec := { name := "scriptBack", fn := fun _ => fun
  | [d] => { results := [.lit (.bool false)], args := [d] }
  | _ => none }
def ScriptBackWrongFalsely : Prop := scriptBackRow.holds Tryd.pinned (OpenSpec.ofChange scriptBackWrong)

/-- 'atlaslaw15.ScriptAgain': WHATEVER THE INPUT: true; the input reads as it did. -/
def scriptAgainSpec : ChangeSpec := { name := "scriptAgain", fn := fun _ => fun
  | [d1, d2] => { results := [.lit (.bool true)], args := [d1, d2] }
  | _ => none }
def scriptAgainRow : OpenClaim := { program := "ytfgfjodajjfbaaadoor", sum := "59b2c2ec29568f229bd6531303389c4ec2ad9f13fafccf962b64e48244555d8d", func := "atlas/atlaslaw15.ScriptAgain", spec := "scriptAgain", inPlace := ["internal/bytealg.IndexByteString", "internal/bytealg.IndexString", "internal/abi.NoEscape", "internal/bytealg.MakeNoZero"], unfollowed := true, recurses := true, named := ["internal/bytealg.MaxLen", "atlas/script.names", "atlas/script.actWords", "atlas/script.tlbWords"], apart := false, laid := [("atlas/script.actWords", laid_atlas_script_actWords), ("atlas/script.tlbWords", laid_atlas_script_tlbWords), ("atlas/script.names", laid_atlas_script_names)] }
def ScriptAgainSaid : Prop := scriptAgainRow.holds Tryd.pinned (OpenSpec.ofChange scriptAgainSpec)

/-- ITS FALSE NEIGHBOUR: 'it returns false'. Refute it at one input. -/
def scriptAgainWrong : ChangeSpec := { name := "scriptAgain", fn := fun _ => fun
  | [d1, d2] => { results := [.lit (.bool false)], args := [d1, d2] }
  | _ => none }
def ScriptAgainWrongFalsely : Prop := scriptAgainRow.holds Tryd.pinned (OpenSpec.ofChange scriptAgainWrong)

/-- 'atlaslaw15.ScriptWraps': WHATEVER THE INPUT: true; the input reads as it did. -/
def scriptWrapsSpec : ChangeSpec := { name := "scriptWraps", fn := fun _ => fun
  | [d] => { results := [.lit (.bool true)], args := [d] }
  | _ => none }
def scriptWrapsRow : OpenClaim := { program := "ytfgfjodajjfbaaadoor", sum := "59b2c2ec29568f229bd6531303389c4ec2ad9f13fafccf962b64e48244555d8d", func := "atlas/atlaslaw15.ScriptWraps", spec := "scriptWraps", inPlace := ["internal/bytealg.IndexByteString", "internal/bytealg.IndexString", "internal/reflectlite.TypeOf"], unfollowed := true, recurses := true, named := ["internal/bytealg.MaxLen", "atlas/script.names", "atlas/script.actWords", "atlas/script.tlbWords"], apart := false, laid := [("atlas/script.actWords", laid_atlas_script_actWords), ("atlas/script.tlbWords", laid_atlas_script_tlbWords), ("atlas/script.names", laid_atlas_script_names)] }
def ScriptWrapsSaid : Prop := scriptWrapsRow.holds Tryd.pinned (OpenSpec.ofChange scriptWrapsSpec)

/-- ITS FALSE NEIGHBOUR: 'it returns false'. Refute it at one input. -/
def scriptWrapsWrong : ChangeSpec := { name := "scriptWraps", fn := fun _ => fun
  | [d] => { results := [.lit (.bool false)], args := [d] }
  | _ => none }
def ScriptWrapsWrongFalsely : Prop := scriptWrapsRow.holds Tryd.pinned (OpenSpec.ofChange scriptWrapsWrong)

/- THE SECOND FORM. 'bulk': how many values and letters a reading holds, each counted each time it is reached (what is shared counts as often as it is met; a slice's spare places count too). A statement '..UptoSaid' is the law's where the arguments, and the package variables that the reading takes, are together of bulk at most 1048576: NARROWER than '..Said'. Prove '..Said' where nothing that the law and all that it calls make is longer than what came in: it says more and counts as full. Else prove '..UptoSaid'. A law counts once. -/
mutual
def uptoBulk {H : Type} : DataW H → Nat
  | .lit (.string bytes) => bytes.length + 1
  | .lit _ => 1
  | .nil => 1
  | .ptr d => uptoBulk d + 1
  | .slice elems spare => uptoBulkAll elems + uptoBulkAll spare + 1
  | .agg parts => uptoBulkAll parts + 1
  | .iface _ d => uptoBulk d + 1
  | .map entries => uptoBulkEntries entries + 1
  | .held _ => 1
def uptoBulkAll {H : Type} : List (DataW H) → Nat
  | [] => 0
  | d :: r => uptoBulk d + uptoBulkAll r
def uptoBulkEntries {H : Type} : List (Lit × DataW H) → Nat
  | [] => 0
  | x :: r => uptoBulkEntry x + uptoBulkEntries r
def uptoBulkEntry {H : Type} : Lit × DataW H → Nat
  | (.string bytes, d) => bytes.length + uptoBulk d + 1
  | (_, d) => uptoBulk d + 1
 end
def uptoSmall : (H : Type) → List (DataW H) → Bool := fun _ ds => decide (uptoBulkAll ds ≤ 1048576)
def OpenSpec.upto (s : _root_.Go.ChangeSpec) : _root_.Go.OpenSpec := { _root_.Go.OpenSpec.ofChange s with cond := some uptoSmall }

/-- 'atlaslaw15.ScriptCode', WHERE WHAT IT READS IS OF BULK AT MOST 1048576: true; the input reads as it did. -/
def scriptCodeUptoRow : OpenClaim := { program := "ytfgfjodajjfbaaadoor", sum := "59b2c2ec29568f229bd6531303389c4ec2ad9f13fafccf962b64e48244555d8d", func := "atlas/atlaslaw15.ScriptCode", spec := "scriptCode", inPlace := ["internal/reflectlite.ValueOf", "(internal/reflectlite.Value).Type", "(internal/reflectlite.Value).IsNil", "internal/reflectlite.TypeOf", "(internal/reflectlite.Value).Elem", "(internal/reflectlite.Value).Set", "internal/bytealg.IndexByteString", "internal/bytealg.IndexString"], unfollowed := true, recurses := true, named := ["errors.errorType", "internal/bytealg.MaxLen", "atlas/script.names", "atlas/script.actWords", "atlas/script.tlbWords"], apart := false, laid := [("errors.errorType", laid_errors_errorType), ("atlas/script.actWords", laid_atlas_script_actWords), ("atlas/script.tlbWords", laid_atlas_script_tlbWords), ("atlas/script.names", laid_atlas_script_names)], narrowed := true }
def ScriptCodeUptoSaid : Prop := scriptCodeUptoRow.holds Tryd.pinned (OpenSpec.upto scriptCodeSpec)

/-- 'atlaslaw15.ScriptBack', WHERE WHAT IT READS IS OF BULK AT MOST 1048576: true; the input reads as it did. -/
def scriptBackUptoRow : OpenClaim := { program := "ytfgfjodajjfbaaadoor", sum := "59b2c2ec29568f229bd6531303389c4ec2ad9f13fafccf962b64e48244555d8d", func := "atlas/atlaslaw15.ScriptBack", spec := "scriptBack", inPlace := ["internal/abi.NoEscape", "internal/bytealg.MakeNoZero", "internal/bytealg.IndexByteString", "internal/bytealg.IndexString"], unfollowed := true, recurses := true, named := ["atlas/script.names", "atlas/script.actWords", "atlas/script.tlbWords", "internal/bytealg.MaxLen"], apart := false, laid := [("atlas/script.actWords", laid_atlas_script_actWords), ("atlas/script.tlbWords", laid_atlas_script_tlbWords), ("atlas/script.names", laid_atlas_script_names)], narrowed := true }
def ScriptBackUptoSaid : Prop := scriptBackUptoRow.holds Tryd.pinned (OpenSpec.upto scriptBackSpec)

/-- 'atlaslaw15.ScriptAgain', WHERE WHAT IT READS IS OF BULK AT MOST 1048576: true; the input reads as it did. -/
def scriptAgainUptoRow : OpenClaim := { program := "ytfgfjodajjfbaaadoor", sum := "59b2c2ec29568f229bd6531303389c4ec2ad9f13fafccf962b64e48244555d8d", func := "atlas/atlaslaw15.ScriptAgain", spec := "scriptAgain", inPlace := ["internal/bytealg.IndexByteString", "internal/bytealg.IndexString", "internal/abi.NoEscape", "internal/bytealg.MakeNoZero"], unfollowed := true, recurses := true, named := ["internal/bytealg.MaxLen", "atlas/script.names", "atlas/script.actWords", "atlas/script.tlbWords"], apart := false, laid := [("atlas/script.actWords", laid_atlas_script_actWords), ("atlas/script.tlbWords", laid_atlas_script_tlbWords), ("atlas/script.names", laid_atlas_script_names)], narrowed := true }
def ScriptAgainUptoSaid : Prop := scriptAgainUptoRow.holds Tryd.pinned (OpenSpec.upto scriptAgainSpec)

/-- 'atlaslaw15.ScriptWraps', WHERE WHAT IT READS IS OF BULK AT MOST 1048576: true; the input reads as it did. -/
def scriptWrapsUptoRow : OpenClaim := { program := "ytfgfjodajjfbaaadoor", sum := "59b2c2ec29568f229bd6531303389c4ec2ad9f13fafccf962b64e48244555d8d", func := "atlas/atlaslaw15.ScriptWraps", spec := "scriptWraps", inPlace := ["internal/bytealg.IndexByteString", "internal/bytealg.IndexString", "internal/reflectlite.TypeOf"], unfollowed := true, recurses := true, named := ["internal/bytealg.MaxLen", "atlas/script.names", "atlas/script.actWords", "atlas/script.tlbWords"], apart := false, laid := [("atlas/script.actWords", laid_atlas_script_actWords), ("atlas/script.tlbWords", laid_atlas_script_tlbWords), ("atlas/script.names", laid_atlas_script_names)], narrowed := true }
def ScriptWrapsUptoSaid : Prop := scriptWrapsUptoRow.holds Tryd.pinned (OpenSpec.upto scriptWrapsSpec)

end Rows
end Go.Proofs.YtfgfjodajjfbaaaDoor
