/-
  NARROWER THAN 'FOR EVERY INPUT', by the rows' own cells (each row's printed sentence says how): RightsAllows: laid · RightsStatus: laid · RightsWords: laid · RightsMore: laid · RightsFault: laid.
  DERIVED. THE GIVEN ROWS OF THIS SEAT. 5 by the template 'for every input the law returns true; each argument reads behind the call as it read before'; 0 by the template 'total and deterministic' (their statements: YtmmocnejacflmaaDoorTotals.lean).
  GIVEN WITH THE SEED: the statements are not yours to turn. If you find one false, say at which input.
  Laid BY PROGRAM, IN A SANDBOX (cutbox-rows.mjs): the forced cells as the released guide's own fill.sh prints them over the translation 58381e09cae9303c… (all of the seat's roots in one cut). By AI agents, Wed Nov 11 2026. No macro, syntax, notation, axiom, sorry.
-/
import Derived.Test.YtmmocnejacflmaaDoorChecked
import GoSem.Claim
import GoSem.ClaimJoined
import GoSem.ClaimMapViews
import Derived.JoinedTies
import Derived.KernelRfl
namespace Go.Proofs.YtmmocnejacflmaaDoor
/- THE CELL 'sum', in the pinned program and in every row, IS THE sha256 OF THE DUMP (.gsa) THAT YtmmocnejacflmaaDoorProg.lean LOADS. Nothing in Lean hashes anything: it is a label: what it is worth is what the hold of that sum in a sandbox is worth. -/
noncomputable def Tryd.pinned : Pinned := { name := "ytmmocnejacflmaadoor", sum := "58381e09cae9303cc93a67be122959be8c84bc112ca9882fb07d5bd7b6aded78", checked := Tryd.checked }
namespace Rows
def none {H : Type} : Left H := { results := [], args := [] }

/- WHAT THE LISTED PACKAGE-LEVEL VARIABLES READ AS WHEN THE CALL BEGINS. Each datum BY PROGRAM (the guide's laid-datum.mjs) off the statement by which the dump's own 'gosem.cut.vars' lays the variable. In a bare row this is a premise. The card (YtmmocnejacflmaaDoorCards.lean) ties it to the program's text. -/
def laid_atlas_rights_byAP {H : Type} : DataW H := .agg [.agg [.agg [.lit (.bool false), .lit (.bool false)], .agg [.lit (.bool false), .lit (.bool false)]], .agg [.agg [.lit (.bool true), .lit (.bool true)], .agg [.lit (.bool false), .lit (.bool false)]], .agg [.agg [.lit (.bool true), .lit (.bool true)], .agg [.lit (.bool true), .lit (.bool false)]], .agg [.agg [.lit (.bool true), .lit (.bool true)], .agg [.lit (.bool true), .lit (.bool true)]], .agg [.agg [.lit (.bool false), .lit (.bool false)], .agg [.lit (.bool false), .lit (.bool false)]], .agg [.agg [.lit (.bool true), .lit (.bool false)], .agg [.lit (.bool false), .lit (.bool false)]], .agg [.agg [.lit (.bool true), .lit (.bool false)], .agg [.lit (.bool true), .lit (.bool false)]], .agg [.agg [.lit (.bool true), .lit (.bool false)], .agg [.lit (.bool true), .lit (.bool false)]]]
def laid_atlas_rights_byHalf {H : Type} : DataW H := .agg [.agg [.agg [.lit (.bool true), .lit (.bool true)], .agg [.lit (.bool false), .lit (.bool false)]], .agg [.agg [.lit (.bool true), .lit (.bool true)], .agg [.lit (.bool true), .lit (.bool true)]], .agg [.agg [.lit (.bool true), .lit (.bool false)], .agg [.lit (.bool false), .lit (.bool false)]], .agg [.agg [.lit (.bool true), .lit (.bool false)], .agg [.lit (.bool true), .lit (.bool false)]]]
def laid_atlas_rights_forms {H : Type} : DataW H := .agg [.agg [.agg [.lit (.int .u32 0), .lit (.int .u32 0), .lit (.int .u32 0)], .lit (.bool false)], .agg [.agg [.lit (.int .u32 1), .lit (.int .u32 0), .lit (.int .u32 0)], .lit (.bool false)], .agg [.agg [.lit (.int .u32 12), .lit (.int .u32 0), .lit (.int .u32 0)], .lit (.bool false)], .agg [.agg [.lit (.int .u32 5), .lit (.int .u32 0), .lit (.int .u32 0)], .lit (.bool false)], .agg [.agg [.lit (.int .u32 14), .lit (.int .u32 0), .lit (.int .u32 0)], .lit (.bool true)], .agg [.agg [.lit (.int .u32 7), .lit (.int .u32 0), .lit (.int .u32 0)], .lit (.bool true)], .agg [.agg [.lit (.int .u32 16), .lit (.int .u32 0), .lit (.int .u32 0)], .lit (.bool false)], .agg [.agg [.lit (.int .u32 0), .lit (.int .u32 3), .lit (.int .u32 6)], .lit (.bool true)], .agg [.agg [.lit (.int .u32 0), .lit (.int .u32 9), .lit (.int .u32 11)], .lit (.bool true)], .agg [.agg [.lit (.int .u32 0), .lit (.int .u32 13), .lit (.int .u32 15)], .lit (.bool true)], .agg [.agg [.lit (.int .u32 8), .lit (.int .u32 0), .lit (.int .u32 0)], .lit (.bool false)]]

/-- 'atlaslaw07.RightsAllows': WHATEVER THE INPUT: true; the input reads as it did. -/
def rightsAllowsSpec : ChangeSpec := { name := "rightsAllows", fn := fun _ => fun
  | [d1, d2] => { results := [.lit (.bool true)], args := [d1, d2] }
  | _ => none }
def rightsAllowsRow : OpenClaim := { program := "ytmmocnejacflmaadoor", sum := "58381e09cae9303cc93a67be122959be8c84bc112ca9882fb07d5bd7b6aded78", func := "atlas/atlaslaw07.RightsAllows", spec := "rightsAllows", named := ["atlas/rights.byAP", "atlas/rights.byHalf"], apart := false, laid := [("atlas/rights.byAP", laid_atlas_rights_byAP), ("atlas/rights.byHalf", laid_atlas_rights_byHalf)] }
def RightsAllowsSaid : Prop := rightsAllowsRow.holds Tryd.pinned (OpenSpec.ofChange rightsAllowsSpec)

/-- ITS FALSE NEIGHBOUR: 'it returns false'. Refute it at one input. -/
def rightsAllowsWrong : ChangeSpec := { name := "rightsAllows", fn := fun _ => fun
  | [d1, d2] => { results := [.lit (.bool false)], args := [d1, d2] }
  | _ => none }
def RightsAllowsWrongFalsely : Prop := rightsAllowsRow.holds Tryd.pinned (OpenSpec.ofChange rightsAllowsWrong)

/-- 'atlaslaw07.RightsStatus': WHATEVER THE INPUT: true; the input reads as it did. -/
def rightsStatusSpec : ChangeSpec := { name := "rightsStatus", fn := fun _ => fun
  | [d] => { results := [.lit (.bool true)], args := [d] }
  | _ => none }
def rightsStatusRow : OpenClaim := { program := "ytmmocnejacflmaadoor", sum := "58381e09cae9303cc93a67be122959be8c84bc112ca9882fb07d5bd7b6aded78", func := "atlas/atlaslaw07.RightsStatus", spec := "rightsStatus", named := ["atlas/rights.forms"], apart := false, laid := [("atlas/rights.forms", laid_atlas_rights_forms)] }
def RightsStatusSaid : Prop := rightsStatusRow.holds Tryd.pinned (OpenSpec.ofChange rightsStatusSpec)

/-- ITS FALSE NEIGHBOUR: 'it returns false'. Refute it at one input. -/
def rightsStatusWrong : ChangeSpec := { name := "rightsStatus", fn := fun _ => fun
  | [d] => { results := [.lit (.bool false)], args := [d] }
  | _ => none }
def RightsStatusWrongFalsely : Prop := rightsStatusRow.holds Tryd.pinned (OpenSpec.ofChange rightsStatusWrong)

/-- 'atlaslaw07.RightsWords': WHATEVER THE INPUT: true; the input reads as it did. -/
def rightsWordsSpec : ChangeSpec := { name := "rightsWords", fn := fun _ => fun
  | [d1, d2, d3, d4] => { results := [.lit (.bool true)], args := [d1, d2, d3, d4] }
  | _ => none }
def rightsWordsRow : OpenClaim := { program := "ytmmocnejacflmaadoor", sum := "58381e09cae9303cc93a67be122959be8c84bc112ca9882fb07d5bd7b6aded78", func := "atlas/atlaslaw07.RightsWords", spec := "rightsWords", named := ["atlas/rights.forms", "atlas/rights.byAP", "atlas/rights.byHalf"], apart := false, laid := [("atlas/rights.byAP", laid_atlas_rights_byAP), ("atlas/rights.byHalf", laid_atlas_rights_byHalf), ("atlas/rights.forms", laid_atlas_rights_forms)] }
def RightsWordsSaid : Prop := rightsWordsRow.holds Tryd.pinned (OpenSpec.ofChange rightsWordsSpec)

/-- ITS FALSE NEIGHBOUR: 'it returns false'. Refute it at one input. -/
def rightsWordsWrong : ChangeSpec := { name := "rightsWords", fn := fun _ => fun
  | [d1, d2, d3, d4] => { results := [.lit (.bool false)], args := [d1, d2, d3, d4] }
  | _ => none }
def RightsWordsWrongFalsely : Prop := rightsWordsRow.holds Tryd.pinned (OpenSpec.ofChange rightsWordsWrong)

/-- 'atlaslaw07.RightsMore': WHATEVER THE INPUT: true; the input reads as it did. -/
def rightsMoreSpec : ChangeSpec := { name := "rightsMore", fn := fun _ => fun
  | [d1, d2] => { results := [.lit (.bool true)], args := [d1, d2] }
  | _ => none }
def rightsMoreRow : OpenClaim := { program := "ytmmocnejacflmaadoor", sum := "58381e09cae9303cc93a67be122959be8c84bc112ca9882fb07d5bd7b6aded78", func := "atlas/atlaslaw07.RightsMore", spec := "rightsMore", named := ["atlas/rights.forms", "atlas/rights.byAP", "atlas/rights.byHalf"], apart := false, laid := [("atlas/rights.byAP", laid_atlas_rights_byAP), ("atlas/rights.byHalf", laid_atlas_rights_byHalf), ("atlas/rights.forms", laid_atlas_rights_forms)] }
def RightsMoreSaid : Prop := rightsMoreRow.holds Tryd.pinned (OpenSpec.ofChange rightsMoreSpec)

/-- ITS FALSE NEIGHBOUR: 'it returns false'. Refute it at one input. -/
def rightsMoreWrong : ChangeSpec := { name := "rightsMore", fn := fun _ => fun
  | [d1, d2] => { results := [.lit (.bool false)], args := [d1, d2] }
  | _ => none }
def RightsMoreWrongFalsely : Prop := rightsMoreRow.holds Tryd.pinned (OpenSpec.ofChange rightsMoreWrong)

/-- 'atlaslaw07.RightsFault': WHATEVER THE INPUT: true; the input reads as it did. -/
def rightsFaultSpec : ChangeSpec := { name := "rightsFault", fn := fun _ => fun
  | [d] => { results := [.lit (.bool true)], args := [d] }
  | _ => none }
def rightsFaultRow : OpenClaim := { program := "ytmmocnejacflmaadoor", sum := "58381e09cae9303cc93a67be122959be8c84bc112ca9882fb07d5bd7b6aded78", func := "atlas/atlaslaw07.RightsFault", spec := "rightsFault", named := ["atlas/rights.forms"], apart := false, laid := [("atlas/rights.forms", laid_atlas_rights_forms)] }
def RightsFaultSaid : Prop := rightsFaultRow.holds Tryd.pinned (OpenSpec.ofChange rightsFaultSpec)

/-- ITS FALSE NEIGHBOUR: 'it returns false'. Refute it at one input. -/
def rightsFaultWrong : ChangeSpec := { name := "rightsFault", fn := fun _ => fun
  | [d] => { results := [.lit (.bool false)], args := [d] }
  | _ => none }
def RightsFaultWrongFalsely : Prop := rightsFaultRow.holds Tryd.pinned (OpenSpec.ofChange rightsFaultWrong)

/- THE SECOND FORM. 'bulk': how many values and letters a reading holds, each counted each time it is reached (what is shared counts as often as it is met; a slice's spare places count too). A statement '..UptoSaid' is the law's where the arguments, and the package variables that the reading takes, are together of bulk at most 1048576: NARROWER than '..Said'. Prove '..Said' where nothing that the law and all that it calls make is longer than what came in: it says more and counts as full. Else prove '..UptoSaid'. A law counts once. -/
mutual
def uptoBulk {H : Type} : DataW H → Nat
  | .lit (.string bytes) => bytes.length + 1
  | .lit _ => 1
  | .nil => 1
  | .ptr d => uptoBulk d + 1
  | .slice elems spare => uptoBulkAll elems + uptoBulkAll spare + 1
  | .agg parts => uptoBulkAll parts + 1
  | .iface _ d => uptoBulk d + 1
  | .map entries => uptoBulkEntries entries + 1
  | .held _ => 1
def uptoBulkAll {H : Type} : List (DataW H) → Nat
  | [] => 0
  | d :: r => uptoBulk d + uptoBulkAll r
def uptoBulkEntries {H : Type} : List (Lit × DataW H) → Nat
  | [] => 0
  | x :: r => uptoBulkEntry x + uptoBulkEntries r
def uptoBulkEntry {H : Type} : Lit × DataW H → Nat
  | (.string bytes, d) => bytes.length + uptoBulk d + 1
  | (_, d) => uptoBulk d + 1
 end
def uptoSmall : (H : Type) → List (DataW H) → Bool := fun _ ds => decide (uptoBulkAll ds ≤ 1048576)
def OpenSpec.upto (s : _root_.Go.ChangeSpec) : _root_.Go.OpenSpec := { _root_.Go.OpenSpec.ofChange s with cond := some uptoSmall }

/-- 'atlaslaw07.RightsAllows', WHERE WHAT IT READS IS OF BULK AT MOST 1048576: true; the input reads as it did. -/
def rightsAllowsUptoRow : OpenClaim := { program := "ytmmocnejacflmaadoor", sum := "58381e09cae9303cc93a67be122959be8c84bc112ca9882fb07d5bd7b6aded78", func := "atlas/atlaslaw07.RightsAllows", spec := "rightsAllows", named := ["atlas/rights.byAP", "atlas/rights.byHalf"], apart := false, laid := [("atlas/rights.byAP", laid_atlas_rights_byAP), ("atlas/rights.byHalf", laid_atlas_rights_byHalf)], narrowed := true }
def RightsAllowsUptoSaid : Prop := rightsAllowsUptoRow.holds Tryd.pinned (OpenSpec.upto rightsAllowsSpec)

/-- 'atlaslaw07.RightsStatus', WHERE WHAT IT READS IS OF BULK AT MOST 1048576: true; the input reads as it did. -/
def rightsStatusUptoRow : OpenClaim := { program := "ytmmocnejacflmaadoor", sum := "58381e09cae9303cc93a67be122959be8c84bc112ca9882fb07d5bd7b6aded78", func := "atlas/atlaslaw07.RightsStatus", spec := "rightsStatus", named := ["atlas/rights.forms"], apart := false, laid := [("atlas/rights.forms", laid_atlas_rights_forms)], narrowed := true }
def RightsStatusUptoSaid : Prop := rightsStatusUptoRow.holds Tryd.pinned (OpenSpec.upto rightsStatusSpec)

/-- 'atlaslaw07.RightsWords', WHERE WHAT IT READS IS OF BULK AT MOST 1048576: true; the input reads as it did. -/
def rightsWordsUptoRow : OpenClaim := { program := "ytmmocnejacflmaadoor", sum := "58381e09cae9303cc93a67be122959be8c84bc112ca9882fb07d5bd7b6aded78", func := "atlas/atlaslaw07.RightsWords", spec := "rightsWords", named := ["atlas/rights.forms", "atlas/rights.byAP", "atlas/rights.byHalf"], apart := false, laid := [("atlas/rights.byAP", laid_atlas_rights_byAP), ("atlas/rights.byHalf", laid_atlas_rights_byHalf), ("atlas/rights.forms", laid_atlas_rights_forms)], narrowed := true }
def RightsWordsUptoSaid : Prop := rightsWordsUptoRow.holds Tryd.pinned (OpenSpec.upto rightsWordsSpec)

/-- 'atlaslaw07.RightsMore', WHERE WHAT IT READS IS OF BULK AT MOST 1048576: true; the input reads as it did. -/
def rightsMoreUptoRow : OpenClaim := { program := "ytmmocnejacflmaadoor", sum := "58381e09cae9303cc93a67be122959be8c84bc112ca9882fb07d5bd7b6aded78", func := "atlas/atlaslaw07.RightsMore", spec := "rightsMore", named := ["atlas/rights.forms", "atlas/rights.byAP", "atlas/rights.byHalf"], apart := false, laid := [("atlas/rights.byAP", laid_atlas_rights_byAP), ("atlas/rights.byHalf", laid_atlas_rights_byHalf), ("atlas/rights.forms", laid_atlas_rights_forms)], narrowed := true }
def RightsMoreUptoSaid : Prop := rightsMoreUptoRow.holds Tryd.pinned (OpenSpec.upto rightsMoreSpec)

/-- 'atlaslaw07.RightsFault', WHERE WHAT IT READS IS OF BULK AT MOST 1048576: true; the input reads as it did. -/
def rightsFaultUptoRow : OpenClaim := { program := "ytmmocnejacflmaadoor", sum := "58381e09cae9303cc93a67be122959be8c84bc112ca9882fb07d5bd7b6aded78", func := "atlas/atlaslaw07.RightsFault", spec := "rightsFault", named := ["atlas/rights.forms"], apart := false, laid := [("atlas/rights.forms", laid_atlas_rights_forms)], narrowed := true }
def RightsFaultUptoSaid : Prop := rightsFaultUptoRow.holds Tryd.pinned (OpenSpec.upto rightsFaultSpec)

end Rows
end Go.Proofs.YtmmocnejacflmaaDoor
