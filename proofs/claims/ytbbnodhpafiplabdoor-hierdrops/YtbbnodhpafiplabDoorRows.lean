/-
  NARROWER THAN 'FOR EVERY INPUT', by the rows' own cells (each row's printed sentence says how): HierKeeps: laid · HierEvicts: laid · HierDrops: laid.
  DERIVED. THE GIVEN ROWS OF THIS SEAT. 3 by the template 'for every input the law returns true; each argument reads behind the call as it read before'; 0 by the template 'total and deterministic' (their statements: YtbbnodhpafiplabDoorTotals.lean).
  GIVEN WITH THE SEED: the statements are not yours to turn. If you find one false, say at which input.
  Laid BY PROGRAM, IN A SANDBOX (cutbox-rows.mjs): the forced cells as the released guide's own fill.sh prints them over the translation dd77a9967e1814b3… (all of the seat's roots in one cut). By AI agents, Wed Nov 11 2026. No macro, syntax, notation, axiom, sorry.
-/
import Derived.Test.YtbbnodhpafiplabDoorChecked
import GoSem.Claim
import GoSem.ClaimJoined
import GoSem.ClaimMapViews
import Derived.JoinedTies
import Derived.KernelRfl
namespace Go.Proofs.YtbbnodhpafiplabDoor
/- THE CELL 'sum', in the pinned program and in every row, IS THE sha256 OF THE DUMP (.gsa) THAT YtbbnodhpafiplabDoorProg.lean LOADS. Nothing in Lean hashes anything: it is a label: what it is worth is what the hold of that sum in a sandbox is worth. -/
noncomputable def Tryd.pinned : Pinned := { name := "ytbbnodhpafiplabdoor", sum := "dd77a9967e1814b3a0d4596cb2c9f2ba74e6b0632ca7f4da265c4bc078de9342", checked := Tryd.checked }
namespace Rows
def none {H : Type} : Left H := { results := [], args := [] }

/- WHAT THE LISTED PACKAGE-LEVEL VARIABLES READ AS WHEN THE CALL BEGINS. Each datum BY PROGRAM (the guide's laid-datum.mjs) off the statement by which the dump's own 'gosem.cut.vars' lays the variable. In a bare row this is a premise. The card (YtbbnodhpafiplabDoorCards.lean) ties it to the program's text. -/
def laid_atlas_desc_firstKinds {H : Type} : DataW H := .agg [.lit (.int .u8 0), .lit (.int .u8 1), .lit (.int .u8 2), .lit (.int .u8 0)]
def laid_atlas_desc_secondKinds {H : Type} : DataW H := .agg [.lit (.int .u8 0), .lit (.int .u8 4), .lit (.int .u8 5), .lit (.int .u8 5)]
def laid_atlas_desc_tags {H : Type} : DataW H := .agg [.lit (.int .u32 0), .lit (.int .u32 1), .lit (.int .u32 2), .lit (.int .u32 262146), .lit (.int .u32 1), .lit (.int .u32 2)]
def laid_atlas_desc_baseAt {H : Type} : DataW H := .agg [.lit (.int .u8 0), .lit (.int .u8 10), .lit (.int .u8 20), .lit (.int .u8 24), .lit (.int .u8 16), .lit (.int .u8 12)]
def laid_atlas_desc_leafAt {H : Type} : DataW H := .agg [.agg [.lit (.int .u8 0), .lit (.int .u8 0), .lit (.int .u8 0), .lit (.int .u8 0), .lit (.int .u8 0), .lit (.int .u8 0)], .agg [.lit (.int .u8 0), .lit (.int .u8 0), .lit (.int .u8 0), .lit (.int .u8 0), .lit (.int .u8 0), .lit (.int .u8 0)], .agg [.lit (.int .u8 10), .lit (.int .u8 15), .lit (.int .u8 12), .lit (.int .u8 16), .lit (.int .u8 17), .lit (.int .u8 4)], .agg [.lit (.int .u8 10), .lit (.int .u8 15), .lit (.int .u8 12), .lit (.int .u8 16), .lit (.int .u8 17), .lit (.int .u8 4)], .agg [.lit (.int .u8 4), .lit (.int .u8 9), .lit (.int .u8 12), .lit (.int .u8 10), .lit (.int .u8 11), .lit (.int .u8 15)], .agg [.lit (.int .u8 4), .lit (.int .u8 9), .lit (.int .u8 6), .lit (.int .u8 10), .lit (.int .u8 11), .lit (.int .u8 0)]]
def laid_atlas_desc_kindOfSize {H : Type} : DataW H := .agg [.lit (.int .u8 0), .lit (.int .u8 5), .lit (.int .u8 4), .lit (.int .u8 2), .lit (.int .u8 3)]
def laid_atlas_desc_sizeOfKind {H : Type} : DataW H := .agg [.lit (.int .u8 0), .lit (.int .u8 0), .lit (.int .u8 3), .lit (.int .u8 4), .lit (.int .u8 2), .lit (.int .u8 1)]

/-- 'atlaslaw11.HierKeeps': WHATEVER THE INPUT: true; the input reads as it did. -/
def hierKeepsSpec : ChangeSpec := { name := "hierKeeps", fn := fun _ => fun
  | [d1, d2, d3, d4] => { results := [.lit (.bool true)], args := [d1, d2, d3, d4] }
  | _ => none }
def hierKeepsRow : OpenClaim := { program := "ytbbnodhpafiplabdoor", sum := "dd77a9967e1814b3a0d4596cb2c9f2ba74e6b0632ca7f4da265c4bc078de9342", func := "atlas/atlaslaw11.HierKeeps", spec := "hierKeeps", unfollowed := true, recurses := true, named := ["atlas/desc.kindOfSize", "atlas/desc.baseAt", "atlas/desc.sizeOfKind", "atlas/desc.tags", "atlas/desc.leafAt", "atlas/desc.firstKinds", "atlas/desc.secondKinds"], apart := false, laid := [("atlas/desc.firstKinds", laid_atlas_desc_firstKinds), ("atlas/desc.secondKinds", laid_atlas_desc_secondKinds), ("atlas/desc.tags", laid_atlas_desc_tags), ("atlas/desc.baseAt", laid_atlas_desc_baseAt), ("atlas/desc.leafAt", laid_atlas_desc_leafAt), ("atlas/desc.kindOfSize", laid_atlas_desc_kindOfSize), ("atlas/desc.sizeOfKind", laid_atlas_desc_sizeOfKind)] }
def HierKeepsSaid : Prop := hierKeepsRow.holds Tryd.pinned (OpenSpec.ofChange hierKeepsSpec)

/-- ITS FALSE NEIGHBOUR: 'it returns false'. Refute it at one input. -/
def hierKeepsWrong : ChangeSpec := { name := "hierKeeps", fn := fun _ => fun
  | [d1, d2, d3, d4] => { results := [.lit (.bool false)], args := [d1, d2, d3, d4] }
  | _ => none }
def HierKeepsWrongFalsely : Prop := hierKeepsRow.holds Tryd.pinned (OpenSpec.ofChange hierKeepsWrong)

/-- 'atlaslaw11.HierEvicts': WHATEVER THE INPUT: true; the input reads as it did. -/
def hierEvictsSpec : ChangeSpec := { name := "hierEvicts", fn := fun _ => fun
  | [d1, d2, d3, d4] => { results := [.lit (.bool true)], args := [d1, d2, d3, d4] }
  | _ => none }
def hierEvictsRow : OpenClaim := { program := "ytbbnodhpafiplabdoor", sum := "dd77a9967e1814b3a0d4596cb2c9f2ba74e6b0632ca7f4da265c4bc078de9342", func := "atlas/atlaslaw11.HierEvicts", spec := "hierEvicts", unfollowed := true, recurses := true, named := ["atlas/desc.kindOfSize", "atlas/desc.baseAt", "atlas/desc.sizeOfKind", "atlas/desc.tags", "atlas/desc.leafAt", "atlas/desc.firstKinds", "atlas/desc.secondKinds"], apart := false, laid := [("atlas/desc.firstKinds", laid_atlas_desc_firstKinds), ("atlas/desc.secondKinds", laid_atlas_desc_secondKinds), ("atlas/desc.tags", laid_atlas_desc_tags), ("atlas/desc.baseAt", laid_atlas_desc_baseAt), ("atlas/desc.leafAt", laid_atlas_desc_leafAt), ("atlas/desc.kindOfSize", laid_atlas_desc_kindOfSize), ("atlas/desc.sizeOfKind", laid_atlas_desc_sizeOfKind)] }
def HierEvictsSaid : Prop := hierEvictsRow.holds Tryd.pinned (OpenSpec.ofChange hierEvictsSpec)

/-- ITS FALSE NEIGHBOUR: 'it returns false'. Refute it at one input. -/
def hierEvictsWrong : ChangeSpec := { name := "hierEvicts", fn := fun _ => fun
  | [d1, d2, d3, d4] => { results := [.lit (.bool false)], args := [d1, d2, d3, d4] }
  | _ => none }
def HierEvictsWrongFalsely : Prop := hierEvictsRow.holds Tryd.pinned (OpenSpec.ofChange hierEvictsWrong)

/-- 'atlaslaw11.HierDrops': WHATEVER THE INPUT: true; the input reads as it did. -/
def hierDropsSpec : ChangeSpec := { name := "hierDrops", fn := fun _ => fun
  | [d1, d2, d3, d4] => { results := [.lit (.bool true)], args := [d1, d2, d3, d4] }
  | _ => none }
def hierDropsRow : OpenClaim := { program := "ytbbnodhpafiplabdoor", sum := "dd77a9967e1814b3a0d4596cb2c9f2ba74e6b0632ca7f4da265c4bc078de9342", func := "atlas/atlaslaw11.HierDrops", spec := "hierDrops", unfollowed := true, recurses := true, named := ["atlas/desc.kindOfSize", "atlas/desc.baseAt", "atlas/desc.sizeOfKind", "atlas/desc.tags", "atlas/desc.leafAt", "atlas/desc.firstKinds", "atlas/desc.secondKinds"], apart := false, laid := [("atlas/desc.firstKinds", laid_atlas_desc_firstKinds), ("atlas/desc.secondKinds", laid_atlas_desc_secondKinds), ("atlas/desc.tags", laid_atlas_desc_tags), ("atlas/desc.baseAt", laid_atlas_desc_baseAt), ("atlas/desc.leafAt", laid_atlas_desc_leafAt), ("atlas/desc.kindOfSize", laid_atlas_desc_kindOfSize), ("atlas/desc.sizeOfKind", laid_atlas_desc_sizeOfKind)] }
def HierDropsSaid : Prop := hierDropsRow.holds Tryd.pinned (OpenSpec.ofChange hierDropsSpec)

/-- ITS FALSE NEIGHBOUR: 'it returns false'. Refute it at one input. -/
def hierDropsWrong : ChangeSpec := { name := "hierDrops", fn := fun _ => fun
  | [d1, d2, d3, d4] => { results := [.lit (.bool false)], args := [d1, d2, d3, d4] }
  | _ => none }
def HierDropsWrongFalsely : Prop := hierDropsRow.holds Tryd.pinned (OpenSpec.ofChange hierDropsWrong)

/- THE SECOND FORM. 'bulk': how many values and letters a reading holds, each counted each time it is reached (what is shared counts as often as it is met; a slice's spare places count too). A statement '..UptoSaid' is the law's where the arguments, and the package variables that the reading takes, are together of bulk at most 1048576: NARROWER than '..Said'. Prove '..Said' where nothing that the law and all that it calls make is longer than what came in: it says more and counts as full. Else prove '..UptoSaid'. A law counts once. -/
mutual
def uptoBulk {H : Type} : DataW H → Nat
  | .lit (.string bytes) => bytes.length + 1
  | .lit _ => 1
  | .nil => 1
  | .ptr d => uptoBulk d + 1
  | .slice elems spare => uptoBulkAll elems + uptoBulkAll spare + 1
  | .agg parts => uptoBulkAll parts + 1
  | .iface _ d => uptoBulk d + 1
  | .map entries => uptoBulkEntries entries + 1
  | .held _ => 1
def uptoBulkAll {H : Type} : List (DataW H) → Nat
  | [] => 0
  | d :: r => uptoBulk d + uptoBulkAll r
def uptoBulkEntries {H : Type} : List (Lit × DataW H) → Nat
  | [] => 0
  | x :: r => uptoBulkEntry x + uptoBulkEntries r
def uptoBulkEntry {H : Type} : Lit × DataW H → Nat
  | (.string bytes, d) => bytes.length + uptoBulk d + 1
  | (_, d) => uptoBulk d + 1
 end
def uptoSmall : (H : Type) → List (DataW H) → Bool := fun _ ds => decide (uptoBulkAll ds ≤ 1048576)
def OpenSpec.upto (s : _root_.Go.ChangeSpec) : _root_.Go.OpenSpec := { _root_.Go.OpenSpec.ofChange s with cond := some uptoSmall }

/-- 'atlaslaw11.HierKeeps', WHERE WHAT IT READS IS OF BULK AT MOST 1048576: true; the input reads as it did. -/
def hierKeepsUptoRow : OpenClaim := { program := "ytbbnodhpafiplabdoor", sum := "dd77a9967e1814b3a0d4596cb2c9f2ba74e6b0632ca7f4da265c4bc078de9342", func := "atlas/atlaslaw11.HierKeeps", spec := "hierKeeps", unfollowed := true, recurses := true, named := ["atlas/desc.kindOfSize", "atlas/desc.baseAt", "atlas/desc.sizeOfKind", "atlas/desc.tags", "atlas/desc.leafAt", "atlas/desc.firstKinds", "atlas/desc.secondKinds"], apart := false, laid := [("atlas/desc.firstKinds", laid_atlas_desc_firstKinds), ("atlas/desc.secondKinds", laid_atlas_desc_secondKinds), ("atlas/desc.tags", laid_atlas_desc_tags), ("atlas/desc.baseAt", laid_atlas_desc_baseAt), ("atlas/desc.leafAt", laid_atlas_desc_leafAt), ("atlas/desc.kindOfSize", laid_atlas_desc_kindOfSize), ("atlas/desc.sizeOfKind", laid_atlas_desc_sizeOfKind)], narrowed := true }
def HierKeepsUptoSaid : Prop := hierKeepsUptoRow.holds Tryd.pinned (OpenSpec.upto hierKeepsSpec)

/-- 'atlaslaw11.HierEvicts', WHERE WHAT IT READS IS OF BULK AT MOST 1048576: true; the input reads as it did. -/
def hierEvictsUptoRow : OpenClaim := { program := "ytbbnodhpafiplabdoor", sum := "dd77a9967e1814b3a0d4596cb2c9f2ba74e6b0632ca7f4da265c4bc078de9342", func := "atlas/atlaslaw11.HierEvicts", spec := "hierEvicts", unfollowed := true, recurses := true, named := ["atlas/desc.kindOfSize", "atlas/desc.baseAt", "atlas/desc.sizeOfKind", "atlas/desc.tags", "atlas/desc.leafAt", "atlas/desc.firstKinds", "atlas/desc.secondKinds"], apart := false, laid := [("atlas/desc.firstKinds", laid_atlas_desc_firstKinds), ("atlas/desc.secondKinds", laid_atlas_desc_secondKinds), ("atlas/desc.tags", laid_atlas_desc_tags), ("atlas/desc.baseAt", laid_atlas_desc_baseAt), ("atlas/desc.leafAt", laid_atlas_desc_leafAt), ("atlas/desc.kindOfSize", laid_atlas_desc_kindOfSize), ("atlas/desc.sizeOfKind", laid_atlas_desc_sizeOfKind)], narrowed := true }
def HierEvictsUptoSaid : Prop := hierEvictsUptoRow.holds Tryd.pinned (OpenSpec.upto hierEvictsSpec)

/-- 'atlaslaw11.HierDrops', WHERE WHAT IT READS IS OF BULK AT MOST 1048576: true; the input reads as it did. -/
def hierDropsUptoRow : OpenClaim := { program := "ytbbnodhpafiplabdoor", sum := "dd77a9967e1814b3a0d4596cb2c9f2ba74e6b0632ca7f4da265c4bc078de9342", func := "atlas/atlaslaw11.HierDrops", spec := "hierDrops", unfollowed := true, recurses := true, named := ["atlas/desc.kindOfSize", "atlas/desc.baseAt", "atlas/desc.sizeOfKind", "atlas/desc.tags", "atlas/desc.leafAt", "atlas/desc.firstKinds", "atlas/desc.secondKinds"], apart := false, laid := [("atlas/desc.firstKinds", laid_atlas_desc_firstKinds), ("atlas/desc.secondKinds", laid_atlas_desc_secondKinds), ("atlas/desc.tags", laid_atlas_desc_tags), ("atlas/desc.baseAt", laid_atlas_desc_baseAt), ("atlas/desc.leafAt", laid_atlas_desc_leafAt), ("atlas/desc.kindOfSize", laid_atlas_desc_kindOfSize), ("atlas/desc.sizeOfKind", laid_atlas_desc_sizeOfKind)], narrowed := true }
def HierDropsUptoSaid : Prop := hierDropsUptoRow.holds Tryd.pinned (OpenSpec.upto hierDropsSpec)

end Rows
end Go.Proofs.YtbbnodhpafiplabDoor
