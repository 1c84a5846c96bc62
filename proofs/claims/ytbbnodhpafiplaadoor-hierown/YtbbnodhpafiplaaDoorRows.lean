/-
  NARROWER THAN 'FOR EVERY INPUT', by the rows' own cells (each row's printed sentence says how): HierOrder: laid · HierOnly: laid · HierAll: laid · HierOwn: laid · HierFinds: laid.
  DERIVED. THE GIVEN ROWS OF THIS SEAT. 5 by the template 'for every input the law returns true; each argument reads behind the call as it read before'; 0 by the template 'total and deterministic' (their statements: YtbbnodhpafiplaaDoorTotals.lean).
  GIVEN WITH THE SEED: the statements are not yours to turn. If you find one false, say at which input.
  Laid BY PROGRAM, IN A SANDBOX (cutbox-rows.mjs): the forced cells as the released guide's own fill.sh prints them over the translation e303eb0ab7d7424b… (all of the seat's roots in one cut). By AI agents, Wed Nov 11 2026. No macro, syntax, notation, axiom, sorry.
-/
import Derived.Test.YtbbnodhpafiplaaDoorChecked
import GoSem.Claim
import GoSem.ClaimJoined
import GoSem.ClaimMapViews
import Derived.JoinedTies
import Derived.KernelRfl
namespace Go.Proofs.YtbbnodhpafiplaaDoor
/- THE CELL 'sum', in the pinned program and in every row, IS THE sha256 OF THE DUMP (.gsa) THAT YtbbnodhpafiplaaDoorProg.lean LOADS. Nothing in Lean hashes anything: it is a label: what it is worth is what the hold of that sum in a sandbox is worth. -/
noncomputable def Tryd.pinned : Pinned := { name := "ytbbnodhpafiplaadoor", sum := "e303eb0ab7d7424ba46f3a8d51084862fa3134bd883746e61cb864c26a6cef62", checked := Tryd.checked }
namespace Rows
def none {H : Type} : Left H := { results := [], args := [] }

/- WHAT THE LISTED PACKAGE-LEVEL VARIABLES READ AS WHEN THE CALL BEGINS. Each datum BY PROGRAM (the guide's laid-datum.mjs) off the statement by which the dump's own 'gosem.cut.vars' lays the variable. In a bare row this is a premise. The card (YtbbnodhpafiplaaDoorCards.lean) ties it to the program's text. -/
def laid_atlas_desc_firstKinds {H : Type} : DataW H := .agg [.lit (.int .u8 0), .lit (.int .u8 1), .lit (.int .u8 2), .lit (.int .u8 0)]
def laid_atlas_desc_secondKinds {H : Type} : DataW H := .agg [.lit (.int .u8 0), .lit (.int .u8 4), .lit (.int .u8 5), .lit (.int .u8 5)]
def laid_atlas_desc_tags {H : Type} : DataW H := .agg [.lit (.int .u32 0), .lit (.int .u32 1), .lit (.int .u32 2), .lit (.int .u32 262146), .lit (.int .u32 1), .lit (.int .u32 2)]
def laid_atlas_desc_baseAt {H : Type} : DataW H := .agg [.lit (.int .u8 0), .lit (.int .u8 10), .lit (.int .u8 20), .lit (.int .u8 24), .lit (.int .u8 16), .lit (.int .u8 12)]
def laid_atlas_desc_leafAt {H : Type} : DataW H := .agg [.agg [.lit (.int .u8 0), .lit (.int .u8 0), .lit (.int .u8 0), .lit (.int .u8 0), .lit (.int .u8 0), .lit (.int .u8 0)], .agg [.lit (.int .u8 0), .lit (.int .u8 0), .lit (.int .u8 0), .lit (.int .u8 0), .lit (.int .u8 0), .lit (.int .u8 0)], .agg [.lit (.int .u8 10), .lit (.int .u8 15), .lit (.int .u8 12), .lit (.int .u8 16), .lit (.int .u8 17), .lit (.int .u8 4)], .agg [.lit (.int .u8 10), .lit (.int .u8 15), .lit (.int .u8 12), .lit (.int .u8 16), .lit (.int .u8 17), .lit (.int .u8 4)], .agg [.lit (.int .u8 4), .lit (.int .u8 9), .lit (.int .u8 12), .lit (.int .u8 10), .lit (.int .u8 11), .lit (.int .u8 15)], .agg [.lit (.int .u8 4), .lit (.int .u8 9), .lit (.int .u8 6), .lit (.int .u8 10), .lit (.int .u8 11), .lit (.int .u8 0)]]
def laid_atlas_desc_kindOfSize {H : Type} : DataW H := .agg [.lit (.int .u8 0), .lit (.int .u8 5), .lit (.int .u8 4), .lit (.int .u8 2), .lit (.int .u8 3)]
def laid_atlas_desc_sizeOfKind {H : Type} : DataW H := .agg [.lit (.int .u8 0), .lit (.int .u8 0), .lit (.int .u8 3), .lit (.int .u8 4), .lit (.int .u8 2), .lit (.int .u8 1)]

/-- 'atlaslaw11.HierOrder': WHATEVER THE INPUT: true; the input reads as it did. -/
def hierOrderSpec : ChangeSpec := { name := "hierOrder", fn := fun _ => fun
  | [d1, d2, d3] => { results := [.lit (.bool true)], args := [d1, d2, d3] }
  | _ => none }
def hierOrderRow : OpenClaim := { program := "ytbbnodhpafiplaadoor", sum := "e303eb0ab7d7424ba46f3a8d51084862fa3134bd883746e61cb864c26a6cef62", func := "atlas/atlaslaw11.HierOrder", spec := "hierOrder", named := ["atlas/desc.kindOfSize", "atlas/desc.sizeOfKind", "atlas/desc.baseAt", "atlas/desc.tags", "atlas/desc.leafAt", "atlas/desc.firstKinds", "atlas/desc.secondKinds"], apart := false, laid := [("atlas/desc.firstKinds", laid_atlas_desc_firstKinds), ("atlas/desc.secondKinds", laid_atlas_desc_secondKinds), ("atlas/desc.tags", laid_atlas_desc_tags), ("atlas/desc.baseAt", laid_atlas_desc_baseAt), ("atlas/desc.leafAt", laid_atlas_desc_leafAt), ("atlas/desc.kindOfSize", laid_atlas_desc_kindOfSize), ("atlas/desc.sizeOfKind", laid_atlas_desc_sizeOfKind)] }
def HierOrderSaid : Prop := hierOrderRow.holds Tryd.pinned (OpenSpec.ofChange hierOrderSpec)

/-- ITS FALSE NEIGHBOUR: 'it returns false'. Refute it at one input. -/
def hierOrderWrong : ChangeSpec := { name := "hierOrder", fn := fun _ => fun
  | [d1, d2, d3] => { results := [.lit (.bool false)], args := [d1, d2, d3] }
  | _ => none }
def HierOrderWrongFalsely : Prop := hierOrderRow.holds Tryd.pinned (OpenSpec.ofChange hierOrderWrong)

/-- 'atlaslaw11.HierOnly': WHATEVER THE INPUT: true; the input reads as it did. -/
def hierOnlySpec : ChangeSpec := { name := "hierOnly", fn := fun _ => fun
  | [d1, d2, d3, d4] => { results := [.lit (.bool true)], args := [d1, d2, d3, d4] }
  | _ => none }
def hierOnlyRow : OpenClaim := { program := "ytbbnodhpafiplaadoor", sum := "e303eb0ab7d7424ba46f3a8d51084862fa3134bd883746e61cb864c26a6cef62", func := "atlas/atlaslaw11.HierOnly", spec := "hierOnly", unfollowed := true, recurses := true, named := ["atlas/desc.kindOfSize", "atlas/desc.sizeOfKind", "atlas/desc.baseAt", "atlas/desc.tags", "atlas/desc.leafAt", "atlas/desc.firstKinds", "atlas/desc.secondKinds"], apart := false, laid := [("atlas/desc.firstKinds", laid_atlas_desc_firstKinds), ("atlas/desc.secondKinds", laid_atlas_desc_secondKinds), ("atlas/desc.tags", laid_atlas_desc_tags), ("atlas/desc.baseAt", laid_atlas_desc_baseAt), ("atlas/desc.leafAt", laid_atlas_desc_leafAt), ("atlas/desc.kindOfSize", laid_atlas_desc_kindOfSize), ("atlas/desc.sizeOfKind", laid_atlas_desc_sizeOfKind)] }
def HierOnlySaid : Prop := hierOnlyRow.holds Tryd.pinned (OpenSpec.ofChange hierOnlySpec)

/-- ITS FALSE NEIGHBOUR: 'it returns false'. Refute it at one input. -/
def hierOnlyWrong : ChangeSpec := { name := "hierOnly", fn := fun _ => fun
  | [d1, d2, d3, d4] => { results := [.lit (.bool false)], args := [d1, d2, d3, d4] }
  | _ => none }
def HierOnlyWrongFalsely : Prop := hierOnlyRow.holds Tryd.pinned (OpenSpec.ofChange hierOnlyWrong)

/-- 'atlaslaw11.HierAll': WHATEVER THE INPUT: true; the input reads as it did. -/
def hierAllSpec : ChangeSpec := { name := "hierAll", fn := fun _ => fun
  | [d1, d2, d3, d4] => { results := [.lit (.bool true)], args := [d1, d2, d3, d4] }
  | _ => none }
def hierAllRow : OpenClaim := { program := "ytbbnodhpafiplaadoor", sum := "e303eb0ab7d7424ba46f3a8d51084862fa3134bd883746e61cb864c26a6cef62", func := "atlas/atlaslaw11.HierAll", spec := "hierAll", unfollowed := true, recurses := true, named := ["atlas/desc.kindOfSize", "atlas/desc.baseAt", "atlas/desc.sizeOfKind", "atlas/desc.tags", "atlas/desc.leafAt", "atlas/desc.firstKinds", "atlas/desc.secondKinds"], apart := false, laid := [("atlas/desc.firstKinds", laid_atlas_desc_firstKinds), ("atlas/desc.secondKinds", laid_atlas_desc_secondKinds), ("atlas/desc.tags", laid_atlas_desc_tags), ("atlas/desc.baseAt", laid_atlas_desc_baseAt), ("atlas/desc.leafAt", laid_atlas_desc_leafAt), ("atlas/desc.kindOfSize", laid_atlas_desc_kindOfSize), ("atlas/desc.sizeOfKind", laid_atlas_desc_sizeOfKind)] }
def HierAllSaid : Prop := hierAllRow.holds Tryd.pinned (OpenSpec.ofChange hierAllSpec)

/-- ITS FALSE NEIGHBOUR: 'it returns false'. Refute it at one input. -/
def hierAllWrong : ChangeSpec := { name := "hierAll", fn := fun _ => fun
  | [d1, d2, d3, d4] => { results := [.lit (.bool false)], args := [d1, d2, d3, d4] }
  | _ => none }
def HierAllWrongFalsely : Prop := hierAllRow.holds Tryd.pinned (OpenSpec.ofChange hierAllWrong)

/-- 'atlaslaw11.HierOwn': WHATEVER THE INPUT: true; the input reads as it did. -/
def hierOwnSpec : ChangeSpec := { name := "hierOwn", fn := fun _ => fun
  | [d1, d2, d3, d4] => { results := [.lit (.bool true)], args := [d1, d2, d3, d4] }
  | _ => none }
def hierOwnRow : OpenClaim := { program := "ytbbnodhpafiplaadoor", sum := "e303eb0ab7d7424ba46f3a8d51084862fa3134bd883746e61cb864c26a6cef62", func := "atlas/atlaslaw11.HierOwn", spec := "hierOwn", unfollowed := true, recurses := true, named := ["atlas/desc.kindOfSize", "atlas/desc.baseAt", "atlas/desc.sizeOfKind", "atlas/desc.tags", "atlas/desc.leafAt", "atlas/desc.firstKinds", "atlas/desc.secondKinds"], apart := false, laid := [("atlas/desc.firstKinds", laid_atlas_desc_firstKinds), ("atlas/desc.secondKinds", laid_atlas_desc_secondKinds), ("atlas/desc.tags", laid_atlas_desc_tags), ("atlas/desc.baseAt", laid_atlas_desc_baseAt), ("atlas/desc.leafAt", laid_atlas_desc_leafAt), ("atlas/desc.kindOfSize", laid_atlas_desc_kindOfSize), ("atlas/desc.sizeOfKind", laid_atlas_desc_sizeOfKind)] }
def HierOwnSaid : Prop := hierOwnRow.holds Tryd.pinned (OpenSpec.ofChange hierOwnSpec)

/-- ITS FALSE NEIGHBOUR: 'it returns false'. Refute it at one input. -/
def hierOwnWrong : ChangeSpec := { name := "hierOwn", fn := fun _ => fun
  | [d1, d2, d3, d4] => { results := [.lit (.bool false)], args := [d1, d2, d3, d4] }
  | _ => none }
def HierOwnWrongFalsely : Prop := hierOwnRow.holds Tryd.pinned (OpenSpec.ofChange hierOwnWrong)

/-- 'atlaslaw11.HierFinds': WHATEVER THE INPUT: true; the input reads as it did. -/
def hierFindsSpec : ChangeSpec := { name := "hierFinds", fn := fun _ => fun
  | [d1, d2, d3, d4] => { results := [.lit (.bool true)], args := [d1, d2, d3, d4] }
  | _ => none }
def hierFindsRow : OpenClaim := { program := "ytbbnodhpafiplaadoor", sum := "e303eb0ab7d7424ba46f3a8d51084862fa3134bd883746e61cb864c26a6cef62", func := "atlas/atlaslaw11.HierFinds", spec := "hierFinds", unfollowed := true, recurses := true, named := ["atlas/desc.kindOfSize", "atlas/desc.baseAt", "atlas/desc.sizeOfKind", "atlas/desc.tags", "atlas/desc.leafAt", "atlas/desc.firstKinds", "atlas/desc.secondKinds"], apart := false, laid := [("atlas/desc.firstKinds", laid_atlas_desc_firstKinds), ("atlas/desc.secondKinds", laid_atlas_desc_secondKinds), ("atlas/desc.tags", laid_atlas_desc_tags), ("atlas/desc.baseAt", laid_atlas_desc_baseAt), ("atlas/desc.leafAt", laid_atlas_desc_leafAt), ("atlas/desc.kindOfSize", laid_atlas_desc_kindOfSize), ("atlas/desc.sizeOfKind", laid_atlas_desc_sizeOfKind)] }
def HierFindsSaid : Prop := hierFindsRow.holds Tryd.pinned (OpenSpec.ofChange hierFindsSpec)

/-- ITS FALSE NEIGHBOUR: 'it returns false'. Refute it at one input. -/
def hierFindsWrong : ChangeSpec := { name := "hierFinds", fn := fun _ => fun
  | [d1, d2, d3, d4] => { results := [.lit (.bool false)], args := [d1, d2, d3, d4] }
  | _ => none }
def HierFindsWrongFalsely : Prop := hierFindsRow.holds Tryd.pinned (OpenSpec.ofChange hierFindsWrong)

/- THE SECOND FORM. 'bulk': how many values and letters a reading holds, each counted each time it is reached (what is shared counts as often as it is met; a slice's spare places count too). A statement '..UptoSaid' is the law's where the arguments, and the package variables that the reading takes, are together of bulk at most 1048576: NARROWER than '..Said'. Prove '..Said' where nothing that the law and all that it calls make is longer than what came in: it says more and counts as full. Else prove '..UptoSaid'. A law counts once. -/
mutual
def uptoBulk {H : Type} : DataW H → Nat
  | .lit (.string bytes) => bytes.length + 1
  | .lit _ => 1
  | .nil => 1
  | .ptr d => uptoBulk d + 1
  | .slice elems spare => uptoBulkAll elems + uptoBulkAll spare + 1
  | .agg parts => uptoBulkAll parts + 1
  | .iface _ d => uptoBulk d + 1
  | .map entries => uptoBulkEntries entries + 1
  | .held _ => 1
def uptoBulkAll {H : Type} : List (DataW H) → Nat
  | [] => 0
  | d :: r => uptoBulk d + uptoBulkAll r
def uptoBulkEntries {H : Type} : List (Lit × DataW H) → Nat
  | [] => 0
  | x :: r => uptoBulkEntry x + uptoBulkEntries r
def uptoBulkEntry {H : Type} : Lit × DataW H → Nat
  | (.string bytes, d) => bytes.length + uptoBulk d + 1
  | (_, d) => uptoBulk d + 1
 end
def uptoSmall : (H : Type) → List (DataW H) → Bool := fun _ ds => decide (uptoBulkAll ds ≤ 1048576)
def OpenSpec.upto (s : _root_.Go.ChangeSpec) : _root_.Go.OpenSpec := { _root_.Go.OpenSpec.ofChange s with cond := some uptoSmall }

/-- 'atlaslaw11.HierOrder', WHERE WHAT IT READS IS OF BULK AT MOST 1048576: true; the input reads as it did. -/
def hierOrderUptoRow : OpenClaim := { program := "ytbbnodhpafiplaadoor", sum := "e303eb0ab7d7424ba46f3a8d51084862fa3134bd883746e61cb864c26a6cef62", func := "atlas/atlaslaw11.HierOrder", spec := "hierOrder", named := ["atlas/desc.kindOfSize", "atlas/desc.sizeOfKind", "atlas/desc.baseAt", "atlas/desc.tags", "atlas/desc.leafAt", "atlas/desc.firstKinds", "atlas/desc.secondKinds"], apart := false, laid := [("atlas/desc.firstKinds", laid_atlas_desc_firstKinds), ("atlas/desc.secondKinds", laid_atlas_desc_secondKinds), ("atlas/desc.tags", laid_atlas_desc_tags), ("atlas/desc.baseAt", laid_atlas_desc_baseAt), ("atlas/desc.leafAt", laid_atlas_desc_leafAt), ("atlas/desc.kindOfSize", laid_atlas_desc_kindOfSize), ("atlas/desc.sizeOfKind", laid_atlas_desc_sizeOfKind)], narrowed := true }
def HierOrderUptoSaid : Prop := hierOrderUptoRow.holds Tryd.pinned (OpenSpec.upto hierOrderSpec)

/-- 'atlaslaw11.HierOnly', WHERE WHAT IT READS IS OF BULK AT MOST 1048576: true; the input reads as it did. -/
def hierOnlyUptoRow : OpenClaim := { program := "ytbbnodhpafiplaadoor", sum := "e303eb0ab7d7424ba46f3a8d51084862fa3134bd883746e61cb864c26a6cef62", func := "atlas/atlaslaw11.HierOnly", spec := "hierOnly", unfollowed := true, recurses := true, named := ["atlas/desc.kindOfSize", "atlas/desc.sizeOfKind", "atlas/desc.baseAt", "atlas/desc.tags", "atlas/desc.leafAt", "atlas/desc.firstKinds", "atlas/desc.secondKinds"], apart := false, laid := [("atlas/desc.firstKinds", laid_atlas_desc_firstKinds), ("atlas/desc.secondKinds", laid_atlas_desc_secondKinds), ("atlas/desc.tags", laid_atlas_desc_tags), ("atlas/desc.baseAt", laid_atlas_desc_baseAt), ("atlas/desc.leafAt", laid_atlas_desc_leafAt), ("atlas/desc.kindOfSize", laid_atlas_desc_kindOfSize), ("atlas/desc.sizeOfKind", laid_atlas_desc_sizeOfKind)], narrowed := true }
def HierOnlyUptoSaid : Prop := hierOnlyUptoRow.holds Tryd.pinned (OpenSpec.upto hierOnlySpec)

/-- 'atlaslaw11.HierAll', WHERE WHAT IT READS IS OF BULK AT MOST 1048576: true; the input reads as it did. -/
def hierAllUptoRow : OpenClaim := { program := "ytbbnodhpafiplaadoor", sum := "e303eb0ab7d7424ba46f3a8d51084862fa3134bd883746e61cb864c26a6cef62", func := "atlas/atlaslaw11.HierAll", spec := "hierAll", unfollowed := true, recurses := true, named := ["atlas/desc.kindOfSize", "atlas/desc.baseAt", "atlas/desc.sizeOfKind", "atlas/desc.tags", "atlas/desc.leafAt", "atlas/desc.firstKinds", "atlas/desc.secondKinds"], apart := false, laid := [("atlas/desc.firstKinds", laid_atlas_desc_firstKinds), ("atlas/desc.secondKinds", laid_atlas_desc_secondKinds), ("atlas/desc.tags", laid_atlas_desc_tags), ("atlas/desc.baseAt", laid_atlas_desc_baseAt), ("atlas/desc.leafAt", laid_atlas_desc_leafAt), ("atlas/desc.kindOfSize", laid_atlas_desc_kindOfSize), ("atlas/desc.sizeOfKind", laid_atlas_desc_sizeOfKind)], narrowed := true }
def HierAllUptoSaid : Prop := hierAllUptoRow.holds Tryd.pinned (OpenSpec.upto hierAllSpec)

/-- 'atlaslaw11.HierOwn', WHERE WHAT IT READS IS OF BULK AT MOST 1048576: true; the input reads as it did. -/
def hierOwnUptoRow : OpenClaim := { program := "ytbbnodhpafiplaadoor", sum := "e303eb0ab7d7424ba46f3a8d51084862fa3134bd883746e61cb864c26a6cef62", func := "atlas/atlaslaw11.HierOwn", spec := "hierOwn", unfollowed := true, recurses := true, named := ["atlas/desc.kindOfSize", "atlas/desc.baseAt", "atlas/desc.sizeOfKind", "atlas/desc.tags", "atlas/desc.leafAt", "atlas/desc.firstKinds", "atlas/desc.secondKinds"], apart := false, laid := [("atlas/desc.firstKinds", laid_atlas_desc_firstKinds), ("atlas/desc.secondKinds", laid_atlas_desc_secondKinds), ("atlas/desc.tags", laid_atlas_desc_tags), ("atlas/desc.baseAt", laid_atlas_desc_baseAt), ("atlas/desc.leafAt", laid_atlas_desc_leafAt), ("atlas/desc.kindOfSize", laid_atlas_desc_kindOfSize), ("atlas/desc.sizeOfKind", laid_atlas_desc_sizeOfKind)], narrowed := true }
def HierOwnUptoSaid : Prop := hierOwnUptoRow.holds Tryd.pinned (OpenSpec.upto hierOwnSpec)

/-- 'atlaslaw11.HierFinds', WHERE WHAT IT READS IS OF BULK AT MOST 1048576: true; the input reads as it did. -/
def hierFindsUptoRow : OpenClaim := { program := "ytbbnodhpafiplaadoor", sum := "e303eb0ab7d7424ba46f3a8d51084862fa3134bd883746e61cb864c26a6cef62", func := "atlas/atlaslaw11.HierFinds", spec := "hierFinds", unfollowed := true, recurses := true, named := ["atlas/desc.kindOfSize", "atlas/desc.baseAt", "atlas/desc.sizeOfKind", "atlas/desc.tags", "atlas/desc.leafAt", "atlas/desc.firstKinds", "atlas/desc.secondKinds"], apart := false, laid := [("atlas/desc.firstKinds", laid_atlas_desc_firstKinds), ("atlas/desc.secondKinds", laid_atlas_desc_secondKinds), ("atlas/desc.tags", laid_atlas_desc_tags), ("atlas/desc.baseAt", laid_atlas_desc_baseAt), ("atlas/desc.leafAt", laid_atlas_desc_leafAt), ("atlas/desc.kindOfSize", laid_atlas_desc_kindOfSize), ("atlas/desc.sizeOfKind", laid_atlas_desc_sizeOfKind)], narrowed := true }
def HierFindsUptoSaid : Prop := hierFindsUptoRow.holds Tryd.pinned (OpenSpec.upto hierFindsSpec)

end Rows
end Go.Proofs.YtbbnodhpafiplaaDoor
