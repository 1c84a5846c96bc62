/-
  NARROWER THAN 'FOR EVERY INPUT', by the rows' own cells (each row's printed sentence says how): DescSizes: laid · DescReads: laid · DescEntry: laid · DescFlip: laid · DescSaid: laid · DescTrans: laid.
  DERIVED. THE GIVEN ROWS OF THIS SEAT. 6 by the template 'for every input the law returns true; each argument reads behind the call as it read before'; 0 by the template 'total and deterministic' (their statements: YtcpcmjmgiagnoaaDoorTotals.lean).
  GIVEN WITH THE SEED: the statements are not yours to turn. If you find one false, say at which input.
  Laid BY PROGRAM, IN A SANDBOX (cutbox-rows.mjs): the forced cells as the released guide's own fill.sh prints them over the translation f63df93f512d59ff… (all of the seat's roots in one cut). By AI agents, Wed Nov 11 2026. No macro, syntax, notation, axiom, sorry.
-/
import Derived.Test.YtcpcmjmgiagnoaaDoorChecked
import GoSem.Claim
import GoSem.ClaimJoined
import GoSem.ClaimMapViews
import Derived.JoinedTies
import Derived.KernelRfl
namespace Go.Proofs.YtcpcmjmgiagnoaaDoor
/- THE CELL 'sum', in the pinned program and in every row, IS THE sha256 OF THE DUMP (.gsa) THAT YtcpcmjmgiagnoaaDoorProg.lean LOADS. Nothing in Lean hashes anything: it is a label: what it is worth is what the hold of that sum in a sandbox is worth. -/
noncomputable def Tryd.pinned : Pinned := { name := "ytcpcmjmgiagnoaadoor", sum := "f63df93f512d59ff176548366c95d929312e8609b109cf16e11d80271efbfa8a", checked := Tryd.checked }
namespace Rows
def none {H : Type} : Left H := { results := [], args := [] }

/- WHAT THE LISTED PACKAGE-LEVEL VARIABLES READ AS WHEN THE CALL BEGINS. Each datum BY PROGRAM (the guide's laid-datum.mjs) off the statement by which the dump's own 'gosem.cut.vars' lays the variable. In a bare row this is a premise. The card (YtcpcmjmgiagnoaaDoorCards.lean) ties it to the program's text. -/
def laid_atlas_desc_baseAt {H : Type} : DataW H := .agg [.lit (.int .u8 0), .lit (.int .u8 10), .lit (.int .u8 20), .lit (.int .u8 24), .lit (.int .u8 16), .lit (.int .u8 12)]
def laid_atlas_desc_kindOfSize {H : Type} : DataW H := .agg [.lit (.int .u8 0), .lit (.int .u8 5), .lit (.int .u8 4), .lit (.int .u8 2), .lit (.int .u8 3)]
def laid_atlas_desc_repeats {H : Type} : DataW H := .agg [.lit (.int .u8 0), .lit (.int .u8 1), .lit (.int .u8 16), .lit (.int .u8 1), .lit (.int .u8 16)]
def laid_atlas_desc_firstKinds {H : Type} : DataW H := .agg [.lit (.int .u8 0), .lit (.int .u8 1), .lit (.int .u8 2), .lit (.int .u8 0)]
def laid_atlas_desc_secondKinds {H : Type} : DataW H := .agg [.lit (.int .u8 0), .lit (.int .u8 4), .lit (.int .u8 5), .lit (.int .u8 5)]
def laid_atlas_desc_leafAt {H : Type} : DataW H := .agg [.agg [.lit (.int .u8 0), .lit (.int .u8 0), .lit (.int .u8 0), .lit (.int .u8 0), .lit (.int .u8 0), .lit (.int .u8 0)], .agg [.lit (.int .u8 0), .lit (.int .u8 0), .lit (.int .u8 0), .lit (.int .u8 0), .lit (.int .u8 0), .lit (.int .u8 0)], .agg [.lit (.int .u8 10), .lit (.int .u8 15), .lit (.int .u8 12), .lit (.int .u8 16), .lit (.int .u8 17), .lit (.int .u8 4)], .agg [.lit (.int .u8 10), .lit (.int .u8 15), .lit (.int .u8 12), .lit (.int .u8 16), .lit (.int .u8 17), .lit (.int .u8 4)], .agg [.lit (.int .u8 4), .lit (.int .u8 9), .lit (.int .u8 12), .lit (.int .u8 10), .lit (.int .u8 11), .lit (.int .u8 15)], .agg [.lit (.int .u8 4), .lit (.int .u8 9), .lit (.int .u8 6), .lit (.int .u8 10), .lit (.int .u8 11), .lit (.int .u8 0)]]
def laid_atlas_desc_tags {H : Type} : DataW H := .agg [.lit (.int .u32 0), .lit (.int .u32 1), .lit (.int .u32 2), .lit (.int .u32 262146), .lit (.int .u32 1), .lit (.int .u32 2)]
def laid_atlas_desc_sizeOfKind {H : Type} : DataW H := .agg [.lit (.int .u8 0), .lit (.int .u8 0), .lit (.int .u8 3), .lit (.int .u8 4), .lit (.int .u8 2), .lit (.int .u8 1)]

/-- 'atlaslaw05.DescSizes': WHATEVER THE INPUT: true; the input reads as it did. -/
def descSizesSpec : ChangeSpec := { name := "descSizes", fn := fun _ => fun
  | [d] => { results := [.lit (.bool true)], args := [d] }
  | _ => none }
def descSizesRow : OpenClaim := { program := "ytcpcmjmgiagnoaadoor", sum := "f63df93f512d59ff176548366c95d929312e8609b109cf16e11d80271efbfa8a", func := "atlas/atlaslaw05.DescSizes", spec := "descSizes", named := ["atlas/desc.kindOfSize", "atlas/desc.baseAt", "atlas/desc.repeats"], apart := false, laid := [("atlas/desc.baseAt", laid_atlas_desc_baseAt), ("atlas/desc.kindOfSize", laid_atlas_desc_kindOfSize), ("atlas/desc.repeats", laid_atlas_desc_repeats)] }
def DescSizesSaid : Prop := descSizesRow.holds Tryd.pinned (OpenSpec.ofChange descSizesSpec)

/-- ITS FALSE NEIGHBOUR: 'it returns false'. Refute it at one input. -/
def descSizesWrong : ChangeSpec := { name := "descSizes", fn := fun _ => fun
  | [d] => { results := [.lit (.bool false)], args := [d] }
  | _ => none }
def DescSizesWrongFalsely : Prop := descSizesRow.holds Tryd.pinned (OpenSpec.ofChange descSizesWrong)

/-- 'atlaslaw05.DescReads': WHATEVER THE INPUT: true; the input reads as it did. -/
def descReadsSpec : ChangeSpec := { name := "descReads", fn := fun _ => fun
  | [d] => { results := [.lit (.bool true)], args := [d] }
  | _ => none }
def descReadsRow : OpenClaim := { program := "ytcpcmjmgiagnoaadoor", sum := "f63df93f512d59ff176548366c95d929312e8609b109cf16e11d80271efbfa8a", func := "atlas/atlaslaw05.DescReads", spec := "descReads", named := ["atlas/desc.firstKinds", "atlas/desc.baseAt", "atlas/desc.leafAt", "atlas/desc.secondKinds"], apart := false, laid := [("atlas/desc.firstKinds", laid_atlas_desc_firstKinds), ("atlas/desc.secondKinds", laid_atlas_desc_secondKinds), ("atlas/desc.baseAt", laid_atlas_desc_baseAt), ("atlas/desc.leafAt", laid_atlas_desc_leafAt)] }
def DescReadsSaid : Prop := descReadsRow.holds Tryd.pinned (OpenSpec.ofChange descReadsSpec)

/-- ITS FALSE NEIGHBOUR: 'it returns false'. Refute it at one input. -/
def descReadsWrong : ChangeSpec := { name := "descReads", fn := fun _ => fun
  | [d] => { results := [.lit (.bool false)], args := [d] }
  | _ => none }
def DescReadsWrongFalsely : Prop := descReadsRow.holds Tryd.pinned (OpenSpec.ofChange descReadsWrong)

/-- 'atlaslaw05.DescEntry': WHATEVER THE INPUT: true; the input reads as it did. -/
def descEntrySpec : ChangeSpec := { name := "descEntry", fn := fun _ => fun
  | [d] => { results := [.lit (.bool true)], args := [d] }
  | _ => none }
def descEntryRow : OpenClaim := { program := "ytcpcmjmgiagnoaadoor", sum := "f63df93f512d59ff176548366c95d929312e8609b109cf16e11d80271efbfa8a", func := "atlas/atlaslaw05.DescEntry", spec := "descEntry", named := ["atlas/desc.kindOfSize", "atlas/desc.sizeOfKind", "atlas/desc.baseAt", "atlas/desc.tags", "atlas/desc.leafAt", "atlas/desc.firstKinds", "atlas/desc.secondKinds"], apart := false, laid := [("atlas/desc.firstKinds", laid_atlas_desc_firstKinds), ("atlas/desc.secondKinds", laid_atlas_desc_secondKinds), ("atlas/desc.tags", laid_atlas_desc_tags), ("atlas/desc.baseAt", laid_atlas_desc_baseAt), ("atlas/desc.leafAt", laid_atlas_desc_leafAt), ("atlas/desc.kindOfSize", laid_atlas_desc_kindOfSize), ("atlas/desc.sizeOfKind", laid_atlas_desc_sizeOfKind)] }
def DescEntrySaid : Prop := descEntryRow.holds Tryd.pinned (OpenSpec.ofChange descEntrySpec)

/-- ITS FALSE NEIGHBOUR: 'it returns false'. Refute it at one input. -/
def descEntryWrong : ChangeSpec := { name := "descEntry", fn := fun _ => fun
  | [d] => { results := [.lit (.bool false)], args := [d] }
  | _ => none }
def DescEntryWrongFalsely : Prop := descEntryRow.holds Tryd.pinned (OpenSpec.ofChange descEntryWrong)

/-- 'atlaslaw05.DescFlip': WHATEVER THE INPUT: true; the input reads as it did. -/
def descFlipSpec : ChangeSpec := { name := "descFlip", fn := fun _ => fun
  | [d1, d2] => { results := [.lit (.bool true)], args := [d1, d2] }
  | _ => none }
def descFlipRow : OpenClaim := { program := "ytcpcmjmgiagnoaadoor", sum := "f63df93f512d59ff176548366c95d929312e8609b109cf16e11d80271efbfa8a", func := "atlas/atlaslaw05.DescFlip", spec := "descFlip", named := ["atlas/desc.secondKinds", "atlas/desc.baseAt", "atlas/desc.leafAt", "atlas/desc.tags", "atlas/desc.firstKinds"], apart := false, laid := [("atlas/desc.firstKinds", laid_atlas_desc_firstKinds), ("atlas/desc.secondKinds", laid_atlas_desc_secondKinds), ("atlas/desc.tags", laid_atlas_desc_tags), ("atlas/desc.baseAt", laid_atlas_desc_baseAt), ("atlas/desc.leafAt", laid_atlas_desc_leafAt)] }
def DescFlipSaid : Prop := descFlipRow.holds Tryd.pinned (OpenSpec.ofChange descFlipSpec)

/-- ITS FALSE NEIGHBOUR: 'it returns false'. Refute it at one input. -/
def descFlipWrong : ChangeSpec := { name := "descFlip", fn := fun _ => fun
  | [d1, d2] => { results := [.lit (.bool false)], args := [d1, d2] }
  | _ => none }
def DescFlipWrongFalsely : Prop := descFlipRow.holds Tryd.pinned (OpenSpec.ofChange descFlipWrong)

/-- 'atlaslaw05.DescSaid': WHATEVER THE INPUT: true; the input reads as it did. -/
def descSaidSpec : ChangeSpec := { name := "descSaid", fn := fun _ => fun
  | [d] => { results := [.lit (.bool true)], args := [d] }
  | _ => none }
def descSaidRow : OpenClaim := { program := "ytcpcmjmgiagnoaadoor", sum := "f63df93f512d59ff176548366c95d929312e8609b109cf16e11d80271efbfa8a", func := "atlas/atlaslaw05.DescSaid", spec := "descSaid", named := ["atlas/desc.secondKinds", "atlas/desc.baseAt", "atlas/desc.leafAt", "atlas/desc.tags", "atlas/desc.firstKinds"], apart := false, laid := [("atlas/desc.firstKinds", laid_atlas_desc_firstKinds), ("atlas/desc.secondKinds", laid_atlas_desc_secondKinds), ("atlas/desc.tags", laid_atlas_desc_tags), ("atlas/desc.baseAt", laid_atlas_desc_baseAt), ("atlas/desc.leafAt", laid_atlas_desc_leafAt)] }
def DescSaidSaid : Prop := descSaidRow.holds Tryd.pinned (OpenSpec.ofChange descSaidSpec)

/-- ITS FALSE NEIGHBOUR: 'it returns false'. Refute it at one input. -/
def descSaidWrong : ChangeSpec := { name := "descSaid", fn := fun _ => fun
  | [d] => { results := [.lit (.bool false)], args := [d] }
  | _ => none }
def DescSaidWrongFalsely : Prop := descSaidRow.holds Tryd.pinned (OpenSpec.ofChange descSaidWrong)

/-- 'atlaslaw05.DescTrans': WHATEVER THE INPUT: true; the input reads as it did. -/
def descTransSpec : ChangeSpec := { name := "descTrans", fn := fun _ => fun
  | [d1, d2, d3] => { results := [.lit (.bool true)], args := [d1, d2, d3] }
  | _ => none }
def descTransRow : OpenClaim := { program := "ytcpcmjmgiagnoaadoor", sum := "f63df93f512d59ff176548366c95d929312e8609b109cf16e11d80271efbfa8a", func := "atlas/atlaslaw05.DescTrans", spec := "descTrans", named := ["atlas/desc.sizeOfKind", "atlas/desc.baseAt", "atlas/desc.tags", "atlas/desc.leafAt", "atlas/desc.firstKinds", "atlas/desc.secondKinds"], apart := false, laid := [("atlas/desc.firstKinds", laid_atlas_desc_firstKinds), ("atlas/desc.secondKinds", laid_atlas_desc_secondKinds), ("atlas/desc.tags", laid_atlas_desc_tags), ("atlas/desc.baseAt", laid_atlas_desc_baseAt), ("atlas/desc.leafAt", laid_atlas_desc_leafAt), ("atlas/desc.sizeOfKind", laid_atlas_desc_sizeOfKind)] }
def DescTransSaid : Prop := descTransRow.holds Tryd.pinned (OpenSpec.ofChange descTransSpec)

/-- ITS FALSE NEIGHBOUR: 'it returns false'. Refute it at one input. -/
def descTransWrong : ChangeSpec := { name := "descTrans", fn := fun _ => fun
  | [d1, d2, d3] => { results := [.lit (.bool false)], args := [d1, d2, d3] }
  | _ => none }
def DescTransWrongFalsely : Prop := descTransRow.holds Tryd.pinned (OpenSpec.ofChange descTransWrong)

/- THE SECOND FORM. 'bulk': how many values and letters a reading holds, each counted each time it is reached (what is shared counts as often as it is met; a slice's spare places count too). A statement '..UptoSaid' is the law's where the arguments, and the package variables that the reading takes, are together of bulk at most 1048576: NARROWER than '..Said'. Prove '..Said' where nothing that the law and all that it calls make is longer than what came in: it says more and counts as full. Else prove '..UptoSaid'. A law counts once. -/
mutual
def uptoBulk {H : Type} : DataW H → Nat
  | .lit (.string bytes) => bytes.length + 1
  | .lit _ => 1
  | .nil => 1
  | .ptr d => uptoBulk d + 1
  | .slice elems spare => uptoBulkAll elems + uptoBulkAll spare + 1
  | .agg parts => uptoBulkAll parts + 1
  | .iface _ d => uptoBulk d + 1
  | .map entries => uptoBulkEntries entries + 1
  | .held _ => 1
def uptoBulkAll {H : Type} : List (DataW H) → Nat
  | [] => 0
  | d :: r => uptoBulk d + uptoBulkAll r
def uptoBulkEntries {H : Type} : List (Lit × DataW H) → Nat
  | [] => 0
  | x :: r => uptoBulkEntry x + uptoBulkEntries r
def uptoBulkEntry {H : Type} : Lit × DataW H → Nat
  | (.string bytes, d) => bytes.length + uptoBulk d + 1
  | (_, d) => uptoBulk d + 1
 end
def uptoSmall : (H : Type) → List (DataW H) → Bool := fun _ ds => decide (uptoBulkAll ds ≤ 1048576)
def OpenSpec.upto (s : _root_.Go.ChangeSpec) : _root_.Go.OpenSpec := { _root_.Go.OpenSpec.ofChange s with cond := some uptoSmall }

/-- 'atlaslaw05.DescSizes', WHERE WHAT IT READS IS OF BULK AT MOST 1048576: true; the input reads as it did. -/
def descSizesUptoRow : OpenClaim := { program := "ytcpcmjmgiagnoaadoor", sum := "f63df93f512d59ff176548366c95d929312e8609b109cf16e11d80271efbfa8a", func := "atlas/atlaslaw05.DescSizes", spec := "descSizes", named := ["atlas/desc.kindOfSize", "atlas/desc.baseAt", "atlas/desc.repeats"], apart := false, laid := [("atlas/desc.baseAt", laid_atlas_desc_baseAt), ("atlas/desc.kindOfSize", laid_atlas_desc_kindOfSize), ("atlas/desc.repeats", laid_atlas_desc_repeats)], narrowed := true }
def DescSizesUptoSaid : Prop := descSizesUptoRow.holds Tryd.pinned (OpenSpec.upto descSizesSpec)

/-- 'atlaslaw05.DescReads', WHERE WHAT IT READS IS OF BULK AT MOST 1048576: true; the input reads as it did. -/
def descReadsUptoRow : OpenClaim := { program := "ytcpcmjmgiagnoaadoor", sum := "f63df93f512d59ff176548366c95d929312e8609b109cf16e11d80271efbfa8a", func := "atlas/atlaslaw05.DescReads", spec := "descReads", named := ["atlas/desc.firstKinds", "atlas/desc.baseAt", "atlas/desc.leafAt", "atlas/desc.secondKinds"], apart := false, laid := [("atlas/desc.firstKinds", laid_atlas_desc_firstKinds), ("atlas/desc.secondKinds", laid_atlas_desc_secondKinds), ("atlas/desc.baseAt", laid_atlas_desc_baseAt), ("atlas/desc.leafAt", laid_atlas_desc_leafAt)], narrowed := true }
def DescReadsUptoSaid : Prop := descReadsUptoRow.holds Tryd.pinned (OpenSpec.upto descReadsSpec)

/-- 'atlaslaw05.DescEntry', WHERE WHAT IT READS IS OF BULK AT MOST 1048576: true; the input reads as it did. -/
def descEntryUptoRow : OpenClaim := { program := "ytcpcmjmgiagnoaadoor", sum := "f63df93f512d59ff176548366c95d929312e8609b109cf16e11d80271efbfa8a", func := "atlas/atlaslaw05.DescEntry", spec := "descEntry", named := ["atlas/desc.kindOfSize", "atlas/desc.sizeOfKind", "atlas/desc.baseAt", "atlas/desc.tags", "atlas/desc.leafAt", "atlas/desc.firstKinds", "atlas/desc.secondKinds"], apart := false, laid := [("atlas/desc.firstKinds", laid_atlas_desc_firstKinds), ("atlas/desc.secondKinds", laid_atlas_desc_secondKinds), ("atlas/desc.tags", laid_atlas_desc_tags), ("atlas/desc.baseAt", laid_atlas_desc_baseAt), ("atlas/desc.leafAt", laid_atlas_desc_leafAt), ("atlas/desc.kindOfSize", laid_atlas_desc_kindOfSize), ("atlas/desc.sizeOfKind", laid_atlas_desc_sizeOfKind)], narrowed := true }
def DescEntryUptoSaid : Prop := descEntryUptoRow.holds Tryd.pinned (OpenSpec.upto descEntrySpec)

/-- 'atlaslaw05.DescFlip', WHERE WHAT IT READS IS OF BULK AT MOST 1048576: true; the input reads as it did. -/
def descFlipUptoRow : OpenClaim := { program := "ytcpcmjmgiagnoaadoor", sum := "f63df93f512d59ff176548366c95d929312e8609b109cf16e11d80271efbfa8a", func := "atlas/atlaslaw05.DescFlip", spec := "descFlip", named := ["atlas/desc.secondKinds", "atlas/desc.baseAt", "atlas/desc.leafAt", "atlas/desc.tags", "atlas/desc.firstKinds"], apart := false, laid := [("atlas/desc.firstKinds", laid_atlas_desc_firstKinds), ("atlas/desc.secondKinds", laid_atlas_desc_secondKinds), ("atlas/desc.tags", laid_atlas_desc_tags), ("atlas/desc.baseAt", laid_atlas_desc_baseAt), ("atlas/desc.leafAt", laid_atlas_desc_leafAt)], narrowed := true }
def DescFlipUptoSaid : Prop := descFlipUptoRow.holds Tryd.pinned (OpenSpec.upto descFlipSpec)

/-- 'atlaslaw05.DescSaid', WHERE WHAT IT READS IS OF BULK AT MOST 1048576: true; the input reads as it did. -/
def descSaidUptoRow : OpenClaim := { program := "ytcpcmjmgiagnoaadoor", sum := "f63df93f512d59ff176548366c95d929312e8609b109cf16e11d80271efbfa8a", func := "atlas/atlaslaw05.DescSaid", spec := "descSaid", named := ["atlas/desc.secondKinds", "atlas/desc.baseAt", "atlas/desc.leafAt", "atlas/desc.tags", "atlas/desc.firstKinds"], apart := false, laid := [("atlas/desc.firstKinds", laid_atlas_desc_firstKinds), ("atlas/desc.secondKinds", laid_atlas_desc_secondKinds), ("atlas/desc.tags", laid_atlas_desc_tags), ("atlas/desc.baseAt", laid_atlas_desc_baseAt), ("atlas/desc.leafAt", laid_atlas_desc_leafAt)], narrowed := true }
def DescSaidUptoSaid : Prop := descSaidUptoRow.holds Tryd.pinned (OpenSpec.upto descSaidSpec)

/-- 'atlaslaw05.DescTrans', WHERE WHAT IT READS IS OF BULK AT MOST 1048576: true; the input reads as it did. -/
def descTransUptoRow : OpenClaim := { program := "ytcpcmjmgiagnoaadoor", sum := "f63df93f512d59ff176548366c95d929312e8609b109cf16e11d80271efbfa8a", func := "atlas/atlaslaw05.DescTrans", spec := "descTrans", named := ["atlas/desc.sizeOfKind", "atlas/desc.baseAt", "atlas/desc.tags", "atlas/desc.leafAt", "atlas/desc.firstKinds", "atlas/desc.secondKinds"], apart := false, laid := [("atlas/desc.firstKinds", laid_atlas_desc_firstKinds), ("atlas/desc.secondKinds", laid_atlas_desc_secondKinds), ("atlas/desc.tags", laid_atlas_desc_tags), ("atlas/desc.baseAt", laid_atlas_desc_baseAt), ("atlas/desc.leafAt", laid_atlas_desc_leafAt), ("atlas/desc.sizeOfKind", laid_atlas_desc_sizeOfKind)], narrowed := true }
def DescTransUptoSaid : Prop := descTransUptoRow.holds Tryd.pinned (OpenSpec.upto descTransSpec)

end Rows
end Go.Proofs.YtcpcmjmgiagnoaaDoor
