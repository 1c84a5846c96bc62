/-
  NARROWER THAN 'FOR EVERY INPUT', by the rows' own cells (each row's printed sentence says how): DescBack: laid · DescBlock: laid · DescWrites: laid.
  DERIVED. THE GIVEN ROWS OF THIS SEAT. 3 by the template 'for every input the law returns true; each argument reads behind the call as it read before'; 0 by the template 'total and deterministic' (their statements: YtcpcmjmgiagnoabDoorTotals.lean).
  GIVEN WITH THE SEED: the statements are not yours to turn. If you find one false, say at which input.
  Laid BY PROGRAM, IN A SANDBOX (cutbox-rows.mjs): the forced cells as the released guide's own fill.sh prints them over the translation 653e30e588361a34… (all of the seat's roots in one cut). By AI agents, Wed Nov 11 2026. No macro, syntax, notation, axiom, sorry.
-/
import Derived.Test.YtcpcmjmgiagnoabDoorChecked
import GoSem.Claim
import GoSem.ClaimJoined
import GoSem.ClaimMapViews
import Derived.JoinedTies
import Derived.KernelRfl
namespace Go.Proofs.YtcpcmjmgiagnoabDoor
/- THE CELL 'sum', in the pinned program and in every row, IS THE sha256 OF THE DUMP (.gsa) THAT YtcpcmjmgiagnoabDoorProg.lean LOADS. Nothing in Lean hashes anything: it is a label: what it is worth is what the hold of that sum in a sandbox is worth. -/
noncomputable def Tryd.pinned : Pinned := { name := "ytcpcmjmgiagnoabdoor", sum := "653e30e588361a34875045ec0f25ba467d7300cee8693995232af27713b70fa5", checked := Tryd.checked }
namespace Rows
def none {H : Type} : Left H := { results := [], args := [] }

/- WHAT THE LISTED PACKAGE-LEVEL VARIABLES READ AS WHEN THE CALL BEGINS. Each datum BY PROGRAM (the guide's laid-datum.mjs) off the statement by which the dump's own 'gosem.cut.vars' lays the variable. In a bare row this is a premise. The card (YtcpcmjmgiagnoabDoorCards.lean) ties it to the program's text. -/
def laid_atlas_desc_firstKinds {H : Type} : DataW H := .agg [.lit (.int .u8 0), .lit (.int .u8 1), .lit (.int .u8 2), .lit (.int .u8 0)]
def laid_atlas_desc_secondKinds {H : Type} : DataW H := .agg [.lit (.int .u8 0), .lit (.int .u8 4), .lit (.int .u8 5), .lit (.int .u8 5)]
def laid_atlas_desc_tags {H : Type} : DataW H := .agg [.lit (.int .u32 0), .lit (.int .u32 1), .lit (.int .u32 2), .lit (.int .u32 262146), .lit (.int .u32 1), .lit (.int .u32 2)]
def laid_atlas_desc_baseAt {H : Type} : DataW H := .agg [.lit (.int .u8 0), .lit (.int .u8 10), .lit (.int .u8 20), .lit (.int .u8 24), .lit (.int .u8 16), .lit (.int .u8 12)]
def laid_atlas_desc_leafAt {H : Type} : DataW H := .agg [.agg [.lit (.int .u8 0), .lit (.int .u8 0), .lit (.int .u8 0), .lit (.int .u8 0), .lit (.int .u8 0), .lit (.int .u8 0)], .agg [.lit (.int .u8 0), .lit (.int .u8 0), .lit (.int .u8 0), .lit (.int .u8 0), .lit (.int .u8 0), .lit (.int .u8 0)], .agg [.lit (.int .u8 10), .lit (.int .u8 15), .lit (.int .u8 12), .lit (.int .u8 16), .lit (.int .u8 17), .lit (.int .u8 4)], .agg [.lit (.int .u8 10), .lit (.int .u8 15), .lit (.int .u8 12), .lit (.int .u8 16), .lit (.int .u8 17), .lit (.int .u8 4)], .agg [.lit (.int .u8 4), .lit (.int .u8 9), .lit (.int .u8 12), .lit (.int .u8 10), .lit (.int .u8 11), .lit (.int .u8 15)], .agg [.lit (.int .u8 4), .lit (.int .u8 9), .lit (.int .u8 6), .lit (.int .u8 10), .lit (.int .u8 11), .lit (.int .u8 0)]]
def laid_atlas_desc_kindOfSize {H : Type} : DataW H := .agg [.lit (.int .u8 0), .lit (.int .u8 5), .lit (.int .u8 4), .lit (.int .u8 2), .lit (.int .u8 3)]
def laid_atlas_desc_sizeOfKind {H : Type} : DataW H := .agg [.lit (.int .u8 0), .lit (.int .u8 0), .lit (.int .u8 3), .lit (.int .u8 4), .lit (.int .u8 2), .lit (.int .u8 1)]

/-- 'atlaslaw05.DescBack': WHATEVER THE INPUT: true; the input reads as it did. -/
def descBackSpec : ChangeSpec := { name := "descBack", fn := fun _ => fun
  | [d] => { results := [.lit (.bool true)], args := [d] }
  | _ => none }
def descBackRow : OpenClaim := { program := "ytcpcmjmgiagnoabdoor", sum := "653e30e588361a34875045ec0f25ba467d7300cee8693995232af27713b70fa5", func := "atlas/atlaslaw05.DescBack", spec := "descBack", named := ["atlas/desc.secondKinds", "atlas/desc.baseAt", "atlas/desc.leafAt", "atlas/desc.tags", "atlas/desc.firstKinds"], apart := false, laid := [("atlas/desc.firstKinds", laid_atlas_desc_firstKinds), ("atlas/desc.secondKinds", laid_atlas_desc_secondKinds), ("atlas/desc.tags", laid_atlas_desc_tags), ("atlas/desc.baseAt", laid_atlas_desc_baseAt), ("atlas/desc.leafAt", laid_atlas_desc_leafAt)] }
def DescBackSaid : Prop := descBackRow.holds Tryd.pinned (OpenSpec.ofChange descBackSpec)

/-- ITS FALSE NEIGHBOUR: 'it returns false'. Refute it at one input. -/
def descBackWrong : ChangeSpec := { name := "descBack", fn := fun _ => fun
  | [d] => { results := [.lit (.bool false)], args := [d] }
  | _ => none }
def DescBackWrongFalsely : Prop := descBackRow.holds Tryd.pinned (OpenSpec.ofChange descBackWrong)

/-- 'atlaslaw05.DescBlock': WHATEVER THE INPUT: true; the input reads as it did. -/
def descBlockSpec : ChangeSpec := { name := "descBlock", fn := fun _ => fun
  | [d1, d2, d3, d4, d5] => { results := [.lit (.bool true)], args := [d1, d2, d3, d4, d5] }
  | _ => none }
def descBlockRow : OpenClaim := { program := "ytcpcmjmgiagnoabdoor", sum := "653e30e588361a34875045ec0f25ba467d7300cee8693995232af27713b70fa5", func := "atlas/atlaslaw05.DescBlock", spec := "descBlock", named := ["atlas/desc.secondKinds", "atlas/desc.baseAt", "atlas/desc.leafAt", "atlas/desc.tags", "atlas/desc.firstKinds", "atlas/desc.sizeOfKind", "atlas/desc.kindOfSize"], apart := false, laid := [("atlas/desc.firstKinds", laid_atlas_desc_firstKinds), ("atlas/desc.secondKinds", laid_atlas_desc_secondKinds), ("atlas/desc.tags", laid_atlas_desc_tags), ("atlas/desc.baseAt", laid_atlas_desc_baseAt), ("atlas/desc.leafAt", laid_atlas_desc_leafAt), ("atlas/desc.kindOfSize", laid_atlas_desc_kindOfSize), ("atlas/desc.sizeOfKind", laid_atlas_desc_sizeOfKind)] }
def DescBlockSaid : Prop := descBlockRow.holds Tryd.pinned (OpenSpec.ofChange descBlockSpec)

/-- ITS FALSE NEIGHBOUR: 'it returns false'. Refute it at one input. -/
def descBlockWrong : ChangeSpec := { name := "descBlock", fn := fun _ => fun
  | [d1, d2, d3, d4, d5] => { results := [.lit (.bool false)], args := [d1, d2, d3, d4, d5] }
  | _ => none }
def DescBlockWrongFalsely : Prop := descBlockRow.holds Tryd.pinned (OpenSpec.ofChange descBlockWrong)

/-- 'atlaslaw05.DescWrites': WHATEVER THE INPUT: true; the input reads as it did. -/
def descWritesSpec : ChangeSpec := { name := "descWrites", fn := fun _ => fun
  | [d] => { results := [.lit (.bool true)], args := [d] }
  | _ => none }
def descWritesRow : OpenClaim := { program := "ytcpcmjmgiagnoabdoor", sum := "653e30e588361a34875045ec0f25ba467d7300cee8693995232af27713b70fa5", func := "atlas/atlaslaw05.DescWrites", spec := "descWrites", named := ["atlas/desc.tags", "atlas/desc.baseAt", "atlas/desc.leafAt", "atlas/desc.firstKinds", "atlas/desc.secondKinds"], apart := false, laid := [("atlas/desc.firstKinds", laid_atlas_desc_firstKinds), ("atlas/desc.secondKinds", laid_atlas_desc_secondKinds), ("atlas/desc.tags", laid_atlas_desc_tags), ("atlas/desc.baseAt", laid_atlas_desc_baseAt), ("atlas/desc.leafAt", laid_atlas_desc_leafAt)] }
def DescWritesSaid : Prop := descWritesRow.holds Tryd.pinned (OpenSpec.ofChange descWritesSpec)

/-- ITS FALSE NEIGHBOUR: 'it returns false'. Refute it at one input. -/
def descWritesWrong : ChangeSpec := { name := "descWrites", fn := fun _ => fun
  | [d] => { results := [.lit (.bool false)], args := [d] }
  | _ => none }
def DescWritesWrongFalsely : Prop := descWritesRow.holds Tryd.pinned (OpenSpec.ofChange descWritesWrong)

/- THE SECOND FORM. 'bulk': how many values and letters a reading holds, each counted each time it is reached (what is shared counts as often as it is met; a slice's spare places count too). A statement '..UptoSaid' is the law's where the arguments, and the package variables that the reading takes, are together of bulk at most 1048576: NARROWER than '..Said'. Prove '..Said' where nothing that the law and all that it calls make is longer than what came in: it says more and counts as full. Else prove '..UptoSaid'. A law counts once. -/
mutual
def uptoBulk {H : Type} : DataW H → Nat
  | .lit (.string bytes) => bytes.length + 1
  | .lit _ => 1
  | .nil => 1
  | .ptr d => uptoBulk d + 1
  | .slice elems spare => uptoBulkAll elems + uptoBulkAll spare + 1
  | .agg parts => uptoBulkAll parts + 1
  | .iface _ d => uptoBulk d + 1
  | .map entries => uptoBulkEntries entries + 1
  | .held _ => 1
def uptoBulkAll {H : Type} : List (DataW H) → Nat
  | [] => 0
  | d :: r => uptoBulk d + uptoBulkAll r
def uptoBulkEntries {H : Type} : List (Lit × DataW H) → Nat
  | [] => 0
  | x :: r => uptoBulkEntry x + uptoBulkEntries r
def uptoBulkEntry {H : Type} : Lit × DataW H → Nat
  | (.string bytes, d) => bytes.length + uptoBulk d + 1
  | (_, d) => uptoBulk d + 1
 end
def uptoSmall : (H : Type) → List (DataW H) → Bool := fun _ ds => decide (uptoBulkAll ds ≤ 1048576)
def OpenSpec.upto (s : _root_.Go.ChangeSpec) : _root_.Go.OpenSpec := { _root_.Go.OpenSpec.ofChange s with cond := some uptoSmall }

/-- 'atlaslaw05.DescBack', WHERE WHAT IT READS IS OF BULK AT MOST 1048576: true; the input reads as it did. -/
def descBackUptoRow : OpenClaim := { program := "ytcpcmjmgiagnoabdoor", sum := "653e30e588361a34875045ec0f25ba467d7300cee8693995232af27713b70fa5", func := "atlas/atlaslaw05.DescBack", spec := "descBack", named := ["atlas/desc.secondKinds", "atlas/desc.baseAt", "atlas/desc.leafAt", "atlas/desc.tags", "atlas/desc.firstKinds"], apart := false, laid := [("atlas/desc.firstKinds", laid_atlas_desc_firstKinds), ("atlas/desc.secondKinds", laid_atlas_desc_secondKinds), ("atlas/desc.tags", laid_atlas_desc_tags), ("atlas/desc.baseAt", laid_atlas_desc_baseAt), ("atlas/desc.leafAt", laid_atlas_desc_leafAt)], narrowed := true }
def DescBackUptoSaid : Prop := descBackUptoRow.holds Tryd.pinned (OpenSpec.upto descBackSpec)

/-- 'atlaslaw05.DescBlock', WHERE WHAT IT READS IS OF BULK AT MOST 1048576: true; the input reads as it did. -/
def descBlockUptoRow : OpenClaim := { program := "ytcpcmjmgiagnoabdoor", sum := "653e30e588361a34875045ec0f25ba467d7300cee8693995232af27713b70fa5", func := "atlas/atlaslaw05.DescBlock", spec := "descBlock", named := ["atlas/desc.secondKinds", "atlas/desc.baseAt", "atlas/desc.leafAt", "atlas/desc.tags", "atlas/desc.firstKinds", "atlas/desc.sizeOfKind", "atlas/desc.kindOfSize"], apart := false, laid := [("atlas/desc.firstKinds", laid_atlas_desc_firstKinds), ("atlas/desc.secondKinds", laid_atlas_desc_secondKinds), ("atlas/desc.tags", laid_atlas_desc_tags), ("atlas/desc.baseAt", laid_atlas_desc_baseAt), ("atlas/desc.leafAt", laid_atlas_desc_leafAt), ("atlas/desc.kindOfSize", laid_atlas_desc_kindOfSize), ("atlas/desc.sizeOfKind", laid_atlas_desc_sizeOfKind)], narrowed := true }
def DescBlockUptoSaid : Prop := descBlockUptoRow.holds Tryd.pinned (OpenSpec.upto descBlockSpec)

/-- 'atlaslaw05.DescWrites', WHERE WHAT IT READS IS OF BULK AT MOST 1048576: true; the input reads as it did. -/
def descWritesUptoRow : OpenClaim := { program := "ytcpcmjmgiagnoabdoor", sum := "653e30e588361a34875045ec0f25ba467d7300cee8693995232af27713b70fa5", func := "atlas/atlaslaw05.DescWrites", spec := "descWrites", named := ["atlas/desc.tags", "atlas/desc.baseAt", "atlas/desc.leafAt", "atlas/desc.firstKinds", "atlas/desc.secondKinds"], apart := false, laid := [("atlas/desc.firstKinds", laid_atlas_desc_firstKinds), ("atlas/desc.secondKinds", laid_atlas_desc_secondKinds), ("atlas/desc.tags", laid_atlas_desc_tags), ("atlas/desc.baseAt", laid_atlas_desc_baseAt), ("atlas/desc.leafAt", laid_atlas_desc_leafAt)], narrowed := true }
def DescWritesUptoSaid : Prop := descWritesUptoRow.holds Tryd.pinned (OpenSpec.upto descWritesSpec)

end Rows
end Go.Proofs.YtcpcmjmgiagnoabDoor
