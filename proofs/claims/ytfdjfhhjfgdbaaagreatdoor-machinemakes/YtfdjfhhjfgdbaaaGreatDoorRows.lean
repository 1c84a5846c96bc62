/-
  NARROWER THAN 'FOR EVERY INPUT', by the rows' own cells (each row's printed sentence says how): MachineMakes: laid.
  DERIVED. THE GIVEN ROWS OF THIS SEAT. 1 by the template 'for every input the law returns true; each argument reads behind the call as it read before'; 0 by the template 'total and deterministic' (their statements: YtfdjfhhjfgdbaaaGreatDoorTotals.lean).
  GIVEN WITH THE SEED: the statements are not yours to turn. If you find one false, say at which input.
  Laid BY PROGRAM, IN A SANDBOX (cutbox-rows.mjs): the forced cells as the released guide's own fill.sh prints them over the translation eeeed2701fc784e0… (all of the seat's roots in one cut). By AI agents, Wed Nov 11 2026. No macro, syntax, notation, axiom, sorry.
-/
import Derived.Test.YtfdjfhhjfgdbaaaGreatDoorChecked
import GoSem.Claim
import GoSem.ClaimJoined
import GoSem.ClaimMapViews
import Derived.JoinedTies
import Derived.KernelRfl
namespace Go.Proofs.YtfdjfhhjfgdbaaaGreatDoor
/- THE CELL 'sum', in the pinned program and in every row, IS THE sha256 OF THE DUMP (.gsa) THAT YtfdjfhhjfgdbaaaGreatDoorProg.lean LOADS. Nothing in Lean hashes anything: it is a label: what it is worth is what the hold of that sum in a sandbox is worth. -/
noncomputable def Tryz.pinned : Pinned := { name := "ytfdjfhhjfgdbaaagreatdoor", sum := "eeeed2701fc784e0d384e21210849f2be9718d982249eb698266c6f938a12133", checked := Tryz.checked }
namespace Rows
def none {H : Type} : Left H := { results := [], args := [] }

/- WHAT THE LISTED PACKAGE-LEVEL VARIABLES READ AS WHEN THE CALL BEGINS. Each datum BY PROGRAM (the guide's laid-datum.mjs) off the statement by which the dump's own 'gosem.cut.vars' lays the variable. In a bare row this is a premise. The card (YtfdjfhhjfgdbaaaGreatDoorCards.lean) ties it to the program's text. -/
def laid_atlas_cp15_registers {H : Type} : DataW H := .agg [.agg [.agg [.lit (.int .i64 1), .lit (.int .i64 0), .lit (.int .i64 0), .lit (.int .i64 0)], .lit (.int .u32 805306369), .lit (.int .u32 0), .lit (.bool true)], .agg [.agg [.lit (.int .i64 2), .lit (.int .i64 0), .lit (.int .i64 0), .lit (.int .i64 0)], .lit (.int .u32 4294967168), .lit (.int .u32 0), .lit (.bool true)], .agg [.agg [.lit (.int .i64 2), .lit (.int .i64 0), .lit (.int .i64 0), .lit (.int .i64 1)], .lit (.int .u32 4294950912), .lit (.int .u32 0), .lit (.bool true)], .agg [.agg [.lit (.int .i64 2), .lit (.int .i64 0), .lit (.int .i64 0), .lit (.int .i64 2)], .lit (.int .u32 55), .lit (.int .u32 0), .lit (.bool true)], .agg [.agg [.lit (.int .i64 3), .lit (.int .i64 0), .lit (.int .i64 0), .lit (.int .i64 0)], .lit (.int .u32 4294967295), .lit (.int .u32 0), .lit (.bool true)], .agg [.agg [.lit (.int .i64 5), .lit (.int .i64 0), .lit (.int .i64 0), .lit (.int .i64 0)], .lit (.int .u32 7423), .lit (.int .u32 0), .lit (.bool false)], .agg [.agg [.lit (.int .i64 5), .lit (.int .i64 0), .lit (.int .i64 0), .lit (.int .i64 1)], .lit (.int .u32 5135), .lit (.int .u32 0), .lit (.bool false)], .agg [.agg [.lit (.int .i64 6), .lit (.int .i64 0), .lit (.int .i64 0), .lit (.int .i64 0)], .lit (.int .u32 4294967295), .lit (.int .u32 0), .lit (.bool false)], .agg [.agg [.lit (.int .i64 6), .lit (.int .i64 0), .lit (.int .i64 0), .lit (.int .i64 2)], .lit (.int .u32 4294967295), .lit (.int .u32 0), .lit (.bool false)], .agg [.agg [.lit (.int .i64 7), .lit (.int .i64 0), .lit (.int .i64 4), .lit (.int .i64 0)], .lit (.int .u32 4294967295), .lit (.int .u32 0), .lit (.bool false)], .agg [.agg [.lit (.int .i64 10), .lit (.int .i64 0), .lit (.int .i64 2), .lit (.int .i64 0)], .lit (.int .u32 4279238655), .lit (.int .u32 625316), .lit (.bool true)], .agg [.agg [.lit (.int .i64 10), .lit (.int .i64 0), .lit (.int .i64 2), .lit (.int .i64 1)], .lit (.int .u32 4294967295), .lit (.int .u32 1155549408), .lit (.bool true)], .agg [.agg [.lit (.int .i64 13), .lit (.int .i64 0), .lit (.int .i64 0), .lit (.int .i64 1)], .lit (.int .u32 4294967295), .lit (.int .u32 0), .lit (.bool true)]]
def laid_atlas_desc_firstKinds {H : Type} : DataW H := .agg [.lit (.int .u8 0), .lit (.int .u8 1), .lit (.int .u8 2), .lit (.int .u8 0)]
def laid_atlas_desc_secondKinds {H : Type} : DataW H := .agg [.lit (.int .u8 0), .lit (.int .u8 4), .lit (.int .u8 5), .lit (.int .u8 5)]
def laid_atlas_desc_tags {H : Type} : DataW H := .agg [.lit (.int .u32 0), .lit (.int .u32 1), .lit (.int .u32 2), .lit (.int .u32 262146), .lit (.int .u32 1), .lit (.int .u32 2)]
def laid_atlas_desc_baseAt {H : Type} : DataW H := .agg [.lit (.int .u8 0), .lit (.int .u8 10), .lit (.int .u8 20), .lit (.int .u8 24), .lit (.int .u8 16), .lit (.int .u8 12)]
def laid_atlas_desc_leafAt {H : Type} : DataW H := .agg [.agg [.lit (.int .u8 0), .lit (.int .u8 0), .lit (.int .u8 0), .lit (.int .u8 0), .lit (.int .u8 0), .lit (.int .u8 0)], .agg [.lit (.int .u8 0), .lit (.int .u8 0), .lit (.int .u8 0), .lit (.int .u8 0), .lit (.int .u8 0), .lit (.int .u8 0)], .agg [.lit (.int .u8 10), .lit (.int .u8 15), .lit (.int .u8 12), .lit (.int .u8 16), .lit (.int .u8 17), .lit (.int .u8 4)], .agg [.lit (.int .u8 10), .lit (.int .u8 15), .lit (.int .u8 12), .lit (.int .u8 16), .lit (.int .u8 17), .lit (.int .u8 4)], .agg [.lit (.int .u8 4), .lit (.int .u8 9), .lit (.int .u8 12), .lit (.int .u8 10), .lit (.int .u8 11), .lit (.int .u8 15)], .agg [.lit (.int .u8 4), .lit (.int .u8 9), .lit (.int .u8 6), .lit (.int .u8 10), .lit (.int .u8 11), .lit (.int .u8 0)]]
def laid_atlas_desc_kindOfSize {H : Type} : DataW H := .agg [.lit (.int .u8 0), .lit (.int .u8 5), .lit (.int .u8 4), .lit (.int .u8 2), .lit (.int .u8 3)]
def laid_atlas_desc_sizeOfKind {H : Type} : DataW H := .agg [.lit (.int .u8 0), .lit (.int .u8 0), .lit (.int .u8 3), .lit (.int .u8 4), .lit (.int .u8 2), .lit (.int .u8 1)]
def laid_atlas_desc_repeats {H : Type} : DataW H := .agg [.lit (.int .u8 0), .lit (.int .u8 1), .lit (.int .u8 16), .lit (.int .u8 1), .lit (.int .u8 16)]

/-- 'atlaslaw13.MachineMakes': WHATEVER THE INPUT: true; the input reads as it did. -/
def machineMakesSpec : ChangeSpec := { name := "machineMakes", fn := fun _ => fun
  | [d1, d2] => { results := [.lit (.bool true)], args := [d1, d2] }
  | _ => none }
def machineMakesRow : OpenClaim := { program := "ytfdjfhhjfgdbaaagreatdoor", sum := "eeeed2701fc784e0d384e21210849f2be9718d982249eb698266c6f938a12133", func := "atlas/atlaslaw13.MachineMakes", spec := "machineMakes", unfollowed := true, recurses := true, named := ["atlas/cp15.registers", "atlas/desc.firstKinds", "atlas/desc.baseAt", "atlas/desc.leafAt", "atlas/desc.secondKinds", "atlas/desc.sizeOfKind", "atlas/desc.tags", "atlas/desc.kindOfSize", "atlas/desc.repeats"], plainKeys := false, apart := false, laid := [("atlas/cp15.registers", laid_atlas_cp15_registers), ("atlas/desc.firstKinds", laid_atlas_desc_firstKinds), ("atlas/desc.secondKinds", laid_atlas_desc_secondKinds), ("atlas/desc.tags", laid_atlas_desc_tags), ("atlas/desc.baseAt", laid_atlas_desc_baseAt), ("atlas/desc.leafAt", laid_atlas_desc_leafAt), ("atlas/desc.kindOfSize", laid_atlas_desc_kindOfSize), ("atlas/desc.sizeOfKind", laid_atlas_desc_sizeOfKind), ("atlas/desc.repeats", laid_atlas_desc_repeats)] }
def MachineMakesSaid : Prop := machineMakesRow.holds Tryz.pinned (OpenSpec.ofChange machineMakesSpec)

/-- ITS FALSE NEIGHBOUR: 'it returns false'. Refute it at one input. -/
def machineMakesWrong : ChangeSpec := { name := "machineMakes", fn := fun _ => fun
  | [d1, d2] => { results := [.lit (.bool false)], args := [d1, d2] }
  | _ => none }
def MachineMakesWrongFalsely : Prop := machineMakesRow.holds Tryz.pinned (OpenSpec.ofChange machineMakesWrong)

/- THE SECOND FORM. 'bulk': how many values and letters a reading holds, each counted each time it is reached (what is shared counts as often as it is met; a slice's spare places count too). A statement '..UptoSaid' is the law's where the arguments, and the package variables that the reading takes, are together of bulk at most 1048576: NARROWER than '..Said'. Prove '..Said' where nothing that the law and all that it calls make is longer than what came in: it says more and counts as full. Else prove '..UptoSaid'. A law counts once. -/
mutual
def uptoBulk {H : Type} : DataW H → Nat
  | .lit (.string bytes) => bytes.length + 1
  | .lit _ => 1
  | .nil => 1
  | .ptr d => uptoBulk d + 1
  | .slice elems spare => uptoBulkAll elems + uptoBulkAll spare + 1
  | .agg parts => uptoBulkAll parts + 1
  | .iface _ d => uptoBulk d + 1
  | .map entries => uptoBulkEntries entries + 1
  | .held _ => 1
def uptoBulkAll {H : Type} : List (DataW H) → Nat
  | [] => 0
  | d :: r => uptoBulk d + uptoBulkAll r
def uptoBulkEntries {H : Type} : List (Lit × DataW H) → Nat
  | [] => 0
  | x :: r => uptoBulkEntry x + uptoBulkEntries r
def uptoBulkEntry {H : Type} : Lit × DataW H → Nat
  | (.string bytes, d) => bytes.length + uptoBulk d + 1
  | (_, d) => uptoBulk d + 1
 end
def uptoSmall : (H : Type) → List (DataW H) → Bool := fun _ ds => decide (uptoBulkAll ds ≤ 1048576)
def OpenSpec.upto (s : _root_.Go.ChangeSpec) : _root_.Go.OpenSpec := { _root_.Go.OpenSpec.ofChange s with cond := some uptoSmall }

/-- 'atlaslaw13.MachineMakes', WHERE WHAT IT READS IS OF BULK AT MOST 1048576: true; the input reads as it did. -/
def machineMakesUptoRow : OpenClaim := { program := "ytfdjfhhjfgdbaaagreatdoor", sum := "eeeed2701fc784e0d384e21210849f2be9718d982249eb698266c6f938a12133", func := "atlas/atlaslaw13.MachineMakes", spec := "machineMakes", unfollowed := true, recurses := true, named := ["atlas/cp15.registers", "atlas/desc.firstKinds", "atlas/desc.baseAt", "atlas/desc.leafAt", "atlas/desc.secondKinds", "atlas/desc.sizeOfKind", "atlas/desc.tags", "atlas/desc.kindOfSize", "atlas/desc.repeats"], plainKeys := false, apart := false, laid := [("atlas/cp15.registers", laid_atlas_cp15_registers), ("atlas/desc.firstKinds", laid_atlas_desc_firstKinds), ("atlas/desc.secondKinds", laid_atlas_desc_secondKinds), ("atlas/desc.tags", laid_atlas_desc_tags), ("atlas/desc.baseAt", laid_atlas_desc_baseAt), ("atlas/desc.leafAt", laid_atlas_desc_leafAt), ("atlas/desc.kindOfSize", laid_atlas_desc_kindOfSize), ("atlas/desc.sizeOfKind", laid_atlas_desc_sizeOfKind), ("atlas/desc.repeats", laid_atlas_desc_repeats)], narrowed := true }
def MachineMakesUptoSaid : Prop := machineMakesUptoRow.holds Tryz.pinned (OpenSpec.upto machineMakesSpec)

end Rows
end Go.Proofs.YtfdjfhhjfgdbaaaGreatDoor
