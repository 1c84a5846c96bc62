/-
  No cell of these rows narrows 'for every input' (looked for: loops, veiled, ifaces, maps, wideKeys, modest, calm, conditions, laid).
  DERIVED. THE GIVEN ROWS OF THIS SEAT. 3 by the template 'for every input the law returns true; each argument reads behind the call as it read before'; 0 by the template 'total and deterministic' (their statements: YtdelcknpaldngacTotals.lean).
  GIVEN WITH THE SEED: the statements are not yours to turn. If you find one false, say at which input.
  Laid BY PROGRAM, IN A SANDBOX (cutbox-rows.mjs): the forced cells as the released guide's own fill.sh prints them over the translation b7d6f86c87dffeea… (all of the seat's roots in one cut). By AI agents, Wed Nov 11 2026. No macro, syntax, notation, axiom, sorry.
-/
import Derived.Test.YtdelcknpaldngacChecked
import GoSem.Claim
import GoSem.ClaimJoined
import GoSem.ClaimMapViews
import Derived.JoinedTies
import Derived.KernelRfl
namespace Go.Proofs.Ytdelcknpaldngac
/- THE CELL 'sum', in the pinned program and in every row, IS THE sha256 OF THE DUMP (.gsa) THAT YtdelcknpaldngacProg.lean LOADS. Nothing in Lean hashes anything: it is a label: what it is worth is what the hold of that sum in a sandbox is worth. -/
noncomputable def Try.pinned : Pinned := { name := "ytdelcknpaldngac", sum := "b7d6f86c87dffeeaeb511c2ecb6c736516a676e019cbf4c97cbb3be105f16470", checked := Try.checked }
namespace Rows
def none {H : Type} : Left H := { results := [], args := [] }

/-- 'atlaslaw18.AluSmalls': WHATEVER THE INPUT: true; the input reads as it did. -/
def aluSmallsSpec : ChangeSpec := { name := "aluSmalls", fn := fun _ => fun
  | [d1, d2, d3] => { results := [.lit (.bool true)], args := [d1, d2, d3] }
  | _ => none }
def aluSmallsRow : OpenClaim := { program := "ytdelcknpaldngac", sum := "b7d6f86c87dffeeaeb511c2ecb6c736516a676e019cbf4c97cbb3be105f16470", func := "atlas/atlaslaw18.AluSmalls", spec := "aluSmalls", unfollowed := true, recurses := true, apart := false }
def AluSmallsSaid : Prop := aluSmallsRow.holds Try.pinned (OpenSpec.ofChange aluSmallsSpec)

/-- ITS FALSE NEIGHBOUR: 'it returns false'. Refute it at one input. -/
def aluSmallsWrong : ChangeSpec := { name := "aluSmalls", fn := fun _ => fun
  | [d1, d2, d3] => { results := [.lit (.bool false)], args := [d1, d2, d3] }
  | _ => none }
def AluSmallsWrongFalsely : Prop := aluSmallsRow.holds Try.pinned (OpenSpec.ofChange aluSmallsWrong)

/-- 'atlaslaw18.AluFlags': WHATEVER THE INPUT: true; the input reads as it did. -/
def aluFlagsSpec : ChangeSpec := { name := "aluFlags", fn := fun _ => fun
  | [d1, d2] => { results := [.lit (.bool true)], args := [d1, d2] }
  | _ => none }
def aluFlagsRow : OpenClaim := { program := "ytdelcknpaldngac", sum := "b7d6f86c87dffeeaeb511c2ecb6c736516a676e019cbf4c97cbb3be105f16470", func := "atlas/atlaslaw18.AluFlags", spec := "aluFlags", unfollowed := true, recurses := true, apart := false }
def AluFlagsSaid : Prop := aluFlagsRow.holds Try.pinned (OpenSpec.ofChange aluFlagsSpec)

/-- ITS FALSE NEIGHBOUR: 'it returns false'. Refute it at one input. -/
def aluFlagsWrong : ChangeSpec := { name := "aluFlags", fn := fun _ => fun
  | [d1, d2] => { results := [.lit (.bool false)], args := [d1, d2] }
  | _ => none }
def AluFlagsWrongFalsely : Prop := aluFlagsRow.holds Try.pinned (OpenSpec.ofChange aluFlagsWrong)

/-- 'atlaslaw18.AluConstants': WHATEVER THE INPUT: true; the input reads as it did. -/
def aluConstantsSpec : ChangeSpec := { name := "aluConstants", fn := fun _ => fun
  | [d1, d2, d3] => { results := [.lit (.bool true)], args := [d1, d2, d3] }
  | _ => none }
def aluConstantsRow : OpenClaim := { program := "ytdelcknpaldngac", sum := "b7d6f86c87dffeeaeb511c2ecb6c736516a676e019cbf4c97cbb3be105f16470", func := "atlas/atlaslaw18.AluConstants", spec := "aluConstants", unfollowed := true, recurses := true, apart := false }
def AluConstantsSaid : Prop := aluConstantsRow.holds Try.pinned (OpenSpec.ofChange aluConstantsSpec)

/-- ITS FALSE NEIGHBOUR: 'it returns false'. Refute it at one input. -/
def aluConstantsWrong : ChangeSpec := { name := "aluConstants", fn := fun _ => fun
  | [d1, d2, d3] => { results := [.lit (.bool false)], args := [d1, d2, d3] }
  | _ => none }
def AluConstantsWrongFalsely : Prop := aluConstantsRow.holds Try.pinned (OpenSpec.ofChange aluConstantsWrong)

/- THE SECOND FORM. 'bulk': how many values and letters a reading holds, each counted each time it is reached (what is shared counts as often as it is met; a slice's spare places count too). A statement '..UptoSaid' is the law's where the arguments, and the package variables that the reading takes, are together of bulk at most 1048576: NARROWER than '..Said'. Prove '..Said' where nothing that the law and all that it calls make is longer than what came in: it says more and counts as full. Else prove '..UptoSaid'. A law counts once. -/
mutual
def uptoBulk {H : Type} : DataW H → Nat
  | .lit (.string bytes) => bytes.length + 1
  | .lit _ => 1
  | .nil => 1
  | .ptr d => uptoBulk d + 1
  | .slice elems spare => uptoBulkAll elems + uptoBulkAll spare + 1
  | .agg parts => uptoBulkAll parts + 1
  | .iface _ d => uptoBulk d + 1
  | .map entries => uptoBulkEntries entries + 1
  | .held _ => 1
def uptoBulkAll {H : Type} : List (DataW H) → Nat
  | [] => 0
  | d :: r => uptoBulk d + uptoBulkAll r
def uptoBulkEntries {H : Type} : List (Lit × DataW H) → Nat
  | [] => 0
  | x :: r => uptoBulkEntry x + uptoBulkEntries r
def uptoBulkEntry {H : Type} : Lit × DataW H → Nat
  | (.string bytes, d) => bytes.length + uptoBulk d + 1
  | (_, d) => uptoBulk d + 1
 end
def uptoSmall : (H : Type) → List (DataW H) → Bool := fun _ ds => decide (uptoBulkAll ds ≤ 1048576)
def OpenSpec.upto (s : _root_.Go.ChangeSpec) : _root_.Go.OpenSpec := { _root_.Go.OpenSpec.ofChange s with cond := some uptoSmall }

/-- 'atlaslaw18.AluSmalls', WHERE WHAT IT READS IS OF BULK AT MOST 1048576: true; the input reads as it did. -/
def aluSmallsUptoRow : OpenClaim := { program := "ytdelcknpaldngac", sum := "b7d6f86c87dffeeaeb511c2ecb6c736516a676e019cbf4c97cbb3be105f16470", func := "atlas/atlaslaw18.AluSmalls", spec := "aluSmalls", unfollowed := true, recurses := true, apart := false, narrowed := true }
def AluSmallsUptoSaid : Prop := aluSmallsUptoRow.holds Try.pinned (OpenSpec.upto aluSmallsSpec)

/-- 'atlaslaw18.AluFlags', WHERE WHAT IT READS IS OF BULK AT MOST 1048576: true; the input reads as it did. -/
def aluFlagsUptoRow : OpenClaim := { program := "ytdelcknpaldngac", sum := "b7d6f86c87dffeeaeb511c2ecb6c736516a676e019cbf4c97cbb3be105f16470", func := "atlas/atlaslaw18.AluFlags", spec := "aluFlags", unfollowed := true, recurses := true, apart := false, narrowed := true }
def AluFlagsUptoSaid : Prop := aluFlagsUptoRow.holds Try.pinned (OpenSpec.upto aluFlagsSpec)

/-- 'atlaslaw18.AluConstants', WHERE WHAT IT READS IS OF BULK AT MOST 1048576: true; the input reads as it did. -/
def aluConstantsUptoRow : OpenClaim := { program := "ytdelcknpaldngac", sum := "b7d6f86c87dffeeaeb511c2ecb6c736516a676e019cbf4c97cbb3be105f16470", func := "atlas/atlaslaw18.AluConstants", spec := "aluConstants", unfollowed := true, recurses := true, apart := false, narrowed := true }
def AluConstantsUptoSaid : Prop := aluConstantsUptoRow.holds Try.pinned (OpenSpec.upto aluConstantsSpec)

end Rows
end Go.Proofs.Ytdelcknpaldngac
