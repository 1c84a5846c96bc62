/-
  No cell of these rows narrows 'for every input' (looked for: loops, veiled, ifaces, maps, wideKeys, modest, calm, conditions, laid).
  DERIVED. THE GIVEN ROWS OF THIS SEAT. 4 by the template 'for every input the law returns true; each argument reads behind the call as it read before'; 0 by the template 'total and deterministic' (their statements: YtliiblaodhcjhabTotals.lean).
  GIVEN WITH THE SEED: the statements are not yours to turn. If you find one false, say at which input.
  Laid BY PROGRAM, IN A SANDBOX (cutbox-rows.mjs): the forced cells as the released guide's own fill.sh prints them over the translation 0cd60d09ebb8fe77… (all of the seat's roots in one cut). By AI agents, Wed Nov 11 2026. No macro, syntax, notation, axiom, sorry.
-/
import Derived.Test.YtliiblaodhcjhabChecked
import GoSem.Claim
import GoSem.ClaimJoined
import GoSem.ClaimMapViews
import Derived.JoinedTies
import Derived.KernelRfl
namespace Go.Proofs.Ytliiblaodhcjhab
/- THE CELL 'sum', in the pinned program and in every row, IS THE sha256 OF THE DUMP (.gsa) THAT YtliiblaodhcjhabProg.lean LOADS. Nothing in Lean hashes anything: it is a label: what it is worth is what the hold of that sum in a sandbox is worth. -/
noncomputable def Try.pinned : Pinned := { name := "ytliiblaodhcjhab", sum := "0cd60d09ebb8fe77b0eabf84c4153d3ab90c0e19d76695cc2a79c91cab6f6b47", checked := Try.checked }
namespace Rows
def none {H : Type} : Left H := { results := [], args := [] }

/-- 'atlaslaw02.SpansGaps': WHATEVER THE INPUT: true; the input reads as it did. -/
def spansGapsSpec : ChangeSpec := { name := "spansGaps", fn := fun _ => fun
  | [d1, d2, d3, d4, d5] => { results := [.lit (.bool true)], args := [d1, d2, d3, d4, d5] }
  | _ => none }
def spansGapsRow : OpenClaim := { program := "ytliiblaodhcjhab", sum := "0cd60d09ebb8fe77b0eabf84c4153d3ab90c0e19d76695cc2a79c91cab6f6b47", func := "atlas/atlaslaw02.SpansGaps", spec := "spansGaps", inPlace := ["slices.overlaps[atlas/spans.Span[int]]"], unfollowed := true, recurses := true, apart := false }
def SpansGapsSaid : Prop := spansGapsRow.holds Try.pinned (OpenSpec.ofChange spansGapsSpec)

/-- ITS FALSE NEIGHBOUR: 'it returns false'. Refute it at one input. -/
def spansGapsWrong : ChangeSpec := { name := "spansGaps", fn := fun _ => fun
  | [d1, d2, d3, d4, d5] => { results := [.lit (.bool false)], args := [d1, d2, d3, d4, d5] }
  | _ => none }
def SpansGapsWrongFalsely : Prop := spansGapsRow.holds Try.pinned (OpenSpec.ofChange spansGapsWrong)

/-- 'atlaslaw02.SpansPlays': WHATEVER THE INPUT: true; the input reads as it did. -/
def spansPlaysSpec : ChangeSpec := { name := "spansPlays", fn := fun _ => fun
  | [d] => { results := [.lit (.bool true)], args := [d] }
  | _ => none }
def spansPlaysRow : OpenClaim := { program := "ytliiblaodhcjhab", sum := "0cd60d09ebb8fe77b0eabf84c4153d3ab90c0e19d76695cc2a79c91cab6f6b47", func := "atlas/atlaslaw02.SpansPlays", spec := "spansPlays", inPlace := ["slices.overlaps[atlas/spans.Span[int]]"], unfollowed := true, recurses := true, apart := false }
def SpansPlaysSaid : Prop := spansPlaysRow.holds Try.pinned (OpenSpec.ofChange spansPlaysSpec)

/-- ITS FALSE NEIGHBOUR: 'it returns false'. Refute it at one input. -/
def spansPlaysWrong : ChangeSpec := { name := "spansPlays", fn := fun _ => fun
  | [d] => { results := [.lit (.bool false)], args := [d] }
  | _ => none }
def SpansPlaysWrongFalsely : Prop := spansPlaysRow.holds Try.pinned (OpenSpec.ofChange spansPlaysWrong)

/-- 'atlaslaw02.SpansWithin': WHATEVER THE INPUT: true; the input reads as it did. -/
def spansWithinSpec : ChangeSpec := { name := "spansWithin", fn := fun _ => fun
  | [d1, d2, d3, d4] => { results := [.lit (.bool true)], args := [d1, d2, d3, d4] }
  | _ => none }
def spansWithinRow : OpenClaim := { program := "ytliiblaodhcjhab", sum := "0cd60d09ebb8fe77b0eabf84c4153d3ab90c0e19d76695cc2a79c91cab6f6b47", func := "atlas/atlaslaw02.SpansWithin", spec := "spansWithin", inPlace := ["slices.overlaps[atlas/spans.Span[int]]"], unfollowed := true, recurses := true, apart := false }
def SpansWithinSaid : Prop := spansWithinRow.holds Try.pinned (OpenSpec.ofChange spansWithinSpec)

/-- ITS FALSE NEIGHBOUR: 'it returns false'. Refute it at one input. -/
def spansWithinWrong : ChangeSpec := { name := "spansWithin", fn := fun _ => fun
  | [d1, d2, d3, d4] => { results := [.lit (.bool false)], args := [d1, d2, d3, d4] }
  | _ => none }
def SpansWithinWrongFalsely : Prop := spansWithinRow.holds Try.pinned (OpenSpec.ofChange spansWithinWrong)

/-- 'atlaslaw02.SpansDiffs': WHATEVER THE INPUT: true; the input reads as it did. -/
def spansDiffsSpec : ChangeSpec := { name := "spansDiffs", fn := fun _ => fun
  | [d1, d2] => { results := [.lit (.bool true)], args := [d1, d2] }
  | _ => none }
def spansDiffsRow : OpenClaim := { program := "ytliiblaodhcjhab", sum := "0cd60d09ebb8fe77b0eabf84c4153d3ab90c0e19d76695cc2a79c91cab6f6b47", func := "atlas/atlaslaw02.SpansDiffs", spec := "spansDiffs", inPlace := ["slices.overlaps[atlas/spans.Span[int]]"], unfollowed := true, recurses := true, apart := false }
def SpansDiffsSaid : Prop := spansDiffsRow.holds Try.pinned (OpenSpec.ofChange spansDiffsSpec)

/-- ITS FALSE NEIGHBOUR: 'it returns false'. Refute it at one input. -/
def spansDiffsWrong : ChangeSpec := { name := "spansDiffs", fn := fun _ => fun
  | [d1, d2] => { results := [.lit (.bool false)], args := [d1, d2] }
  | _ => none }
def SpansDiffsWrongFalsely : Prop := spansDiffsRow.holds Try.pinned (OpenSpec.ofChange spansDiffsWrong)

/- THE SECOND FORM. 'bulk': how many values and letters a reading holds, each counted each time it is reached (what is shared counts as often as it is met; a slice's spare places count too). A statement '..UptoSaid' is the law's where the arguments, and the package variables that the reading takes, are together of bulk at most 1048576: NARROWER than '..Said'. Prove '..Said' where nothing that the law and all that it calls make is longer than what came in: it says more and counts as full. Else prove '..UptoSaid'. A law counts once. -/
mutual
def uptoBulk {H : Type} : DataW H → Nat
  | .lit (.string bytes) => bytes.length + 1
  | .lit _ => 1
  | .nil => 1
  | .ptr d => uptoBulk d + 1
  | .slice elems spare => uptoBulkAll elems + uptoBulkAll spare + 1
  | .agg parts => uptoBulkAll parts + 1
  | .iface _ d => uptoBulk d + 1
  | .map entries => uptoBulkEntries entries + 1
  | .held _ => 1
def uptoBulkAll {H : Type} : List (DataW H) → Nat
  | [] => 0
  | d :: r => uptoBulk d + uptoBulkAll r
def uptoBulkEntries {H : Type} : List (Lit × DataW H) → Nat
  | [] => 0
  | x :: r => uptoBulkEntry x + uptoBulkEntries r
def uptoBulkEntry {H : Type} : Lit × DataW H → Nat
  | (.string bytes, d) => bytes.length + uptoBulk d + 1
  | (_, d) => uptoBulk d + 1
 end
def uptoSmall : (H : Type) → List (DataW H) → Bool := fun _ ds => decide (uptoBulkAll ds ≤ 1048576)
def OpenSpec.upto (s : _root_.Go.ChangeSpec) : _root_.Go.OpenSpec := { _root_.Go.OpenSpec.ofChange s with cond := some uptoSmall }

/-- 'atlaslaw02.SpansGaps', WHERE WHAT IT READS IS OF BULK AT MOST 1048576: true; the input reads as it did. -/
def spansGapsUptoRow : OpenClaim := { program := "ytliiblaodhcjhab", sum := "0cd60d09ebb8fe77b0eabf84c4153d3ab90c0e19d76695cc2a79c91cab6f6b47", func := "atlas/atlaslaw02.SpansGaps", spec := "spansGaps", inPlace := ["slices.overlaps[atlas/spans.Span[int]]"], unfollowed := true, recurses := true, apart := false, narrowed := true }
def SpansGapsUptoSaid : Prop := spansGapsUptoRow.holds Try.pinned (OpenSpec.upto spansGapsSpec)

/-- 'atlaslaw02.SpansPlays', WHERE WHAT IT READS IS OF BULK AT MOST 1048576: true; the input reads as it did. -/
def spansPlaysUptoRow : OpenClaim := { program := "ytliiblaodhcjhab", sum := "0cd60d09ebb8fe77b0eabf84c4153d3ab90c0e19d76695cc2a79c91cab6f6b47", func := "atlas/atlaslaw02.SpansPlays", spec := "spansPlays", inPlace := ["slices.overlaps[atlas/spans.Span[int]]"], unfollowed := true, recurses := true, apart := false, narrowed := true }
def SpansPlaysUptoSaid : Prop := spansPlaysUptoRow.holds Try.pinned (OpenSpec.upto spansPlaysSpec)

/-- 'atlaslaw02.SpansWithin', WHERE WHAT IT READS IS OF BULK AT MOST 1048576: true; the input reads as it did. -/
def spansWithinUptoRow : OpenClaim := { program := "ytliiblaodhcjhab", sum := "0cd60d09ebb8fe77b0eabf84c4153d3ab90c0e19d76695cc2a79c91cab6f6b47", func := "atlas/atlaslaw02.SpansWithin", spec := "spansWithin", inPlace := ["slices.overlaps[atlas/spans.Span[int]]"], unfollowed := true, recurses := true, apart := false, narrowed := true }
def SpansWithinUptoSaid : Prop := spansWithinUptoRow.holds Try.pinned (OpenSpec.upto spansWithinSpec)

/-- 'atlaslaw02.SpansDiffs', WHERE WHAT IT READS IS OF BULK AT MOST 1048576: true; the input reads as it did. -/
def spansDiffsUptoRow : OpenClaim := { program := "ytliiblaodhcjhab", sum := "0cd60d09ebb8fe77b0eabf84c4153d3ab90c0e19d76695cc2a79c91cab6f6b47", func := "atlas/atlaslaw02.SpansDiffs", spec := "spansDiffs", inPlace := ["slices.overlaps[atlas/spans.Span[int]]"], unfollowed := true, recurses := true, apart := false, narrowed := true }
def SpansDiffsUptoSaid : Prop := spansDiffsUptoRow.holds Try.pinned (OpenSpec.upto spansDiffsSpec)

end Rows
end Go.Proofs.Ytliiblaodhcjhab
