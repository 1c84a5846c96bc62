/-
  No cell of these rows narrows 'for every input' (looked for: loops, veiled, ifaces, maps, wideKeys, modest, calm, conditions, laid).
  DERIVED. THE GIVEN ROWS OF THIS SEAT. 6 by the template 'for every input the law returns true; each argument reads behind the call as it read before'; 0 by the template 'total and deterministic' (their statements: YtdelcknpaldngabTotals.lean).
  GIVEN WITH THE SEED: the statements are not yours to turn. If you find one false, say at which input.
  Laid BY PROGRAM, IN A SANDBOX (cutbox-rows.mjs): the forced cells as the released guide's own fill.sh prints them over the translation 6d8d1fe577e79838… (all of the seat's roots in one cut). By AI agents, Wed Nov 11 2026. No macro, syntax, notation, axiom, sorry.
-/
import Derived.Test.YtdelcknpaldngabChecked
import GoSem.Claim
import GoSem.ClaimJoined
import GoSem.ClaimMapViews
import Derived.JoinedTies
import Derived.KernelRfl
namespace Go.Proofs.Ytdelcknpaldngab
/- THE CELL 'sum', in the pinned program and in every row, IS THE sha256 OF THE DUMP (.gsa) THAT YtdelcknpaldngabProg.lean LOADS. Nothing in Lean hashes anything: it is a label: what it is worth is what the hold of that sum in a sandbox is worth. -/
noncomputable def Try.pinned : Pinned := { name := "ytdelcknpaldngab", sum := "6d8d1fe577e7983804c553c5359588a8e19c8bfba6df7cb051f6c0583bbbe5da", checked := Try.checked }
namespace Rows
def none {H : Type} : Left H := { results := [], args := [] }

/-- 'atlaslaw18.AluDecodes': WHATEVER THE INPUT: true; the input reads as it did. -/
def aluDecodesSpec : ChangeSpec := { name := "aluDecodes", fn := fun _ => fun
  | [d1, d2] => { results := [.lit (.bool true)], args := [d1, d2] }
  | _ => none }
def aluDecodesRow : OpenClaim := { program := "ytdelcknpaldngab", sum := "6d8d1fe577e7983804c553c5359588a8e19c8bfba6df7cb051f6c0583bbbe5da", func := "atlas/atlaslaw18.AluDecodes", spec := "aluDecodes", unfollowed := true, recurses := true, apart := false }
def AluDecodesSaid : Prop := aluDecodesRow.holds Try.pinned (OpenSpec.ofChange aluDecodesSpec)

/-- ITS FALSE NEIGHBOUR: 'it returns false'. Refute it at one input. -/
def aluDecodesWrong : ChangeSpec := { name := "aluDecodes", fn := fun _ => fun
  | [d1, d2] => { results := [.lit (.bool false)], args := [d1, d2] }
  | _ => none }
def AluDecodesWrongFalsely : Prop := aluDecodesRow.holds Try.pinned (OpenSpec.ofChange aluDecodesWrong)

/-- 'atlaslaw18.AluSums': WHATEVER THE INPUT: true; the input reads as it did. -/
def aluSumsSpec : ChangeSpec := { name := "aluSums", fn := fun _ => fun
  | [d1, d2, d3] => { results := [.lit (.bool true)], args := [d1, d2, d3] }
  | _ => none }
def aluSumsRow : OpenClaim := { program := "ytdelcknpaldngab", sum := "6d8d1fe577e7983804c553c5359588a8e19c8bfba6df7cb051f6c0583bbbe5da", func := "atlas/atlaslaw18.AluSums", spec := "aluSums", unfollowed := true, recurses := true, apart := false }
def AluSumsSaid : Prop := aluSumsRow.holds Try.pinned (OpenSpec.ofChange aluSumsSpec)

/-- ITS FALSE NEIGHBOUR: 'it returns false'. Refute it at one input. -/
def aluSumsWrong : ChangeSpec := { name := "aluSums", fn := fun _ => fun
  | [d1, d2, d3] => { results := [.lit (.bool false)], args := [d1, d2, d3] }
  | _ => none }
def AluSumsWrongFalsely : Prop := aluSumsRow.holds Try.pinned (OpenSpec.ofChange aluSumsWrong)

/-- 'atlaslaw18.AluPassed': WHATEVER THE INPUT: true; the input reads as it did. -/
def aluPassedSpec : ChangeSpec := { name := "aluPassed", fn := fun _ => fun
  | [d] => { results := [.lit (.bool true)], args := [d] }
  | _ => none }
def aluPassedRow : OpenClaim := { program := "ytdelcknpaldngab", sum := "6d8d1fe577e7983804c553c5359588a8e19c8bfba6df7cb051f6c0583bbbe5da", func := "atlas/atlaslaw18.AluPassed", spec := "aluPassed", unfollowed := true, recurses := true, apart := false }
def AluPassedSaid : Prop := aluPassedRow.holds Try.pinned (OpenSpec.ofChange aluPassedSpec)

/-- ITS FALSE NEIGHBOUR: 'it returns false'. Refute it at one input. -/
def aluPassedWrong : ChangeSpec := { name := "aluPassed", fn := fun _ => fun
  | [d] => { results := [.lit (.bool false)], args := [d] }
  | _ => none }
def AluPassedWrongFalsely : Prop := aluPassedRow.holds Try.pinned (OpenSpec.ofChange aluPassedWrong)

/-- 'atlaslaw18.AluShifts': WHATEVER THE INPUT: true; the input reads as it did. -/
def aluShiftsSpec : ChangeSpec := { name := "aluShifts", fn := fun _ => fun
  | [d1, d2, d3, d4] => { results := [.lit (.bool true)], args := [d1, d2, d3, d4] }
  | _ => none }
def aluShiftsRow : OpenClaim := { program := "ytdelcknpaldngab", sum := "6d8d1fe577e7983804c553c5359588a8e19c8bfba6df7cb051f6c0583bbbe5da", func := "atlas/atlaslaw18.AluShifts", spec := "aluShifts", unfollowed := true, recurses := true, apart := false }
def AluShiftsSaid : Prop := aluShiftsRow.holds Try.pinned (OpenSpec.ofChange aluShiftsSpec)

/-- ITS FALSE NEIGHBOUR: 'it returns false'. Refute it at one input. -/
def aluShiftsWrong : ChangeSpec := { name := "aluShifts", fn := fun _ => fun
  | [d1, d2, d3, d4] => { results := [.lit (.bool false)], args := [d1, d2, d3, d4] }
  | _ => none }
def AluShiftsWrongFalsely : Prop := aluShiftsRow.holds Try.pinned (OpenSpec.ofChange aluShiftsWrong)

/-- 'atlaslaw18.AluLongs': WHATEVER THE INPUT: true; the input reads as it did. -/
def aluLongsSpec : ChangeSpec := { name := "aluLongs", fn := fun _ => fun
  | [d1, d2, d3, d4, d5] => { results := [.lit (.bool true)], args := [d1, d2, d3, d4, d5] }
  | _ => none }
def aluLongsRow : OpenClaim := { program := "ytdelcknpaldngab", sum := "6d8d1fe577e7983804c553c5359588a8e19c8bfba6df7cb051f6c0583bbbe5da", func := "atlas/atlaslaw18.AluLongs", spec := "aluLongs", unfollowed := true, recurses := true, apart := false }
def AluLongsSaid : Prop := aluLongsRow.holds Try.pinned (OpenSpec.ofChange aluLongsSpec)

/-- ITS FALSE NEIGHBOUR: 'it returns false'. Refute it at one input. -/
def aluLongsWrong : ChangeSpec := { name := "aluLongs", fn := fun _ => fun
  | [d1, d2, d3, d4, d5] => { results := [.lit (.bool false)], args := [d1, d2, d3, d4, d5] }
  | _ => none }
def AluLongsWrongFalsely : Prop := aluLongsRow.holds Try.pinned (OpenSpec.ofChange aluLongsWrong)

/-- 'atlaslaw18.AluDoes': WHATEVER THE INPUT: true; the input reads as it did. -/
def aluDoesSpec : ChangeSpec := { name := "aluDoes", fn := fun _ => fun
  | [d1, d2, d3, d4, d5] => { results := [.lit (.bool true)], args := [d1, d2, d3, d4, d5] }
  | _ => none }
def aluDoesRow : OpenClaim := { program := "ytdelcknpaldngab", sum := "6d8d1fe577e7983804c553c5359588a8e19c8bfba6df7cb051f6c0583bbbe5da", func := "atlas/atlaslaw18.AluDoes", spec := "aluDoes", unfollowed := true, recurses := true, apart := false }
def AluDoesSaid : Prop := aluDoesRow.holds Try.pinned (OpenSpec.ofChange aluDoesSpec)

/-- ITS FALSE NEIGHBOUR: 'it returns false'. Refute it at one input. -/
def aluDoesWrong : ChangeSpec := { name := "aluDoes", fn := fun _ => fun
  | [d1, d2, d3, d4, d5] => { results := [.lit (.bool false)], args := [d1, d2, d3, d4, d5] }
  | _ => none }
def AluDoesWrongFalsely : Prop := aluDoesRow.holds Try.pinned (OpenSpec.ofChange aluDoesWrong)

/- THE SECOND FORM. 'bulk': how many values and letters a reading holds, each counted each time it is reached (what is shared counts as often as it is met; a slice's spare places count too). A statement '..UptoSaid' is the law's where the arguments, and the package variables that the reading takes, are together of bulk at most 1048576: NARROWER than '..Said'. Prove '..Said' where nothing that the law and all that it calls make is longer than what came in: it says more and counts as full. Else prove '..UptoSaid'. A law counts once. -/
mutual
def uptoBulk {H : Type} : DataW H → Nat
  | .lit (.string bytes) => bytes.length + 1
  | .lit _ => 1
  | .nil => 1
  | .ptr d => uptoBulk d + 1
  | .slice elems spare => uptoBulkAll elems + uptoBulkAll spare + 1
  | .agg parts => uptoBulkAll parts + 1
  | .iface _ d => uptoBulk d + 1
  | .map entries => uptoBulkEntries entries + 1
  | .held _ => 1
def uptoBulkAll {H : Type} : List (DataW H) → Nat
  | [] => 0
  | d :: r => uptoBulk d + uptoBulkAll r
def uptoBulkEntries {H : Type} : List (Lit × DataW H) → Nat
  | [] => 0
  | x :: r => uptoBulkEntry x + uptoBulkEntries r
def uptoBulkEntry {H : Type} : Lit × DataW H → Nat
  | (.string bytes, d) => bytes.length + uptoBulk d + 1
  | (_, d) => uptoBulk d + 1
 end
def uptoSmall : (H : Type) → List (DataW H) → Bool := fun _ ds => decide (uptoBulkAll ds ≤ 1048576)
def OpenSpec.upto (s : _root_.Go.ChangeSpec) : _root_.Go.OpenSpec := { _root_.Go.OpenSpec.ofChange s with cond := some uptoSmall }

/-- 'atlaslaw18.AluDecodes', WHERE WHAT IT READS IS OF BULK AT MOST 1048576: true; the input reads as it did. -/
def aluDecodesUptoRow : OpenClaim := { program := "ytdelcknpaldngab", sum := "6d8d1fe577e7983804c553c5359588a8e19c8bfba6df7cb051f6c0583bbbe5da", func := "atlas/atlaslaw18.AluDecodes", spec := "aluDecodes", unfollowed := true, recurses := true, apart := false, narrowed := true }
def AluDecodesUptoSaid : Prop := aluDecodesUptoRow.holds Try.pinned (OpenSpec.upto aluDecodesSpec)

/-- 'atlaslaw18.AluSums', WHERE WHAT IT READS IS OF BULK AT MOST 1048576: true; the input reads as it did. -/
def aluSumsUptoRow : OpenClaim := { program := "ytdelcknpaldngab", sum := "6d8d1fe577e7983804c553c5359588a8e19c8bfba6df7cb051f6c0583bbbe5da", func := "atlas/atlaslaw18.AluSums", spec := "aluSums", unfollowed := true, recurses := true, apart := false, narrowed := true }
def AluSumsUptoSaid : Prop := aluSumsUptoRow.holds Try.pinned (OpenSpec.upto aluSumsSpec)

/-- 'atlaslaw18.AluPassed', WHERE WHAT IT READS IS OF BULK AT MOST 1048576: true; the input reads as it did. -/
def aluPassedUptoRow : OpenClaim := { program := "ytdelcknpaldngab", sum := "6d8d1fe577e7983804c553c5359588a8e19c8bfba6df7cb051f6c0583bbbe5da", func := "atlas/atlaslaw18.AluPassed", spec := "aluPassed", unfollowed := true, recurses := true, apart := false, narrowed := true }
def AluPassedUptoSaid : Prop := aluPassedUptoRow.holds Try.pinned (OpenSpec.upto aluPassedSpec)

/-- 'atlaslaw18.AluShifts', WHERE WHAT IT READS IS OF BULK AT MOST 1048576: true; the input reads as it did. -/
def aluShiftsUptoRow : OpenClaim := { program := "ytdelcknpaldngab", sum := "6d8d1fe577e7983804c553c5359588a8e19c8bfba6df7cb051f6c0583bbbe5da", func := "atlas/atlaslaw18.AluShifts", spec := "aluShifts", unfollowed := true, recurses := true, apart := false, narrowed := true }
def AluShiftsUptoSaid : Prop := aluShiftsUptoRow.holds Try.pinned (OpenSpec.upto aluShiftsSpec)

/-- 'atlaslaw18.AluLongs', WHERE WHAT IT READS IS OF BULK AT MOST 1048576: true; the input reads as it did. -/
def aluLongsUptoRow : OpenClaim := { program := "ytdelcknpaldngab", sum := "6d8d1fe577e7983804c553c5359588a8e19c8bfba6df7cb051f6c0583bbbe5da", func := "atlas/atlaslaw18.AluLongs", spec := "aluLongs", unfollowed := true, recurses := true, apart := false, narrowed := true }
def AluLongsUptoSaid : Prop := aluLongsUptoRow.holds Try.pinned (OpenSpec.upto aluLongsSpec)

/-- 'atlaslaw18.AluDoes', WHERE WHAT IT READS IS OF BULK AT MOST 1048576: true; the input reads as it did. -/
def aluDoesUptoRow : OpenClaim := { program := "ytdelcknpaldngab", sum := "6d8d1fe577e7983804c553c5359588a8e19c8bfba6df7cb051f6c0583bbbe5da", func := "atlas/atlaslaw18.AluDoes", spec := "aluDoes", unfollowed := true, recurses := true, apart := false, narrowed := true }
def AluDoesUptoSaid : Prop := aluDoesUptoRow.holds Try.pinned (OpenSpec.upto aluDoesSpec)

end Rows
end Go.Proofs.Ytdelcknpaldngab
