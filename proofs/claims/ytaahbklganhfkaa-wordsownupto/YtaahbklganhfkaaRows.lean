/-
  No cell of these rows narrows 'for every input' (looked for: loops, veiled, ifaces, maps, wideKeys, modest, calm, conditions, laid).
  DERIVED. THE GIVEN ROWS OF THIS SEAT. 5 by the template 'for every input the law returns true; each argument reads behind the call as it read before'; 0 by the template 'total and deterministic' (their statements: YtaahbklganhfkaaTotals.lean).
  GIVEN WITH THE SEED: the statements are not yours to turn. If you find one false, say at which input.
  Laid BY PROGRAM, IN A SANDBOX (cutbox-rows.mjs): the forced cells as the released guide's own fill.sh prints them over the translation 1ff686a96725af33… (all of the seat's roots in one cut). By AI agents, Wed Nov 11 2026. No macro, syntax, notation, axiom, sorry.
-/
import Derived.Test.YtaahbklganhfkaaChecked
import GoSem.Claim
import GoSem.ClaimJoined
import GoSem.ClaimMapViews
import Derived.JoinedTies
import Derived.KernelRfl
namespace Go.Proofs.Ytaahbklganhfkaa
/- THE CELL 'sum', in the pinned program and in every row, IS THE sha256 OF THE DUMP (.gsa) THAT YtaahbklganhfkaaProg.lean LOADS. Nothing in Lean hashes anything: it is a label: what it is worth is what the hold of that sum in a sandbox is worth. -/
noncomputable def Try.pinned : Pinned := { name := "ytaahbklganhfkaa", sum := "1ff686a96725af333ad5ff938c1a1d5815040b744741958cb240a0dbb8f5d83c", checked := Try.checked }
namespace Rows
def none {H : Type} : Left H := { results := [], args := [] }

/-- 'atlaslaw01.WordsWidth': WHATEVER THE INPUT: true; the input reads as it did. -/
def wordsWidthSpec : ChangeSpec := { name := "wordsWidth", fn := fun _ => fun
  | [d] => { results := [.lit (.bool true)], args := [d] }
  | _ => none }
def wordsWidthRow : OpenClaim := { program := "ytaahbklganhfkaa", sum := "1ff686a96725af333ad5ff938c1a1d5815040b744741958cb240a0dbb8f5d83c", func := "atlas/atlaslaw01.WordsWidth", spec := "wordsWidth", apart := false }
def WordsWidthSaid : Prop := wordsWidthRow.holds Try.pinned (OpenSpec.ofChange wordsWidthSpec)

/-- ITS FALSE NEIGHBOUR: 'it returns false'. Refute it at one input. -/
def wordsWidthWrong : ChangeSpec := { name := "wordsWidth", fn := fun _ => fun
  | [d] => { results := [.lit (.bool false)], args := [d] }
  | _ => none }
def WordsWidthWrongFalsely : Prop := wordsWidthRow.holds Try.pinned (OpenSpec.ofChange wordsWidthWrong)

/-- 'atlaslaw01.WordsNumber': WHATEVER THE INPUT: true; the input reads as it did. -/
def wordsNumberSpec : ChangeSpec := { name := "wordsNumber", fn := fun _ => fun
  | [d] => { results := [.lit (.bool true)], args := [d] }
  | _ => none }
def wordsNumberRow : OpenClaim := { program := "ytaahbklganhfkaa", sum := "1ff686a96725af333ad5ff938c1a1d5815040b744741958cb240a0dbb8f5d83c", func := "atlas/atlaslaw01.WordsNumber", spec := "wordsNumber", apart := false }
def WordsNumberSaid : Prop := wordsNumberRow.holds Try.pinned (OpenSpec.ofChange wordsNumberSpec)

/-- ITS FALSE NEIGHBOUR: 'it returns false'. Refute it at one input. -/
def wordsNumberWrong : ChangeSpec := { name := "wordsNumber", fn := fun _ => fun
  | [d] => { results := [.lit (.bool false)], args := [d] }
  | _ => none }
def WordsNumberWrongFalsely : Prop := wordsNumberRow.holds Try.pinned (OpenSpec.ofChange wordsNumberWrong)

/-- 'atlaslaw01.WordsName': WHATEVER THE INPUT: true; the input reads as it did. -/
def wordsNameSpec : ChangeSpec := { name := "wordsName", fn := fun _ => fun
  | [d] => { results := [.lit (.bool true)], args := [d] }
  | _ => none }
def wordsNameRow : OpenClaim := { program := "ytaahbklganhfkaa", sum := "1ff686a96725af333ad5ff938c1a1d5815040b744741958cb240a0dbb8f5d83c", func := "atlas/atlaslaw01.WordsName", spec := "wordsName", apart := false }
def WordsNameSaid : Prop := wordsNameRow.holds Try.pinned (OpenSpec.ofChange wordsNameSpec)

/-- ITS FALSE NEIGHBOUR: 'it returns false'. Refute it at one input. -/
def wordsNameWrong : ChangeSpec := { name := "wordsName", fn := fun _ => fun
  | [d] => { results := [.lit (.bool false)], args := [d] }
  | _ => none }
def WordsNameWrongFalsely : Prop := wordsNameRow.holds Try.pinned (OpenSpec.ofChange wordsNameWrong)

/-- 'atlaslaw01.WordsFields': WHATEVER THE INPUT: true; the input reads as it did. -/
def wordsFieldsSpec : ChangeSpec := { name := "wordsFields", fn := fun _ => fun
  | [d] => { results := [.lit (.bool true)], args := [d] }
  | _ => none }
def wordsFieldsRow : OpenClaim := { program := "ytaahbklganhfkaa", sum := "1ff686a96725af333ad5ff938c1a1d5815040b744741958cb240a0dbb8f5d83c", func := "atlas/atlaslaw01.WordsFields", spec := "wordsFields", inPlace := ["internal/bytealg.IndexByteString", "internal/bytealg.IndexString"], named := ["internal/bytealg.MaxLen"], apart := false }
def WordsFieldsSaid : Prop := wordsFieldsRow.holds Try.pinned (OpenSpec.ofChange wordsFieldsSpec)

/-- ITS FALSE NEIGHBOUR: 'it returns false'. Refute it at one input. -/
def wordsFieldsWrong : ChangeSpec := { name := "wordsFields", fn := fun _ => fun
  | [d] => { results := [.lit (.bool false)], args := [d] }
  | _ => none }
def WordsFieldsWrongFalsely : Prop := wordsFieldsRow.holds Try.pinned (OpenSpec.ofChange wordsFieldsWrong)

/-- 'atlaslaw01.WordsOwn': WHATEVER THE INPUT: true; the input reads as it did. -/
def wordsOwnSpec : ChangeSpec := { name := "wordsOwn", fn := fun _ => fun
  | [d1, d2] => { results := [.lit (.bool true)], args := [d1, d2] }
  | _ => none }
def wordsOwnRow : OpenClaim := { program := "ytaahbklganhfkaa", sum := "1ff686a96725af333ad5ff938c1a1d5815040b744741958cb240a0dbb8f5d83c", func := "atlas/atlaslaw01.WordsOwn", spec := "wordsOwn", inPlace := ["internal/bytealg.IndexByteString", "internal/bytealg.IndexString"], named := ["internal/bytealg.MaxLen"], apart := false }
def WordsOwnSaid : Prop := wordsOwnRow.holds Try.pinned (OpenSpec.ofChange wordsOwnSpec)

/-- ITS FALSE NEIGHBOUR: 'it returns false'. Refute it at one input. -/
def wordsOwnWrong : ChangeSpec := { name := "wordsOwn", fn := fun _ => fun
  | [d1, d2] => { results := [.lit (.bool false)], args := [d1, d2] }
  | _ => none }
def WordsOwnWrongFalsely : Prop := wordsOwnRow.holds Try.pinned (OpenSpec.ofChange wordsOwnWrong)

/- THE SECOND FORM. 'bulk': how many values and letters a reading holds, each counted each time it is reached (what is shared counts as often as it is met; a slice's spare places count too). A statement '..UptoSaid' is the law's where the arguments, and the package variables that the reading takes, are together of bulk at most 1048576: NARROWER than '..Said'. Prove '..Said' where nothing that the law and all that it calls make is longer than what came in: it says more and counts as full. Else prove '..UptoSaid'. A law counts once. -/
mutual
def uptoBulk {H : Type} : DataW H → Nat
  | .lit (.string bytes) => bytes.length + 1
  | .lit _ => 1
  | .nil => 1
  | .ptr d => uptoBulk d + 1
  | .slice elems spare => uptoBulkAll elems + uptoBulkAll spare + 1
  | .agg parts => uptoBulkAll parts + 1
  | .iface _ d => uptoBulk d + 1
  | .map entries => uptoBulkEntries entries + 1
  | .held _ => 1
def uptoBulkAll {H : Type} : List (DataW H) → Nat
  | [] => 0
  | d :: r => uptoBulk d + uptoBulkAll r
def uptoBulkEntries {H : Type} : List (Lit × DataW H) → Nat
  | [] => 0
  | x :: r => uptoBulkEntry x + uptoBulkEntries r
def uptoBulkEntry {H : Type} : Lit × DataW H → Nat
  | (.string bytes, d) => bytes.length + uptoBulk d + 1
  | (_, d) => uptoBulk d + 1
 end
def uptoSmall : (H : Type) → List (DataW H) → Bool := fun _ ds => decide (uptoBulkAll ds ≤ 1048576)
def OpenSpec.upto (s : _root_.Go.ChangeSpec) : _root_.Go.OpenSpec := { _root_.Go.OpenSpec.ofChange s with cond := some uptoSmall }

/-- 'atlaslaw01.WordsWidth', WHERE WHAT IT READS IS OF BULK AT MOST 1048576: true; the input reads as it did. -/
def wordsWidthUptoRow : OpenClaim := { program := "ytaahbklganhfkaa", sum := "1ff686a96725af333ad5ff938c1a1d5815040b744741958cb240a0dbb8f5d83c", func := "atlas/atlaslaw01.WordsWidth", spec := "wordsWidth", apart := false, narrowed := true }
def WordsWidthUptoSaid : Prop := wordsWidthUptoRow.holds Try.pinned (OpenSpec.upto wordsWidthSpec)

/-- 'atlaslaw01.WordsNumber', WHERE WHAT IT READS IS OF BULK AT MOST 1048576: true; the input reads as it did. -/
def wordsNumberUptoRow : OpenClaim := { program := "ytaahbklganhfkaa", sum := "1ff686a96725af333ad5ff938c1a1d5815040b744741958cb240a0dbb8f5d83c", func := "atlas/atlaslaw01.WordsNumber", spec := "wordsNumber", apart := false, narrowed := true }
def WordsNumberUptoSaid : Prop := wordsNumberUptoRow.holds Try.pinned (OpenSpec.upto wordsNumberSpec)

/-- 'atlaslaw01.WordsName', WHERE WHAT IT READS IS OF BULK AT MOST 1048576: true; the input reads as it did. -/
def wordsNameUptoRow : OpenClaim := { program := "ytaahbklganhfkaa", sum := "1ff686a96725af333ad5ff938c1a1d5815040b744741958cb240a0dbb8f5d83c", func := "atlas/atlaslaw01.WordsName", spec := "wordsName", apart := false, narrowed := true }
def WordsNameUptoSaid : Prop := wordsNameUptoRow.holds Try.pinned (OpenSpec.upto wordsNameSpec)

/-- 'atlaslaw01.WordsFields', WHERE WHAT IT READS IS OF BULK AT MOST 1048576: true; the input reads as it did. -/
def wordsFieldsUptoRow : OpenClaim := { program := "ytaahbklganhfkaa", sum := "1ff686a96725af333ad5ff938c1a1d5815040b744741958cb240a0dbb8f5d83c", func := "atlas/atlaslaw01.WordsFields", spec := "wordsFields", inPlace := ["internal/bytealg.IndexByteString", "internal/bytealg.IndexString"], named := ["internal/bytealg.MaxLen"], apart := false, narrowed := true }
def WordsFieldsUptoSaid : Prop := wordsFieldsUptoRow.holds Try.pinned (OpenSpec.upto wordsFieldsSpec)

/-- 'atlaslaw01.WordsOwn', WHERE WHAT IT READS IS OF BULK AT MOST 1048576: true; the input reads as it did. -/
def wordsOwnUptoRow : OpenClaim := { program := "ytaahbklganhfkaa", sum := "1ff686a96725af333ad5ff938c1a1d5815040b744741958cb240a0dbb8f5d83c", func := "atlas/atlaslaw01.WordsOwn", spec := "wordsOwn", inPlace := ["internal/bytealg.IndexByteString", "internal/bytealg.IndexString"], named := ["internal/bytealg.MaxLen"], apart := false, narrowed := true }
def WordsOwnUptoSaid : Prop := wordsOwnUptoRow.holds Try.pinned (OpenSpec.upto wordsOwnSpec)

end Rows
end Go.Proofs.Ytaahbklganhfkaa
