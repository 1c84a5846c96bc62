/-
  No cell of these rows narrows 'for every input' (looked for: loops, veiled, ifaces, maps, wideKeys, modest, calm, conditions, laid).
  DERIVED. THE GIVEN ROWS OF THIS SEAT. 6 by the template 'for every input the law returns true; each argument reads behind the call as it read before'; 0 by the template 'total and deterministic' (their statements: YtdelcknpaldngaaTotals.lean).
  GIVEN WITH THE SEED: the statements are not yours to turn. If you find one false, say at which input.
  Laid BY PROGRAM, IN A SANDBOX (cutbox-rows.mjs): the forced cells as the released guide's own fill.sh prints them over the translation e54a1966cb8a8bca… (all of the seat's roots in one cut). By AI agents, Wed Nov 11 2026. No macro, syntax, notation, axiom, sorry.
-/
import Derived.Test.YtdelcknpaldngaaChecked
import GoSem.Claim
import GoSem.ClaimJoined
import GoSem.ClaimMapViews
import Derived.JoinedTies
import Derived.KernelRfl
namespace Go.Proofs.Ytdelcknpaldngaa
/- THE CELL 'sum', in the pinned program and in every row, IS THE sha256 OF THE DUMP (.gsa) THAT YtdelcknpaldngaaProg.lean LOADS. Nothing in Lean hashes anything: it is a label: what it is worth is what the hold of that sum in a sandbox is worth. -/
noncomputable def Try.pinned : Pinned := { name := "ytdelcknpaldngaa", sum := "e54a1966cb8a8bcab4a7fb30cfbfbea6976159b908faad5a5e47b4a00d8e1118", checked := Try.checked }
namespace Rows
def none {H : Type} : Left H := { results := [], args := [] }

/-- 'atlaslaw18.AluWide': WHATEVER THE INPUT: true; the input reads as it did. -/
def aluWideSpec : ChangeSpec := { name := "aluWide", fn := fun _ => fun
  | [d1, d2, d3] => { results := [.lit (.bool true)], args := [d1, d2, d3] }
  | _ => none }
def aluWideRow : OpenClaim := { program := "ytdelcknpaldngaa", sum := "e54a1966cb8a8bcab4a7fb30cfbfbea6976159b908faad5a5e47b4a00d8e1118", func := "atlas/atlaslaw18.AluWide", spec := "aluWide", unfollowed := true, recurses := true, apart := false }
def AluWideSaid : Prop := aluWideRow.holds Try.pinned (OpenSpec.ofChange aluWideSpec)

/-- ITS FALSE NEIGHBOUR: 'it returns false'. Refute it at one input. -/
def aluWideWrong : ChangeSpec := { name := "aluWide", fn := fun _ => fun
  | [d1, d2, d3] => { results := [.lit (.bool false)], args := [d1, d2, d3] }
  | _ => none }
def AluWideWrongFalsely : Prop := aluWideRow.holds Try.pinned (OpenSpec.ofChange aluWideWrong)

/-- 'atlaslaw18.AluTurns': WHATEVER THE INPUT: true; the input reads as it did. -/
def aluTurnsSpec : ChangeSpec := { name := "aluTurns", fn := fun _ => fun
  | [d1, d2, d3] => { results := [.lit (.bool true)], args := [d1, d2, d3] }
  | _ => none }
def aluTurnsRow : OpenClaim := { program := "ytdelcknpaldngaa", sum := "e54a1966cb8a8bcab4a7fb30cfbfbea6976159b908faad5a5e47b4a00d8e1118", func := "atlas/atlaslaw18.AluTurns", spec := "aluTurns", unfollowed := true, recurses := true, apart := false }
def AluTurnsSaid : Prop := aluTurnsRow.holds Try.pinned (OpenSpec.ofChange aluTurnsSpec)

/-- ITS FALSE NEIGHBOUR: 'it returns false'. Refute it at one input. -/
def aluTurnsWrong : ChangeSpec := { name := "aluTurns", fn := fun _ => fun
  | [d1, d2, d3] => { results := [.lit (.bool false)], args := [d1, d2, d3] }
  | _ => none }
def AluTurnsWrongFalsely : Prop := aluTurnsRow.holds Try.pinned (OpenSpec.ofChange aluTurnsWrong)

/-- 'atlaslaw18.AluProducts': WHATEVER THE INPUT: true; the input reads as it did. -/
def aluProductsSpec : ChangeSpec := { name := "aluProducts", fn := fun _ => fun
  | [d1, d2, d3, d4] => { results := [.lit (.bool true)], args := [d1, d2, d3, d4] }
  | _ => none }
def aluProductsRow : OpenClaim := { program := "ytdelcknpaldngaa", sum := "e54a1966cb8a8bcab4a7fb30cfbfbea6976159b908faad5a5e47b4a00d8e1118", func := "atlas/atlaslaw18.AluProducts", spec := "aluProducts", unfollowed := true, recurses := true, apart := false }
def AluProductsSaid : Prop := aluProductsRow.holds Try.pinned (OpenSpec.ofChange aluProductsSpec)

/-- ITS FALSE NEIGHBOUR: 'it returns false'. Refute it at one input. -/
def aluProductsWrong : ChangeSpec := { name := "aluProducts", fn := fun _ => fun
  | [d1, d2, d3, d4] => { results := [.lit (.bool false)], args := [d1, d2, d3, d4] }
  | _ => none }
def AluProductsWrongFalsely : Prop := aluProductsRow.holds Try.pinned (OpenSpec.ofChange aluProductsWrong)

/-- 'atlaslaw18.AluBySums': WHATEVER THE INPUT: true; the input reads as it did. -/
def aluBySumsSpec : ChangeSpec := { name := "aluBySums", fn := fun _ => fun
  | [d1, d2, d3, d4] => { results := [.lit (.bool true)], args := [d1, d2, d3, d4] }
  | _ => none }
def aluBySumsRow : OpenClaim := { program := "ytdelcknpaldngaa", sum := "e54a1966cb8a8bcab4a7fb30cfbfbea6976159b908faad5a5e47b4a00d8e1118", func := "atlas/atlaslaw18.AluBySums", spec := "aluBySums", unfollowed := true, recurses := true, apart := false }
def AluBySumsSaid : Prop := aluBySumsRow.holds Try.pinned (OpenSpec.ofChange aluBySumsSpec)

/-- ITS FALSE NEIGHBOUR: 'it returns false'. Refute it at one input. -/
def aluBySumsWrong : ChangeSpec := { name := "aluBySums", fn := fun _ => fun
  | [d1, d2, d3, d4] => { results := [.lit (.bool false)], args := [d1, d2, d3, d4] }
  | _ => none }
def AluBySumsWrongFalsely : Prop := aluBySumsRow.holds Try.pinned (OpenSpec.ofChange aluBySumsWrong)

/-- 'atlaslaw18.AluCompares': WHATEVER THE INPUT: true; the input reads as it did. -/
def aluComparesSpec : ChangeSpec := { name := "aluCompares", fn := fun _ => fun
  | [d1, d2, d3, d4] => { results := [.lit (.bool true)], args := [d1, d2, d3, d4] }
  | _ => none }
def aluComparesRow : OpenClaim := { program := "ytdelcknpaldngaa", sum := "e54a1966cb8a8bcab4a7fb30cfbfbea6976159b908faad5a5e47b4a00d8e1118", func := "atlas/atlaslaw18.AluCompares", spec := "aluCompares", unfollowed := true, recurses := true, apart := false }
def AluComparesSaid : Prop := aluComparesRow.holds Try.pinned (OpenSpec.ofChange aluComparesSpec)

/-- ITS FALSE NEIGHBOUR: 'it returns false'. Refute it at one input. -/
def aluComparesWrong : ChangeSpec := { name := "aluCompares", fn := fun _ => fun
  | [d1, d2, d3, d4] => { results := [.lit (.bool false)], args := [d1, d2, d3, d4] }
  | _ => none }
def AluComparesWrongFalsely : Prop := aluComparesRow.holds Try.pinned (OpenSpec.ofChange aluComparesWrong)

/-- 'atlaslaw18.AluPacks': WHATEVER THE INPUT: true; the input reads as it did. -/
def aluPacksSpec : ChangeSpec := { name := "aluPacks", fn := fun _ => fun
  | [d1, d2, d3] => { results := [.lit (.bool true)], args := [d1, d2, d3] }
  | _ => none }
def aluPacksRow : OpenClaim := { program := "ytdelcknpaldngaa", sum := "e54a1966cb8a8bcab4a7fb30cfbfbea6976159b908faad5a5e47b4a00d8e1118", func := "atlas/atlaslaw18.AluPacks", spec := "aluPacks", unfollowed := true, recurses := true, apart := false }
def AluPacksSaid : Prop := aluPacksRow.holds Try.pinned (OpenSpec.ofChange aluPacksSpec)

/-- ITS FALSE NEIGHBOUR: 'it returns false'. Refute it at one input. -/
def aluPacksWrong : ChangeSpec := { name := "aluPacks", fn := fun _ => fun
  | [d1, d2, d3] => { results := [.lit (.bool false)], args := [d1, d2, d3] }
  | _ => none }
def AluPacksWrongFalsely : Prop := aluPacksRow.holds Try.pinned (OpenSpec.ofChange aluPacksWrong)

/- THE SECOND FORM. 'bulk': how many values and letters a reading holds, each counted each time it is reached (what is shared counts as often as it is met; a slice's spare places count too). A statement '..UptoSaid' is the law's where the arguments, and the package variables that the reading takes, are together of bulk at most 1048576: NARROWER than '..Said'. Prove '..Said' where nothing that the law and all that it calls make is longer than what came in: it says more and counts as full. Else prove '..UptoSaid'. A law counts once. -/
mutual
def uptoBulk {H : Type} : DataW H → Nat
  | .lit (.string bytes) => bytes.length + 1
  | .lit _ => 1
  | .nil => 1
  | .ptr d => uptoBulk d + 1
  | .slice elems spare => uptoBulkAll elems + uptoBulkAll spare + 1
  | .agg parts => uptoBulkAll parts + 1
  | .iface _ d => uptoBulk d + 1
  | .map entries => uptoBulkEntries entries + 1
  | .held _ => 1
def uptoBulkAll {H : Type} : List (DataW H) → Nat
  | [] => 0
  | d :: r => uptoBulk d + uptoBulkAll r
def uptoBulkEntries {H : Type} : List (Lit × DataW H) → Nat
  | [] => 0
  | x :: r => uptoBulkEntry x + uptoBulkEntries r
def uptoBulkEntry {H : Type} : Lit × DataW H → Nat
  | (.string bytes, d) => bytes.length + uptoBulk d + 1
  | (_, d) => uptoBulk d + 1
 end
def uptoSmall : (H : Type) → List (DataW H) → Bool := fun _ ds => decide (uptoBulkAll ds ≤ 1048576)
def OpenSpec.upto (s : _root_.Go.ChangeSpec) : _root_.Go.OpenSpec := { _root_.Go.OpenSpec.ofChange s with cond := some uptoSmall }

/-- 'atlaslaw18.AluWide', WHERE WHAT IT READS IS OF BULK AT MOST 1048576: true; the input reads as it did. -/
def aluWideUptoRow : OpenClaim := { program := "ytdelcknpaldngaa", sum := "e54a1966cb8a8bcab4a7fb30cfbfbea6976159b908faad5a5e47b4a00d8e1118", func := "atlas/atlaslaw18.AluWide", spec := "aluWide", unfollowed := true, recurses := true, apart := false, narrowed := true }
def AluWideUptoSaid : Prop := aluWideUptoRow.holds Try.pinned (OpenSpec.upto aluWideSpec)

/-- 'atlaslaw18.AluTurns', WHERE WHAT IT READS IS OF BULK AT MOST 1048576: true; the input reads as it did. -/
def aluTurnsUptoRow : OpenClaim := { program := "ytdelcknpaldngaa", sum := "e54a1966cb8a8bcab4a7fb30cfbfbea6976159b908faad5a5e47b4a00d8e1118", func := "atlas/atlaslaw18.AluTurns", spec := "aluTurns", unfollowed := true, recurses := true, apart := false, narrowed := true }
def AluTurnsUptoSaid : Prop := aluTurnsUptoRow.holds Try.pinned (OpenSpec.upto aluTurnsSpec)

/-- 'atlaslaw18.AluProducts', WHERE WHAT IT READS IS OF BULK AT MOST 1048576: true; the input reads as it did. -/
def aluProductsUptoRow : OpenClaim := { program := "ytdelcknpaldngaa", sum := "e54a1966cb8a8bcab4a7fb30cfbfbea6976159b908faad5a5e47b4a00d8e1118", func := "atlas/atlaslaw18.AluProducts", spec := "aluProducts", unfollowed := true, recurses := true, apart := false, narrowed := true }
def AluProductsUptoSaid : Prop := aluProductsUptoRow.holds Try.pinned (OpenSpec.upto aluProductsSpec)

/-- 'atlaslaw18.AluBySums', WHERE WHAT IT READS IS OF BULK AT MOST 1048576: true; the input reads as it did. -/
def aluBySumsUptoRow : OpenClaim := { program := "ytdelcknpaldngaa", sum := "e54a1966cb8a8bcab4a7fb30cfbfbea6976159b908faad5a5e47b4a00d8e1118", func := "atlas/atlaslaw18.AluBySums", spec := "aluBySums", unfollowed := true, recurses := true, apart := false, narrowed := true }
def AluBySumsUptoSaid : Prop := aluBySumsUptoRow.holds Try.pinned (OpenSpec.upto aluBySumsSpec)

/-- 'atlaslaw18.AluCompares', WHERE WHAT IT READS IS OF BULK AT MOST 1048576: true; the input reads as it did. -/
def aluComparesUptoRow : OpenClaim := { program := "ytdelcknpaldngaa", sum := "e54a1966cb8a8bcab4a7fb30cfbfbea6976159b908faad5a5e47b4a00d8e1118", func := "atlas/atlaslaw18.AluCompares", spec := "aluCompares", unfollowed := true, recurses := true, apart := false, narrowed := true }
def AluComparesUptoSaid : Prop := aluComparesUptoRow.holds Try.pinned (OpenSpec.upto aluComparesSpec)

/-- 'atlaslaw18.AluPacks', WHERE WHAT IT READS IS OF BULK AT MOST 1048576: true; the input reads as it did. -/
def aluPacksUptoRow : OpenClaim := { program := "ytdelcknpaldngaa", sum := "e54a1966cb8a8bcab4a7fb30cfbfbea6976159b908faad5a5e47b4a00d8e1118", func := "atlas/atlaslaw18.AluPacks", spec := "aluPacks", unfollowed := true, recurses := true, apart := false, narrowed := true }
def AluPacksUptoSaid : Prop := aluPacksUptoRow.holds Try.pinned (OpenSpec.upto aluPacksSpec)

end Rows
end Go.Proofs.Ytdelcknpaldngaa
