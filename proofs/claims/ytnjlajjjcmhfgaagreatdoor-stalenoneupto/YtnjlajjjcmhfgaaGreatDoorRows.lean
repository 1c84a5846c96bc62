/-
  NARROWER THAN 'FOR EVERY INPUT', by the rows' own cells (each row's printed sentence says how): StaleSeen: laid · StaleDrops: laid · StaleServes: laid · StaleNone: laid · StaleFresh: laid · StalePages: laid.
  DERIVED. THE GIVEN ROWS OF THIS SEAT. 6 by the template 'for every input the law returns true; each argument reads behind the call as it read before'; 0 by the template 'total and deterministic' (their statements: YtnjlajjjcmhfgaaGreatDoorTotals.lean).
  GIVEN WITH THE SEED: the statements are not yours to turn. If you find one false, say at which input.
  Laid BY PROGRAM, IN A SANDBOX (cutbox-rows.mjs): the forced cells as the released guide's own fill.sh prints them over the translation d5c42eec54f69ca0… (all of the seat's roots in one cut). By AI agents, Wed Nov 11 2026. No macro, syntax, notation, axiom, sorry.
-/
import Derived.Test.YtnjlajjjcmhfgaaGreatDoorChecked
import GoSem.Claim
import GoSem.ClaimJoined
import GoSem.ClaimMapViews
import Derived.JoinedTies
import Derived.KernelRfl
namespace Go.Proofs.YtnjlajjjcmhfgaaGreatDoor
/- THE CELL 'sum', in the pinned program and in every row, IS THE sha256 OF THE DUMP (.gsa) THAT YtnjlajjjcmhfgaaGreatDoorProg.lean LOADS. Nothing in Lean hashes anything: it is a label: what it is worth is what the hold of that sum in a sandbox is worth. -/
noncomputable def Tryz.pinned : Pinned := { name := "ytnjlajjjcmhfgaagreatdoor", sum := "d5c42eec54f69ca0992eabf9074e7b0ac9da202b4bf2d3e08e2c5b875db9beab", checked := Tryz.checked }
namespace Rows
def none {H : Type} : Left H := { results := [], args := [] }

/- WHAT THE LISTED PACKAGE-LEVEL VARIABLES READ AS WHEN THE CALL BEGINS. Each datum BY PROGRAM (the guide's laid-datum.mjs) off the statement by which the dump's own 'gosem.cut.vars' lays the variable. In a bare row this is a premise. The card (YtnjlajjjcmhfgaaGreatDoorCards.lean) ties it to the program's text. -/
def laid_atlas_desc_firstKinds {H : Type} : DataW H := .agg [.lit (.int .u8 0), .lit (.int .u8 1), .lit (.int .u8 2), .lit (.int .u8 0)]
def laid_atlas_desc_secondKinds {H : Type} : DataW H := .agg [.lit (.int .u8 0), .lit (.int .u8 4), .lit (.int .u8 5), .lit (.int .u8 5)]
def laid_atlas_desc_tags {H : Type} : DataW H := .agg [.lit (.int .u32 0), .lit (.int .u32 1), .lit (.int .u32 2), .lit (.int .u32 262146), .lit (.int .u32 1), .lit (.int .u32 2)]
def laid_atlas_desc_baseAt {H : Type} : DataW H := .agg [.lit (.int .u8 0), .lit (.int .u8 10), .lit (.int .u8 20), .lit (.int .u8 24), .lit (.int .u8 16), .lit (.int .u8 12)]
def laid_atlas_desc_leafAt {H : Type} : DataW H := .agg [.agg [.lit (.int .u8 0), .lit (.int .u8 0), .lit (.int .u8 0), .lit (.int .u8 0), .lit (.int .u8 0), .lit (.int .u8 0)], .agg [.lit (.int .u8 0), .lit (.int .u8 0), .lit (.int .u8 0), .lit (.int .u8 0), .lit (.int .u8 0), .lit (.int .u8 0)], .agg [.lit (.int .u8 10), .lit (.int .u8 15), .lit (.int .u8 12), .lit (.int .u8 16), .lit (.int .u8 17), .lit (.int .u8 4)], .agg [.lit (.int .u8 10), .lit (.int .u8 15), .lit (.int .u8 12), .lit (.int .u8 16), .lit (.int .u8 17), .lit (.int .u8 4)], .agg [.lit (.int .u8 4), .lit (.int .u8 9), .lit (.int .u8 12), .lit (.int .u8 10), .lit (.int .u8 11), .lit (.int .u8 15)], .agg [.lit (.int .u8 4), .lit (.int .u8 9), .lit (.int .u8 6), .lit (.int .u8 10), .lit (.int .u8 11), .lit (.int .u8 0)]]
def laid_atlas_desc_kindOfSize {H : Type} : DataW H := .agg [.lit (.int .u8 0), .lit (.int .u8 5), .lit (.int .u8 4), .lit (.int .u8 2), .lit (.int .u8 3)]
def laid_atlas_desc_sizeOfKind {H : Type} : DataW H := .agg [.lit (.int .u8 0), .lit (.int .u8 0), .lit (.int .u8 3), .lit (.int .u8 4), .lit (.int .u8 2), .lit (.int .u8 1)]
def laid_atlas_desc_repeats {H : Type} : DataW H := .agg [.lit (.int .u8 0), .lit (.int .u8 1), .lit (.int .u8 16), .lit (.int .u8 1), .lit (.int .u8 16)]
def laid_atlas_stale_said {H : Type} : DataW H := .agg [.agg [.lit (.int .u64 0), .lit (.int .u64 0)], .agg [.lit (.int .u64 1), .lit (.int .u64 1)], .agg [.lit (.int .u64 16), .lit (.int .u64 1)], .agg [.lit (.int .u64 1), .lit (.int .u64 256)], .agg [.lit (.int .u64 16), .lit (.int .u64 256)]]

/-- 'atlaslaw12.StaleSeen': WHATEVER THE INPUT: true; the input reads as it did. -/
def staleSeenSpec : ChangeSpec := { name := "staleSeen", fn := fun _ => fun
  | [d1, d2] => { results := [.lit (.bool true)], args := [d1, d2] }
  | _ => none }
def staleSeenRow : OpenClaim := { program := "ytnjlajjjcmhfgaagreatdoor", sum := "d5c42eec54f69ca0992eabf9074e7b0ac9da202b4bf2d3e08e2c5b875db9beab", func := "atlas/atlaslaw12.StaleSeen", spec := "staleSeen", unfollowed := true, recurses := true, named := ["atlas/desc.firstKinds", "atlas/desc.baseAt", "atlas/desc.leafAt", "atlas/desc.sizeOfKind", "atlas/desc.tags", "atlas/desc.secondKinds", "atlas/desc.kindOfSize", "atlas/desc.repeats"], plainKeys := false, apart := false, laid := [("atlas/desc.firstKinds", laid_atlas_desc_firstKinds), ("atlas/desc.secondKinds", laid_atlas_desc_secondKinds), ("atlas/desc.tags", laid_atlas_desc_tags), ("atlas/desc.baseAt", laid_atlas_desc_baseAt), ("atlas/desc.leafAt", laid_atlas_desc_leafAt), ("atlas/desc.kindOfSize", laid_atlas_desc_kindOfSize), ("atlas/desc.sizeOfKind", laid_atlas_desc_sizeOfKind), ("atlas/desc.repeats", laid_atlas_desc_repeats)] }
def StaleSeenSaid : Prop := staleSeenRow.holds Tryz.pinned (OpenSpec.ofChange staleSeenSpec)

/-- ITS FALSE NEIGHBOUR: 'it returns false'. Refute it at one input. -/
def staleSeenWrong : ChangeSpec := { name := "staleSeen", fn := fun _ => fun
  | [d1, d2] => { results := [.lit (.bool false)], args := [d1, d2] }
  | _ => none }
def StaleSeenWrongFalsely : Prop := staleSeenRow.holds Tryz.pinned (OpenSpec.ofChange staleSeenWrong)

/-- 'atlaslaw12.StaleDrops': WHATEVER THE INPUT: true; the input reads as it did. -/
def staleDropsSpec : ChangeSpec := { name := "staleDrops", fn := fun _ => fun
  | [d1, d2, d3, d4, d5] => { results := [.lit (.bool true)], args := [d1, d2, d3, d4, d5] }
  | _ => none }
def staleDropsRow : OpenClaim := { program := "ytnjlajjjcmhfgaagreatdoor", sum := "d5c42eec54f69ca0992eabf9074e7b0ac9da202b4bf2d3e08e2c5b875db9beab", func := "atlas/atlaslaw12.StaleDrops", spec := "staleDrops", unfollowed := true, recurses := true, named := ["atlas/desc.firstKinds", "atlas/desc.baseAt", "atlas/desc.leafAt", "atlas/desc.sizeOfKind", "atlas/desc.tags", "atlas/desc.secondKinds", "atlas/desc.kindOfSize", "atlas/desc.repeats"], plainKeys := false, apart := false, laid := [("atlas/desc.firstKinds", laid_atlas_desc_firstKinds), ("atlas/desc.secondKinds", laid_atlas_desc_secondKinds), ("atlas/desc.tags", laid_atlas_desc_tags), ("atlas/desc.baseAt", laid_atlas_desc_baseAt), ("atlas/desc.leafAt", laid_atlas_desc_leafAt), ("atlas/desc.kindOfSize", laid_atlas_desc_kindOfSize), ("atlas/desc.sizeOfKind", laid_atlas_desc_sizeOfKind), ("atlas/desc.repeats", laid_atlas_desc_repeats)] }
def StaleDropsSaid : Prop := staleDropsRow.holds Tryz.pinned (OpenSpec.ofChange staleDropsSpec)

/-- ITS FALSE NEIGHBOUR: 'it returns false'. Refute it at one input. -/
def staleDropsWrong : ChangeSpec := { name := "staleDrops", fn := fun _ => fun
  | [d1, d2, d3, d4, d5] => { results := [.lit (.bool false)], args := [d1, d2, d3, d4, d5] }
  | _ => none }
def StaleDropsWrongFalsely : Prop := staleDropsRow.holds Tryz.pinned (OpenSpec.ofChange staleDropsWrong)

/-- 'atlaslaw12.StaleServes': WHATEVER THE INPUT: true; the input reads as it did. -/
def staleServesSpec : ChangeSpec := { name := "staleServes", fn := fun _ => fun
  | [d1, d2, d3, d4, d5, d6] => { results := [.lit (.bool true)], args := [d1, d2, d3, d4, d5, d6] }
  | _ => none }
def staleServesRow : OpenClaim := { program := "ytnjlajjjcmhfgaagreatdoor", sum := "d5c42eec54f69ca0992eabf9074e7b0ac9da202b4bf2d3e08e2c5b875db9beab", func := "atlas/atlaslaw12.StaleServes", spec := "staleServes", unfollowed := true, recurses := true, named := ["atlas/desc.firstKinds", "atlas/desc.baseAt", "atlas/desc.leafAt", "atlas/desc.sizeOfKind", "atlas/desc.tags", "atlas/desc.secondKinds", "atlas/desc.kindOfSize", "atlas/desc.repeats"], plainKeys := false, apart := false, laid := [("atlas/desc.firstKinds", laid_atlas_desc_firstKinds), ("atlas/desc.secondKinds", laid_atlas_desc_secondKinds), ("atlas/desc.tags", laid_atlas_desc_tags), ("atlas/desc.baseAt", laid_atlas_desc_baseAt), ("atlas/desc.leafAt", laid_atlas_desc_leafAt), ("atlas/desc.kindOfSize", laid_atlas_desc_kindOfSize), ("atlas/desc.sizeOfKind", laid_atlas_desc_sizeOfKind), ("atlas/desc.repeats", laid_atlas_desc_repeats)] }
def StaleServesSaid : Prop := staleServesRow.holds Tryz.pinned (OpenSpec.ofChange staleServesSpec)

/-- ITS FALSE NEIGHBOUR: 'it returns false'. Refute it at one input. -/
def staleServesWrong : ChangeSpec := { name := "staleServes", fn := fun _ => fun
  | [d1, d2, d3, d4, d5, d6] => { results := [.lit (.bool false)], args := [d1, d2, d3, d4, d5, d6] }
  | _ => none }
def StaleServesWrongFalsely : Prop := staleServesRow.holds Tryz.pinned (OpenSpec.ofChange staleServesWrong)

/-- 'atlaslaw12.StaleNone': WHATEVER THE INPUT: true; the input reads as it did. -/
def staleNoneSpec : ChangeSpec := { name := "staleNone", fn := fun _ => fun
  | [d1, d2] => { results := [.lit (.bool true)], args := [d1, d2] }
  | _ => none }
def staleNoneRow : OpenClaim := { program := "ytnjlajjjcmhfgaagreatdoor", sum := "d5c42eec54f69ca0992eabf9074e7b0ac9da202b4bf2d3e08e2c5b875db9beab", func := "atlas/atlaslaw12.StaleNone", spec := "staleNone", inPlace := ["slices.overlaps[atlas/spans.Span[bool]]"], unfollowed := true, recurses := true, named := ["atlas/desc.firstKinds", "atlas/desc.baseAt", "atlas/desc.leafAt", "atlas/desc.sizeOfKind", "atlas/desc.tags", "atlas/desc.secondKinds", "atlas/desc.kindOfSize", "atlas/desc.repeats", "atlas/stale.said"], plainKeys := false, apart := false, laid := [("atlas/desc.firstKinds", laid_atlas_desc_firstKinds), ("atlas/desc.secondKinds", laid_atlas_desc_secondKinds), ("atlas/desc.tags", laid_atlas_desc_tags), ("atlas/desc.baseAt", laid_atlas_desc_baseAt), ("atlas/desc.leafAt", laid_atlas_desc_leafAt), ("atlas/desc.kindOfSize", laid_atlas_desc_kindOfSize), ("atlas/desc.sizeOfKind", laid_atlas_desc_sizeOfKind), ("atlas/desc.repeats", laid_atlas_desc_repeats), ("atlas/stale.said", laid_atlas_stale_said)] }
def StaleNoneSaid : Prop := staleNoneRow.holds Tryz.pinned (OpenSpec.ofChange staleNoneSpec)

/-- ITS FALSE NEIGHBOUR: 'it returns false'. Refute it at one input. -/
def staleNoneWrong : ChangeSpec := { name := "staleNone", fn := fun _ => fun
  | [d1, d2] => { results := [.lit (.bool false)], args := [d1, d2] }
  | _ => none }
def StaleNoneWrongFalsely : Prop := staleNoneRow.holds Tryz.pinned (OpenSpec.ofChange staleNoneWrong)

/-- 'atlaslaw12.StaleFresh': WHATEVER THE INPUT: true; the input reads as it did. -/
def staleFreshSpec : ChangeSpec := { name := "staleFresh", fn := fun _ => fun
  | [d1, d2, d3] => { results := [.lit (.bool true)], args := [d1, d2, d3] }
  | _ => none }
def staleFreshRow : OpenClaim := { program := "ytnjlajjjcmhfgaagreatdoor", sum := "d5c42eec54f69ca0992eabf9074e7b0ac9da202b4bf2d3e08e2c5b875db9beab", func := "atlas/atlaslaw12.StaleFresh", spec := "staleFresh", inPlace := ["slices.overlaps[atlas/spans.Span[bool]]"], unfollowed := true, recurses := true, named := ["atlas/desc.firstKinds", "atlas/desc.baseAt", "atlas/desc.leafAt", "atlas/desc.sizeOfKind", "atlas/desc.tags", "atlas/desc.secondKinds", "atlas/desc.kindOfSize", "atlas/desc.repeats", "atlas/stale.said"], plainKeys := false, apart := false, laid := [("atlas/desc.firstKinds", laid_atlas_desc_firstKinds), ("atlas/desc.secondKinds", laid_atlas_desc_secondKinds), ("atlas/desc.tags", laid_atlas_desc_tags), ("atlas/desc.baseAt", laid_atlas_desc_baseAt), ("atlas/desc.leafAt", laid_atlas_desc_leafAt), ("atlas/desc.kindOfSize", laid_atlas_desc_kindOfSize), ("atlas/desc.sizeOfKind", laid_atlas_desc_sizeOfKind), ("atlas/desc.repeats", laid_atlas_desc_repeats), ("atlas/stale.said", laid_atlas_stale_said)] }
def StaleFreshSaid : Prop := staleFreshRow.holds Tryz.pinned (OpenSpec.ofChange staleFreshSpec)

/-- ITS FALSE NEIGHBOUR: 'it returns false'. Refute it at one input. -/
def staleFreshWrong : ChangeSpec := { name := "staleFresh", fn := fun _ => fun
  | [d1, d2, d3] => { results := [.lit (.bool false)], args := [d1, d2, d3] }
  | _ => none }
def StaleFreshWrongFalsely : Prop := staleFreshRow.holds Tryz.pinned (OpenSpec.ofChange staleFreshWrong)

/-- 'atlaslaw12.StalePages': WHATEVER THE INPUT: true; the input reads as it did. -/
def stalePagesSpec : ChangeSpec := { name := "stalePages", fn := fun _ => fun
  | [d1, d2, d3, d4] => { results := [.lit (.bool true)], args := [d1, d2, d3, d4] }
  | _ => none }
def stalePagesRow : OpenClaim := { program := "ytnjlajjjcmhfgaagreatdoor", sum := "d5c42eec54f69ca0992eabf9074e7b0ac9da202b4bf2d3e08e2c5b875db9beab", func := "atlas/atlaslaw12.StalePages", spec := "stalePages", inPlace := ["slices.overlaps[atlas/spans.Span[bool]]"], unfollowed := true, recurses := true, named := ["atlas/desc.firstKinds", "atlas/desc.baseAt", "atlas/desc.leafAt", "atlas/desc.sizeOfKind", "atlas/desc.tags", "atlas/desc.secondKinds", "atlas/desc.kindOfSize", "atlas/desc.repeats", "atlas/stale.said"], plainKeys := false, apart := false, laid := [("atlas/desc.firstKinds", laid_atlas_desc_firstKinds), ("atlas/desc.secondKinds", laid_atlas_desc_secondKinds), ("atlas/desc.tags", laid_atlas_desc_tags), ("atlas/desc.baseAt", laid_atlas_desc_baseAt), ("atlas/desc.leafAt", laid_atlas_desc_leafAt), ("atlas/desc.kindOfSize", laid_atlas_desc_kindOfSize), ("atlas/desc.sizeOfKind", laid_atlas_desc_sizeOfKind), ("atlas/desc.repeats", laid_atlas_desc_repeats), ("atlas/stale.said", laid_atlas_stale_said)] }
def StalePagesSaid : Prop := stalePagesRow.holds Tryz.pinned (OpenSpec.ofChange stalePagesSpec)

/-- ITS FALSE NEIGHBOUR: 'it returns false'. Refute it at one input. -/
def stalePagesWrong : ChangeSpec := { name := "stalePages", fn := fun _ => fun
  | [d1, d2, d3, d4] => { results := [.lit (.bool false)], args := [d1, d2, d3, d4] }
  | _ => none }
def StalePagesWrongFalsely : Prop := stalePagesRow.holds Tryz.pinned (OpenSpec.ofChange stalePagesWrong)

/- THE SECOND FORM. 'bulk': how many values and letters a reading holds, each counted each time it is reached (what is shared counts as often as it is met; a slice's spare places count too). A statement '..UptoSaid' is the law's where the arguments, and the package variables that the reading takes, are together of bulk at most 1048576: NARROWER than '..Said'. Prove '..Said' where nothing that the law and all that it calls make is longer than what came in: it says more and counts as full. Else prove '..UptoSaid'. A law counts once. -/
mutual
def uptoBulk {H : Type} : DataW H → Nat
  | .lit (.string bytes) => bytes.length + 1
  | .lit _ => 1
  | .nil => 1
  | .ptr d => uptoBulk d + 1
  | .slice elems spare => uptoBulkAll elems + uptoBulkAll spare + 1
  | .agg parts => uptoBulkAll parts + 1
  | .iface _ d => uptoBulk d + 1
  | .map entries => uptoBulkEntries entries + 1
  | .held _ => 1
def uptoBulkAll {H : Type} : List (DataW H) → Nat
  | [] => 0
  | d :: r => uptoBulk d + uptoBulkAll r
def uptoBulkEntries {H : Type} : List (Lit × DataW H) → Nat
  | [] => 0
  | x :: r => uptoBulkEntry x + uptoBulkEntries r
def uptoBulkEntry {H : Type} : Lit × DataW H → Nat
  | (.string bytes, d) => bytes.length + uptoBulk d + 1
  | (_, d) => uptoBulk d + 1
 end
def uptoSmall : (H : Type) → List (DataW H) → Bool := fun _ ds => decide (uptoBulkAll ds ≤ 1048576)
def OpenSpec.upto (s : _root_.Go.ChangeSpec) : _root_.Go.OpenSpec := { _root_.Go.OpenSpec.ofChange s with cond := some uptoSmall }

/-- 'atlaslaw12.StaleSeen', WHERE WHAT IT READS IS OF BULK AT MOST 1048576: true; the input reads as it did. -/
def staleSeenUptoRow : OpenClaim := { program := "ytnjlajjjcmhfgaagreatdoor", sum := "d5c42eec54f69ca0992eabf9074e7b0ac9da202b4bf2d3e08e2c5b875db9beab", func := "atlas/atlaslaw12.StaleSeen", spec := "staleSeen", unfollowed := true, recurses := true, named := ["atlas/desc.firstKinds", "atlas/desc.baseAt", "atlas/desc.leafAt", "atlas/desc.sizeOfKind", "atlas/desc.tags", "atlas/desc.secondKinds", "atlas/desc.kindOfSize", "atlas/desc.repeats"], plainKeys := false, apart := false, laid := [("atlas/desc.firstKinds", laid_atlas_desc_firstKinds), ("atlas/desc.secondKinds", laid_atlas_desc_secondKinds), ("atlas/desc.tags", laid_atlas_desc_tags), ("atlas/desc.baseAt", laid_atlas_desc_baseAt), ("atlas/desc.leafAt", laid_atlas_desc_leafAt), ("atlas/desc.kindOfSize", laid_atlas_desc_kindOfSize), ("atlas/desc.sizeOfKind", laid_atlas_desc_sizeOfKind), ("atlas/desc.repeats", laid_atlas_desc_repeats)], narrowed := true }
def StaleSeenUptoSaid : Prop := staleSeenUptoRow.holds Tryz.pinned (OpenSpec.upto staleSeenSpec)

/-- 'atlaslaw12.StaleDrops', WHERE WHAT IT READS IS OF BULK AT MOST 1048576: true; the input reads as it did. -/
def staleDropsUptoRow : OpenClaim := { program := "ytnjlajjjcmhfgaagreatdoor", sum := "d5c42eec54f69ca0992eabf9074e7b0ac9da202b4bf2d3e08e2c5b875db9beab", func := "atlas/atlaslaw12.StaleDrops", spec := "staleDrops", unfollowed := true, recurses := true, named := ["atlas/desc.firstKinds", "atlas/desc.baseAt", "atlas/desc.leafAt", "atlas/desc.sizeOfKind", "atlas/desc.tags", "atlas/desc.secondKinds", "atlas/desc.kindOfSize", "atlas/desc.repeats"], plainKeys := false, apart := false, laid := [("atlas/desc.firstKinds", laid_atlas_desc_firstKinds), ("atlas/desc.secondKinds", laid_atlas_desc_secondKinds), ("atlas/desc.tags", laid_atlas_desc_tags), ("atlas/desc.baseAt", laid_atlas_desc_baseAt), ("atlas/desc.leafAt", laid_atlas_desc_leafAt), ("atlas/desc.kindOfSize", laid_atlas_desc_kindOfSize), ("atlas/desc.sizeOfKind", laid_atlas_desc_sizeOfKind), ("atlas/desc.repeats", laid_atlas_desc_repeats)], narrowed := true }
def StaleDropsUptoSaid : Prop := staleDropsUptoRow.holds Tryz.pinned (OpenSpec.upto staleDropsSpec)

/-- 'atlaslaw12.StaleServes', WHERE WHAT IT READS IS OF BULK AT MOST 1048576: true; the input reads as it did. -/
def staleServesUptoRow : OpenClaim := { program := "ytnjlajjjcmhfgaagreatdoor", sum := "d5c42eec54f69ca0992eabf9074e7b0ac9da202b4bf2d3e08e2c5b875db9beab", func := "atlas/atlaslaw12.StaleServes", spec := "staleServes", unfollowed := true, recurses := true, named := ["atlas/desc.firstKinds", "atlas/desc.baseAt", "atlas/desc.leafAt", "atlas/desc.sizeOfKind", "atlas/desc.tags", "atlas/desc.secondKinds", "atlas/desc.kindOfSize", "atlas/desc.repeats"], plainKeys := false, apart := false, laid := [("atlas/desc.firstKinds", laid_atlas_desc_firstKinds), ("atlas/desc.secondKinds", laid_atlas_desc_secondKinds), ("atlas/desc.tags", laid_atlas_desc_tags), ("atlas/desc.baseAt", laid_atlas_desc_baseAt), ("atlas/desc.leafAt", laid_atlas_desc_leafAt), ("atlas/desc.kindOfSize", laid_atlas_desc_kindOfSize), ("atlas/desc.sizeOfKind", laid_atlas_desc_sizeOfKind), ("atlas/desc.repeats", laid_atlas_desc_repeats)], narrowed := true }
def StaleServesUptoSaid : Prop := staleServesUptoRow.holds Tryz.pinned (OpenSpec.upto staleServesSpec)

/-- 'atlaslaw12.StaleNone', WHERE WHAT IT READS IS OF BULK AT MOST 1048576: true; the input reads as it did. -/
def staleNoneUptoRow : OpenClaim := { program := "ytnjlajjjcmhfgaagreatdoor", sum := "d5c42eec54f69ca0992eabf9074e7b0ac9da202b4bf2d3e08e2c5b875db9beab", func := "atlas/atlaslaw12.StaleNone", spec := "staleNone", inPlace := ["slices.overlaps[atlas/spans.Span[bool]]"], unfollowed := true, recurses := true, named := ["atlas/desc.firstKinds", "atlas/desc.baseAt", "atlas/desc.leafAt", "atlas/desc.sizeOfKind", "atlas/desc.tags", "atlas/desc.secondKinds", "atlas/desc.kindOfSize", "atlas/desc.repeats", "atlas/stale.said"], plainKeys := false, apart := false, laid := [("atlas/desc.firstKinds", laid_atlas_desc_firstKinds), ("atlas/desc.secondKinds", laid_atlas_desc_secondKinds), ("atlas/desc.tags", laid_atlas_desc_tags), ("atlas/desc.baseAt", laid_atlas_desc_baseAt), ("atlas/desc.leafAt", laid_atlas_desc_leafAt), ("atlas/desc.kindOfSize", laid_atlas_desc_kindOfSize), ("atlas/desc.sizeOfKind", laid_atlas_desc_sizeOfKind), ("atlas/desc.repeats", laid_atlas_desc_repeats), ("atlas/stale.said", laid_atlas_stale_said)], narrowed := true }
def StaleNoneUptoSaid : Prop := staleNoneUptoRow.holds Tryz.pinned (OpenSpec.upto staleNoneSpec)

/-- 'atlaslaw12.StaleFresh', WHERE WHAT IT READS IS OF BULK AT MOST 1048576: true; the input reads as it did. -/
def staleFreshUptoRow : OpenClaim := { program := "ytnjlajjjcmhfgaagreatdoor", sum := "d5c42eec54f69ca0992eabf9074e7b0ac9da202b4bf2d3e08e2c5b875db9beab", func := "atlas/atlaslaw12.StaleFresh", spec := "staleFresh", inPlace := ["slices.overlaps[atlas/spans.Span[bool]]"], unfollowed := true, recurses := true, named := ["atlas/desc.firstKinds", "atlas/desc.baseAt", "atlas/desc.leafAt", "atlas/desc.sizeOfKind", "atlas/desc.tags", "atlas/desc.secondKinds", "atlas/desc.kindOfSize", "atlas/desc.repeats", "atlas/stale.said"], plainKeys := false, apart := false, laid := [("atlas/desc.firstKinds", laid_atlas_desc_firstKinds), ("atlas/desc.secondKinds", laid_atlas_desc_secondKinds), ("atlas/desc.tags", laid_atlas_desc_tags), ("atlas/desc.baseAt", laid_atlas_desc_baseAt), ("atlas/desc.leafAt", laid_atlas_desc_leafAt), ("atlas/desc.kindOfSize", laid_atlas_desc_kindOfSize), ("atlas/desc.sizeOfKind", laid_atlas_desc_sizeOfKind), ("atlas/desc.repeats", laid_atlas_desc_repeats), ("atlas/stale.said", laid_atlas_stale_said)], narrowed := true }
def StaleFreshUptoSaid : Prop := staleFreshUptoRow.holds Tryz.pinned (OpenSpec.upto staleFreshSpec)

/-- 'atlaslaw12.StalePages', WHERE WHAT IT READS IS OF BULK AT MOST 1048576: true; the input reads as it did. -/
def stalePagesUptoRow : OpenClaim := { program := "ytnjlajjjcmhfgaagreatdoor", sum := "d5c42eec54f69ca0992eabf9074e7b0ac9da202b4bf2d3e08e2c5b875db9beab", func := "atlas/atlaslaw12.StalePages", spec := "stalePages", inPlace := ["slices.overlaps[atlas/spans.Span[bool]]"], unfollowed := true, recurses := true, named := ["atlas/desc.firstKinds", "atlas/desc.baseAt", "atlas/desc.leafAt", "atlas/desc.sizeOfKind", "atlas/desc.tags", "atlas/desc.secondKinds", "atlas/desc.kindOfSize", "atlas/desc.repeats", "atlas/stale.said"], plainKeys := false, apart := false, laid := [("atlas/desc.firstKinds", laid_atlas_desc_firstKinds), ("atlas/desc.secondKinds", laid_atlas_desc_secondKinds), ("atlas/desc.tags", laid_atlas_desc_tags), ("atlas/desc.baseAt", laid_atlas_desc_baseAt), ("atlas/desc.leafAt", laid_atlas_desc_leafAt), ("atlas/desc.kindOfSize", laid_atlas_desc_kindOfSize), ("atlas/desc.sizeOfKind", laid_atlas_desc_sizeOfKind), ("atlas/desc.repeats", laid_atlas_desc_repeats), ("atlas/stale.said", laid_atlas_stale_said)], narrowed := true }
def StalePagesUptoSaid : Prop := stalePagesUptoRow.holds Tryz.pinned (OpenSpec.upto stalePagesSpec)

end Rows
end Go.Proofs.YtnjlajjjcmhfgaaGreatDoor
