/-
  No cell of these rows narrows 'for every input' (looked for: loops, veiled, ifaces, maps, wideKeys, modest, calm, conditions, laid).
  DERIVED. THE GIVEN ROWS OF THIS SEAT. 6 by the template 'for every input the law returns true; each argument reads behind the call as it read before'; 0 by the template 'total and deterministic' (their statements: YtplobjdghaokoaaTotals.lean).
  GIVEN WITH THE SEED: the statements are not yours to turn. If you find one false, say at which input.
  Laid BY PROGRAM, IN A SANDBOX (cutbox-rows.mjs): the forced cells as the released guide's own fill.sh prints them over the translation 957e7ddeb75251b0… (all of the seat's roots in one cut). By AI agents, Wed Nov 11 2026. No macro, syntax, notation, axiom, sorry.
-/
import Derived.Test.YtplobjdghaokoaaChecked
import GoSem.Claim
import GoSem.ClaimJoined
import GoSem.ClaimMapViews
import Derived.JoinedTies
import Derived.KernelRfl
namespace Go.Proofs.Ytplobjdghaokoaa
/- THE CELL 'sum', in the pinned program and in every row, IS THE sha256 OF THE DUMP (.gsa) THAT YtplobjdghaokoaaProg.lean LOADS. Nothing in Lean hashes anything: it is a label: what it is worth is what the hold of that sum in a sandbox is worth. -/
noncomputable def Try.pinned : Pinned := { name := "ytplobjdghaokoaa", sum := "957e7ddeb75251b027450da26d704c324945abab240cf0701c1d53b91a99f290", checked := Try.checked }
namespace Rows
def none {H : Type} : Left H := { results := [], args := [] }

/-- 'atlaslaw04.FramesLowest': WHATEVER THE INPUT: true; the input reads as it did. -/
def framesLowestSpec : ChangeSpec := { name := "framesLowest", fn := fun _ => fun
  | [d1, d2, d3, d4, d5] => { results := [.lit (.bool true)], args := [d1, d2, d3, d4, d5] }
  | _ => none }
def framesLowestRow : OpenClaim := { program := "ytplobjdghaokoaa", sum := "957e7ddeb75251b027450da26d704c324945abab240cf0701c1d53b91a99f290", func := "atlas/atlaslaw04.FramesLowest", spec := "framesLowest", inPlace := ["slices.overlaps[atlas/frames.cut]"], unfollowed := true, recurses := true, apart := false }
def FramesLowestSaid : Prop := framesLowestRow.holds Try.pinned (OpenSpec.ofChange framesLowestSpec)

/-- ITS FALSE NEIGHBOUR: 'it returns false'. Refute it at one input. -/
def framesLowestWrong : ChangeSpec := { name := "framesLowest", fn := fun _ => fun
  | [d1, d2, d3, d4, d5] => { results := [.lit (.bool false)], args := [d1, d2, d3, d4, d5] }
  | _ => none }
def FramesLowestWrongFalsely : Prop := framesLowestRow.holds Try.pinned (OpenSpec.ofChange framesLowestWrong)

/-- 'atlaslaw04.FramesCounts': WHATEVER THE INPUT: true; the input reads as it did. -/
def framesCountsSpec : ChangeSpec := { name := "framesCounts", fn := fun _ => fun
  | [d1, d2, d3] => { results := [.lit (.bool true)], args := [d1, d2, d3] }
  | _ => none }
def framesCountsRow : OpenClaim := { program := "ytplobjdghaokoaa", sum := "957e7ddeb75251b027450da26d704c324945abab240cf0701c1d53b91a99f290", func := "atlas/atlaslaw04.FramesCounts", spec := "framesCounts", inPlace := ["slices.overlaps[atlas/frames.cut]"], unfollowed := true, recurses := true, apart := false }
def FramesCountsSaid : Prop := framesCountsRow.holds Try.pinned (OpenSpec.ofChange framesCountsSpec)

/-- ITS FALSE NEIGHBOUR: 'it returns false'. Refute it at one input. -/
def framesCountsWrong : ChangeSpec := { name := "framesCounts", fn := fun _ => fun
  | [d1, d2, d3] => { results := [.lit (.bool false)], args := [d1, d2, d3] }
  | _ => none }
def FramesCountsWrongFalsely : Prop := framesCountsRow.holds Try.pinned (OpenSpec.ofChange framesCountsWrong)

/-- 'atlaslaw04.FramesOwn': WHATEVER THE INPUT: true; the input reads as it did. -/
def framesOwnSpec : ChangeSpec := { name := "framesOwn", fn := fun _ => fun
  | [d1, d2, d3] => { results := [.lit (.bool true)], args := [d1, d2, d3] }
  | _ => none }
def framesOwnRow : OpenClaim := { program := "ytplobjdghaokoaa", sum := "957e7ddeb75251b027450da26d704c324945abab240cf0701c1d53b91a99f290", func := "atlas/atlaslaw04.FramesOwn", spec := "framesOwn", inPlace := ["slices.overlaps[atlas/frames.cut]"], unfollowed := true, recurses := true, apart := false }
def FramesOwnSaid : Prop := framesOwnRow.holds Try.pinned (OpenSpec.ofChange framesOwnSpec)

/-- ITS FALSE NEIGHBOUR: 'it returns false'. Refute it at one input. -/
def framesOwnWrong : ChangeSpec := { name := "framesOwn", fn := fun _ => fun
  | [d1, d2, d3] => { results := [.lit (.bool false)], args := [d1, d2, d3] }
  | _ => none }
def FramesOwnWrongFalsely : Prop := framesOwnRow.holds Try.pinned (OpenSpec.ofChange framesOwnWrong)

/-- 'atlaslaw04.FramesNews': WHATEVER THE INPUT: true; the input reads as it did. -/
def framesNewsSpec : ChangeSpec := { name := "framesNews", fn := fun _ => fun
  | [d1, d2, d3] => { results := [.lit (.bool true)], args := [d1, d2, d3] }
  | _ => none }
def framesNewsRow : OpenClaim := { program := "ytplobjdghaokoaa", sum := "957e7ddeb75251b027450da26d704c324945abab240cf0701c1d53b91a99f290", func := "atlas/atlaslaw04.FramesNews", spec := "framesNews", inPlace := ["slices.overlaps[atlas/frames.cut]"], unfollowed := true, recurses := true, apart := false }
def FramesNewsSaid : Prop := framesNewsRow.holds Try.pinned (OpenSpec.ofChange framesNewsSpec)

/-- ITS FALSE NEIGHBOUR: 'it returns false'. Refute it at one input. -/
def framesNewsWrong : ChangeSpec := { name := "framesNews", fn := fun _ => fun
  | [d1, d2, d3] => { results := [.lit (.bool false)], args := [d1, d2, d3] }
  | _ => none }
def FramesNewsWrongFalsely : Prop := framesNewsRow.holds Try.pinned (OpenSpec.ofChange framesNewsWrong)

/-- 'atlaslaw04.FramesFresh': WHATEVER THE INPUT: true; the input reads as it did. -/
def framesFreshSpec : ChangeSpec := { name := "framesFresh", fn := fun _ => fun
  | [d1, d2, d3] => { results := [.lit (.bool true)], args := [d1, d2, d3] }
  | _ => none }
def framesFreshRow : OpenClaim := { program := "ytplobjdghaokoaa", sum := "957e7ddeb75251b027450da26d704c324945abab240cf0701c1d53b91a99f290", func := "atlas/atlaslaw04.FramesFresh", spec := "framesFresh", inPlace := ["slices.overlaps[atlas/frames.cut]"], unfollowed := true, recurses := true, apart := false }
def FramesFreshSaid : Prop := framesFreshRow.holds Try.pinned (OpenSpec.ofChange framesFreshSpec)

/-- ITS FALSE NEIGHBOUR: 'it returns false'. Refute it at one input. -/
def framesFreshWrong : ChangeSpec := { name := "framesFresh", fn := fun _ => fun
  | [d1, d2, d3] => { results := [.lit (.bool false)], args := [d1, d2, d3] }
  | _ => none }
def FramesFreshWrongFalsely : Prop := framesFreshRow.holds Try.pinned (OpenSpec.ofChange framesFreshWrong)

/-- 'atlaslaw04.FramesTables': WHATEVER THE INPUT: true; the input reads as it did. -/
def framesTablesSpec : ChangeSpec := { name := "framesTables", fn := fun _ => fun
  | [d1, d2, d3] => { results := [.lit (.bool true)], args := [d1, d2, d3] }
  | _ => none }
def framesTablesRow : OpenClaim := { program := "ytplobjdghaokoaa", sum := "957e7ddeb75251b027450da26d704c324945abab240cf0701c1d53b91a99f290", func := "atlas/atlaslaw04.FramesTables", spec := "framesTables", inPlace := ["slices.overlaps[atlas/frames.cut]"], unfollowed := true, recurses := true, apart := false }
def FramesTablesSaid : Prop := framesTablesRow.holds Try.pinned (OpenSpec.ofChange framesTablesSpec)

/-- ITS FALSE NEIGHBOUR: 'it returns false'. Refute it at one input. -/
def framesTablesWrong : ChangeSpec := { name := "framesTables", fn := fun _ => fun
  | [d1, d2, d3] => { results := [.lit (.bool false)], args := [d1, d2, d3] }
  | _ => none }
def FramesTablesWrongFalsely : Prop := framesTablesRow.holds Try.pinned (OpenSpec.ofChange framesTablesWrong)

/- THE SECOND FORM. 'bulk': how many values and letters a reading holds, each counted each time it is reached (what is shared counts as often as it is met; a slice's spare places count too). A statement '..UptoSaid' is the law's where the arguments, and the package variables that the reading takes, are together of bulk at most 1048576: NARROWER than '..Said'. Prove '..Said' where nothing that the law and all that it calls make is longer than what came in: it says more and counts as full. Else prove '..UptoSaid'. A law counts once. -/
mutual
def uptoBulk {H : Type} : DataW H → Nat
  | .lit (.string bytes) => bytes.length + 1
  | .lit _ => 1
  | .nil => 1
  | .ptr d => uptoBulk d + 1
  | .slice elems spare => uptoBulkAll elems + uptoBulkAll spare + 1
  | .agg parts => uptoBulkAll parts + 1
  | .iface _ d => uptoBulk d + 1
  | .map entries => uptoBulkEntries entries + 1
  | .held _ => 1
def uptoBulkAll {H : Type} : List (DataW H) → Nat
  | [] => 0
  | d :: r => uptoBulk d + uptoBulkAll r
def uptoBulkEntries {H : Type} : List (Lit × DataW H) → Nat
  | [] => 0
  | x :: r => uptoBulkEntry x + uptoBulkEntries r
def uptoBulkEntry {H : Type} : Lit × DataW H → Nat
  | (.string bytes, d) => bytes.length + uptoBulk d + 1
  | (_, d) => uptoBulk d + 1
 end
def uptoSmall : (H : Type) → List (DataW H) → Bool := fun _ ds => decide (uptoBulkAll ds ≤ 1048576)
def OpenSpec.upto (s : _root_.Go.ChangeSpec) : _root_.Go.OpenSpec := { _root_.Go.OpenSpec.ofChange s with cond := some uptoSmall }

/-- 'atlaslaw04.FramesLowest', WHERE WHAT IT READS IS OF BULK AT MOST 1048576: true; the input reads as it did. -/
def framesLowestUptoRow : OpenClaim := { program := "ytplobjdghaokoaa", sum := "957e7ddeb75251b027450da26d704c324945abab240cf0701c1d53b91a99f290", func := "atlas/atlaslaw04.FramesLowest", spec := "framesLowest", inPlace := ["slices.overlaps[atlas/frames.cut]"], unfollowed := true, recurses := true, apart := false, narrowed := true }
def FramesLowestUptoSaid : Prop := framesLowestUptoRow.holds Try.pinned (OpenSpec.upto framesLowestSpec)

/-- 'atlaslaw04.FramesCounts', WHERE WHAT IT READS IS OF BULK AT MOST 1048576: true; the input reads as it did. -/
def framesCountsUptoRow : OpenClaim := { program := "ytplobjdghaokoaa", sum := "957e7ddeb75251b027450da26d704c324945abab240cf0701c1d53b91a99f290", func := "atlas/atlaslaw04.FramesCounts", spec := "framesCounts", inPlace := ["slices.overlaps[atlas/frames.cut]"], unfollowed := true, recurses := true, apart := false, narrowed := true }
def FramesCountsUptoSaid : Prop := framesCountsUptoRow.holds Try.pinned (OpenSpec.upto framesCountsSpec)

/-- 'atlaslaw04.FramesOwn', WHERE WHAT IT READS IS OF BULK AT MOST 1048576: true; the input reads as it did. -/
def framesOwnUptoRow : OpenClaim := { program := "ytplobjdghaokoaa", sum := "957e7ddeb75251b027450da26d704c324945abab240cf0701c1d53b91a99f290", func := "atlas/atlaslaw04.FramesOwn", spec := "framesOwn", inPlace := ["slices.overlaps[atlas/frames.cut]"], unfollowed := true, recurses := true, apart := false, narrowed := true }
def FramesOwnUptoSaid : Prop := framesOwnUptoRow.holds Try.pinned (OpenSpec.upto framesOwnSpec)

/-- 'atlaslaw04.FramesNews', WHERE WHAT IT READS IS OF BULK AT MOST 1048576: true; the input reads as it did. -/
def framesNewsUptoRow : OpenClaim := { program := "ytplobjdghaokoaa", sum := "957e7ddeb75251b027450da26d704c324945abab240cf0701c1d53b91a99f290", func := "atlas/atlaslaw04.FramesNews", spec := "framesNews", inPlace := ["slices.overlaps[atlas/frames.cut]"], unfollowed := true, recurses := true, apart := false, narrowed := true }
def FramesNewsUptoSaid : Prop := framesNewsUptoRow.holds Try.pinned (OpenSpec.upto framesNewsSpec)

/-- 'atlaslaw04.FramesFresh', WHERE WHAT IT READS IS OF BULK AT MOST 1048576: true; the input reads as it did. -/
def framesFreshUptoRow : OpenClaim := { program := "ytplobjdghaokoaa", sum := "957e7ddeb75251b027450da26d704c324945abab240cf0701c1d53b91a99f290", func := "atlas/atlaslaw04.FramesFresh", spec := "framesFresh", inPlace := ["slices.overlaps[atlas/frames.cut]"], unfollowed := true, recurses := true, apart := false, narrowed := true }
def FramesFreshUptoSaid : Prop := framesFreshUptoRow.holds Try.pinned (OpenSpec.upto framesFreshSpec)

/-- 'atlaslaw04.FramesTables', WHERE WHAT IT READS IS OF BULK AT MOST 1048576: true; the input reads as it did. -/
def framesTablesUptoRow : OpenClaim := { program := "ytplobjdghaokoaa", sum := "957e7ddeb75251b027450da26d704c324945abab240cf0701c1d53b91a99f290", func := "atlas/atlaslaw04.FramesTables", spec := "framesTables", inPlace := ["slices.overlaps[atlas/frames.cut]"], unfollowed := true, recurses := true, apart := false, narrowed := true }
def FramesTablesUptoSaid : Prop := framesTablesUptoRow.holds Try.pinned (OpenSpec.upto framesTablesSpec)

end Rows
end Go.Proofs.Ytplobjdghaokoaa
