/-
  NARROWER THAN 'FOR EVERY INPUT', by the rows' own cells (each row's printed sentence says how): TlbDrops: laid · TlbMatches: laid · TlbKeeps: laid · TlbFresh: laid · TlbTells: laid · TlbPlays: laid.
  DERIVED. THE GIVEN ROWS OF THIS SEAT. 6 by the template 'for every input the law returns true; each argument reads behind the call as it read before'; 0 by the template 'total and deterministic' (their statements: YtfbapflbjkmocaaDoorTotals.lean).
  GIVEN WITH THE SEED: the statements are not yours to turn. If you find one false, say at which input.
  Laid BY PROGRAM, IN A SANDBOX (cutbox-rows.mjs): the forced cells as the released guide's own fill.sh prints them over the translation 7f3accaf00a4f9ac… (all of the seat's roots in one cut). By AI agents, Wed Nov 11 2026. No macro, syntax, notation, axiom, sorry.
-/
import Derived.Test.YtfbapflbjkmocaaDoorChecked
import GoSem.Claim
import GoSem.ClaimJoined
import GoSem.ClaimMapViews
import Derived.JoinedTies
import Derived.KernelRfl
namespace Go.Proofs.YtfbapflbjkmocaaDoor
/- THE CELL 'sum', in the pinned program and in every row, IS THE sha256 OF THE DUMP (.gsa) THAT YtfbapflbjkmocaaDoorProg.lean LOADS. Nothing in Lean hashes anything: it is a label: what it is worth is what the hold of that sum in a sandbox is worth. -/
noncomputable def Tryd.pinned : Pinned := { name := "ytfbapflbjkmocaadoor", sum := "7f3accaf00a4f9ac264bf3cbf6ffd3a21cfd053a3c42633d1888cc3b76f87ad2", checked := Tryd.checked }
namespace Rows
def none {H : Type} : Left H := { results := [], args := [] }

/- WHAT THE LISTED PACKAGE-LEVEL VARIABLES READ AS WHEN THE CALL BEGINS. Each datum BY PROGRAM (the guide's laid-datum.mjs) off the statement by which the dump's own 'gosem.cut.vars' lays the variable. In a bare row this is a premise. The card (YtfbapflbjkmocaaDoorCards.lean) ties it to the program's text. -/
def laid_atlas_desc_firstKinds {H : Type} : DataW H := .agg [.lit (.int .u8 0), .lit (.int .u8 1), .lit (.int .u8 2), .lit (.int .u8 0)]
def laid_atlas_desc_secondKinds {H : Type} : DataW H := .agg [.lit (.int .u8 0), .lit (.int .u8 4), .lit (.int .u8 5), .lit (.int .u8 5)]
def laid_atlas_desc_tags {H : Type} : DataW H := .agg [.lit (.int .u32 0), .lit (.int .u32 1), .lit (.int .u32 2), .lit (.int .u32 262146), .lit (.int .u32 1), .lit (.int .u32 2)]
def laid_atlas_desc_baseAt {H : Type} : DataW H := .agg [.lit (.int .u8 0), .lit (.int .u8 10), .lit (.int .u8 20), .lit (.int .u8 24), .lit (.int .u8 16), .lit (.int .u8 12)]
def laid_atlas_desc_leafAt {H : Type} : DataW H := .agg [.agg [.lit (.int .u8 0), .lit (.int .u8 0), .lit (.int .u8 0), .lit (.int .u8 0), .lit (.int .u8 0), .lit (.int .u8 0)], .agg [.lit (.int .u8 0), .lit (.int .u8 0), .lit (.int .u8 0), .lit (.int .u8 0), .lit (.int .u8 0), .lit (.int .u8 0)], .agg [.lit (.int .u8 10), .lit (.int .u8 15), .lit (.int .u8 12), .lit (.int .u8 16), .lit (.int .u8 17), .lit (.int .u8 4)], .agg [.lit (.int .u8 10), .lit (.int .u8 15), .lit (.int .u8 12), .lit (.int .u8 16), .lit (.int .u8 17), .lit (.int .u8 4)], .agg [.lit (.int .u8 4), .lit (.int .u8 9), .lit (.int .u8 12), .lit (.int .u8 10), .lit (.int .u8 11), .lit (.int .u8 15)], .agg [.lit (.int .u8 4), .lit (.int .u8 9), .lit (.int .u8 6), .lit (.int .u8 10), .lit (.int .u8 11), .lit (.int .u8 0)]]
def laid_atlas_desc_kindOfSize {H : Type} : DataW H := .agg [.lit (.int .u8 0), .lit (.int .u8 5), .lit (.int .u8 4), .lit (.int .u8 2), .lit (.int .u8 3)]
def laid_atlas_desc_sizeOfKind {H : Type} : DataW H := .agg [.lit (.int .u8 0), .lit (.int .u8 0), .lit (.int .u8 3), .lit (.int .u8 4), .lit (.int .u8 2), .lit (.int .u8 1)]

/-- 'atlaslaw10.TlbDrops': WHATEVER THE INPUT: true; the input reads as it did. -/
def tlbDropsSpec : ChangeSpec := { name := "tlbDrops", fn := fun _ => fun
  | [d1, d2, d3, d4] => { results := [.lit (.bool true)], args := [d1, d2, d3, d4] }
  | _ => none }
def tlbDropsRow : OpenClaim := { program := "ytfbapflbjkmocaadoor", sum := "7f3accaf00a4f9ac264bf3cbf6ffd3a21cfd053a3c42633d1888cc3b76f87ad2", func := "atlas/atlaslaw10.TlbDrops", spec := "tlbDrops", unfollowed := true, recurses := true, named := ["atlas/desc.kindOfSize", "atlas/desc.sizeOfKind", "atlas/desc.baseAt", "atlas/desc.tags", "atlas/desc.leafAt", "atlas/desc.firstKinds", "atlas/desc.secondKinds"], apart := false, laid := [("atlas/desc.firstKinds", laid_atlas_desc_firstKinds), ("atlas/desc.secondKinds", laid_atlas_desc_secondKinds), ("atlas/desc.tags", laid_atlas_desc_tags), ("atlas/desc.baseAt", laid_atlas_desc_baseAt), ("atlas/desc.leafAt", laid_atlas_desc_leafAt), ("atlas/desc.kindOfSize", laid_atlas_desc_kindOfSize), ("atlas/desc.sizeOfKind", laid_atlas_desc_sizeOfKind)] }
def TlbDropsSaid : Prop := tlbDropsRow.holds Tryd.pinned (OpenSpec.ofChange tlbDropsSpec)

/-- ITS FALSE NEIGHBOUR: 'it returns false'. Refute it at one input. -/
def tlbDropsWrong : ChangeSpec := { name := "tlbDrops", fn := fun _ => fun
  | [d1, d2, d3, d4] => { results := [.lit (.bool false)], args := [d1, d2, d3, d4] }
  | _ => none }
def TlbDropsWrongFalsely : Prop := tlbDropsRow.holds Tryd.pinned (OpenSpec.ofChange tlbDropsWrong)

/-- 'atlaslaw10.TlbMatches': WHATEVER THE INPUT: true; the input reads as it did. -/
def tlbMatchesSpec : ChangeSpec := { name := "tlbMatches", fn := fun _ => fun
  | [d1, d2, d3, d4] => { results := [.lit (.bool true)], args := [d1, d2, d3, d4] }
  | _ => none }
def tlbMatchesRow : OpenClaim := { program := "ytfbapflbjkmocaadoor", sum := "7f3accaf00a4f9ac264bf3cbf6ffd3a21cfd053a3c42633d1888cc3b76f87ad2", func := "atlas/atlaslaw10.TlbMatches", spec := "tlbMatches", unfollowed := true, recurses := true, named := ["atlas/desc.kindOfSize", "atlas/desc.sizeOfKind", "atlas/desc.baseAt", "atlas/desc.tags", "atlas/desc.leafAt", "atlas/desc.firstKinds", "atlas/desc.secondKinds"], apart := false, laid := [("atlas/desc.firstKinds", laid_atlas_desc_firstKinds), ("atlas/desc.secondKinds", laid_atlas_desc_secondKinds), ("atlas/desc.tags", laid_atlas_desc_tags), ("atlas/desc.baseAt", laid_atlas_desc_baseAt), ("atlas/desc.leafAt", laid_atlas_desc_leafAt), ("atlas/desc.kindOfSize", laid_atlas_desc_kindOfSize), ("atlas/desc.sizeOfKind", laid_atlas_desc_sizeOfKind)] }
def TlbMatchesSaid : Prop := tlbMatchesRow.holds Tryd.pinned (OpenSpec.ofChange tlbMatchesSpec)

/-- ITS FALSE NEIGHBOUR: 'it returns false'. Refute it at one input. -/
def tlbMatchesWrong : ChangeSpec := { name := "tlbMatches", fn := fun _ => fun
  | [d1, d2, d3, d4] => { results := [.lit (.bool false)], args := [d1, d2, d3, d4] }
  | _ => none }
def TlbMatchesWrongFalsely : Prop := tlbMatchesRow.holds Tryd.pinned (OpenSpec.ofChange tlbMatchesWrong)

/-- 'atlaslaw10.TlbKeeps': WHATEVER THE INPUT: true; the input reads as it did. -/
def tlbKeepsSpec : ChangeSpec := { name := "tlbKeeps", fn := fun _ => fun
  | [d1, d2] => { results := [.lit (.bool true)], args := [d1, d2] }
  | _ => none }
def tlbKeepsRow : OpenClaim := { program := "ytfbapflbjkmocaadoor", sum := "7f3accaf00a4f9ac264bf3cbf6ffd3a21cfd053a3c42633d1888cc3b76f87ad2", func := "atlas/atlaslaw10.TlbKeeps", spec := "tlbKeeps", unfollowed := true, recurses := true, named := ["atlas/desc.kindOfSize", "atlas/desc.sizeOfKind", "atlas/desc.baseAt", "atlas/desc.tags", "atlas/desc.leafAt", "atlas/desc.firstKinds", "atlas/desc.secondKinds"], apart := false, laid := [("atlas/desc.firstKinds", laid_atlas_desc_firstKinds), ("atlas/desc.secondKinds", laid_atlas_desc_secondKinds), ("atlas/desc.tags", laid_atlas_desc_tags), ("atlas/desc.baseAt", laid_atlas_desc_baseAt), ("atlas/desc.leafAt", laid_atlas_desc_leafAt), ("atlas/desc.kindOfSize", laid_atlas_desc_kindOfSize), ("atlas/desc.sizeOfKind", laid_atlas_desc_sizeOfKind)] }
def TlbKeepsSaid : Prop := tlbKeepsRow.holds Tryd.pinned (OpenSpec.ofChange tlbKeepsSpec)

/-- ITS FALSE NEIGHBOUR: 'it returns false'. Refute it at one input. -/
def tlbKeepsWrong : ChangeSpec := { name := "tlbKeeps", fn := fun _ => fun
  | [d1, d2] => { results := [.lit (.bool false)], args := [d1, d2] }
  | _ => none }
def TlbKeepsWrongFalsely : Prop := tlbKeepsRow.holds Tryd.pinned (OpenSpec.ofChange tlbKeepsWrong)

/-- 'atlaslaw10.TlbFresh': WHATEVER THE INPUT: true; the input reads as it did. -/
def tlbFreshSpec : ChangeSpec := { name := "tlbFresh", fn := fun _ => fun
  | [d1, d2] => { results := [.lit (.bool true)], args := [d1, d2] }
  | _ => none }
def tlbFreshRow : OpenClaim := { program := "ytfbapflbjkmocaadoor", sum := "7f3accaf00a4f9ac264bf3cbf6ffd3a21cfd053a3c42633d1888cc3b76f87ad2", func := "atlas/atlaslaw10.TlbFresh", spec := "tlbFresh", unfollowed := true, recurses := true, named := ["atlas/desc.kindOfSize", "atlas/desc.sizeOfKind", "atlas/desc.baseAt", "atlas/desc.tags", "atlas/desc.leafAt", "atlas/desc.firstKinds", "atlas/desc.secondKinds"], apart := false, laid := [("atlas/desc.firstKinds", laid_atlas_desc_firstKinds), ("atlas/desc.secondKinds", laid_atlas_desc_secondKinds), ("atlas/desc.tags", laid_atlas_desc_tags), ("atlas/desc.baseAt", laid_atlas_desc_baseAt), ("atlas/desc.leafAt", laid_atlas_desc_leafAt), ("atlas/desc.kindOfSize", laid_atlas_desc_kindOfSize), ("atlas/desc.sizeOfKind", laid_atlas_desc_sizeOfKind)] }
def TlbFreshSaid : Prop := tlbFreshRow.holds Tryd.pinned (OpenSpec.ofChange tlbFreshSpec)

/-- ITS FALSE NEIGHBOUR: 'it returns false'. Refute it at one input. -/
def tlbFreshWrong : ChangeSpec := { name := "tlbFresh", fn := fun _ => fun
  | [d1, d2] => { results := [.lit (.bool false)], args := [d1, d2] }
  | _ => none }
def TlbFreshWrongFalsely : Prop := tlbFreshRow.holds Tryd.pinned (OpenSpec.ofChange tlbFreshWrong)

/-- 'atlaslaw10.TlbTells': WHATEVER THE INPUT: true; the input reads as it did. -/
def tlbTellsSpec : ChangeSpec := { name := "tlbTells", fn := fun _ => fun
  | [d1, d2, d3, d4] => { results := [.lit (.bool true)], args := [d1, d2, d3, d4] }
  | _ => none }
def tlbTellsRow : OpenClaim := { program := "ytfbapflbjkmocaadoor", sum := "7f3accaf00a4f9ac264bf3cbf6ffd3a21cfd053a3c42633d1888cc3b76f87ad2", func := "atlas/atlaslaw10.TlbTells", spec := "tlbTells", unfollowed := true, recurses := true, named := ["atlas/desc.kindOfSize", "atlas/desc.sizeOfKind", "atlas/desc.baseAt", "atlas/desc.tags", "atlas/desc.leafAt", "atlas/desc.firstKinds", "atlas/desc.secondKinds"], apart := false, laid := [("atlas/desc.firstKinds", laid_atlas_desc_firstKinds), ("atlas/desc.secondKinds", laid_atlas_desc_secondKinds), ("atlas/desc.tags", laid_atlas_desc_tags), ("atlas/desc.baseAt", laid_atlas_desc_baseAt), ("atlas/desc.leafAt", laid_atlas_desc_leafAt), ("atlas/desc.kindOfSize", laid_atlas_desc_kindOfSize), ("atlas/desc.sizeOfKind", laid_atlas_desc_sizeOfKind)] }
def TlbTellsSaid : Prop := tlbTellsRow.holds Tryd.pinned (OpenSpec.ofChange tlbTellsSpec)

/-- ITS FALSE NEIGHBOUR: 'it returns false'. Refute it at one input. -/
def tlbTellsWrong : ChangeSpec := { name := "tlbTells", fn := fun _ => fun
  | [d1, d2, d3, d4] => { results := [.lit (.bool false)], args := [d1, d2, d3, d4] }
  | _ => none }
def TlbTellsWrongFalsely : Prop := tlbTellsRow.holds Tryd.pinned (OpenSpec.ofChange tlbTellsWrong)

/-- 'atlaslaw10.TlbPlays': WHATEVER THE INPUT: true; the input reads as it did. -/
def tlbPlaysSpec : ChangeSpec := { name := "tlbPlays", fn := fun _ => fun
  | [d1, d2] => { results := [.lit (.bool true)], args := [d1, d2] }
  | _ => none }
def tlbPlaysRow : OpenClaim := { program := "ytfbapflbjkmocaadoor", sum := "7f3accaf00a4f9ac264bf3cbf6ffd3a21cfd053a3c42633d1888cc3b76f87ad2", func := "atlas/atlaslaw10.TlbPlays", spec := "tlbPlays", unfollowed := true, recurses := true, named := ["atlas/desc.kindOfSize", "atlas/desc.sizeOfKind", "atlas/desc.baseAt", "atlas/desc.tags", "atlas/desc.leafAt", "atlas/desc.firstKinds", "atlas/desc.secondKinds"], apart := false, laid := [("atlas/desc.firstKinds", laid_atlas_desc_firstKinds), ("atlas/desc.secondKinds", laid_atlas_desc_secondKinds), ("atlas/desc.tags", laid_atlas_desc_tags), ("atlas/desc.baseAt", laid_atlas_desc_baseAt), ("atlas/desc.leafAt", laid_atlas_desc_leafAt), ("atlas/desc.kindOfSize", laid_atlas_desc_kindOfSize), ("atlas/desc.sizeOfKind", laid_atlas_desc_sizeOfKind)] }
def TlbPlaysSaid : Prop := tlbPlaysRow.holds Tryd.pinned (OpenSpec.ofChange tlbPlaysSpec)

/-- ITS FALSE NEIGHBOUR: 'it returns false'. Refute it at one input. -/
def tlbPlaysWrong : ChangeSpec := { name := "tlbPlays", fn := fun _ => fun
  | [d1, d2] => { results := [.lit (.bool false)], args := [d1, d2] }
  | _ => none }
def TlbPlaysWrongFalsely : Prop := tlbPlaysRow.holds Tryd.pinned (OpenSpec.ofChange tlbPlaysWrong)

/- THE SECOND FORM. 'bulk': how many values and letters a reading holds, each counted each time it is reached (what is shared counts as often as it is met; a slice's spare places count too). A statement '..UptoSaid' is the law's where the arguments, and the package variables that the reading takes, are together of bulk at most 1048576: NARROWER than '..Said'. Prove '..Said' where nothing that the law and all that it calls make is longer than what came in: it says more and counts as full. Else prove '..UptoSaid'. A law counts once. -/
mutual
def uptoBulk {H : Type} : DataW H → Nat
  | .lit (.string bytes) => bytes.length + 1
  | .lit _ => 1
  | .nil => 1
  | .ptr d => uptoBulk d + 1
  | .slice elems spare => uptoBulkAll elems + uptoBulkAll spare + 1
  | .agg parts => uptoBulkAll parts + 1
  | .iface _ d => uptoBulk d + 1
  | .map entries => uptoBulkEntries entries + 1
  | .held _ => 1
def uptoBulkAll {H : Type} : List (DataW H) → Nat
  | [] => 0
  | d :: r => uptoBulk d + uptoBulkAll r
def uptoBulkEntries {H : Type} : List (Lit × DataW H) → Nat
  | [] => 0
  | x :: r => uptoBulkEntry x + uptoBulkEntries r
def uptoBulkEntry {H : Type} : Lit × DataW H → Nat
  | (.string bytes, d) => bytes.length + uptoBulk d + 1
  | (_, d) => uptoBulk d + 1
 end
def uptoSmall : (H : Type) → List (DataW H) → Bool := fun _ ds => decide (uptoBulkAll ds ≤ 1048576)
def OpenSpec.upto (s : _root_.Go.ChangeSpec) : _root_.Go.OpenSpec := { _root_.Go.OpenSpec.ofChange s with cond := some uptoSmall }

/-- 'atlaslaw10.TlbDrops', WHERE WHAT IT READS IS OF BULK AT MOST 1048576: true; the input reads as it did. -/
def tlbDropsUptoRow : OpenClaim := { program := "ytfbapflbjkmocaadoor", sum := "7f3accaf00a4f9ac264bf3cbf6ffd3a21cfd053a3c42633d1888cc3b76f87ad2", func := "atlas/atlaslaw10.TlbDrops", spec := "tlbDrops", unfollowed := true, recurses := true, named := ["atlas/desc.kindOfSize", "atlas/desc.sizeOfKind", "atlas/desc.baseAt", "atlas/desc.tags", "atlas/desc.leafAt", "atlas/desc.firstKinds", "atlas/desc.secondKinds"], apart := false, laid := [("atlas/desc.firstKinds", laid_atlas_desc_firstKinds), ("atlas/desc.secondKinds", laid_atlas_desc_secondKinds), ("atlas/desc.tags", laid_atlas_desc_tags), ("atlas/desc.baseAt", laid_atlas_desc_baseAt), ("atlas/desc.leafAt", laid_atlas_desc_leafAt), ("atlas/desc.kindOfSize", laid_atlas_desc_kindOfSize), ("atlas/desc.sizeOfKind", laid_atlas_desc_sizeOfKind)], narrowed := true }
def TlbDropsUptoSaid : Prop := tlbDropsUptoRow.holds Tryd.pinned (OpenSpec.upto tlbDropsSpec)

/-- 'atlaslaw10.TlbMatches', WHERE WHAT IT READS IS OF BULK AT MOST 1048576: true; the input reads as it did. -/
def tlbMatchesUptoRow : OpenClaim := { program := "ytfbapflbjkmocaadoor", sum := "7f3accaf00a4f9ac264bf3cbf6ffd3a21cfd053a3c42633d1888cc3b76f87ad2", func := "atlas/atlaslaw10.TlbMatches", spec := "tlbMatches", unfollowed := true, recurses := true, named := ["atlas/desc.kindOfSize", "atlas/desc.sizeOfKind", "atlas/desc.baseAt", "atlas/desc.tags", "atlas/desc.leafAt", "atlas/desc.firstKinds", "atlas/desc.secondKinds"], apart := false, laid := [("atlas/desc.firstKinds", laid_atlas_desc_firstKinds), ("atlas/desc.secondKinds", laid_atlas_desc_secondKinds), ("atlas/desc.tags", laid_atlas_desc_tags), ("atlas/desc.baseAt", laid_atlas_desc_baseAt), ("atlas/desc.leafAt", laid_atlas_desc_leafAt), ("atlas/desc.kindOfSize", laid_atlas_desc_kindOfSize), ("atlas/desc.sizeOfKind", laid_atlas_desc_sizeOfKind)], narrowed := true }
def TlbMatchesUptoSaid : Prop := tlbMatchesUptoRow.holds Tryd.pinned (OpenSpec.upto tlbMatchesSpec)

/-- 'atlaslaw10.TlbKeeps', WHERE WHAT IT READS IS OF BULK AT MOST 1048576: true; the input reads as it did. -/
def tlbKeepsUptoRow : OpenClaim := { program := "ytfbapflbjkmocaadoor", sum := "7f3accaf00a4f9ac264bf3cbf6ffd3a21cfd053a3c42633d1888cc3b76f87ad2", func := "atlas/atlaslaw10.TlbKeeps", spec := "tlbKeeps", unfollowed := true, recurses := true, named := ["atlas/desc.kindOfSize", "atlas/desc.sizeOfKind", "atlas/desc.baseAt", "atlas/desc.tags", "atlas/desc.leafAt", "atlas/desc.firstKinds", "atlas/desc.secondKinds"], apart := false, laid := [("atlas/desc.firstKinds", laid_atlas_desc_firstKinds), ("atlas/desc.secondKinds", laid_atlas_desc_secondKinds), ("atlas/desc.tags", laid_atlas_desc_tags), ("atlas/desc.baseAt", laid_atlas_desc_baseAt), ("atlas/desc.leafAt", laid_atlas_desc_leafAt), ("atlas/desc.kindOfSize", laid_atlas_desc_kindOfSize), ("atlas/desc.sizeOfKind", laid_atlas_desc_sizeOfKind)], narrowed := true }
def TlbKeepsUptoSaid : Prop := tlbKeepsUptoRow.holds Tryd.pinned (OpenSpec.upto tlbKeepsSpec)

/-- 'atlaslaw10.TlbFresh', WHERE WHAT IT READS IS OF BULK AT MOST 1048576: true; the input reads as it did. -/
def tlbFreshUptoRow : OpenClaim := { program := "ytfbapflbjkmocaadoor", sum := "7f3accaf00a4f9ac264bf3cbf6ffd3a21cfd053a3c42633d1888cc3b76f87ad2", func := "atlas/atlaslaw10.TlbFresh", spec := "tlbFresh", unfollowed := true, recurses := true, named := ["atlas/desc.kindOfSize", "atlas/desc.sizeOfKind", "atlas/desc.baseAt", "atlas/desc.tags", "atlas/desc.leafAt", "atlas/desc.firstKinds", "atlas/desc.secondKinds"], apart := false, laid := [("atlas/desc.firstKinds", laid_atlas_desc_firstKinds), ("atlas/desc.secondKinds", laid_atlas_desc_secondKinds), ("atlas/desc.tags", laid_atlas_desc_tags), ("atlas/desc.baseAt", laid_atlas_desc_baseAt), ("atlas/desc.leafAt", laid_atlas_desc_leafAt), ("atlas/desc.kindOfSize", laid_atlas_desc_kindOfSize), ("atlas/desc.sizeOfKind", laid_atlas_desc_sizeOfKind)], narrowed := true }
def TlbFreshUptoSaid : Prop := tlbFreshUptoRow.holds Tryd.pinned (OpenSpec.upto tlbFreshSpec)

/-- 'atlaslaw10.TlbTells', WHERE WHAT IT READS IS OF BULK AT MOST 1048576: true; the input reads as it did. -/
def tlbTellsUptoRow : OpenClaim := { program := "ytfbapflbjkmocaadoor", sum := "7f3accaf00a4f9ac264bf3cbf6ffd3a21cfd053a3c42633d1888cc3b76f87ad2", func := "atlas/atlaslaw10.TlbTells", spec := "tlbTells", unfollowed := true, recurses := true, named := ["atlas/desc.kindOfSize", "atlas/desc.sizeOfKind", "atlas/desc.baseAt", "atlas/desc.tags", "atlas/desc.leafAt", "atlas/desc.firstKinds", "atlas/desc.secondKinds"], apart := false, laid := [("atlas/desc.firstKinds", laid_atlas_desc_firstKinds), ("atlas/desc.secondKinds", laid_atlas_desc_secondKinds), ("atlas/desc.tags", laid_atlas_desc_tags), ("atlas/desc.baseAt", laid_atlas_desc_baseAt), ("atlas/desc.leafAt", laid_atlas_desc_leafAt), ("atlas/desc.kindOfSize", laid_atlas_desc_kindOfSize), ("atlas/desc.sizeOfKind", laid_atlas_desc_sizeOfKind)], narrowed := true }
def TlbTellsUptoSaid : Prop := tlbTellsUptoRow.holds Tryd.pinned (OpenSpec.upto tlbTellsSpec)

/-- 'atlaslaw10.TlbPlays', WHERE WHAT IT READS IS OF BULK AT MOST 1048576: true; the input reads as it did. -/
def tlbPlaysUptoRow : OpenClaim := { program := "ytfbapflbjkmocaadoor", sum := "7f3accaf00a4f9ac264bf3cbf6ffd3a21cfd053a3c42633d1888cc3b76f87ad2", func := "atlas/atlaslaw10.TlbPlays", spec := "tlbPlays", unfollowed := true, recurses := true, named := ["atlas/desc.kindOfSize", "atlas/desc.sizeOfKind", "atlas/desc.baseAt", "atlas/desc.tags", "atlas/desc.leafAt", "atlas/desc.firstKinds", "atlas/desc.secondKinds"], apart := false, laid := [("atlas/desc.firstKinds", laid_atlas_desc_firstKinds), ("atlas/desc.secondKinds", laid_atlas_desc_secondKinds), ("atlas/desc.tags", laid_atlas_desc_tags), ("atlas/desc.baseAt", laid_atlas_desc_baseAt), ("atlas/desc.leafAt", laid_atlas_desc_leafAt), ("atlas/desc.kindOfSize", laid_atlas_desc_kindOfSize), ("atlas/desc.sizeOfKind", laid_atlas_desc_sizeOfKind)], narrowed := true }
def TlbPlaysUptoSaid : Prop := tlbPlaysUptoRow.holds Tryd.pinned (OpenSpec.upto tlbPlaysSpec)

end Rows
end Go.Proofs.YtfbapflbjkmocaaDoor
