import Derived.Test.YtbbnodhpafiplaaDoorMQ9
import Derived.Test.YtbbnodhpafiplaaDoorCards
import Derived.Test.YtbbnodhpafiplaaDoorTie
import Derived.WalkKit
import Derived.ProofKit
import Derived.OpenShut
import Derived.Deep.DeepHandedRow
import Derived.Lib.LaidTab
namespace Go.Proofs.YtbbnodhpafiplaaDoor.hierOwn
open Go.ChangeShapes Go.WideShapes Go.ChangeAt Go.RowKit
set_option linter.unusedVariables false
set_option linter.unusedSimpArgs false

theorem own : ownKnob Tryd.prog.godebug = none := by kernel_rfl
theorem laidOut : laidOutB Tryd.prog = true := by kernel_rfl
theorem gn_firstKinds : Tryd.prog.globalNamed "atlas/desc.firstKinds" = some 3 := by kernel_rfl
theorem gt_firstKinds : (Tryd.prog.globals[3]?).map (·.type) = some 117 := by kernel_rfl
theorem gc_firstKinds : Tryd.prog.cellsOf 117 = 4 := by kernel_rfl
theorem gn_secondKinds : Tryd.prog.globalNamed "atlas/desc.secondKinds" = some 5 := by kernel_rfl
theorem gt_secondKinds : (Tryd.prog.globals[5]?).map (·.type) = some 117 := by kernel_rfl
theorem gc_secondKinds : Tryd.prog.cellsOf 117 = 4 := by kernel_rfl
theorem gn_tags : Tryd.prog.globalNamed "atlas/desc.tags" = some 4 := by kernel_rfl
theorem gt_tags : (Tryd.prog.globals[4]?).map (·.type) = some 120 := by kernel_rfl
theorem gc_tags : Tryd.prog.cellsOf 120 = 6 := by kernel_rfl
theorem gn_baseAt : Tryd.prog.globalNamed "atlas/desc.baseAt" = some 0 := by kernel_rfl
theorem gt_baseAt : (Tryd.prog.globals[0]?).map (·.type) = some 96 := by kernel_rfl
theorem gc_baseAt : Tryd.prog.cellsOf 96 = 6 := by kernel_rfl
theorem gn_leafAt : Tryd.prog.globalNamed "atlas/desc.leafAt" = some 6 := by kernel_rfl
theorem gt_leafAt : (Tryd.prog.globals[6]?).map (·.type) = some 127 := by kernel_rfl
theorem gc_leafAt : Tryd.prog.cellsOf 127 = 36 := by kernel_rfl
theorem gn_kindOfSize : Tryd.prog.globalNamed "atlas/desc.kindOfSize" = some 1 := by kernel_rfl
theorem gt_kindOfSize : (Tryd.prog.globals[1]?).map (·.type) = some 97 := by kernel_rfl
theorem gc_kindOfSize : Tryd.prog.cellsOf 97 = 5 := by kernel_rfl
theorem gn_sizeOfKind : Tryd.prog.globalNamed "atlas/desc.sizeOfKind" = some 2 := by kernel_rfl
theorem gt_sizeOfKind : (Tryd.prog.globals[2]?).map (·.type) = some 96 := by kernel_rfl
theorem gc_sizeOfKind : Tryd.prog.cellsOf 96 = 6 := by kernel_rfl
/-- What the row's list gives: the tables. -/
theorem table {W : World} (h : laidMetH Tryd.prog Rows.hierOwnRow.laid W) : TR W := by
  obtain ⟨ps, hL, _⟩ := h
  have hleaf : Tb .u8 W 6 lLeaf := by
    intro i v hv
    have hi : i < 36 := by
      have := (List.getElem?_eq_some_iff.1 hv).1
      simpa [lLeaf] using this
    obtain ⟨l, h1, h2⟩ := (show ∀ i, i < 36 → ∃ l, [[0, 0, 0, 0, 0, 0], [0, 0, 0, 0, 0, 0], [10, 15, 12, 16, 17, 4], [10, 15, 12, 16, 17, 4], [4, 9, 12, 10, 11, 15], [4, 9, 6, 10, 11, (0 : Int)]][i / 6]? = some l ∧ l[i % 6]? = lLeaf[i]? by
      intro i hi
      rcases (show i / 6 = 0 ∨ i / 6 = 1 ∨ i / 6 = 2 ∨ i / 6 = 3 ∨ i / 6 = 4 ∨ i / 6 = 5 by omega) with h | h | h | h | h | h <;> rcases (show i % 6 = 0 ∨ i % 6 = 1 ∨ i % 6 = 2 ∨ i % 6 = 3 ∨ i % 6 = 4 ∨ i % 6 = 5 by omega) with g | g | g | g | g | g <;> (rw [h, g, show i = i / 6 * 6 + i % 6 by omega, h, g]; exact ⟨_, rfl, rfl⟩)) i hi
    have hc := tab2_of hL [[0, 0, 0, 0, 0, 0], [0, 0, 0, 0, 0, 0], [10, 15, 12, 16, 17, 4], [10, 15, 12, 16, 17, 4], [4, 9, 12, 10, 11, 15], [4, 9, 6, 10, 11, 0]] (.tail _ (.tail _ (.tail _ (.tail _ (.head _))))) gn_leafAt gt_leafAt Tryd.underlying127 gc_leafAt (i / 6) (i % 6) l v h1 (by rw [h2]; exact hv) (by omega) (by omega)
    rw [show i / 6 * 6 + i % 6 = i by omega] at hc
    exact hc
  exact ⟨⟨⟨⟨(tab_of hL lFirst (.head _) gn_firstKinds gt_firstKinds Tryd.underlying117 Tryd.underlying5 cells_u8 gc_firstKinds), (tab_of hL lSecond (.tail _ (.head _)) gn_secondKinds gt_secondKinds Tryd.underlying117 Tryd.underlying5 cells_u8 gc_secondKinds), (tab_of hL lBase (.tail _ (.tail _ (.tail _ (.head _)))) gn_baseAt gt_baseAt Tryd.underlying96 Tryd.underlying5 cells_u8 gc_baseAt), hleaf⟩, (tab_of hL lTags (.tail _ (.tail _ (.head _))) gn_tags gt_tags Tryd.underlying120 Tryd.underlying31 cells_u32 gc_tags)⟩, (tab_of hL lSize (.tail _ (.tail _ (.tail _ (.tail _ (.tail _ (.tail _ (.head _))))))) gn_sizeOfKind gt_sizeOfKind Tryd.underlying96 Tryd.underlying5 cells_u8 gc_sizeOfKind)⟩, (tab_of hL lKind (.tail _ (.tail _ (.tail _ (.tail _ (.tail _ (.head _)))))) gn_kindOfSize gt_kindOfSize Tryd.underlying97 Tryd.underlying5 cells_u8 gc_kindOfSize)⟩
set_option maxRecDepth 100000 in
theorem contract (H : Type) (enc : TypeId × Value → H) (W : World) (base : Nat) (args : Array Value) (ds gs : List (DataW H)) (before : List MemPlace)
    (hval : ∀ (j : Nat) t v, Tryd.f6.params[j]? = some t → args[j]? = some v → Value.okWide Tryd.prog W .any base t v)
    (hW : DataW.Whole enc Tryd.prog Tryd.f6.params.toList Rows.hierOwnSpec.vars false W args.toList ds gs before) (hL : laidMetH Tryd.prog Rows.hierOwnRow.laid W) {V : List TypeId} (hwt : (DataW.weightsEach Tryd.prog (Tryd.f6.params.toList ++ V) (ds ++ gs)).all (· ≤ reachBytes) = true) :
    Calls Tryd.prog 6 args W fun e W' => ∃ v, e = .returned v ∧ Rows.hierOwnSpec.post enc Tryd.prog Tryd.f6 false true false false W args v W' := by
  have hW' := hW
  obtain ⟨p, q, hA0, hV, rfl, hfz, hnd⟩ := hW
  have hA : DataW.TrodAll enc Tryd.prog W 0 (fun _ => true) true Tryd.f6.params.toList args.toList ds p := hA0
  rw [Tryd.params6] at hA hval
  obtain ⟨v0, vs0, d0, ds0, p0, q0, hargs, rfl, rfl, h0, r0⟩ := trodAll_cons hA
  obtain ⟨v1, vs1, d1, ds1, p1, q1, rfl, rfl, rfl, h1, r1⟩ := trodAll_cons r0
  obtain ⟨v2, vs2, d2, ds2, p2, q2, rfl, rfl, rfl, h2, r2⟩ := trodAll_cons r1
  obtain ⟨v3, vs3, d3, ds3, p3, q3, rfl, rfl, rfl, h3, r3⟩ := trodAll_cons r2
  obtain ⟨rfl, rfl, rfl⟩ := trodAll_nil r3
  obtain rfl : args = #[v0, v1, v2, v3] := by cases args; simp_all
  obtain ⟨rfl, rfl⟩ := trodVars_none hV
  rw [Tryd.params6] at hwt
  simp only [DataW.weightsEach, List.cons_append, List.nil_append, List.append_nil, List.all_append, Bool.and_eq_true, List.toList_toArray] at hwt
  have hw3 : (d3.weights Tryd.prog 23).all (· ≤ reachBytes) = true := hwt.2.2.2
  obtain ⟨a0, rfl, rfl, rfl, w0⟩ := open_int Tryd.underlying3 (hval 0 3 v0 rfl rfl) h0
  have b0 := bounds_i64 w0
  obtain ⟨a1, rfl, rfl, rfl, w1⟩ := open_int Tryd.underlying3 (hval 1 3 v1 rfl rfl) h1
  have b1 := bounds_i64 w1
  obtain ⟨a2, rfl, rfl, rfl, w2⟩ := open_int Tryd.underlying3 (hval 2 3 v2 rfl rfl) h2
  have b2 := bounds_i64 w2
  obtain ⟨s3, n3, c3, rfl⟩ := okWide_slice Tryd.underlying23 (hval 3 23 v3 rfl rfl)
  have h3k := h3
  obtain ⟨fuel3, hf3⟩ := h3
  have wt3 := weigh reachBytes Tryd.underlying23 hf3 hw3
  rw [bytes_op] at wt3
  obtain ⟨ops3, rfl, S3, hb3⟩ := open_ops hf3
  clear hA0
  simp only [List.append_nil] at hW'
  have hlt3 : ∀ y ∈ p3, y.block < W.heap.size := fun y hy => by simpa using hW'.lt y (by simp [hy])
  refine (law_own W a0 a1 a2 s3 c3 ops3 S3 (table hL) hb3 wt3).mono fun e W' ⟨he, bel⟩ => ?_
  subst he
  exact ⟨_, rfl, _, _, _, [], _, [], hW', trodAll_mk1 (shut_bool Tryd.underlying4 _), (trodAll_cons_mk (shut_int Tryd.underlying3 w0) (trodAll_cons_mk (shut_int Tryd.underlying3 w1) (trodAll_cons_mk (shut_int Tryd.underlying3 w2) (trodAll_cons_mk (Below.trod laidOut (by kernel_rfl) (of_decide_eq_true (by kernel_rfl)) h3k bel hlt3) trodAll_mk0)))), rfl, bel.frame _, fun h => by cases h⟩

/-- For the witness's world: the tables hold what their initialisers lay. -/
def layN (l : List Value) : Obj → Obj
  | .cells _ t frozen => .cells l.toArray t frozen
  | o => o
/-- The cells of a listed table, out of what is listed. -/
def litV : DataW Unit → Value
  | .lit (.int k z) => .int k z
  | _ => .int .u8 0
def cellsD : DataW Unit → List Value
  | .agg l => l.map litV
  | _ => []
set_option maxRecDepth 100000 in
theorem laid_met (os : Os) : laidMet Tryd.prog Rows.hierOwnRow.laid (({ World.holding Tryd.prog os ⟨#[], #[], []⟩ with heap := ((((((((World.holding Tryd.prog os ⟨#[], #[], []⟩).heap.modify 3 (layN [.int .u8 0, .int .u8 1, .int .u8 2, .int .u8 0])).modify 5 (layN [.int .u8 0, .int .u8 4, .int .u8 5, .int .u8 5])).modify 4 (layN [.int .u32 0, .int .u32 1, .int .u32 2, .int .u32 262146, .int .u32 1, .int .u32 2])).modify 0 (layN [.int .u8 0, .int .u8 10, .int .u8 20, .int .u8 24, .int .u8 16, .int .u8 12])).modify 6 (layN [.int .u8 0, .int .u8 0, .int .u8 0, .int .u8 0, .int .u8 0, .int .u8 0, .int .u8 0, .int .u8 0, .int .u8 0, .int .u8 0, .int .u8 0, .int .u8 0, .int .u8 10, .int .u8 15, .int .u8 12, .int .u8 16, .int .u8 17, .int .u8 4, .int .u8 10, .int .u8 15, .int .u8 12, .int .u8 16, .int .u8 17, .int .u8 4, .int .u8 4, .int .u8 9, .int .u8 12, .int .u8 10, .int .u8 11, .int .u8 15, .int .u8 4, .int .u8 9, .int .u8 6, .int .u8 10, .int .u8 11, .int .u8 0])).modify 1 (layN [.int .u8 0, .int .u8 5, .int .u8 4, .int .u8 2, .int .u8 3])).modify 2 (layN [.int .u8 0, .int .u8 0, .int .u8 3, .int .u8 4, .int .u8 2, .int .u8 1])) } : World).forCall (fun _ _ => 0) ⟨#[], #[.int .i64 0, .int .i64 0, .int .i64 0, .slice none 0 0], []⟩).memory :=
  laidMet_of_run' 8 (by kernel_rfl) (by kernel_rfl)
theorem reads (os : Os) {H : Type} (enc : TypeId × Value → H) : ∃ places, DataW.whole enc Tryd.prog (({ World.holding Tryd.prog os ⟨#[], #[], []⟩ with heap := ((((((((World.holding Tryd.prog os ⟨#[], #[], []⟩).heap.modify 3 (layN [.int .u8 0, .int .u8 1, .int .u8 2, .int .u8 0])).modify 5 (layN [.int .u8 0, .int .u8 4, .int .u8 5, .int .u8 5])).modify 4 (layN [.int .u32 0, .int .u32 1, .int .u32 2, .int .u32 262146, .int .u32 1, .int .u32 2])).modify 0 (layN [.int .u8 0, .int .u8 10, .int .u8 20, .int .u8 24, .int .u8 16, .int .u8 12])).modify 6 (layN [.int .u8 0, .int .u8 0, .int .u8 0, .int .u8 0, .int .u8 0, .int .u8 0, .int .u8 0, .int .u8 0, .int .u8 0, .int .u8 0, .int .u8 0, .int .u8 0, .int .u8 10, .int .u8 15, .int .u8 12, .int .u8 16, .int .u8 17, .int .u8 4, .int .u8 10, .int .u8 15, .int .u8 12, .int .u8 16, .int .u8 17, .int .u8 4, .int .u8 4, .int .u8 9, .int .u8 12, .int .u8 10, .int .u8 11, .int .u8 15, .int .u8 4, .int .u8 9, .int .u8 6, .int .u8 10, .int .u8 11, .int .u8 0])).modify 1 (layN [.int .u8 0, .int .u8 5, .int .u8 4, .int .u8 2, .int .u8 3])).modify 2 (layN [.int .u8 0, .int .u8 0, .int .u8 3, .int .u8 4, .int .u8 2, .int .u8 1])) } : World).forCall (fun _ _ => 0) ⟨#[], #[.int .i64 0, .int .i64 0, .int .i64 0, .slice none 0 0], []⟩).memory Tryd.f6.params.toList Rows.hierOwnSpec.vars false #[(.int .i64 0 : Value), (.int .i64 0 : Value), (.int .i64 0 : Value), (.slice none 0 0 : Value)].toList 8 = some ([.lit (.int .i64 0), .lit (.int .i64 0), .lit (.int .i64 0), .nil], [], places) :=
  ⟨[], by kernel_rfl⟩

set_option maxRecDepth 100000 in
theorem lifted (os : Os) (started : os.Started) (H : Type) (enc : TypeId × Value → H) (F : Stop.Interp) :
    ReturnsInHanded {} Tryd.checked os 6 .any ((OpenSpec.ofChange Rows.hierOwnSpec).preRow enc Tryd.prog Tryd.f6 Rows.hierOwnRow.domain false Rows.hierOwnRow.laid) (((OpenSpec.ofChange Rows.hierOwnSpec).at F).post enc Tryd.prog Tryd.f6 false true false false) := by
  obtain ⟨places, hx⟩ := reads os enc
  refine returnsInHanded_of_row (C := Tryd.checked) (s := OpenSpec.ofChange Rows.hierOwnSpec) own started (by kernel_rfl) Tryd.func6
    (witness_row_at (enc := enc) (C := Tryd.checked) false ({ World.holding Tryd.prog os ⟨#[], #[], []⟩ with heap := ((((((((World.holding Tryd.prog os ⟨#[], #[], []⟩).heap.modify 3 (layN [.int .u8 0, .int .u8 1, .int .u8 2, .int .u8 0])).modify 5 (layN [.int .u8 0, .int .u8 4, .int .u8 5, .int .u8 5])).modify 4 (layN [.int .u32 0, .int .u32 1, .int .u32 2, .int .u32 262146, .int .u32 1, .int .u32 2])).modify 0 (layN [.int .u8 0, .int .u8 10, .int .u8 20, .int .u8 24, .int .u8 16, .int .u8 12])).modify 6 (layN [.int .u8 0, .int .u8 0, .int .u8 0, .int .u8 0, .int .u8 0, .int .u8 0, .int .u8 0, .int .u8 0, .int .u8 0, .int .u8 0, .int .u8 0, .int .u8 0, .int .u8 10, .int .u8 15, .int .u8 12, .int .u8 16, .int .u8 17, .int .u8 4, .int .u8 10, .int .u8 15, .int .u8 12, .int .u8 16, .int .u8 17, .int .u8 4, .int .u8 4, .int .u8 9, .int .u8 12, .int .u8 10, .int .u8 11, .int .u8 15, .int .u8 4, .int .u8 9, .int .u8 6, .int .u8 10, .int .u8 11, .int .u8 0])).modify 1 (layN [.int .u8 0, .int .u8 5, .int .u8 4, .int .u8 2, .int .u8 3])).modify 2 (layN [.int .u8 0, .int .u8 0, .int .u8 3, .int .u8 4, .int .u8 2, .int .u8 1])) } : World) #[.int .i64 0, .int .i64 0, .int .i64 0, .slice none 0 0] rfl (by kernel_rfl) (by kernel_rfl) (by kernel_rfl)
      (OpenSpec.preRow_of_cond 8 hx (by kernel_rfl) (fun k hk => by cases hk) (by kernel_rfl) (laid_met os))) ?_
  intro W base args ds gs before hval hW _ hcond hwt hL hS _
  exact contract H enc W base args ds gs before hval hW hL hwt

theorem said : Rows.HierOwnSaid :=
  OpenClaim.holds_of_cond 6 Tryd.f6 rfl rfl rfl rfl rfl rfl rfl ⟨rfl, rfl, rfl, rfl, rfl⟩ rfl rfl rfl rfl rfl (by kernel_rfl) Tryd.func6 (by kernel_rfl)
    (of_decide_eq_true (by kernel_rfl)) (by unfold Func.isWrapper; first | (rw [if_pos (by decide +kernel)]; kernel_rfl) | (rw [if_neg (by decide +kernel)]; exact ⟨rfl, rfl⟩))
    (fun os started H enc _ F => by rw [OpenClaim.pre_eq_preRow]; exact lifted os started H enc F)

theorem plain (f : FuncId) (fn : Func) (hf : Tryd.pinned.checked.prog.funcNamed "atlas/atlaslaw11.HierOwn" = some f) (hfn : Tryd.pinned.checked.prog.funcs[f]? = some fn) :
    false = Tryd.pinned.checked.prog.looks [] ∧ ∀ (j : Nat) t, fn.params[j]? = some t → Tryd.pinned.checked.prog.wantsStandIn t = false := by
  obtain rfl : f = 6 := Option.some.inj ((show Tryd.prog.funcNamed "atlas/atlaslaw11.HierOwn" = some 6 by kernel_rfl).symm.trans hf) |>.symm
  obtain rfl : fn = Tryd.f6 := (Option.some.inj (Tryd.func6.symm.trans hfn)).symm
  refine ⟨by kernel_rfl, fun j t ht => ?_⟩
  rw [Tryd.params6] at ht
  have hm := Array.mem_of_getElem? ht
  have hm2 : t = 3 ∨ t = 3 ∨ t = 3 ∨ t = 23 := by simpa using hm
  rcases hm2 with rfl | rfl | rfl | rfl
  · exact (show Tryd.prog.wantsStandIn 3 = false by kernel_rfl)
  · exact (show Tryd.prog.wantsStandIn 3 = false by kernel_rfl)
  · exact (show Tryd.prog.wantsStandIn 3 = false by kernel_rfl)
  · exact (show Tryd.prog.wantsStandIn 23 = false by kernel_rfl)
end Go.Proofs.YtbbnodhpafiplaaDoor.hierOwn
namespace Go.Proofs.YtbbnodhpafiplaaDoor
/-- The card. -/
theorem hierOwn_card : Rows.HierOwnCardSaid :=
  Claim7.holds_tied_plain_at .later [] _ _ _ _ hierOwn.said (fun _ h => by cases h) (by kernel_rfl) (fun _ h => by cases h) hierOwn_row_tie rfl ⟨rfl, rfl⟩ (by kernel_rfl) rfl hierOwn.plain (by kernel_rfl)
#print axioms hierOwn_card
end Go.Proofs.YtbbnodhpafiplaaDoor
