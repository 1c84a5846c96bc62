import Derived.Test.YtmcloaonpkfibaaDoorLk
import Derived.Test.YtmcloaonpkfibaaDoorOe
import Derived.Test.YtmcloaonpkfibaaDoorCards
import Derived.Test.YtmcloaonpkfibaaDoorTie
import Derived.WalkKit
import Derived.ProofKit
import Derived.OpenShut
import Derived.Deep.DeepHandedRow
import Derived.Lib.LaidTab
namespace Go.Proofs.YtmcloaonpkfibaaDoor.attrKinds
open Go.ChangeShapes Go.WideShapes Go.ChangeAt Go.RowKit
set_option linter.unusedVariables false
set_option linter.unusedSimpArgs false

theorem own : ownKnob Tryd.prog.godebug = none := by kernel_rfl
theorem gn_plain : Tryd.prog.globalNamed "atlas/attr.plain" = some 3 := by kernel_rfl
theorem gt_plain : (Tryd.prog.globals[3]?).map (·.type) = some 69 := by kernel_rfl
theorem gc_plain : Tryd.prog.cellsOf 69 = 80 := by kernel_rfl
theorem gn_types : Tryd.prog.globalNamed "atlas/attr.typeWords" = some 0 := by kernel_rfl
theorem gt_types : (Tryd.prog.globals[0]?).map (·.type) = some 46 := by kernel_rfl
theorem gc_types : Tryd.prog.cellsOf 46 = 3 := by kernel_rfl
theorem gn_caches : Tryd.prog.globalNamed "atlas/attr.cacheWords" = some 1 := by kernel_rfl
theorem gt_caches : (Tryd.prog.globals[1]?).map (·.type) = some 48 := by kernel_rfl
theorem gc_caches : Tryd.prog.cellsOf 48 = 4 := by kernel_rfl
theorem gn_shares : Tryd.prog.globalNamed "atlas/attr.shareWords" = some 2 := by kernel_rfl
theorem gt_shares : (Tryd.prog.globals[2]?).map (·.type) = some 46 := by kernel_rfl
theorem gc_shares : Tryd.prog.cellsOf 46 = 3 := by kernel_rfl
/-- What the row's list gives: the tables. -/
theorem table {W : World} (h : laidMetH Tryd.prog Rows.attrKindsRow.laid W) (hs : W.ShapedOpen Tryd.prog) : TA W := by
  obtain ⟨ps, hL, _⟩ := h
  exact ⟨plain_of hL (.tail _ (.head _)) gn_plain gt_plain gc_plain, words_of hL lTypes (.tail _ (.tail _ (.head _))) gn_types gt_types Tryd.underlying46 gc_types rfl, words_of hL lCaches (.tail _ (.tail _ (.tail _ (.head _)))) gn_caches gt_caches Tryd.underlying48 gc_caches rfl, words_of hL lShares (.tail _ (.tail _ (.tail _ (.tail _ (.head _))))) gn_shares gt_shares Tryd.underlying46 gc_shares rfl, Tryd.laysM147.s1_3 W hs⟩
theorem contract (H : Type) (enc : TypeId × Value → H) (W : World) (base : Nat) (args : Array Value) (ds gs : List (DataW H)) (before : List MemPlace)
    (hval : ∀ (j : Nat) t v, Tryd.f5.params[j]? = some t → args[j]? = some v → Value.okWide Tryd.prog W .any base t v)
    (hW : DataW.Whole enc Tryd.prog Tryd.f5.params.toList Rows.attrKindsSpec.vars false W args.toList ds gs before) (hL : laidMetH Tryd.prog Rows.attrKindsRow.laid W) (hS : W.ShapedOpen Tryd.prog) :
    Calls Tryd.prog 5 args W fun e W' => ∃ v, e = .returned v ∧ Rows.attrKindsSpec.post enc Tryd.prog Tryd.f5 false true false false W args v W' := by
  have hW' := hW
  obtain ⟨p, q, hA0, hV, rfl, hfz, hnd⟩ := hW
  have hA : DataW.TrodAll enc Tryd.prog W 0 (fun _ => true) true Tryd.f5.params.toList args.toList ds p := hA0
  rw [Tryd.params5] at hA hval
  obtain ⟨v0, vs0, d0, ds0, p0, q0, hargs, rfl, rfl, h0, r0⟩ := trodAll_cons hA
  obtain ⟨v1, vs1, d1, ds1, p1, q1, rfl, rfl, rfl, h1, r1⟩ := trodAll_cons r0
  obtain ⟨v2, vs2, d2, ds2, p2, q2, rfl, rfl, rfl, h2, r2⟩ := trodAll_cons r1
  obtain ⟨rfl, rfl, rfl⟩ := trodAll_nil r2
  obtain rfl : args = #[v0, v1, v2] := by cases args; simp_all
  obtain ⟨rfl, rfl⟩ := trodVars_none hV
  obtain ⟨a0, rfl, rfl, rfl⟩ := open_bool Tryd.underlying4 (hval 0 4 v0 rfl rfl) h0
  obtain ⟨a1, rfl, rfl, rfl, w1⟩ := open_int Tryd.underlying22 (hval 1 22 v1 rfl rfl) h1
  have b1 := bounds_u32 w1
  obtain ⟨a2, rfl, rfl, rfl, w2⟩ := open_int Tryd.underlying22 (hval 2 22 v2 rfl rfl) h2
  have b2 := bounds_u32 w2
  clear hA0
  simp only [List.append_nil] at hW'
  refine (law_kinds a0 a1 a2 W (table hL hS) (by omega) (by omega)).mono fun e W' ⟨he, bel⟩ => ?_
  subst he
  exact ⟨_, rfl, _, _, _, [], [], [], hW', trodAll_mk1 (shut_bool Tryd.underlying4 _), (trodAll_cons_mk (shut_bool Tryd.underlying4 _) (trodAll_cons_mk (shut_int Tryd.underlying22 w1) (trodAll_cons_mk (shut_int Tryd.underlying22 w2) trodAll_mk0))), rfl, bel.frame _, fun h => by cases h⟩

/-- For the witness's world: the tables hold what their initialisers lay. -/
def layN (l : List Value) : Obj → Obj
  | .cells _ t frozen => .cells l.toArray t frozen
  | o => o
/-- The cells of a table of the library's, out of the form's constant. -/
def litV : DataW Unit → Value
  | .lit (.int k z) => .int k z
  | _ => .int .u8 0
def cellsD : DataW Unit → List Value
  | .agg l => l.map litV
  | _ => []
set_option maxRecDepth 100000 in
theorem laid_met (os : Os) : laidMet Tryd.prog Rows.attrKindsRow.laid (({ World.holding Tryd.prog os ⟨#[], #[], []⟩ with heap := (((((((World.holding Tryd.prog os ⟨#[], #[], []⟩).heap.modify 6 (layN [.int .u8 128, .int .u8 191, .int .u8 160, .int .u8 191, .int .u8 128, .int .u8 159, .int .u8 144, .int .u8 191, .int .u8 128, .int .u8 143, .int .u8 0, .int .u8 0, .int .u8 0, .int .u8 0, .int .u8 0, .int .u8 0, .int .u8 0, .int .u8 0, .int .u8 0, .int .u8 0, .int .u8 0, .int .u8 0, .int .u8 0, .int .u8 0, .int .u8 0, .int .u8 0, .int .u8 0, .int .u8 0, .int .u8 0, .int .u8 0, .int .u8 0, .int .u8 0])).modify 3 (layN [.bool true, .int .i64 0, .int .i64 0, .int .i64 0, .int .i64 2, .bool true, .int .i64 1, .int .i64 0, .int .i64 0, .int .i64 2, .bool true, .int .i64 2, .int .i64 2, .int .i64 2, .int .i64 0, .bool true, .int .i64 2, .int .i64 3, .int .i64 3, .int .i64 0, .bool true, .int .i64 2, .int .i64 0, .int .i64 0, .int .i64 0, .bool false, .int .i64 0, .int .i64 0, .int .i64 0, .int .i64 0, .bool false, .int .i64 0, .int .i64 0, .int .i64 0, .int .i64 0, .bool true, .int .i64 2, .int .i64 1, .int .i64 1, .int .i64 0, .bool true, .int .i64 1, .int .i64 0, .int .i64 0, .int .i64 0, .bool false, .int .i64 0, .int .i64 0, .int .i64 0, .int .i64 0, .bool false, .int .i64 0, .int .i64 0, .int .i64 0, .int .i64 0, .bool false, .int .i64 0, .int .i64 0, .int .i64 0, .int .i64 0, .bool false, .int .i64 0, .int .i64 0, .int .i64 0, .int .i64 0, .bool false, .int .i64 0, .int .i64 0, .int .i64 0, .int .i64 0, .bool false, .int .i64 0, .int .i64 0, .int .i64 0, .int .i64 0, .bool false, .int .i64 0, .int .i64 0, .int .i64 0, .int .i64 0])).modify 0 (layN (lTypes.map Value.string))).modify 1 (layN (lCaches.map Value.string))).modify 2 (layN (lShares.map Value.string))).modify 5 (layN (cellsD Go.Pinned.utf8First))) } : World).forCall (fun _ _ => 0) ⟨#[], #[.bool false, .int .u32 0, .int .u32 0], []⟩).memory :=
  laidMet_of_run' 8 (by kernel_rfl) (by kernel_rfl)
theorem reads (os : Os) {H : Type} (enc : TypeId × Value → H) : ∃ places, DataW.whole enc Tryd.prog (({ World.holding Tryd.prog os ⟨#[], #[], []⟩ with heap := (((((((World.holding Tryd.prog os ⟨#[], #[], []⟩).heap.modify 6 (layN [.int .u8 128, .int .u8 191, .int .u8 160, .int .u8 191, .int .u8 128, .int .u8 159, .int .u8 144, .int .u8 191, .int .u8 128, .int .u8 143, .int .u8 0, .int .u8 0, .int .u8 0, .int .u8 0, .int .u8 0, .int .u8 0, .int .u8 0, .int .u8 0, .int .u8 0, .int .u8 0, .int .u8 0, .int .u8 0, .int .u8 0, .int .u8 0, .int .u8 0, .int .u8 0, .int .u8 0, .int .u8 0, .int .u8 0, .int .u8 0, .int .u8 0, .int .u8 0])).modify 3 (layN [.bool true, .int .i64 0, .int .i64 0, .int .i64 0, .int .i64 2, .bool true, .int .i64 1, .int .i64 0, .int .i64 0, .int .i64 2, .bool true, .int .i64 2, .int .i64 2, .int .i64 2, .int .i64 0, .bool true, .int .i64 2, .int .i64 3, .int .i64 3, .int .i64 0, .bool true, .int .i64 2, .int .i64 0, .int .i64 0, .int .i64 0, .bool false, .int .i64 0, .int .i64 0, .int .i64 0, .int .i64 0, .bool false, .int .i64 0, .int .i64 0, .int .i64 0, .int .i64 0, .bool true, .int .i64 2, .int .i64 1, .int .i64 1, .int .i64 0, .bool true, .int .i64 1, .int .i64 0, .int .i64 0, .int .i64 0, .bool false, .int .i64 0, .int .i64 0, .int .i64 0, .int .i64 0, .bool false, .int .i64 0, .int .i64 0, .int .i64 0, .int .i64 0, .bool false, .int .i64 0, .int .i64 0, .int .i64 0, .int .i64 0, .bool false, .int .i64 0, .int .i64 0, .int .i64 0, .int .i64 0, .bool false, .int .i64 0, .int .i64 0, .int .i64 0, .int .i64 0, .bool false, .int .i64 0, .int .i64 0, .int .i64 0, .int .i64 0, .bool false, .int .i64 0, .int .i64 0, .int .i64 0, .int .i64 0])).modify 0 (layN (lTypes.map Value.string))).modify 1 (layN (lCaches.map Value.string))).modify 2 (layN (lShares.map Value.string))).modify 5 (layN (cellsD Go.Pinned.utf8First))) } : World).forCall (fun _ _ => 0) ⟨#[], #[.bool false, .int .u32 0, .int .u32 0], []⟩).memory Tryd.f5.params.toList Rows.attrKindsSpec.vars false #[(.bool false : Value), (.int .u32 0 : Value), (.int .u32 0 : Value)].toList 8 = some ([.lit (.bool false), .lit (.int .u32 0), .lit (.int .u32 0)], [], places) :=
  ⟨[], by kernel_rfl⟩

set_option maxRecDepth 100000 in
theorem lifted (os : Os) (started : os.Started) (H : Type) (enc : TypeId × Value → H) (F : Stop.Interp) :
    ReturnsInHanded {} Tryd.checked os 5 .any ((OpenSpec.ofChange Rows.attrKindsSpec).preRow enc Tryd.prog Tryd.f5 Rows.attrKindsRow.domain false Rows.attrKindsRow.laid) (((OpenSpec.ofChange Rows.attrKindsSpec).at F).post enc Tryd.prog Tryd.f5 false true false false) := by
  obtain ⟨places, hx⟩ := reads os enc
  refine returnsInHanded_of_row (C := Tryd.checked) (s := OpenSpec.ofChange Rows.attrKindsSpec) own started (by kernel_rfl) Tryd.func5
    (witness_row_at (enc := enc) (C := Tryd.checked) false ({ World.holding Tryd.prog os ⟨#[], #[], []⟩ with heap := (((((((World.holding Tryd.prog os ⟨#[], #[], []⟩).heap.modify 6 (layN [.int .u8 128, .int .u8 191, .int .u8 160, .int .u8 191, .int .u8 128, .int .u8 159, .int .u8 144, .int .u8 191, .int .u8 128, .int .u8 143, .int .u8 0, .int .u8 0, .int .u8 0, .int .u8 0, .int .u8 0, .int .u8 0, .int .u8 0, .int .u8 0, .int .u8 0, .int .u8 0, .int .u8 0, .int .u8 0, .int .u8 0, .int .u8 0, .int .u8 0, .int .u8 0, .int .u8 0, .int .u8 0, .int .u8 0, .int .u8 0, .int .u8 0, .int .u8 0])).modify 3 (layN [.bool true, .int .i64 0, .int .i64 0, .int .i64 0, .int .i64 2, .bool true, .int .i64 1, .int .i64 0, .int .i64 0, .int .i64 2, .bool true, .int .i64 2, .int .i64 2, .int .i64 2, .int .i64 0, .bool true, .int .i64 2, .int .i64 3, .int .i64 3, .int .i64 0, .bool true, .int .i64 2, .int .i64 0, .int .i64 0, .int .i64 0, .bool false, .int .i64 0, .int .i64 0, .int .i64 0, .int .i64 0, .bool false, .int .i64 0, .int .i64 0, .int .i64 0, .int .i64 0, .bool true, .int .i64 2, .int .i64 1, .int .i64 1, .int .i64 0, .bool true, .int .i64 1, .int .i64 0, .int .i64 0, .int .i64 0, .bool false, .int .i64 0, .int .i64 0, .int .i64 0, .int .i64 0, .bool false, .int .i64 0, .int .i64 0, .int .i64 0, .int .i64 0, .bool false, .int .i64 0, .int .i64 0, .int .i64 0, .int .i64 0, .bool false, .int .i64 0, .int .i64 0, .int .i64 0, .int .i64 0, .bool false, .int .i64 0, .int .i64 0, .int .i64 0, .int .i64 0, .bool false, .int .i64 0, .int .i64 0, .int .i64 0, .int .i64 0, .bool false, .int .i64 0, .int .i64 0, .int .i64 0, .int .i64 0])).modify 0 (layN (lTypes.map Value.string))).modify 1 (layN (lCaches.map Value.string))).modify 2 (layN (lShares.map Value.string))).modify 5 (layN (cellsD Go.Pinned.utf8First))) } : World) #[.bool false, .int .u32 0, .int .u32 0] rfl (by kernel_rfl) (by kernel_rfl) (by kernel_rfl)
      (OpenSpec.preRow_of_cond 8 hx (by kernel_rfl) (fun k hk => by cases hk) (by kernel_rfl) (laid_met os))) ?_
  intro W base args ds gs before hval hW _ hcond hwt hL hS _
  exact contract H enc W base args ds gs before hval hW hL hS

theorem said : Rows.AttrKindsSaid :=
  OpenClaim.holds_of_cond 5 Tryd.f5 rfl rfl rfl rfl rfl rfl rfl ⟨rfl, rfl, rfl, rfl, rfl⟩ rfl rfl rfl rfl rfl (by kernel_rfl) Tryd.func5 (by kernel_rfl)
    (of_decide_eq_true (by kernel_rfl)) (by unfold Func.isWrapper; first | (rw [if_pos (by decide +kernel)]; kernel_rfl) | (rw [if_neg (by decide +kernel)]; exact ⟨rfl, rfl⟩))
    (fun os started H enc _ F => by rw [OpenClaim.pre_eq_preRow]; exact lifted os started H enc F)

theorem plain (f : FuncId) (fn : Func) (hf : Tryd.pinned.checked.prog.funcNamed "atlas/atlaslaw06.AttrKinds" = some f) (hfn : Tryd.pinned.checked.prog.funcs[f]? = some fn) :
    false = Tryd.pinned.checked.prog.looks [] ∧ ∀ (j : Nat) t, fn.params[j]? = some t → Tryd.pinned.checked.prog.wantsStandIn t = false := by
  obtain rfl : f = 5 := Option.some.inj ((show Tryd.prog.funcNamed "atlas/atlaslaw06.AttrKinds" = some 5 by kernel_rfl).symm.trans hf) |>.symm
  obtain rfl : fn = Tryd.f5 := (Option.some.inj (Tryd.func5.symm.trans hfn)).symm
  refine ⟨by kernel_rfl, fun j t ht => ?_⟩
  rw [Tryd.params5] at ht
  have hm := Array.mem_of_getElem? ht
  have hm2 : t = 4 ∨ t = 22 ∨ t = 22 := by simpa using hm
  rcases hm2 with rfl | rfl | rfl
  · exact (show Tryd.prog.wantsStandIn 4 = false by kernel_rfl)
  · exact (show Tryd.prog.wantsStandIn 22 = false by kernel_rfl)
  · exact (show Tryd.prog.wantsStandIn 22 = false by kernel_rfl)
end Go.Proofs.YtmcloaonpkfibaaDoor.attrKinds
namespace Go.Proofs.YtmcloaonpkfibaaDoor
/-- The card. -/
theorem attrKinds_card : Rows.AttrKindsCardSaid :=
  Claim7.holds_tied_plain_at .later [] _ _ _ _ attrKinds.said (fun _ h => by cases h) (by kernel_rfl) (fun _ h => by cases h) attrKinds_row_tie rfl ⟨rfl, rfl⟩ (by kernel_rfl) rfl attrKinds.plain (by kernel_rfl)
#print axioms attrKinds_card
end Go.Proofs.YtmcloaonpkfibaaDoor
