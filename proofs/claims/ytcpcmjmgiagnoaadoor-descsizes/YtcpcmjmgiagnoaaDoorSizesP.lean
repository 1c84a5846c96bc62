import Derived.Test.YtcpcmjmgiagnoaaDoorLz
import Derived.Test.YtcpcmjmgiagnoaaDoorOe
import Derived.Test.YtcpcmjmgiagnoaaDoorCards
import Derived.Test.YtcpcmjmgiagnoaaDoorTie
import Derived.WalkKit
import Derived.ProofKit
import Derived.OpenShut
import Derived.Deep.DeepHandedRow
import Derived.Lib.LaidTab
namespace Go.Proofs.YtcpcmjmgiagnoaaDoor.descSizes
open Go.ChangeShapes Go.WideShapes Go.ChangeAt Go.RowKit
set_option linter.unusedVariables false

theorem own : ownKnob Tryd.prog.godebug = none := by kernel_rfl
theorem gn_baseAt : Tryd.prog.globalNamed "atlas/desc.baseAt" = some 0 := by kernel_rfl
theorem gt_baseAt : (Tryd.prog.globals[0]?).map (·.type) = some 48 := by kernel_rfl
theorem gc_baseAt : Tryd.prog.cellsOf 48 = 6 := by kernel_rfl
theorem gn_kindOfSize : Tryd.prog.globalNamed "atlas/desc.kindOfSize" = some 1 := by kernel_rfl
theorem gt_kindOfSize : (Tryd.prog.globals[1]?).map (·.type) = some 49 := by kernel_rfl
theorem gc_kindOfSize : Tryd.prog.cellsOf 49 = 5 := by kernel_rfl
theorem gn_repeats : Tryd.prog.globalNamed "atlas/desc.repeats" = some 2 := by kernel_rfl
theorem gt_repeats : (Tryd.prog.globals[2]?).map (·.type) = some 49 := by kernel_rfl
theorem gc_repeats : Tryd.prog.cellsOf 49 = 5 := by kernel_rfl
/-- What the row's list gives: the tables. -/
theorem table {W : World} (h : laidMetH Tryd.prog Rows.descSizesRow.laid W) : TZ W := by
  obtain ⟨ps, hL, _⟩ := h
  exact ⟨(tab_of hL lBase (.head _) gn_baseAt gt_baseAt Tryd.underlying48 Tryd.underlying5 cells_u8 gc_baseAt), (tab_of hL lKind (.tail _ (.head _)) gn_kindOfSize gt_kindOfSize Tryd.underlying49 Tryd.underlying5 cells_u8 gc_kindOfSize), (tab_of hL lRep (.tail _ (.tail _ (.head _))) gn_repeats gt_repeats Tryd.underlying49 Tryd.underlying5 cells_u8 gc_repeats)⟩
theorem contract (H : Type) (enc : TypeId × Value → H) (W : World) (base : Nat) (args : Array Value) (ds gs : List (DataW H)) (before : List MemPlace)
    (hval : ∀ (j : Nat) t v, Tryd.f3.params[j]? = some t → args[j]? = some v → Value.okWide Tryd.prog W .any base t v)
    (hW : DataW.Whole enc Tryd.prog Tryd.f3.params.toList Rows.descSizesSpec.vars false W args.toList ds gs before) (hL : laidMetH Tryd.prog Rows.descSizesRow.laid W) :
    Calls Tryd.prog 3 args W fun e W' => ∃ v, e = .returned v ∧ Rows.descSizesSpec.post enc Tryd.prog Tryd.f3 false true false false W args v W' := by
  have hW' := hW
  obtain ⟨p, q, hA0, hV, rfl, hfz, hnd⟩ := hW
  have hA : DataW.TrodAll enc Tryd.prog W 0 (fun _ => true) true Tryd.f3.params.toList args.toList ds p := hA0
  rw [Tryd.params3] at hA hval
  obtain ⟨v0, vs0, d0, ds0, p0, q0, hargs, rfl, rfl, h0, r0⟩ := trodAll_cons hA
  obtain ⟨rfl, rfl, rfl⟩ := trodAll_nil r0
  obtain rfl : args = #[v0] := by cases args; simp_all
  obtain ⟨rfl, rfl⟩ := trodVars_none hV
  obtain ⟨a0, rfl, rfl, rfl, w0⟩ := open_int Tryd.underlying3 (hval 0 3 v0 rfl rfl) h0
  clear hA0
  simp only [List.append_nil] at hW'
  refine (law_sizes a0 W (table hL)).mono fun e W' ⟨he, bel⟩ => ?_
  subst he
  exact ⟨_, rfl, _, _, _, [], [], [], hW', trodAll_mk1 (shut_bool Tryd.underlying4 _), (trodAll_cons_mk (shut_int Tryd.underlying3 w0) trodAll_mk0), rfl, bel.frame _, fun h => by cases h⟩

/-- For the witness's world: the tables hold what their initialisers lay. -/
def layN (l : List Value) : Obj → Obj
  | .cells _ t frozen => .cells l.toArray t frozen
  | o => o
theorem laid_met (os : Os) : laidMet Tryd.prog Rows.descSizesRow.laid (({ World.holding Tryd.prog os ⟨#[], #[], []⟩ with heap := ((((World.holding Tryd.prog os ⟨#[], #[], []⟩).heap.modify 0 (layN [.int .u8 0, .int .u8 10, .int .u8 20, .int .u8 24, .int .u8 16, .int .u8 12])).modify 1 (layN [.int .u8 0, .int .u8 5, .int .u8 4, .int .u8 2, .int .u8 3])).modify 2 (layN [.int .u8 0, .int .u8 1, .int .u8 16, .int .u8 1, .int .u8 16])) } : World).forCall (fun _ _ => 0) ⟨#[], #[.int .i64 0], []⟩).memory :=
  laidMet_of_run' 8 (by kernel_rfl) (by kernel_rfl)
theorem reads (os : Os) {H : Type} (enc : TypeId × Value → H) : ∃ places, DataW.whole enc Tryd.prog (({ World.holding Tryd.prog os ⟨#[], #[], []⟩ with heap := ((((World.holding Tryd.prog os ⟨#[], #[], []⟩).heap.modify 0 (layN [.int .u8 0, .int .u8 10, .int .u8 20, .int .u8 24, .int .u8 16, .int .u8 12])).modify 1 (layN [.int .u8 0, .int .u8 5, .int .u8 4, .int .u8 2, .int .u8 3])).modify 2 (layN [.int .u8 0, .int .u8 1, .int .u8 16, .int .u8 1, .int .u8 16])) } : World).forCall (fun _ _ => 0) ⟨#[], #[.int .i64 0], []⟩).memory Tryd.f3.params.toList Rows.descSizesSpec.vars false #[(.int .i64 0 : Value)].toList 8 = some ([.lit (.int .i64 0)], [], places) :=
  ⟨[], by kernel_rfl⟩

set_option maxRecDepth 100000 in
theorem lifted (os : Os) (started : os.Started) (H : Type) (enc : TypeId × Value → H) (F : Stop.Interp) :
    ReturnsInHanded {} Tryd.checked os 3 .any ((OpenSpec.ofChange Rows.descSizesSpec).preRow enc Tryd.prog Tryd.f3 Rows.descSizesRow.domain false Rows.descSizesRow.laid) (((OpenSpec.ofChange Rows.descSizesSpec).at F).post enc Tryd.prog Tryd.f3 false true false false) := by
  obtain ⟨places, hx⟩ := reads os enc
  refine returnsInHanded_of_row (C := Tryd.checked) (s := OpenSpec.ofChange Rows.descSizesSpec) own started (by kernel_rfl) Tryd.func3
    (witness_row_at (enc := enc) (C := Tryd.checked) false ({ World.holding Tryd.prog os ⟨#[], #[], []⟩ with heap := ((((World.holding Tryd.prog os ⟨#[], #[], []⟩).heap.modify 0 (layN [.int .u8 0, .int .u8 10, .int .u8 20, .int .u8 24, .int .u8 16, .int .u8 12])).modify 1 (layN [.int .u8 0, .int .u8 5, .int .u8 4, .int .u8 2, .int .u8 3])).modify 2 (layN [.int .u8 0, .int .u8 1, .int .u8 16, .int .u8 1, .int .u8 16])) } : World) #[.int .i64 0] rfl (by kernel_rfl) (by kernel_rfl) (by kernel_rfl)
      (OpenSpec.preRow_of_cond 8 hx (by kernel_rfl) (fun k hk => by cases hk) (by kernel_rfl) (laid_met os))) ?_
  intro W base args ds gs before hval hW _ _ _ hL _ _
  exact contract H enc W base args ds gs before hval hW hL

theorem said : Rows.DescSizesSaid :=
  OpenClaim.holds_of_cond 3 Tryd.f3 rfl rfl rfl rfl rfl rfl rfl ⟨rfl, rfl, rfl, rfl, rfl⟩ rfl rfl rfl rfl rfl (by kernel_rfl) Tryd.func3 (by kernel_rfl)
    (of_decide_eq_true (by kernel_rfl)) (by unfold Func.isWrapper; first | (rw [if_pos (by decide +kernel)]; kernel_rfl) | (rw [if_neg (by decide +kernel)]; exact ⟨rfl, rfl⟩))
    (fun os started H enc _ F => by rw [OpenClaim.pre_eq_preRow]; exact lifted os started H enc F)

theorem plain (f : FuncId) (fn : Func) (hf : Tryd.pinned.checked.prog.funcNamed "atlas/atlaslaw05.DescSizes" = some f) (hfn : Tryd.pinned.checked.prog.funcs[f]? = some fn) :
    false = Tryd.pinned.checked.prog.looks [] ∧ ∀ (j : Nat) t, fn.params[j]? = some t → Tryd.pinned.checked.prog.wantsStandIn t = false := by
  obtain rfl : f = 3 := Option.some.inj ((show Tryd.prog.funcNamed "atlas/atlaslaw05.DescSizes" = some 3 by kernel_rfl).symm.trans hf) |>.symm
  obtain rfl : fn = Tryd.f3 := (Option.some.inj (Tryd.func3.symm.trans hfn)).symm
  refine ⟨by kernel_rfl, fun j t ht => ?_⟩
  rw [Tryd.params3] at ht
  have hm := Array.mem_of_getElem? ht
  obtain rfl : t = 3 := by simpa using hm
  exact (show Tryd.prog.wantsStandIn 3 = false by kernel_rfl)
end Go.Proofs.YtcpcmjmgiagnoaaDoor.descSizes
namespace Go.Proofs.YtcpcmjmgiagnoaaDoor
/-- The card. -/
theorem descSizes_card : Rows.DescSizesCardSaid :=
  Claim7.holds_tied_plain_at .later [] _ _ _ _ descSizes.said (fun _ h => by cases h) (by kernel_rfl) (fun _ h => by cases h) descSizes_row_tie rfl ⟨rfl, rfl⟩ (by kernel_rfl) rfl descSizes.plain (by kernel_rfl)
#print axioms descSizes_card
end Go.Proofs.YtcpcmjmgiagnoaaDoor
