import Derived.Test.YtmmocnejacflmabDoorLx
import Derived.Test.YtmmocnejacflmabDoorOx
import Derived.Test.YtmmocnejacflmabDoorCards
import Derived.Test.YtmmocnejacflmabDoorTie
import Derived.WalkKit
import Derived.ProofKit
import Derived.OpenShut
import Derived.Deep.DeepHandedRow
import Derived.Lib.LaidTab
namespace Go.Proofs.YtmmocnejacflmabDoor.rightsText
open Go.ChangeShapes Go.WideShapes Go.ChangeAt Go.RowKit
set_option linter.unusedVariables false
set_option linter.unusedSimpArgs false

theorem own : ownKnob Tryd.prog.godebug = none := by kernel_rfl
theorem gn_forms : Tryd.prog.globalNamed "atlas/rights.forms" = some 1 := by kernel_rfl
theorem gt_forms : (Tryd.prog.globals[1]?).map (·.type) = some 60 := by kernel_rfl
theorem gc_forms : Tryd.prog.cellsOf 60 = 44 := by kernel_rfl
theorem gn_texts : Tryd.prog.globalNamed "atlas/rights.texts" = some 0 := by kernel_rfl
theorem gt_texts : (Tryd.prog.globals[0]?).map (·.type) = some 54 := by kernel_rfl
theorem gc_texts : Tryd.prog.cellsOf 54 = 11 := by kernel_rfl
/-- What the row's list gives: the tables. -/
theorem table {W : World} (h : laidMetH Tryd.prog Rows.rightsTextRow.laid W) : TX W := by
  obtain ⟨ps, hL, _⟩ := h
  exact ⟨(forms_of hL (.tail _ (.tail _ (.tail _ (.head _)))) gn_forms gt_forms gc_forms), (texts_of hL lTx (.tail _ (.tail _ (.tail _ (.tail _ (.head _))))) gn_texts gt_texts Tryd.underlying54 gc_texts rfl)⟩
theorem contract (H : Type) (enc : TypeId × Value → H) (W : World) (base : Nat) (args : Array Value) (ds gs : List (DataW H)) (before : List MemPlace)
    (hval : ∀ (j : Nat) t v, Tryd.f6.params[j]? = some t → args[j]? = some v → Value.okWide Tryd.prog W .any base t v)
    (hW : DataW.Whole enc Tryd.prog Tryd.f6.params.toList Rows.rightsTextSpec.vars false W args.toList ds gs before) (hL : laidMetH Tryd.prog Rows.rightsTextRow.laid W) :
    Calls Tryd.prog 6 args W fun e W' => ∃ v, e = .returned v ∧ Rows.rightsTextSpec.post enc Tryd.prog Tryd.f6 false true false false W args v W' := by
  have hW' := hW
  obtain ⟨p, q, hA0, hV, rfl, hfz, hnd⟩ := hW
  have hA : DataW.TrodAll enc Tryd.prog W 0 (fun _ => true) true Tryd.f6.params.toList args.toList ds p := hA0
  rw [Tryd.params6] at hA hval
  obtain ⟨v0, vs0, d0, ds0, p0, q0, hargs, rfl, rfl, h0, r0⟩ := trodAll_cons hA
  obtain ⟨v1, vs1, d1, ds1, p1, q1, rfl, rfl, rfl, h1, r1⟩ := trodAll_cons r0
  obtain ⟨rfl, rfl, rfl⟩ := trodAll_nil r1
  obtain rfl : args = #[v0, v1] := by cases args; simp_all
  obtain ⟨rfl, rfl⟩ := trodVars_none hV
  obtain ⟨a0, rfl, rfl, rfl, w0⟩ := open_fault (hval 0 39 v0 rfl rfl) h0
  obtain ⟨a1, rfl, rfl, rfl, w1⟩ := open_fault (hval 1 39 v1 rfl rfl) h1
  clear hA0
  simp only [List.append_nil] at hW'
  refine (law_text a0 a1 W (table hL)).mono fun e W' ⟨he, bel⟩ => ?_
  subst he
  exact ⟨_, rfl, _, _, _, [], [], [], hW', trodAll_mk1 (shut_bool Tryd.underlying4 _), (trodAll_cons_mk (shut_fault w0) (trodAll_cons_mk (shut_fault w1) trodAll_mk0)), rfl, bel.frame _, fun h => by cases h⟩

/-- For the witness's world: the tables hold what their initialisers lay. -/
def layN (l : List Value) : Obj → Obj
  | .cells _ t frozen => .cells l.toArray t frozen
  | o => o
/-- The cells of a listed table, out of what is listed. -/
def litV : DataW Unit → Value
  | .lit (.int k z) => .int k z
  | _ => .int .u8 0
def cellsD : DataW Unit → List Value
  | .agg l => l.map litV
  | _ => []
set_option maxRecDepth 100000 in
theorem laid_met (os : Os) : laidMet Tryd.prog Rows.rightsTextRow.laid (({ World.holding Tryd.prog os ⟨#[], #[], []⟩ with heap := ((((((World.holding Tryd.prog os ⟨#[], #[], []⟩).heap.modify 12 (layN (cellsD Rows.laid_math_bits_deBruijn32tab))).modify 13 (layN (cellsD Rows.laid_math_bits_deBruijn64tab))).modify 10 (layN (cellsD Rows.laid_internal_strconv_uint64pow10))).modify 1 (layN [.int .u32 0, .int .u32 0, .int .u32 0, .bool false, .int .u32 1, .int .u32 0, .int .u32 0, .bool false, .int .u32 12, .int .u32 0, .int .u32 0, .bool false, .int .u32 5, .int .u32 0, .int .u32 0, .bool false, .int .u32 14, .int .u32 0, .int .u32 0, .bool true, .int .u32 7, .int .u32 0, .int .u32 0, .bool true, .int .u32 16, .int .u32 0, .int .u32 0, .bool false, .int .u32 0, .int .u32 3, .int .u32 6, .bool true, .int .u32 0, .int .u32 9, .int .u32 11, .bool true, .int .u32 0, .int .u32 13, .int .u32 15, .bool true, .int .u32 8, .int .u32 0, .int .u32 0, .bool false])).modify 0 (layN (lTx.map Value.string))) } : World).forCall (fun _ _ => 0) ⟨#[], #[.agg #[.int .i64 0, .int .i64 0, .int .i64 0], .agg #[.int .i64 0, .int .i64 0, .int .i64 0]], []⟩).memory :=
  laidMet_of_run' 8 (by kernel_rfl) (by kernel_rfl)
theorem reads (os : Os) {H : Type} (enc : TypeId × Value → H) : ∃ places, DataW.whole enc Tryd.prog (({ World.holding Tryd.prog os ⟨#[], #[], []⟩ with heap := ((((((World.holding Tryd.prog os ⟨#[], #[], []⟩).heap.modify 12 (layN (cellsD Rows.laid_math_bits_deBruijn32tab))).modify 13 (layN (cellsD Rows.laid_math_bits_deBruijn64tab))).modify 10 (layN (cellsD Rows.laid_internal_strconv_uint64pow10))).modify 1 (layN [.int .u32 0, .int .u32 0, .int .u32 0, .bool false, .int .u32 1, .int .u32 0, .int .u32 0, .bool false, .int .u32 12, .int .u32 0, .int .u32 0, .bool false, .int .u32 5, .int .u32 0, .int .u32 0, .bool false, .int .u32 14, .int .u32 0, .int .u32 0, .bool true, .int .u32 7, .int .u32 0, .int .u32 0, .bool true, .int .u32 16, .int .u32 0, .int .u32 0, .bool false, .int .u32 0, .int .u32 3, .int .u32 6, .bool true, .int .u32 0, .int .u32 9, .int .u32 11, .bool true, .int .u32 0, .int .u32 13, .int .u32 15, .bool true, .int .u32 8, .int .u32 0, .int .u32 0, .bool false])).modify 0 (layN (lTx.map Value.string))) } : World).forCall (fun _ _ => 0) ⟨#[], #[.agg #[.int .i64 0, .int .i64 0, .int .i64 0], .agg #[.int .i64 0, .int .i64 0, .int .i64 0]], []⟩).memory Tryd.f6.params.toList Rows.rightsTextSpec.vars false #[(.agg #[.int .i64 0, .int .i64 0, .int .i64 0] : Value), (.agg #[.int .i64 0, .int .i64 0, .int .i64 0] : Value)].toList 8 = some ([faultD ⟨0, 0, 0⟩, faultD ⟨0, 0, 0⟩], [], places) :=
  ⟨[], by kernel_rfl⟩

set_option maxRecDepth 100000 in
theorem lifted (os : Os) (started : os.Started) (H : Type) (enc : TypeId × Value → H) (F : Stop.Interp) :
    ReturnsInHanded {} Tryd.checked os 6 .any ((OpenSpec.ofChange Rows.rightsTextSpec).preRow enc Tryd.prog Tryd.f6 Rows.rightsTextRow.domain false Rows.rightsTextRow.laid) (((OpenSpec.ofChange Rows.rightsTextSpec).at F).post enc Tryd.prog Tryd.f6 false true false false) := by
  obtain ⟨places, hx⟩ := reads os enc
  refine returnsInHanded_of_row (C := Tryd.checked) (s := OpenSpec.ofChange Rows.rightsTextSpec) own started (by kernel_rfl) Tryd.func6
    (witness_row_at (enc := enc) (C := Tryd.checked) false ({ World.holding Tryd.prog os ⟨#[], #[], []⟩ with heap := ((((((World.holding Tryd.prog os ⟨#[], #[], []⟩).heap.modify 12 (layN (cellsD Rows.laid_math_bits_deBruijn32tab))).modify 13 (layN (cellsD Rows.laid_math_bits_deBruijn64tab))).modify 10 (layN (cellsD Rows.laid_internal_strconv_uint64pow10))).modify 1 (layN [.int .u32 0, .int .u32 0, .int .u32 0, .bool false, .int .u32 1, .int .u32 0, .int .u32 0, .bool false, .int .u32 12, .int .u32 0, .int .u32 0, .bool false, .int .u32 5, .int .u32 0, .int .u32 0, .bool false, .int .u32 14, .int .u32 0, .int .u32 0, .bool true, .int .u32 7, .int .u32 0, .int .u32 0, .bool true, .int .u32 16, .int .u32 0, .int .u32 0, .bool false, .int .u32 0, .int .u32 3, .int .u32 6, .bool true, .int .u32 0, .int .u32 9, .int .u32 11, .bool true, .int .u32 0, .int .u32 13, .int .u32 15, .bool true, .int .u32 8, .int .u32 0, .int .u32 0, .bool false])).modify 0 (layN (lTx.map Value.string))) } : World) #[.agg #[.int .i64 0, .int .i64 0, .int .i64 0], .agg #[.int .i64 0, .int .i64 0, .int .i64 0]] rfl (by kernel_rfl) (by kernel_rfl) (by kernel_rfl)
      (OpenSpec.preRow_of_cond 8 hx (by kernel_rfl) (fun k hk => by cases hk) (by kernel_rfl) (laid_met os))) ?_
  intro W base args ds gs before hval hW _ hcond hwt hL hS _
  exact contract H enc W base args ds gs before hval hW hL

theorem said : Rows.RightsTextSaid :=
  OpenClaim.holds_of_cond 6 Tryd.f6 rfl rfl rfl rfl rfl rfl rfl ⟨rfl, rfl, rfl, rfl, rfl⟩ rfl rfl rfl rfl rfl (by kernel_rfl) Tryd.func6 (by kernel_rfl)
    (of_decide_eq_true (by kernel_rfl)) (by unfold Func.isWrapper; first | (rw [if_pos (by decide +kernel)]; kernel_rfl) | (rw [if_neg (by decide +kernel)]; exact ⟨rfl, rfl⟩))
    (fun os started H enc _ F => by rw [OpenClaim.pre_eq_preRow]; exact lifted os started H enc F)

theorem plain (f : FuncId) (fn : Func) (hf : Tryd.pinned.checked.prog.funcNamed "atlas/atlaslaw07.RightsText" = some f) (hfn : Tryd.pinned.checked.prog.funcs[f]? = some fn) :
    false = Tryd.pinned.checked.prog.looks [] ∧ ∀ (j : Nat) t, fn.params[j]? = some t → Tryd.pinned.checked.prog.wantsStandIn t = false := by
  obtain rfl : f = 6 := Option.some.inj ((show Tryd.prog.funcNamed "atlas/atlaslaw07.RightsText" = some 6 by kernel_rfl).symm.trans hf) |>.symm
  obtain rfl : fn = Tryd.f6 := (Option.some.inj (Tryd.func6.symm.trans hfn)).symm
  refine ⟨by kernel_rfl, fun j t ht => ?_⟩
  rw [Tryd.params6] at ht
  have hm := Array.mem_of_getElem? ht
  obtain rfl : t = 39 := by simpa using hm
  exact (show Tryd.prog.wantsStandIn 39 = false by kernel_rfl)
end Go.Proofs.YtmmocnejacflmabDoor.rightsText
namespace Go.Proofs.YtmmocnejacflmabDoor
/-- The card. -/
theorem rightsText_card : Rows.RightsTextCardSaid :=
  Claim7.holds_tied_plain_at .later [] _ _ _ _ rightsText.said (fun _ h => by cases h) (by kernel_rfl) (fun _ h => by cases h) rightsText_row_tie rfl ⟨rfl, rfl⟩ (by kernel_rfl) rfl rightsText.plain (by kernel_rfl)
#print axioms rightsText_card
end Go.Proofs.YtmmocnejacflmabDoor
