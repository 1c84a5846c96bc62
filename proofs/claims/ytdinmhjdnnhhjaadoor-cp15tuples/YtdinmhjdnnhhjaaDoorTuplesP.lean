import Derived.Test.YtdinmhjdnnhhjaaDoorLt
import Derived.Test.YtdinmhjdnnhhjaaDoorOe
import Derived.Test.YtdinmhjdnnhhjaaDoorCards
import Derived.Test.YtdinmhjdnnhhjaaDoorTie
import Derived.WalkKit
import Derived.ProofKit
import Derived.OpenShut
import Derived.Deep.DeepHandedRow
import Derived.Lib.LaidTab
namespace Go.Proofs.YtdinmhjdnnhhjaaDoor.cp15Tuples
open Go.ChangeShapes Go.WideShapes Go.ChangeAt Go.RowKit
set_option linter.unusedVariables false
set_option linter.unusedSimpArgs false

theorem own : ownKnob Tryd.prog.godebug = none := by kernel_rfl
theorem gn : Tryd.prog.globalNamed "atlas/cp15.registers" = some 0 := by kernel_rfl
theorem gt : (Tryd.prog.globals[0]?).map (·.type) = some 66 := by kernel_rfl
theorem gc : Tryd.prog.cellsOf 66 = 13 * 7 := by kernel_rfl
/-- What the row's list gives: the table. -/
theorem table {W : World} (h : laidMetH Tryd.prog Rows.cp15TuplesRow.laid W) : TR W := by
  obtain ⟨ps, hL, _⟩ := h
  exact regs_of hL (.head _) gn gt gc
theorem contract (H : Type) (enc : TypeId × Value → H) (W : World) (base : Nat) (args : Array Value) (ds gs : List (DataW H)) (before : List MemPlace)
    (hval : ∀ (j : Nat) t v, Tryd.f7.params[j]? = some t → args[j]? = some v → Value.okWide Tryd.prog W .any base t v)
    (hW : DataW.Whole enc Tryd.prog Tryd.f7.params.toList Rows.cp15TuplesSpec.vars false W args.toList ds gs before) (hL : laidMetH Tryd.prog Rows.cp15TuplesRow.laid W) :
    Calls Tryd.prog 7 args W fun e W' => ∃ v, e = .returned v ∧ Rows.cp15TuplesSpec.post enc Tryd.prog Tryd.f7 false true false false W args v W' := by
  have hW' := hW
  obtain ⟨p, q, hA0, hV, rfl, hfz, hnd⟩ := hW
  have hA : DataW.TrodAll enc Tryd.prog W 0 (fun _ => true) true Tryd.f7.params.toList args.toList ds p := hA0
  rw [Tryd.params7] at hA hval
  obtain ⟨v0, vs0, d0, ds0, p0, q0, hargs, rfl, rfl, h0, r0⟩ := trodAll_cons hA
  obtain ⟨v1, vs1, d1, ds1, p1, q1, rfl, rfl, rfl, h1, r1⟩ := trodAll_cons r0
  obtain ⟨rfl, rfl, rfl⟩ := trodAll_nil r1
  obtain rfl : args = #[v0, v1] := by cases args; simp_all
  obtain ⟨rfl, rfl⟩ := trodVars_none hV
  obtain ⟨a0, rfl, rfl, rfl, w0⟩ := open_tup (hval 0 27 v0 rfl rfl) h0
  obtain ⟨a1, rfl, rfl, rfl, w1⟩ := open_int Tryd.underlying28 (hval 1 28 v1 rfl rfl) h1
  have b1 := bounds_u32 w1
  clear hA0
  simp only [List.append_nil] at hW'
  refine (law_tuples W a0 a1 (table hL) ⟨b1.1, by omega⟩).mono fun e W' ⟨he, bel⟩ => ?_
  subst he
  exact ⟨_, rfl, _, _, _, [], _, [], hW', trodAll_mk1 (shut_bool Tryd.underlying4 _), (trodAll_cons_mk (shut_tup w0) (trodAll_cons_mk (shut_int Tryd.underlying28 w1) trodAll_mk0)), rfl, bel.frame _, fun h => by cases h⟩

/-- For the witness's world: the table holds what its initialiser lays. -/
def layN (l : List Value) : Obj → Obj
  | .cells _ t frozen => .cells l.toArray t frozen
  | o => o
set_option maxRecDepth 100000 in
theorem laid_met (os : Os) : laidMet Tryd.prog Rows.cp15TuplesRow.laid (({ World.holding Tryd.prog os ⟨#[], #[], []⟩ with heap := ((World.holding Tryd.prog os ⟨#[], #[], []⟩).heap.modify 0 (layN [.int .i64 1, .int .i64 0, .int .i64 0, .int .i64 0, .int .u32 805306369, .int .u32 0, .bool true, .int .i64 2, .int .i64 0, .int .i64 0, .int .i64 0, .int .u32 4294967168, .int .u32 0, .bool true, .int .i64 2, .int .i64 0, .int .i64 0, .int .i64 1, .int .u32 4294950912, .int .u32 0, .bool true, .int .i64 2, .int .i64 0, .int .i64 0, .int .i64 2, .int .u32 55, .int .u32 0, .bool true, .int .i64 3, .int .i64 0, .int .i64 0, .int .i64 0, .int .u32 4294967295, .int .u32 0, .bool true, .int .i64 5, .int .i64 0, .int .i64 0, .int .i64 0, .int .u32 7423, .int .u32 0, .bool false, .int .i64 5, .int .i64 0, .int .i64 0, .int .i64 1, .int .u32 5135, .int .u32 0, .bool false, .int .i64 6, .int .i64 0, .int .i64 0, .int .i64 0, .int .u32 4294967295, .int .u32 0, .bool false, .int .i64 6, .int .i64 0, .int .i64 0, .int .i64 2, .int .u32 4294967295, .int .u32 0, .bool false, .int .i64 7, .int .i64 0, .int .i64 4, .int .i64 0, .int .u32 4294967295, .int .u32 0, .bool false, .int .i64 10, .int .i64 0, .int .i64 2, .int .i64 0, .int .u32 4279238655, .int .u32 625316, .bool true, .int .i64 10, .int .i64 0, .int .i64 2, .int .i64 1, .int .u32 4294967295, .int .u32 1155549408, .bool true, .int .i64 13, .int .i64 0, .int .i64 0, .int .i64 1, .int .u32 4294967295, .int .u32 0, .bool true])) } : World).forCall (fun _ _ => 0) ⟨#[], #[.agg #[.int .i64 0, .int .i64 0, .int .i64 0, .int .i64 0], .int .u32 0], []⟩).memory :=
  laidMet_of_run' 8 (by kernel_rfl) (by kernel_rfl)
theorem reads (os : Os) {H : Type} (enc : TypeId × Value → H) : ∃ places, DataW.whole enc Tryd.prog (({ World.holding Tryd.prog os ⟨#[], #[], []⟩ with heap := ((World.holding Tryd.prog os ⟨#[], #[], []⟩).heap.modify 0 (layN [.int .i64 1, .int .i64 0, .int .i64 0, .int .i64 0, .int .u32 805306369, .int .u32 0, .bool true, .int .i64 2, .int .i64 0, .int .i64 0, .int .i64 0, .int .u32 4294967168, .int .u32 0, .bool true, .int .i64 2, .int .i64 0, .int .i64 0, .int .i64 1, .int .u32 4294950912, .int .u32 0, .bool true, .int .i64 2, .int .i64 0, .int .i64 0, .int .i64 2, .int .u32 55, .int .u32 0, .bool true, .int .i64 3, .int .i64 0, .int .i64 0, .int .i64 0, .int .u32 4294967295, .int .u32 0, .bool true, .int .i64 5, .int .i64 0, .int .i64 0, .int .i64 0, .int .u32 7423, .int .u32 0, .bool false, .int .i64 5, .int .i64 0, .int .i64 0, .int .i64 1, .int .u32 5135, .int .u32 0, .bool false, .int .i64 6, .int .i64 0, .int .i64 0, .int .i64 0, .int .u32 4294967295, .int .u32 0, .bool false, .int .i64 6, .int .i64 0, .int .i64 0, .int .i64 2, .int .u32 4294967295, .int .u32 0, .bool false, .int .i64 7, .int .i64 0, .int .i64 4, .int .i64 0, .int .u32 4294967295, .int .u32 0, .bool false, .int .i64 10, .int .i64 0, .int .i64 2, .int .i64 0, .int .u32 4279238655, .int .u32 625316, .bool true, .int .i64 10, .int .i64 0, .int .i64 2, .int .i64 1, .int .u32 4294967295, .int .u32 1155549408, .bool true, .int .i64 13, .int .i64 0, .int .i64 0, .int .i64 1, .int .u32 4294967295, .int .u32 0, .bool true])) } : World).forCall (fun _ _ => 0) ⟨#[], #[.agg #[.int .i64 0, .int .i64 0, .int .i64 0, .int .i64 0], .int .u32 0], []⟩).memory Tryd.f7.params.toList Rows.cp15TuplesSpec.vars false #[(.agg #[.int .i64 0, .int .i64 0, .int .i64 0, .int .i64 0] : Value), (.int .u32 0 : Value)].toList 8 = some ([tupD ⟨0, 0, 0, 0⟩, .lit (.int .u32 0)], [], places) :=
  ⟨[], by kernel_rfl⟩

set_option maxRecDepth 100000 in
theorem lifted (os : Os) (started : os.Started) (H : Type) (enc : TypeId × Value → H) (F : Stop.Interp) :
    ReturnsInHanded {} Tryd.checked os 7 .any ((OpenSpec.ofChange Rows.cp15TuplesSpec).preRow enc Tryd.prog Tryd.f7 Rows.cp15TuplesRow.domain false Rows.cp15TuplesRow.laid) (((OpenSpec.ofChange Rows.cp15TuplesSpec).at F).post enc Tryd.prog Tryd.f7 false true false false) := by
  obtain ⟨places, hx⟩ := reads os enc
  refine returnsInHanded_of_row (C := Tryd.checked) (s := OpenSpec.ofChange Rows.cp15TuplesSpec) own started (by kernel_rfl) Tryd.func7
    (witness_row_at (enc := enc) (C := Tryd.checked) false ({ World.holding Tryd.prog os ⟨#[], #[], []⟩ with heap := ((World.holding Tryd.prog os ⟨#[], #[], []⟩).heap.modify 0 (layN [.int .i64 1, .int .i64 0, .int .i64 0, .int .i64 0, .int .u32 805306369, .int .u32 0, .bool true, .int .i64 2, .int .i64 0, .int .i64 0, .int .i64 0, .int .u32 4294967168, .int .u32 0, .bool true, .int .i64 2, .int .i64 0, .int .i64 0, .int .i64 1, .int .u32 4294950912, .int .u32 0, .bool true, .int .i64 2, .int .i64 0, .int .i64 0, .int .i64 2, .int .u32 55, .int .u32 0, .bool true, .int .i64 3, .int .i64 0, .int .i64 0, .int .i64 0, .int .u32 4294967295, .int .u32 0, .bool true, .int .i64 5, .int .i64 0, .int .i64 0, .int .i64 0, .int .u32 7423, .int .u32 0, .bool false, .int .i64 5, .int .i64 0, .int .i64 0, .int .i64 1, .int .u32 5135, .int .u32 0, .bool false, .int .i64 6, .int .i64 0, .int .i64 0, .int .i64 0, .int .u32 4294967295, .int .u32 0, .bool false, .int .i64 6, .int .i64 0, .int .i64 0, .int .i64 2, .int .u32 4294967295, .int .u32 0, .bool false, .int .i64 7, .int .i64 0, .int .i64 4, .int .i64 0, .int .u32 4294967295, .int .u32 0, .bool false, .int .i64 10, .int .i64 0, .int .i64 2, .int .i64 0, .int .u32 4279238655, .int .u32 625316, .bool true, .int .i64 10, .int .i64 0, .int .i64 2, .int .i64 1, .int .u32 4294967295, .int .u32 1155549408, .bool true, .int .i64 13, .int .i64 0, .int .i64 0, .int .i64 1, .int .u32 4294967295, .int .u32 0, .bool true])) } : World) #[.agg #[.int .i64 0, .int .i64 0, .int .i64 0, .int .i64 0], .int .u32 0] rfl (by kernel_rfl) (by kernel_rfl) (by kernel_rfl)
      (OpenSpec.preRow_of_cond 8 hx (by kernel_rfl) (fun k hk => by cases hk) (by kernel_rfl) (laid_met os))) ?_
  intro W base args ds gs before hval hW _ hcond hwt hL hS _
  exact contract H enc W base args ds gs before hval hW hL

theorem said : Rows.Cp15TuplesSaid :=
  OpenClaim.holds_of_cond 7 Tryd.f7 rfl rfl rfl rfl rfl rfl rfl ⟨rfl, rfl, rfl, rfl, rfl⟩ rfl rfl rfl rfl rfl (by kernel_rfl) Tryd.func7 (by kernel_rfl)
    (of_decide_eq_true (by kernel_rfl)) (by unfold Func.isWrapper; first | (rw [if_pos (by decide +kernel)]; kernel_rfl) | (rw [if_neg (by decide +kernel)]; exact ⟨rfl, rfl⟩))
    (fun os started H enc _ F => by rw [OpenClaim.pre_eq_preRow]; exact lifted os started H enc F)

theorem plain (f : FuncId) (fn : Func) (hf : Tryd.pinned.checked.prog.funcNamed "atlas/atlaslaw08.Cp15Tuples" = some f) (hfn : Tryd.pinned.checked.prog.funcs[f]? = some fn) :
    false = Tryd.pinned.checked.prog.looks [] ∧ ∀ (j : Nat) t, fn.params[j]? = some t → Tryd.pinned.checked.prog.wantsStandIn t = false := by
  obtain rfl : f = 7 := Option.some.inj ((show Tryd.prog.funcNamed "atlas/atlaslaw08.Cp15Tuples" = some 7 by kernel_rfl).symm.trans hf) |>.symm
  obtain rfl : fn = Tryd.f7 := (Option.some.inj (Tryd.func7.symm.trans hfn)).symm
  refine ⟨by kernel_rfl, fun j t ht => ?_⟩
  rw [Tryd.params7] at ht
  have hm := Array.mem_of_getElem? ht
  have hm2 : t = 27 ∨ t = 28 := by simpa using hm
  rcases hm2 with rfl | rfl
  · exact (show Tryd.prog.wantsStandIn 27 = false by kernel_rfl)
  · exact (show Tryd.prog.wantsStandIn 28 = false by kernel_rfl)
end Go.Proofs.YtdinmhjdnnhhjaaDoor.cp15Tuples
namespace Go.Proofs.YtdinmhjdnnhhjaaDoor
/-- The card. -/
theorem cp15Tuples_card : Rows.Cp15TuplesCardSaid :=
  Claim7.holds_tied_plain_at .later [] _ _ _ _ cp15Tuples.said (fun _ h => by cases h) (by kernel_rfl) (fun _ h => by cases h) cp15Tuples_row_tie rfl ⟨rfl, rfl⟩ (by kernel_rfl) rfl cp15Tuples.plain (by kernel_rfl)
#print axioms cp15Tuples_card
end Go.Proofs.YtdinmhjdnnhhjaaDoor
