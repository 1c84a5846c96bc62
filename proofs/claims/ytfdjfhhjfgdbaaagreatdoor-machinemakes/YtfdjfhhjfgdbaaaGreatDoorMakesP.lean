import Derived.Test.YtfdjfhhjfgdbaaaGreatDoorMw
import Derived.Test.YtfdjfhhjfgdbaaaGreatDoorMx
import Derived.Test.YtfdjfhhjfgdbaaaGreatDoorCards
import Derived.Test.YtfdjfhhjfgdbaaaGreatDoorTie
import Derived.WalkKit
import Derived.ProofKit
import Derived.OpenShut
import Derived.Deep.DeepHandedRow
import Derived.Lib.LaidTab
namespace Go.Proofs.YtfdjfhhjfgdbaaaGreatDoor.machineMakes
open Go.ChangeShapes Go.WideShapes Go.ChangeAt Go.RowKit
set_option linter.unusedVariables false
set_option linter.unusedSimpArgs false
set_option maxRecDepth 100000

theorem own : ownKnob Tryz.prog.godebug = none := by kernel_rfl
theorem gn : Tryz.prog.globalNamed "atlas/cp15.registers" = some 0 := by kernel_rfl
theorem gt : (Tryz.prog.globals[0]?).map (·.type) = some 150 := by kernel_rfl
theorem gc : Tryz.prog.cellsOf 150 = 13 * 7 := by kernel_rfl
/-- What the row's list gives: the table. -/
theorem table {W : World} (h : laidMetH Tryz.prog Rows.machineMakesRow.laid W) : TR W := by
  obtain ⟨ps, hL, _⟩ := h
  exact regs_of hL (.head _) gn gt gc
theorem contract (H : Type) (enc : TypeId × Value → H) (W : World) (base : Nat) (args : Array Value) (ds gs : List (DataW H)) (before : List MemPlace)
    (hval : ∀ (j : Nat) t v, Tryz.f3.params[j]? = some t → args[j]? = some v → Value.okWide Tryz.prog W .any base t v)
    (hW : DataW.Whole enc Tryz.prog Tryz.f3.params.toList Rows.machineMakesSpec.vars false W args.toList ds gs before) (hL : laidMetH Tryz.prog Rows.machineMakesRow.laid W) :
    Calls Tryz.prog 3 args W fun e W' => ∃ v, e = .returned v ∧ Rows.machineMakesSpec.post enc Tryz.prog Tryz.f3 false true false false W args v W' := by
  have hW' := hW
  obtain ⟨p, q, hA0, hV, rfl, hfz, hnd⟩ := hW
  have hA : DataW.TrodAll enc Tryz.prog W 0 (fun _ => true) true Tryz.f3.params.toList args.toList ds p := hA0
  rw [Tryz.params3] at hA hval
  obtain ⟨v0, vs0, d0, ds0, p0, q0, hargs, rfl, rfl, h0, r0⟩ := trodAll_cons hA
  obtain ⟨v1, vs1, d1, ds1, p1, q1, rfl, rfl, rfl, h1, r1⟩ := trodAll_cons r0
  obtain ⟨rfl, rfl, rfl⟩ := trodAll_nil r1
  obtain rfl : args = #[v0, v1] := by cases args; simp_all
  obtain ⟨rfl, rfl⟩ := trodVars_none hV
  obtain ⟨a0, rfl, rfl, rfl, w0⟩ := open_cfg (hval 0 23 v0 rfl rfl) h0
  have b0 := bounds_i64 w0.a
  obtain ⟨a1, rfl, rfl, rfl, w1⟩ := open_int Tryz.underlying3 (hval 1 3 v1 rfl rfl) h1
  have b1 := bounds_i64 w1
  clear hA0
  simp only [List.append_nil] at hW'
  refine (law_makes W (table hL) a0.a a0.b a0.c a0.d a0.e a0.g a1 ⟨b0.1, b0.2⟩ ⟨b1.1, b1.2⟩).mono fun e W' ⟨he, bel⟩ => ?_
  subst he
  exact ⟨_, rfl, _, _, _, [], _, [], hW', trodAll_mk1 (shut_bool Tryz.underlying4 _), (trodAll_cons_mk (shut_cfg w0) (trodAll_cons_mk (shut_int Tryz.underlying3 w1) trodAll_mk0)), rfl, bel.frame _, fun h => by cases h⟩

/-- For the witness's world: the table holds what its initialiser lays. -/
def layN (l : List Value) : Obj → Obj
  | .cells _ t frozen => .cells l.toArray t frozen
  | o => o
set_option maxRecDepth 100000 in
theorem laid_met (os : Os) : laidMet Tryz.prog Rows.machineMakesRow.laid (({ World.holding Tryz.prog os ⟨#[], #[], []⟩ with heap := ((((((((((World.holding Tryz.prog os ⟨#[], #[], []⟩).heap.modify 0 (layN [.int .i64 1, .int .i64 0, .int .i64 0, .int .i64 0, .int .u32 805306369, .int .u32 0, .bool true, .int .i64 2, .int .i64 0, .int .i64 0, .int .i64 0, .int .u32 4294967168, .int .u32 0, .bool true, .int .i64 2, .int .i64 0, .int .i64 0, .int .i64 1, .int .u32 4294950912, .int .u32 0, .bool true, .int .i64 2, .int .i64 0, .int .i64 0, .int .i64 2, .int .u32 55, .int .u32 0, .bool true, .int .i64 3, .int .i64 0, .int .i64 0, .int .i64 0, .int .u32 4294967295, .int .u32 0, .bool true, .int .i64 5, .int .i64 0, .int .i64 0, .int .i64 0, .int .u32 7423, .int .u32 0, .bool false, .int .i64 5, .int .i64 0, .int .i64 0, .int .i64 1, .int .u32 5135, .int .u32 0, .bool false, .int .i64 6, .int .i64 0, .int .i64 0, .int .i64 0, .int .u32 4294967295, .int .u32 0, .bool false, .int .i64 6, .int .i64 0, .int .i64 0, .int .i64 2, .int .u32 4294967295, .int .u32 0, .bool false, .int .i64 7, .int .i64 0, .int .i64 4, .int .i64 0, .int .u32 4294967295, .int .u32 0, .bool false, .int .i64 10, .int .i64 0, .int .i64 2, .int .i64 0, .int .u32 4279238655, .int .u32 625316, .bool true, .int .i64 10, .int .i64 0, .int .i64 2, .int .i64 1, .int .u32 4294967295, .int .u32 1155549408, .bool true, .int .i64 13, .int .i64 0, .int .i64 0, .int .i64 1, .int .u32 4294967295, .int .u32 0, .bool true])).modify 3 (layN [.int .u8 0, .int .u8 1, .int .u8 2, .int .u8 0])).modify 4 (layN [.int .u8 0, .int .u8 4, .int .u8 5, .int .u8 5])).modify 7 (layN [.int .u32 0, .int .u32 1, .int .u32 2, .int .u32 262146, .int .u32 1, .int .u32 2])).modify 2 (layN [.int .u8 0, .int .u8 10, .int .u8 20, .int .u8 24, .int .u8 16, .int .u8 12])).modify 6 (layN [.int .u8 0, .int .u8 5, .int .u8 4, .int .u8 2, .int .u8 3])).modify 1 (layN [.int .u8 0, .int .u8 0, .int .u8 3, .int .u8 4, .int .u8 2, .int .u8 1])).modify 5 (layN [.int .u8 0, .int .u8 1, .int .u8 16, .int .u8 1, .int .u8 16])).modify 8 (layN [.int .u8 0, .int .u8 0, .int .u8 0, .int .u8 0, .int .u8 0, .int .u8 0, .int .u8 0, .int .u8 0, .int .u8 0, .int .u8 0, .int .u8 0, .int .u8 0, .int .u8 10, .int .u8 15, .int .u8 12, .int .u8 16, .int .u8 17, .int .u8 4, .int .u8 10, .int .u8 15, .int .u8 12, .int .u8 16, .int .u8 17, .int .u8 4, .int .u8 4, .int .u8 9, .int .u8 12, .int .u8 10, .int .u8 11, .int .u8 15, .int .u8 4, .int .u8 9, .int .u8 6, .int .u8 10, .int .u8 11, .int .u8 0])) } : World).forCall (fun _ _ => 0) ⟨#[], #[.agg #[.int .i64 0, .int .i64 0, .int .i64 0, .int .i64 0, .int .i64 0, .int .i64 0], .int .i64 0], []⟩).memory :=
  laidMet_of_run' 8 (by kernel_rfl) (by kernel_rfl)
theorem reads (os : Os) {H : Type} (enc : TypeId × Value → H) : ∃ places, DataW.whole enc Tryz.prog (({ World.holding Tryz.prog os ⟨#[], #[], []⟩ with heap := ((((((((((World.holding Tryz.prog os ⟨#[], #[], []⟩).heap.modify 0 (layN [.int .i64 1, .int .i64 0, .int .i64 0, .int .i64 0, .int .u32 805306369, .int .u32 0, .bool true, .int .i64 2, .int .i64 0, .int .i64 0, .int .i64 0, .int .u32 4294967168, .int .u32 0, .bool true, .int .i64 2, .int .i64 0, .int .i64 0, .int .i64 1, .int .u32 4294950912, .int .u32 0, .bool true, .int .i64 2, .int .i64 0, .int .i64 0, .int .i64 2, .int .u32 55, .int .u32 0, .bool true, .int .i64 3, .int .i64 0, .int .i64 0, .int .i64 0, .int .u32 4294967295, .int .u32 0, .bool true, .int .i64 5, .int .i64 0, .int .i64 0, .int .i64 0, .int .u32 7423, .int .u32 0, .bool false, .int .i64 5, .int .i64 0, .int .i64 0, .int .i64 1, .int .u32 5135, .int .u32 0, .bool false, .int .i64 6, .int .i64 0, .int .i64 0, .int .i64 0, .int .u32 4294967295, .int .u32 0, .bool false, .int .i64 6, .int .i64 0, .int .i64 0, .int .i64 2, .int .u32 4294967295, .int .u32 0, .bool false, .int .i64 7, .int .i64 0, .int .i64 4, .int .i64 0, .int .u32 4294967295, .int .u32 0, .bool false, .int .i64 10, .int .i64 0, .int .i64 2, .int .i64 0, .int .u32 4279238655, .int .u32 625316, .bool true, .int .i64 10, .int .i64 0, .int .i64 2, .int .i64 1, .int .u32 4294967295, .int .u32 1155549408, .bool true, .int .i64 13, .int .i64 0, .int .i64 0, .int .i64 1, .int .u32 4294967295, .int .u32 0, .bool true])).modify 3 (layN [.int .u8 0, .int .u8 1, .int .u8 2, .int .u8 0])).modify 4 (layN [.int .u8 0, .int .u8 4, .int .u8 5, .int .u8 5])).modify 7 (layN [.int .u32 0, .int .u32 1, .int .u32 2, .int .u32 262146, .int .u32 1, .int .u32 2])).modify 2 (layN [.int .u8 0, .int .u8 10, .int .u8 20, .int .u8 24, .int .u8 16, .int .u8 12])).modify 6 (layN [.int .u8 0, .int .u8 5, .int .u8 4, .int .u8 2, .int .u8 3])).modify 1 (layN [.int .u8 0, .int .u8 0, .int .u8 3, .int .u8 4, .int .u8 2, .int .u8 1])).modify 5 (layN [.int .u8 0, .int .u8 1, .int .u8 16, .int .u8 1, .int .u8 16])).modify 8 (layN [.int .u8 0, .int .u8 0, .int .u8 0, .int .u8 0, .int .u8 0, .int .u8 0, .int .u8 0, .int .u8 0, .int .u8 0, .int .u8 0, .int .u8 0, .int .u8 0, .int .u8 10, .int .u8 15, .int .u8 12, .int .u8 16, .int .u8 17, .int .u8 4, .int .u8 10, .int .u8 15, .int .u8 12, .int .u8 16, .int .u8 17, .int .u8 4, .int .u8 4, .int .u8 9, .int .u8 12, .int .u8 10, .int .u8 11, .int .u8 15, .int .u8 4, .int .u8 9, .int .u8 6, .int .u8 10, .int .u8 11, .int .u8 0])) } : World).forCall (fun _ _ => 0) ⟨#[], #[.agg #[.int .i64 0, .int .i64 0, .int .i64 0, .int .i64 0, .int .i64 0, .int .i64 0], .int .i64 0], []⟩).memory Tryz.f3.params.toList Rows.machineMakesSpec.vars false #[(.agg #[.int .i64 0, .int .i64 0, .int .i64 0, .int .i64 0, .int .i64 0, .int .i64 0] : Value), (.int .i64 0 : Value)].toList 8 = some ([cfgD ⟨0, 0, 0, 0, 0, 0⟩, .lit (.int .i64 0)], [], places) :=
  ⟨[], by kernel_rfl⟩

set_option maxRecDepth 100000 in
theorem lifted (os : Os) (started : os.Started) (H : Type) (enc : TypeId × Value → H) (F : Stop.Interp) :
    ReturnsInHanded {} Tryz.checked os 3 .any ((OpenSpec.ofChange Rows.machineMakesSpec).preRow enc Tryz.prog Tryz.f3 Rows.machineMakesRow.domain false Rows.machineMakesRow.laid) (((OpenSpec.ofChange Rows.machineMakesSpec).at F).post enc Tryz.prog Tryz.f3 false true false false) := by
  obtain ⟨places, hx⟩ := reads os enc
  refine returnsInHanded_of_row (C := Tryz.checked) (s := OpenSpec.ofChange Rows.machineMakesSpec) own started (by kernel_rfl) Tryz.func3
    (witness_row_at (enc := enc) (C := Tryz.checked) false ({ World.holding Tryz.prog os ⟨#[], #[], []⟩ with heap := ((((((((((World.holding Tryz.prog os ⟨#[], #[], []⟩).heap.modify 0 (layN [.int .i64 1, .int .i64 0, .int .i64 0, .int .i64 0, .int .u32 805306369, .int .u32 0, .bool true, .int .i64 2, .int .i64 0, .int .i64 0, .int .i64 0, .int .u32 4294967168, .int .u32 0, .bool true, .int .i64 2, .int .i64 0, .int .i64 0, .int .i64 1, .int .u32 4294950912, .int .u32 0, .bool true, .int .i64 2, .int .i64 0, .int .i64 0, .int .i64 2, .int .u32 55, .int .u32 0, .bool true, .int .i64 3, .int .i64 0, .int .i64 0, .int .i64 0, .int .u32 4294967295, .int .u32 0, .bool true, .int .i64 5, .int .i64 0, .int .i64 0, .int .i64 0, .int .u32 7423, .int .u32 0, .bool false, .int .i64 5, .int .i64 0, .int .i64 0, .int .i64 1, .int .u32 5135, .int .u32 0, .bool false, .int .i64 6, .int .i64 0, .int .i64 0, .int .i64 0, .int .u32 4294967295, .int .u32 0, .bool false, .int .i64 6, .int .i64 0, .int .i64 0, .int .i64 2, .int .u32 4294967295, .int .u32 0, .bool false, .int .i64 7, .int .i64 0, .int .i64 4, .int .i64 0, .int .u32 4294967295, .int .u32 0, .bool false, .int .i64 10, .int .i64 0, .int .i64 2, .int .i64 0, .int .u32 4279238655, .int .u32 625316, .bool true, .int .i64 10, .int .i64 0, .int .i64 2, .int .i64 1, .int .u32 4294967295, .int .u32 1155549408, .bool true, .int .i64 13, .int .i64 0, .int .i64 0, .int .i64 1, .int .u32 4294967295, .int .u32 0, .bool true])).modify 3 (layN [.int .u8 0, .int .u8 1, .int .u8 2, .int .u8 0])).modify 4 (layN [.int .u8 0, .int .u8 4, .int .u8 5, .int .u8 5])).modify 7 (layN [.int .u32 0, .int .u32 1, .int .u32 2, .int .u32 262146, .int .u32 1, .int .u32 2])).modify 2 (layN [.int .u8 0, .int .u8 10, .int .u8 20, .int .u8 24, .int .u8 16, .int .u8 12])).modify 6 (layN [.int .u8 0, .int .u8 5, .int .u8 4, .int .u8 2, .int .u8 3])).modify 1 (layN [.int .u8 0, .int .u8 0, .int .u8 3, .int .u8 4, .int .u8 2, .int .u8 1])).modify 5 (layN [.int .u8 0, .int .u8 1, .int .u8 16, .int .u8 1, .int .u8 16])).modify 8 (layN [.int .u8 0, .int .u8 0, .int .u8 0, .int .u8 0, .int .u8 0, .int .u8 0, .int .u8 0, .int .u8 0, .int .u8 0, .int .u8 0, .int .u8 0, .int .u8 0, .int .u8 10, .int .u8 15, .int .u8 12, .int .u8 16, .int .u8 17, .int .u8 4, .int .u8 10, .int .u8 15, .int .u8 12, .int .u8 16, .int .u8 17, .int .u8 4, .int .u8 4, .int .u8 9, .int .u8 12, .int .u8 10, .int .u8 11, .int .u8 15, .int .u8 4, .int .u8 9, .int .u8 6, .int .u8 10, .int .u8 11, .int .u8 0])) } : World) #[.agg #[.int .i64 0, .int .i64 0, .int .i64 0, .int .i64 0, .int .i64 0, .int .i64 0], .int .i64 0] rfl (by kernel_rfl) (by kernel_rfl) (by kernel_rfl)
      (OpenSpec.preRow_of_cond 8 hx (by kernel_rfl) (fun k hk => by cases hk) (by kernel_rfl) (laid_met os))) ?_
  intro W base args ds gs before hval hW _ hcond hwt hL hS _
  exact contract H enc W base args ds gs before hval hW hL

theorem said : Rows.MachineMakesSaid :=
  OpenClaim.holds_of_cond 3 Tryz.f3 rfl rfl rfl rfl rfl rfl rfl ⟨rfl, rfl, rfl, rfl, rfl⟩ rfl rfl rfl rfl rfl (by kernel_rfl) Tryz.func3 (by kernel_rfl)
    (of_decide_eq_true (by kernel_rfl)) (by unfold Func.isWrapper; first | (rw [if_pos (by decide +kernel)]; kernel_rfl) | (rw [if_neg (by decide +kernel)]; exact ⟨rfl, rfl⟩))
    (fun os started H enc _ F => by rw [OpenClaim.pre_eq_preRow]; exact lifted os started H enc F)

theorem plain (f : FuncId) (fn : Func) (hf : Tryz.pinned.checked.prog.funcNamed "atlas/atlaslaw13.MachineMakes" = some f) (hfn : Tryz.pinned.checked.prog.funcs[f]? = some fn) :
    false = Tryz.pinned.checked.prog.looks [] ∧ ∀ (j : Nat) t, fn.params[j]? = some t → Tryz.pinned.checked.prog.wantsStandIn t = false := by
  obtain rfl : f = 3 := Option.some.inj ((show Tryz.prog.funcNamed "atlas/atlaslaw13.MachineMakes" = some 3 by kernel_rfl).symm.trans hf) |>.symm
  obtain rfl : fn = Tryz.f3 := (Option.some.inj (Tryz.func3.symm.trans hfn)).symm
  refine ⟨by kernel_rfl, fun j t ht => ?_⟩
  rw [Tryz.params3] at ht
  have hm := Array.mem_of_getElem? ht
  have hm2 : t = 23 ∨ t = 3 := by simpa using hm
  rcases hm2 with rfl | rfl
  · exact (show Tryz.prog.wantsStandIn 23 = false by kernel_rfl)
  · exact (show Tryz.prog.wantsStandIn 3 = false by kernel_rfl)
end Go.Proofs.YtfdjfhhjfgdbaaaGreatDoor.machineMakes
namespace Go.Proofs.YtfdjfhhjfgdbaaaGreatDoor
/-- The card. -/
theorem machineMakes_card : Rows.MachineMakesCardSaid :=
  Claim7.holds_tied_plain_at .later [] _ _ _ _ machineMakes.said (fun _ h => by cases h) (by kernel_rfl) (fun _ h => by cases h) machineMakes_row_tie rfl ⟨rfl, rfl⟩ (by kernel_rfl) rfl machineMakes.plain (by kernel_rfl)
#print axioms machineMakes_card
end Go.Proofs.YtfdjfhhjfgdbaaaGreatDoor
