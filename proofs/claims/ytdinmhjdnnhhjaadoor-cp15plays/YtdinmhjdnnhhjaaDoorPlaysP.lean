import Derived.Test.YtdinmhjdnnhhjaaDoorLy
import Derived.Test.YtdinmhjdnnhhjaaDoorOf
import Derived.Test.YtdinmhjdnnhhjaaDoorCards
import Derived.Test.YtdinmhjdnnhhjaaDoorTie
import Derived.WalkKit
import Derived.ProofKit
import Derived.OpenShut
import Derived.Deep.DeepHandedRow
import Derived.Lib.LaidTab
namespace Go.Proofs.YtdinmhjdnnhhjaaDoor.cp15Plays
open Go.ChangeShapes Go.WideShapes Go.ChangeAt Go.RowKit
set_option linter.unusedVariables false
set_option linter.unusedSimpArgs false

theorem own : ownKnob Tryd.prog.godebug = none := by kernel_rfl
theorem laidOut : laidOutB Tryd.prog = true := by kernel_rfl
theorem gn : Tryd.prog.globalNamed "atlas/cp15.registers" = some 0 := by kernel_rfl
theorem gt : (Tryd.prog.globals[0]?).map (·.type) = some 66 := by kernel_rfl
theorem gc : Tryd.prog.cellsOf 66 = 13 * 7 := by kernel_rfl
/-- What the row's list gives: the table. -/
theorem table {W : World} (h : laidMetH Tryd.prog Rows.cp15PlaysRow.laid W) : TR W := by
  obtain ⟨ps, hL, _⟩ := h
  exact regs_of hL (.head _) gn gt gc
theorem contract (H : Type) (enc : TypeId × Value → H) (W : World) (base : Nat) (args : Array Value) (ds gs : List (DataW H)) (before : List MemPlace)
    (hval : ∀ (j : Nat) t v, Tryd.f6.params[j]? = some t → args[j]? = some v → Value.okWide Tryd.prog W .any base t v)
    (hW : DataW.Whole enc Tryd.prog Tryd.f6.params.toList Rows.cp15PlaysSpec.vars false W args.toList ds gs before) (hL : laidMetH Tryd.prog Rows.cp15PlaysRow.laid W) :
    Calls Tryd.prog 6 args W fun e W' => ∃ v, e = .returned v ∧ Rows.cp15PlaysSpec.post enc Tryd.prog Tryd.f6 false true false false W args v W' := by
  have hW' := hW
  obtain ⟨p, q, hA0, hV, rfl, hfz, hnd⟩ := hW
  have hA : DataW.TrodAll enc Tryd.prog W 0 (fun _ => true) true Tryd.f6.params.toList args.toList ds p := hA0
  rw [Tryd.params6] at hA hval
  obtain ⟨v0, vs0, d0, ds0, p0, q0, hargs, rfl, rfl, h0, r0⟩ := trodAll_cons hA
  obtain ⟨rfl, rfl, rfl⟩ := trodAll_nil r0
  obtain rfl : args = #[v0] := by cases args; simp_all
  obtain ⟨rfl, rfl⟩ := trodVars_none hV
  obtain ⟨s0, n0, c0, rfl⟩ := okWide_slice Tryd.underlying22 (hval 0 22 v0 rfl rfl)
  have h0k := h0
  obtain ⟨fuel0, hf0⟩ := h0
  obtain ⟨ops0, rfl, S0, hb0⟩ := open_script hf0
  clear hA0
  simp only [List.append_nil] at hW'
  have hlt0 : ∀ y ∈ p0, y.block < W.heap.size := fun y hy => by simpa using hW'.lt y (by simp [hy])
  refine (law_plays W s0 c0 ops0 S0 (table hL) hb0).mono fun e W' ⟨he, bel⟩ => ?_
  subst he
  exact ⟨_, rfl, _, _, _, [], _, [], hW', trodAll_mk1 (shut_bool Tryd.underlying4 _), (trodAll_cons_mk (Below.trod laidOut (by kernel_rfl) (of_decide_eq_true (by kernel_rfl)) h0k bel hlt0) trodAll_mk0), rfl, bel.frame _, fun h => by cases h⟩

/-- For the witness's world: the table holds what its initialiser lays. -/
def layN (l : List Value) : Obj → Obj
  | .cells _ t frozen => .cells l.toArray t frozen
  | o => o
set_option maxRecDepth 100000 in
theorem laid_met (os : Os) : laidMet Tryd.prog Rows.cp15PlaysRow.laid (({ World.holding Tryd.prog os ⟨#[], #[], []⟩ with heap := ((World.holding Tryd.prog os ⟨#[], #[], []⟩).heap.modify 0 (layN [.int .i64 1, .int .i64 0, .int .i64 0, .int .i64 0, .int .u32 805306369, .int .u32 0, .bool true, .int .i64 2, .int .i64 0, .int .i64 0, .int .i64 0, .int .u32 4294967168, .int .u32 0, .bool true, .int .i64 2, .int .i64 0, .int .i64 0, .int .i64 1, .int .u32 4294950912, .int .u32 0, .bool true, .int .i64 2, .int .i64 0, .int .i64 0, .int .i64 2, .int .u32 55, .int .u32 0, .bool true, .int .i64 3, .int .i64 0, .int .i64 0, .int .i64 0, .int .u32 4294967295, .int .u32 0, .bool true, .int .i64 5, .int .i64 0, .int .i64 0, .int .i64 0, .int .u32 7423, .int .u32 0, .bool false, .int .i64 5, .int .i64 0, .int .i64 0, .int .i64 1, .int .u32 5135, .int .u32 0, .bool false, .int .i64 6, .int .i64 0, .int .i64 0, .int .i64 0, .int .u32 4294967295, .int .u32 0, .bool false, .int .i64 6, .int .i64 0, .int .i64 0, .int .i64 2, .int .u32 4294967295, .int .u32 0, .bool false, .int .i64 7, .int .i64 0, .int .i64 4, .int .i64 0, .int .u32 4294967295, .int .u32 0, .bool false, .int .i64 10, .int .i64 0, .int .i64 2, .int .i64 0, .int .u32 4279238655, .int .u32 625316, .bool true, .int .i64 10, .int .i64 0, .int .i64 2, .int .i64 1, .int .u32 4294967295, .int .u32 1155549408, .bool true, .int .i64 13, .int .i64 0, .int .i64 0, .int .i64 1, .int .u32 4294967295, .int .u32 0, .bool true])) } : World).forCall (fun _ _ => 0) ⟨#[], #[.slice none 0 0], []⟩).memory :=
  laidMet_of_run' 8 (by kernel_rfl) (by kernel_rfl)
theorem reads (os : Os) {H : Type} (enc : TypeId × Value → H) : ∃ places, DataW.whole enc Tryd.prog (({ World.holding Tryd.prog os ⟨#[], #[], []⟩ with heap := ((World.holding Tryd.prog os ⟨#[], #[], []⟩).heap.modify 0 (layN [.int .i64 1, .int .i64 0, .int .i64 0, .int .i64 0, .int .u32 805306369, .int .u32 0, .bool true, .int .i64 2, .int .i64 0, .int .i64 0, .int .i64 0, .int .u32 4294967168, .int .u32 0, .bool true, .int .i64 2, .int .i64 0, .int .i64 0, .int .i64 1, .int .u32 4294950912, .int .u32 0, .bool true, .int .i64 2, .int .i64 0, .int .i64 0, .int .i64 2, .int .u32 55, .int .u32 0, .bool true, .int .i64 3, .int .i64 0, .int .i64 0, .int .i64 0, .int .u32 4294967295, .int .u32 0, .bool true, .int .i64 5, .int .i64 0, .int .i64 0, .int .i64 0, .int .u32 7423, .int .u32 0, .bool false, .int .i64 5, .int .i64 0, .int .i64 0, .int .i64 1, .int .u32 5135, .int .u32 0, .bool false, .int .i64 6, .int .i64 0, .int .i64 0, .int .i64 0, .int .u32 4294967295, .int .u32 0, .bool false, .int .i64 6, .int .i64 0, .int .i64 0, .int .i64 2, .int .u32 4294967295, .int .u32 0, .bool false, .int .i64 7, .int .i64 0, .int .i64 4, .int .i64 0, .int .u32 4294967295, .int .u32 0, .bool false, .int .i64 10, .int .i64 0, .int .i64 2, .int .i64 0, .int .u32 4279238655, .int .u32 625316, .bool true, .int .i64 10, .int .i64 0, .int .i64 2, .int .i64 1, .int .u32 4294967295, .int .u32 1155549408, .bool true, .int .i64 13, .int .i64 0, .int .i64 0, .int .i64 1, .int .u32 4294967295, .int .u32 0, .bool true])) } : World).forCall (fun _ _ => 0) ⟨#[], #[.slice none 0 0], []⟩).memory Tryd.f6.params.toList Rows.cp15PlaysSpec.vars false #[(.slice none 0 0 : Value)].toList 8 = some ([.nil], [], places) :=
  ⟨[], by kernel_rfl⟩

set_option maxRecDepth 100000 in
theorem lifted (os : Os) (started : os.Started) (H : Type) (enc : TypeId × Value → H) (F : Stop.Interp) :
    ReturnsInHanded {} Tryd.checked os 6 .any ((OpenSpec.ofChange Rows.cp15PlaysSpec).preRow enc Tryd.prog Tryd.f6 Rows.cp15PlaysRow.domain false Rows.cp15PlaysRow.laid) (((OpenSpec.ofChange Rows.cp15PlaysSpec).at F).post enc Tryd.prog Tryd.f6 false true false false) := by
  obtain ⟨places, hx⟩ := reads os enc
  refine returnsInHanded_of_row (C := Tryd.checked) (s := OpenSpec.ofChange Rows.cp15PlaysSpec) own started (by kernel_rfl) Tryd.func6
    (witness_row_at (enc := enc) (C := Tryd.checked) false ({ World.holding Tryd.prog os ⟨#[], #[], []⟩ with heap := ((World.holding Tryd.prog os ⟨#[], #[], []⟩).heap.modify 0 (layN [.int .i64 1, .int .i64 0, .int .i64 0, .int .i64 0, .int .u32 805306369, .int .u32 0, .bool true, .int .i64 2, .int .i64 0, .int .i64 0, .int .i64 0, .int .u32 4294967168, .int .u32 0, .bool true, .int .i64 2, .int .i64 0, .int .i64 0, .int .i64 1, .int .u32 4294950912, .int .u32 0, .bool true, .int .i64 2, .int .i64 0, .int .i64 0, .int .i64 2, .int .u32 55, .int .u32 0, .bool true, .int .i64 3, .int .i64 0, .int .i64 0, .int .i64 0, .int .u32 4294967295, .int .u32 0, .bool true, .int .i64 5, .int .i64 0, .int .i64 0, .int .i64 0, .int .u32 7423, .int .u32 0, .bool false, .int .i64 5, .int .i64 0, .int .i64 0, .int .i64 1, .int .u32 5135, .int .u32 0, .bool false, .int .i64 6, .int .i64 0, .int .i64 0, .int .i64 0, .int .u32 4294967295, .int .u32 0, .bool false, .int .i64 6, .int .i64 0, .int .i64 0, .int .i64 2, .int .u32 4294967295, .int .u32 0, .bool false, .int .i64 7, .int .i64 0, .int .i64 4, .int .i64 0, .int .u32 4294967295, .int .u32 0, .bool false, .int .i64 10, .int .i64 0, .int .i64 2, .int .i64 0, .int .u32 4279238655, .int .u32 625316, .bool true, .int .i64 10, .int .i64 0, .int .i64 2, .int .i64 1, .int .u32 4294967295, .int .u32 1155549408, .bool true, .int .i64 13, .int .i64 0, .int .i64 0, .int .i64 1, .int .u32 4294967295, .int .u32 0, .bool true])) } : World) #[.slice none 0 0] rfl (by kernel_rfl) (by kernel_rfl) (by kernel_rfl)
      (OpenSpec.preRow_of_cond 8 hx (by kernel_rfl) (fun k hk => by cases hk) (by kernel_rfl) (laid_met os))) ?_
  intro W base args ds gs before hval hW _ hcond hwt hL hS _
  exact contract H enc W base args ds gs before hval hW hL

theorem said : Rows.Cp15PlaysSaid :=
  OpenClaim.holds_of_cond 6 Tryd.f6 rfl rfl rfl rfl rfl rfl rfl ⟨rfl, rfl, rfl, rfl, rfl⟩ rfl rfl rfl rfl rfl (by kernel_rfl) Tryd.func6 (by kernel_rfl)
    (of_decide_eq_true (by kernel_rfl)) (by unfold Func.isWrapper; first | (rw [if_pos (by decide +kernel)]; kernel_rfl) | (rw [if_neg (by decide +kernel)]; exact ⟨rfl, rfl⟩))
    (fun os started H enc _ F => by rw [OpenClaim.pre_eq_preRow]; exact lifted os started H enc F)

theorem plain (f : FuncId) (fn : Func) (hf : Tryd.pinned.checked.prog.funcNamed "atlas/atlaslaw08.Cp15Plays" = some f) (hfn : Tryd.pinned.checked.prog.funcs[f]? = some fn) :
    false = Tryd.pinned.checked.prog.looks [] ∧ ∀ (j : Nat) t, fn.params[j]? = some t → Tryd.pinned.checked.prog.wantsStandIn t = false := by
  obtain rfl : f = 6 := Option.some.inj ((show Tryd.prog.funcNamed "atlas/atlaslaw08.Cp15Plays" = some 6 by kernel_rfl).symm.trans hf) |>.symm
  obtain rfl : fn = Tryd.f6 := (Option.some.inj (Tryd.func6.symm.trans hfn)).symm
  refine ⟨by kernel_rfl, fun j t ht => ?_⟩
  rw [Tryd.params6] at ht
  have hm := Array.mem_of_getElem? ht
  obtain rfl : t = 22 := by simpa using hm
  exact (show Tryd.prog.wantsStandIn 22 = false by kernel_rfl)
end Go.Proofs.YtdinmhjdnnhhjaaDoor.cp15Plays
namespace Go.Proofs.YtdinmhjdnnhhjaaDoor
/-- The card. -/
theorem cp15Plays_card : Rows.Cp15PlaysCardSaid :=
  Claim7.holds_tied_plain_at .later [] _ _ _ _ cp15Plays.said (fun _ h => by cases h) (by kernel_rfl) (fun _ h => by cases h) cp15Plays_row_tie rfl ⟨rfl, rfl⟩ (by kernel_rfl) rfl cp15Plays.plain (by kernel_rfl)
#print axioms cp15Plays_card
end Go.Proofs.YtdinmhjdnnhhjaaDoor
