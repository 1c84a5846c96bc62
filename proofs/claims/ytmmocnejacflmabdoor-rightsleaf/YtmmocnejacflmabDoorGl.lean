import Derived.Test.YtmmocnejacflmabDoorGt
namespace Go.Proofs.YtmmocnejacflmabDoor
open Go.RowKit
set_option linter.unusedVariables false
set_option linter.unusedSimpArgs false
/-- The bits of a user's block, or an error. -/
def leE (r w x : Bool) : Int := if !r && (w || x) then 71 else 0
def leA (r w x : Bool) : Int := if !r && (w || x) then 0 else if w then 3 else if r then 2 else 1
def leB (r w x : Bool) : Int := if !r && (w || x) then 0 else 14
def leG (r w x : Bool) : Bool := if !r && (w || x) then false else true
def leX (r w x : Bool) : Bool := if !r && (w || x) then false else !x
set_option maxRecDepth 100000 in
set_option maxHeartbeats 4000000 in
theorem leaf_any (r s x : Bool) (w : World) : Calls Tryd.prog 7 #[.agg #[.bool r, .bool s, .bool x]] w fun e w' => e = .returned (.tuple #[.agg #[.int .i64 (leA r s x), .int .u32 (leB r s x), .bool (leG r s x), .bool (leX r s x)], .int .i64 (leE r s x)]) ∧ Below w.heap.size w w' := by
  cases r <;> cases s <;> cases x
  all_goals
    go_enter Tryd.func7, Tryd.ntmps7
    go_wp2
    first
    | refine bodyPost_ret (v := .tuple #[.agg #[.int .i64 0, .int .u32 0, .bool false, .bool false], .int .i64 71]) (by simp [results, Tryd.results7, go_sem]) rfl ⟨rfl, (by (repeat (first | apply below_drew | refine Below.setCell ?_ (by simp) _ | refine Below.alloc ?_ (by simp; try omega) _)); exact Below.refl _ _)⟩
    | refine bodyPost_ret (v := .tuple #[.agg #[.int .i64 1, .int .u32 14, .bool true, .bool true], .int .i64 0]) (by simp [results, Tryd.results7, go_sem]) rfl ⟨rfl, (by (repeat (first | apply below_drew | refine Below.setCell ?_ (by simp) _ | refine Below.alloc ?_ (by simp; try omega) _)); exact Below.refl _ _)⟩
    | refine bodyPost_ret (v := .tuple #[.agg #[.int .i64 2, .int .u32 14, .bool true, .bool true], .int .i64 0]) (by simp [results, Tryd.results7, go_sem]) rfl ⟨rfl, (by (repeat (first | apply below_drew | refine Below.setCell ?_ (by simp) _ | refine Below.alloc ?_ (by simp; try omega) _)); exact Below.refl _ _)⟩
    | refine bodyPost_ret (v := .tuple #[.agg #[.int .i64 2, .int .u32 14, .bool true, .bool false], .int .i64 0]) (by simp [results, Tryd.results7, go_sem]) rfl ⟨rfl, (by (repeat (first | apply below_drew | refine Below.setCell ?_ (by simp) _ | refine Below.alloc ?_ (by simp; try omega) _)); exact Below.refl _ _)⟩
    | refine bodyPost_ret (v := .tuple #[.agg #[.int .i64 3, .int .u32 14, .bool true, .bool true], .int .i64 0]) (by simp [results, Tryd.results7, go_sem]) rfl ⟨rfl, (by (repeat (first | apply below_drew | refine Below.setCell ?_ (by simp) _ | refine Below.alloc ?_ (by simp; try omega) _)); exact Below.refl _ _)⟩
    | refine bodyPost_ret (v := .tuple #[.agg #[.int .i64 3, .int .u32 14, .bool true, .bool false], .int .i64 0]) (by simp [results, Tryd.results7, go_sem]) rfl ⟨rfl, (by (repeat (first | apply below_drew | refine Below.setCell ?_ (by simp) _ | refine Below.alloc ?_ (by simp; try omega) _)); exact Below.refl _ _)⟩
end Go.Proofs.YtmmocnejacflmabDoor
