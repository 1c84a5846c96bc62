import Derived.Test.YtmcloaonpkfibabDoorRm
namespace Go.Proofs.YtmcloaonpkfibabDoor
open Go.RowKit
set_option linter.unusedVariables false
set_option linter.unusedSimpArgs false
set_option maxRecDepth 100000 in
set_option maxHeartbeats 4000000 in
theorem rp_32 (w : World) : Calls Tryd.prog 15 #[.int .u32 32] w fun e w' => e = .returned (.tuple #[.agg #[.int .i64 2, .int .i64 0, .int .i64 0, .int .i64 0], .int .i64 0]) ∧ Below w.heap.size w w' := by
  have e1 : bits .and .u32 16 3 = 0 := by kernel_rfl
  have e2 : bits .and .u32 32 1 = 0 := by kernel_rfl
  go_enter Tryd.func15, Tryd.ntmps15
  go_wp2
  refine bodyPost_ret (v := .tuple #[.agg #[.int .i64 2, .int .i64 0, .int .i64 0, .int .i64 0], .int .i64 0]) (by simp [results, Tryd.results15, go_sem]) rfl ⟨rfl, (by (repeat (with_reducible first | refine Below.setCell ?_ (by simp) _ | refine below_drew ?_ | refine Below.alloc ?_ (by simp) _)); exact Below.refl _ _)⟩
set_option maxRecDepth 100000 in
set_option maxHeartbeats 4000000 in
theorem rp_33 (w : World) : Calls Tryd.prog 15 #[.int .u32 33] w fun e w' => e = .returned (.tuple #[.agg #[.int .i64 2, .int .i64 0, .int .i64 0, .int .i64 2], .int .i64 0]) ∧ Below w.heap.size w w' := by
  have e1 : bits .and .u32 16 3 = 0 := by kernel_rfl
  have e2 : bits .and .u32 33 1 = 1 := by kernel_rfl
  go_enter Tryd.func15, Tryd.ntmps15
  go_wp2
  refine bodyPost_ret (v := .tuple #[.agg #[.int .i64 2, .int .i64 0, .int .i64 0, .int .i64 2], .int .i64 0]) (by simp [results, Tryd.results15, go_sem]) rfl ⟨rfl, (by (repeat (with_reducible first | refine Below.setCell ?_ (by simp) _ | refine below_drew ?_ | refine Below.alloc ?_ (by simp) _)); exact Below.refl _ _)⟩
set_option maxRecDepth 100000 in
set_option maxHeartbeats 4000000 in
theorem rp_34 (w : World) : Calls Tryd.prog 15 #[.int .u32 34] w fun e w' => e = .returned (.tuple #[.agg #[.int .i64 2, .int .i64 1, .int .i64 0, .int .i64 0], .int .i64 0]) ∧ Below w.heap.size w w' := by
  have e1 : bits .and .u32 17 3 = 1 := by kernel_rfl
  have e2 : bits .and .u32 34 1 = 0 := by kernel_rfl
  go_enter Tryd.func15, Tryd.ntmps15
  go_wp2
  refine bodyPost_ret (v := .tuple #[.agg #[.int .i64 2, .int .i64 1, .int .i64 0, .int .i64 0], .int .i64 0]) (by simp [results, Tryd.results15, go_sem]) rfl ⟨rfl, (by (repeat (with_reducible first | refine Below.setCell ?_ (by simp) _ | refine below_drew ?_ | refine Below.alloc ?_ (by simp) _)); exact Below.refl _ _)⟩
set_option maxRecDepth 100000 in
set_option maxHeartbeats 4000000 in
theorem rp_35 (w : World) : Calls Tryd.prog 15 #[.int .u32 35] w fun e w' => e = .returned (.tuple #[.agg #[.int .i64 2, .int .i64 1, .int .i64 0, .int .i64 2], .int .i64 0]) ∧ Below w.heap.size w w' := by
  have e1 : bits .and .u32 17 3 = 1 := by kernel_rfl
  have e2 : bits .and .u32 35 1 = 1 := by kernel_rfl
  go_enter Tryd.func15, Tryd.ntmps15
  go_wp2
  refine bodyPost_ret (v := .tuple #[.agg #[.int .i64 2, .int .i64 1, .int .i64 0, .int .i64 2], .int .i64 0]) (by simp [results, Tryd.results15, go_sem]) rfl ⟨rfl, (by (repeat (with_reducible first | refine Below.setCell ?_ (by simp) _ | refine below_drew ?_ | refine Below.alloc ?_ (by simp) _)); exact Below.refl _ _)⟩
set_option maxRecDepth 100000 in
set_option maxHeartbeats 4000000 in
theorem rp_36 (w : World) : Calls Tryd.prog 15 #[.int .u32 36] w fun e w' => e = .returned (.tuple #[.agg #[.int .i64 2, .int .i64 2, .int .i64 0, .int .i64 0], .int .i64 0]) ∧ Below w.heap.size w w' := by
  have e1 : bits .and .u32 18 3 = 2 := by kernel_rfl
  have e2 : bits .and .u32 36 1 = 0 := by kernel_rfl
  go_enter Tryd.func15, Tryd.ntmps15
  go_wp2
  refine bodyPost_ret (v := .tuple #[.agg #[.int .i64 2, .int .i64 2, .int .i64 0, .int .i64 0], .int .i64 0]) (by simp [results, Tryd.results15, go_sem]) rfl ⟨rfl, (by (repeat (with_reducible first | refine Below.setCell ?_ (by simp) _ | refine below_drew ?_ | refine Below.alloc ?_ (by simp) _)); exact Below.refl _ _)⟩
set_option maxRecDepth 100000 in
set_option maxHeartbeats 4000000 in
theorem rp_37 (w : World) : Calls Tryd.prog 15 #[.int .u32 37] w fun e w' => e = .returned (.tuple #[.agg #[.int .i64 2, .int .i64 2, .int .i64 0, .int .i64 2], .int .i64 0]) ∧ Below w.heap.size w w' := by
  have e1 : bits .and .u32 18 3 = 2 := by kernel_rfl
  have e2 : bits .and .u32 37 1 = 1 := by kernel_rfl
  go_enter Tryd.func15, Tryd.ntmps15
  go_wp2
  refine bodyPost_ret (v := .tuple #[.agg #[.int .i64 2, .int .i64 2, .int .i64 0, .int .i64 2], .int .i64 0]) (by simp [results, Tryd.results15, go_sem]) rfl ⟨rfl, (by (repeat (with_reducible first | refine Below.setCell ?_ (by simp) _ | refine below_drew ?_ | refine Below.alloc ?_ (by simp) _)); exact Below.refl _ _)⟩
set_option maxRecDepth 100000 in
set_option maxHeartbeats 4000000 in
theorem rp_38 (w : World) : Calls Tryd.prog 15 #[.int .u32 38] w fun e w' => e = .returned (.tuple #[.agg #[.int .i64 2, .int .i64 3, .int .i64 0, .int .i64 0], .int .i64 0]) ∧ Below w.heap.size w w' := by
  have e1 : bits .and .u32 19 3 = 3 := by kernel_rfl
  have e2 : bits .and .u32 38 1 = 0 := by kernel_rfl
  go_enter Tryd.func15, Tryd.ntmps15
  go_wp2
  refine bodyPost_ret (v := .tuple #[.agg #[.int .i64 2, .int .i64 3, .int .i64 0, .int .i64 0], .int .i64 0]) (by simp [results, Tryd.results15, go_sem]) rfl ⟨rfl, (by (repeat (with_reducible first | refine Below.setCell ?_ (by simp) _ | refine below_drew ?_ | refine Below.alloc ?_ (by simp) _)); exact Below.refl _ _)⟩
set_option maxRecDepth 100000 in
set_option maxHeartbeats 4000000 in
theorem rp_39 (w : World) : Calls Tryd.prog 15 #[.int .u32 39] w fun e w' => e = .returned (.tuple #[.agg #[.int .i64 2, .int .i64 3, .int .i64 0, .int .i64 2], .int .i64 0]) ∧ Below w.heap.size w w' := by
  have e1 : bits .and .u32 19 3 = 3 := by kernel_rfl
  have e2 : bits .and .u32 39 1 = 1 := by kernel_rfl
  go_enter Tryd.func15, Tryd.ntmps15
  go_wp2
  refine bodyPost_ret (v := .tuple #[.agg #[.int .i64 2, .int .i64 3, .int .i64 0, .int .i64 2], .int .i64 0]) (by simp [results, Tryd.results15, go_sem]) rfl ⟨rfl, (by (repeat (with_reducible first | refine Below.setCell ?_ (by simp) _ | refine below_drew ?_ | refine Below.alloc ?_ (by simp) _)); exact Below.refl _ _)⟩
set_option maxRecDepth 100000 in
set_option maxHeartbeats 4000000 in
theorem rp_40 (w : World) : Calls Tryd.prog 15 #[.int .u32 40] w fun e w' => e = .returned (.tuple #[.agg #[.int .i64 2, .int .i64 0, .int .i64 1, .int .i64 0], .int .i64 0]) ∧ Below w.heap.size w w' := by
  have e1 : bits .and .u32 20 3 = 0 := by kernel_rfl
  have e2 : bits .and .u32 40 1 = 0 := by kernel_rfl
  go_enter Tryd.func15, Tryd.ntmps15
  go_wp2
  refine bodyPost_ret (v := .tuple #[.agg #[.int .i64 2, .int .i64 0, .int .i64 1, .int .i64 0], .int .i64 0]) (by simp [results, Tryd.results15, go_sem]) rfl ⟨rfl, (by (repeat (with_reducible first | refine Below.setCell ?_ (by simp) _ | refine below_drew ?_ | refine Below.alloc ?_ (by simp) _)); exact Below.refl _ _)⟩
set_option maxRecDepth 100000 in
set_option maxHeartbeats 4000000 in
theorem rp_41 (w : World) : Calls Tryd.prog 15 #[.int .u32 41] w fun e w' => e = .returned (.tuple #[.agg #[.int .i64 2, .int .i64 0, .int .i64 1, .int .i64 2], .int .i64 0]) ∧ Below w.heap.size w w' := by
  have e1 : bits .and .u32 20 3 = 0 := by kernel_rfl
  have e2 : bits .and .u32 41 1 = 1 := by kernel_rfl
  go_enter Tryd.func15, Tryd.ntmps15
  go_wp2
  refine bodyPost_ret (v := .tuple #[.agg #[.int .i64 2, .int .i64 0, .int .i64 1, .int .i64 2], .int .i64 0]) (by simp [results, Tryd.results15, go_sem]) rfl ⟨rfl, (by (repeat (with_reducible first | refine Below.setCell ?_ (by simp) _ | refine below_drew ?_ | refine Below.alloc ?_ (by simp) _)); exact Below.refl _ _)⟩
set_option maxRecDepth 100000 in
set_option maxHeartbeats 4000000 in
theorem rp_42 (w : World) : Calls Tryd.prog 15 #[.int .u32 42] w fun e w' => e = .returned (.tuple #[.agg #[.int .i64 2, .int .i64 1, .int .i64 1, .int .i64 0], .int .i64 0]) ∧ Below w.heap.size w w' := by
  have e1 : bits .and .u32 21 3 = 1 := by kernel_rfl
  have e2 : bits .and .u32 42 1 = 0 := by kernel_rfl
  go_enter Tryd.func15, Tryd.ntmps15
  go_wp2
  refine bodyPost_ret (v := .tuple #[.agg #[.int .i64 2, .int .i64 1, .int .i64 1, .int .i64 0], .int .i64 0]) (by simp [results, Tryd.results15, go_sem]) rfl ⟨rfl, (by (repeat (with_reducible first | refine Below.setCell ?_ (by simp) _ | refine below_drew ?_ | refine Below.alloc ?_ (by simp) _)); exact Below.refl _ _)⟩
set_option maxRecDepth 100000 in
set_option maxHeartbeats 4000000 in
theorem rp_43 (w : World) : Calls Tryd.prog 15 #[.int .u32 43] w fun e w' => e = .returned (.tuple #[.agg #[.int .i64 2, .int .i64 1, .int .i64 1, .int .i64 2], .int .i64 0]) ∧ Below w.heap.size w w' := by
  have e1 : bits .and .u32 21 3 = 1 := by kernel_rfl
  have e2 : bits .and .u32 43 1 = 1 := by kernel_rfl
  go_enter Tryd.func15, Tryd.ntmps15
  go_wp2
  refine bodyPost_ret (v := .tuple #[.agg #[.int .i64 2, .int .i64 1, .int .i64 1, .int .i64 2], .int .i64 0]) (by simp [results, Tryd.results15, go_sem]) rfl ⟨rfl, (by (repeat (with_reducible first | refine Below.setCell ?_ (by simp) _ | refine below_drew ?_ | refine Below.alloc ?_ (by simp) _)); exact Below.refl _ _)⟩
set_option maxRecDepth 100000 in
set_option maxHeartbeats 4000000 in
theorem rp_44 (w : World) : Calls Tryd.prog 15 #[.int .u32 44] w fun e w' => e = .returned (.tuple #[.agg #[.int .i64 2, .int .i64 2, .int .i64 1, .int .i64 0], .int .i64 0]) ∧ Below w.heap.size w w' := by
  have e1 : bits .and .u32 22 3 = 2 := by kernel_rfl
  have e2 : bits .and .u32 44 1 = 0 := by kernel_rfl
  go_enter Tryd.func15, Tryd.ntmps15
  go_wp2
  refine bodyPost_ret (v := .tuple #[.agg #[.int .i64 2, .int .i64 2, .int .i64 1, .int .i64 0], .int .i64 0]) (by simp [results, Tryd.results15, go_sem]) rfl ⟨rfl, (by (repeat (with_reducible first | refine Below.setCell ?_ (by simp) _ | refine below_drew ?_ | refine Below.alloc ?_ (by simp) _)); exact Below.refl _ _)⟩
set_option maxRecDepth 100000 in
set_option maxHeartbeats 4000000 in
theorem rp_45 (w : World) : Calls Tryd.prog 15 #[.int .u32 45] w fun e w' => e = .returned (.tuple #[.agg #[.int .i64 2, .int .i64 2, .int .i64 1, .int .i64 2], .int .i64 0]) ∧ Below w.heap.size w w' := by
  have e1 : bits .and .u32 22 3 = 2 := by kernel_rfl
  have e2 : bits .and .u32 45 1 = 1 := by kernel_rfl
  go_enter Tryd.func15, Tryd.ntmps15
  go_wp2
  refine bodyPost_ret (v := .tuple #[.agg #[.int .i64 2, .int .i64 2, .int .i64 1, .int .i64 2], .int .i64 0]) (by simp [results, Tryd.results15, go_sem]) rfl ⟨rfl, (by (repeat (with_reducible first | refine Below.setCell ?_ (by simp) _ | refine below_drew ?_ | refine Below.alloc ?_ (by simp) _)); exact Below.refl _ _)⟩
set_option maxRecDepth 100000 in
set_option maxHeartbeats 4000000 in
theorem rp_46 (w : World) : Calls Tryd.prog 15 #[.int .u32 46] w fun e w' => e = .returned (.tuple #[.agg #[.int .i64 2, .int .i64 3, .int .i64 1, .int .i64 0], .int .i64 0]) ∧ Below w.heap.size w w' := by
  have e1 : bits .and .u32 23 3 = 3 := by kernel_rfl
  have e2 : bits .and .u32 46 1 = 0 := by kernel_rfl
  go_enter Tryd.func15, Tryd.ntmps15
  go_wp2
  refine bodyPost_ret (v := .tuple #[.agg #[.int .i64 2, .int .i64 3, .int .i64 1, .int .i64 0], .int .i64 0]) (by simp [results, Tryd.results15, go_sem]) rfl ⟨rfl, (by (repeat (with_reducible first | refine Below.setCell ?_ (by simp) _ | refine below_drew ?_ | refine Below.alloc ?_ (by simp) _)); exact Below.refl _ _)⟩
set_option maxRecDepth 100000 in
set_option maxHeartbeats 4000000 in
theorem rp_47 (w : World) : Calls Tryd.prog 15 #[.int .u32 47] w fun e w' => e = .returned (.tuple #[.agg #[.int .i64 2, .int .i64 3, .int .i64 1, .int .i64 2], .int .i64 0]) ∧ Below w.heap.size w w' := by
  have e1 : bits .and .u32 23 3 = 3 := by kernel_rfl
  have e2 : bits .and .u32 47 1 = 1 := by kernel_rfl
  go_enter Tryd.func15, Tryd.ntmps15
  go_wp2
  refine bodyPost_ret (v := .tuple #[.agg #[.int .i64 2, .int .i64 3, .int .i64 1, .int .i64 2], .int .i64 0]) (by simp [results, Tryd.results15, go_sem]) rfl ⟨rfl, (by (repeat (with_reducible first | refine Below.setCell ?_ (by simp) _ | refine below_drew ?_ | refine Below.alloc ?_ (by simp) _)); exact Below.refl _ _)⟩
end Go.Proofs.YtmcloaonpkfibabDoor
