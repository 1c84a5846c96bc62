import Derived.Test.YtmcloaonpkfibabDoorRm
namespace Go.Proofs.YtmcloaonpkfibabDoor
open Go.RowKit
set_option linter.unusedVariables false
set_option linter.unusedSimpArgs false
set_option maxRecDepth 100000 in
set_option maxHeartbeats 4000000 in
theorem rp_0 (w : World) : Calls Tryd.prog 15 #[.int .u32 0] w fun e w' => e = .returned (.tuple #[.agg #[.int .i64 0, .int .i64 0, .int .i64 0, .int .i64 2], .int .i64 0]) ∧ Below w.heap.size w w' := by
  have e1 : bits .and .u32 0 3 = 0 := by kernel_rfl
  have e2 : bits .and .u32 0 1 = 0 := by kernel_rfl
  go_enter Tryd.func15, Tryd.ntmps15
  go_wp2
  refine bodyPost_ret (v := .tuple #[.agg #[.int .i64 0, .int .i64 0, .int .i64 0, .int .i64 2], .int .i64 0]) (by simp [results, Tryd.results15, go_sem]) rfl ⟨rfl, (by (repeat (with_reducible first | refine Below.setCell ?_ (by simp) _ | refine below_drew ?_ | refine Below.alloc ?_ (by simp) _)); exact Below.refl _ _)⟩
set_option maxRecDepth 100000 in
set_option maxHeartbeats 4000000 in
theorem rp_1 (w : World) : Calls Tryd.prog 15 #[.int .u32 1] w fun e w' => e = .returned (.tuple #[.agg #[.int .i64 0, .int .i64 0, .int .i64 0, .int .i64 2], .int .i64 0]) ∧ Below w.heap.size w w' := by
  have e1 : bits .and .u32 0 3 = 0 := by kernel_rfl
  have e2 : bits .and .u32 1 1 = 1 := by kernel_rfl
  go_enter Tryd.func15, Tryd.ntmps15
  go_wp2
  refine bodyPost_ret (v := .tuple #[.agg #[.int .i64 0, .int .i64 0, .int .i64 0, .int .i64 2], .int .i64 0]) (by simp [results, Tryd.results15, go_sem]) rfl ⟨rfl, (by (repeat (with_reducible first | refine Below.setCell ?_ (by simp) _ | refine below_drew ?_ | refine Below.alloc ?_ (by simp) _)); exact Below.refl _ _)⟩
set_option maxRecDepth 100000 in
set_option maxHeartbeats 4000000 in
theorem rp_2 (w : World) : Calls Tryd.prog 15 #[.int .u32 2] w fun e w' => e = .returned (.tuple #[.agg #[.int .i64 1, .int .i64 0, .int .i64 0, .int .i64 2], .int .i64 0]) ∧ Below w.heap.size w w' := by
  have e1 : bits .and .u32 1 3 = 1 := by kernel_rfl
  have e2 : bits .and .u32 2 1 = 0 := by kernel_rfl
  go_enter Tryd.func15, Tryd.ntmps15
  go_wp2
  refine bodyPost_ret (v := .tuple #[.agg #[.int .i64 1, .int .i64 0, .int .i64 0, .int .i64 2], .int .i64 0]) (by simp [results, Tryd.results15, go_sem]) rfl ⟨rfl, (by (repeat (with_reducible first | refine Below.setCell ?_ (by simp) _ | refine below_drew ?_ | refine Below.alloc ?_ (by simp) _)); exact Below.refl _ _)⟩
set_option maxRecDepth 100000 in
set_option maxHeartbeats 4000000 in
theorem rp_3 (w : World) : Calls Tryd.prog 15 #[.int .u32 3] w fun e w' => e = .returned (.tuple #[.agg #[.int .i64 1, .int .i64 0, .int .i64 0, .int .i64 2], .int .i64 0]) ∧ Below w.heap.size w w' := by
  have e1 : bits .and .u32 1 3 = 1 := by kernel_rfl
  have e2 : bits .and .u32 3 1 = 1 := by kernel_rfl
  go_enter Tryd.func15, Tryd.ntmps15
  go_wp2
  refine bodyPost_ret (v := .tuple #[.agg #[.int .i64 1, .int .i64 0, .int .i64 0, .int .i64 2], .int .i64 0]) (by simp [results, Tryd.results15, go_sem]) rfl ⟨rfl, (by (repeat (with_reducible first | refine Below.setCell ?_ (by simp) _ | refine below_drew ?_ | refine Below.alloc ?_ (by simp) _)); exact Below.refl _ _)⟩
set_option maxRecDepth 100000 in
set_option maxHeartbeats 4000000 in
theorem rp_4 (w : World) : Calls Tryd.prog 15 #[.int .u32 4] w fun e w' => e = .returned (.tuple #[.agg #[.int .i64 2, .int .i64 2, .int .i64 2, .int .i64 0], .int .i64 0]) ∧ Below w.heap.size w w' := by
  have e1 : bits .and .u32 2 3 = 2 := by kernel_rfl
  have e2 : bits .and .u32 4 1 = 0 := by kernel_rfl
  go_enter Tryd.func15, Tryd.ntmps15
  go_wp2
  refine bodyPost_ret (v := .tuple #[.agg #[.int .i64 2, .int .i64 2, .int .i64 2, .int .i64 0], .int .i64 0]) (by simp [results, Tryd.results15, go_sem]) rfl ⟨rfl, (by (repeat (with_reducible first | refine Below.setCell ?_ (by simp) _ | refine below_drew ?_ | refine Below.alloc ?_ (by simp) _)); exact Below.refl _ _)⟩
set_option maxRecDepth 100000 in
set_option maxHeartbeats 4000000 in
theorem rp_5 (w : World) : Calls Tryd.prog 15 #[.int .u32 5] w fun e w' => e = .returned (.tuple #[.agg #[.int .i64 2, .int .i64 2, .int .i64 2, .int .i64 2], .int .i64 0]) ∧ Below w.heap.size w w' := by
  have e1 : bits .and .u32 2 3 = 2 := by kernel_rfl
  have e2 : bits .and .u32 5 1 = 1 := by kernel_rfl
  go_enter Tryd.func15, Tryd.ntmps15
  go_wp2
  refine bodyPost_ret (v := .tuple #[.agg #[.int .i64 2, .int .i64 2, .int .i64 2, .int .i64 2], .int .i64 0]) (by simp [results, Tryd.results15, go_sem]) rfl ⟨rfl, (by (repeat (with_reducible first | refine Below.setCell ?_ (by simp) _ | refine below_drew ?_ | refine Below.alloc ?_ (by simp) _)); exact Below.refl _ _)⟩
set_option maxRecDepth 100000 in
set_option maxHeartbeats 4000000 in
theorem rp_6 (w : World) : Calls Tryd.prog 15 #[.int .u32 6] w fun e w' => e = .returned (.tuple #[.agg #[.int .i64 2, .int .i64 3, .int .i64 3, .int .i64 0], .int .i64 0]) ∧ Below w.heap.size w w' := by
  have e1 : bits .and .u32 3 3 = 3 := by kernel_rfl
  have e2 : bits .and .u32 6 1 = 0 := by kernel_rfl
  go_enter Tryd.func15, Tryd.ntmps15
  go_wp2
  refine bodyPost_ret (v := .tuple #[.agg #[.int .i64 2, .int .i64 3, .int .i64 3, .int .i64 0], .int .i64 0]) (by simp [results, Tryd.results15, go_sem]) rfl ⟨rfl, (by (repeat (with_reducible first | refine Below.setCell ?_ (by simp) _ | refine below_drew ?_ | refine Below.alloc ?_ (by simp) _)); exact Below.refl _ _)⟩
set_option maxRecDepth 100000 in
set_option maxHeartbeats 4000000 in
theorem rp_7 (w : World) : Calls Tryd.prog 15 #[.int .u32 7] w fun e w' => e = .returned (.tuple #[.agg #[.int .i64 2, .int .i64 3, .int .i64 3, .int .i64 2], .int .i64 0]) ∧ Below w.heap.size w w' := by
  have e1 : bits .and .u32 3 3 = 3 := by kernel_rfl
  have e2 : bits .and .u32 7 1 = 1 := by kernel_rfl
  go_enter Tryd.func15, Tryd.ntmps15
  go_wp2
  refine bodyPost_ret (v := .tuple #[.agg #[.int .i64 2, .int .i64 3, .int .i64 3, .int .i64 2], .int .i64 0]) (by simp [results, Tryd.results15, go_sem]) rfl ⟨rfl, (by (repeat (with_reducible first | refine Below.setCell ?_ (by simp) _ | refine below_drew ?_ | refine Below.alloc ?_ (by simp) _)); exact Below.refl _ _)⟩
set_option maxRecDepth 100000 in
set_option maxHeartbeats 4000000 in
theorem rp_8 (w : World) : Calls Tryd.prog 15 #[.int .u32 8] w fun e w' => e = .returned (.tuple #[.agg #[.int .i64 2, .int .i64 0, .int .i64 0, .int .i64 0], .int .i64 0]) ∧ Below w.heap.size w w' := by
  have e1 : bits .and .u32 4 3 = 0 := by kernel_rfl
  have e2 : bits .and .u32 8 1 = 0 := by kernel_rfl
  go_enter Tryd.func15, Tryd.ntmps15
  go_wp2
  refine bodyPost_ret (v := .tuple #[.agg #[.int .i64 2, .int .i64 0, .int .i64 0, .int .i64 0], .int .i64 0]) (by simp [results, Tryd.results15, go_sem]) rfl ⟨rfl, (by (repeat (with_reducible first | refine Below.setCell ?_ (by simp) _ | refine below_drew ?_ | refine Below.alloc ?_ (by simp) _)); exact Below.refl _ _)⟩
set_option maxRecDepth 100000 in
set_option maxHeartbeats 4000000 in
theorem rp_9 (w : World) : Calls Tryd.prog 15 #[.int .u32 9] w fun e w' => e = .returned (.tuple #[.agg #[.int .i64 2, .int .i64 0, .int .i64 0, .int .i64 2], .int .i64 0]) ∧ Below w.heap.size w w' := by
  have e1 : bits .and .u32 4 3 = 0 := by kernel_rfl
  have e2 : bits .and .u32 9 1 = 1 := by kernel_rfl
  go_enter Tryd.func15, Tryd.ntmps15
  go_wp2
  refine bodyPost_ret (v := .tuple #[.agg #[.int .i64 2, .int .i64 0, .int .i64 0, .int .i64 2], .int .i64 0]) (by simp [results, Tryd.results15, go_sem]) rfl ⟨rfl, (by (repeat (with_reducible first | refine Below.setCell ?_ (by simp) _ | refine below_drew ?_ | refine Below.alloc ?_ (by simp) _)); exact Below.refl _ _)⟩
set_option maxRecDepth 100000 in
set_option maxHeartbeats 4000000 in
theorem rp_10 (w : World) : Calls Tryd.prog 15 #[.int .u32 10] w fun e w' => e = .returned (.tuple #[.agg #[.int .i64 0, .int .i64 0, .int .i64 0, .int .i64 0], .int .i64 61]) ∧ Below w.heap.size w w' := by
  have e1 : bits .and .u32 5 3 = 1 := by kernel_rfl
  have e2 : bits .and .u32 10 1 = 0 := by kernel_rfl
  go_enter Tryd.func15, Tryd.ntmps15
  go_wp2
  refine bodyPost_ret (v := .tuple #[.agg #[.int .i64 0, .int .i64 0, .int .i64 0, .int .i64 0], .int .i64 61]) (by simp [results, Tryd.results15, go_sem]) rfl ⟨rfl, (by (repeat (with_reducible first | refine Below.setCell ?_ (by simp) _ | refine below_drew ?_ | refine Below.alloc ?_ (by simp) _)); exact Below.refl _ _)⟩
set_option maxRecDepth 100000 in
set_option maxHeartbeats 4000000 in
theorem rp_11 (w : World) : Calls Tryd.prog 15 #[.int .u32 11] w fun e w' => e = .returned (.tuple #[.agg #[.int .i64 0, .int .i64 0, .int .i64 0, .int .i64 0], .int .i64 61]) ∧ Below w.heap.size w w' := by
  have e1 : bits .and .u32 5 3 = 1 := by kernel_rfl
  have e2 : bits .and .u32 11 1 = 1 := by kernel_rfl
  go_enter Tryd.func15, Tryd.ntmps15
  go_wp2
  refine bodyPost_ret (v := .tuple #[.agg #[.int .i64 0, .int .i64 0, .int .i64 0, .int .i64 0], .int .i64 61]) (by simp [results, Tryd.results15, go_sem]) rfl ⟨rfl, (by (repeat (with_reducible first | refine Below.setCell ?_ (by simp) _ | refine below_drew ?_ | refine Below.alloc ?_ (by simp) _)); exact Below.refl _ _)⟩
set_option maxRecDepth 100000 in
set_option maxHeartbeats 4000000 in
theorem rp_12 (w : World) : Calls Tryd.prog 15 #[.int .u32 12] w fun e w' => e = .returned (.tuple #[.agg #[.int .i64 0, .int .i64 0, .int .i64 0, .int .i64 0], .int .i64 61]) ∧ Below w.heap.size w w' := by
  have e1 : bits .and .u32 6 3 = 2 := by kernel_rfl
  have e2 : bits .and .u32 12 1 = 0 := by kernel_rfl
  go_enter Tryd.func15, Tryd.ntmps15
  go_wp2
  refine bodyPost_ret (v := .tuple #[.agg #[.int .i64 0, .int .i64 0, .int .i64 0, .int .i64 0], .int .i64 61]) (by simp [results, Tryd.results15, go_sem]) rfl ⟨rfl, (by (repeat (with_reducible first | refine Below.setCell ?_ (by simp) _ | refine below_drew ?_ | refine Below.alloc ?_ (by simp) _)); exact Below.refl _ _)⟩
set_option maxRecDepth 100000 in
set_option maxHeartbeats 4000000 in
theorem rp_13 (w : World) : Calls Tryd.prog 15 #[.int .u32 13] w fun e w' => e = .returned (.tuple #[.agg #[.int .i64 0, .int .i64 0, .int .i64 0, .int .i64 0], .int .i64 61]) ∧ Below w.heap.size w w' := by
  have e1 : bits .and .u32 6 3 = 2 := by kernel_rfl
  have e2 : bits .and .u32 13 1 = 1 := by kernel_rfl
  go_enter Tryd.func15, Tryd.ntmps15
  go_wp2
  refine bodyPost_ret (v := .tuple #[.agg #[.int .i64 0, .int .i64 0, .int .i64 0, .int .i64 0], .int .i64 61]) (by simp [results, Tryd.results15, go_sem]) rfl ⟨rfl, (by (repeat (with_reducible first | refine Below.setCell ?_ (by simp) _ | refine below_drew ?_ | refine Below.alloc ?_ (by simp) _)); exact Below.refl _ _)⟩
set_option maxRecDepth 100000 in
set_option maxHeartbeats 4000000 in
theorem rp_14 (w : World) : Calls Tryd.prog 15 #[.int .u32 14] w fun e w' => e = .returned (.tuple #[.agg #[.int .i64 2, .int .i64 1, .int .i64 1, .int .i64 0], .int .i64 0]) ∧ Below w.heap.size w w' := by
  have e1 : bits .and .u32 7 3 = 3 := by kernel_rfl
  have e2 : bits .and .u32 14 1 = 0 := by kernel_rfl
  go_enter Tryd.func15, Tryd.ntmps15
  go_wp2
  refine bodyPost_ret (v := .tuple #[.agg #[.int .i64 2, .int .i64 1, .int .i64 1, .int .i64 0], .int .i64 0]) (by simp [results, Tryd.results15, go_sem]) rfl ⟨rfl, (by (repeat (with_reducible first | refine Below.setCell ?_ (by simp) _ | refine below_drew ?_ | refine Below.alloc ?_ (by simp) _)); exact Below.refl _ _)⟩
set_option maxRecDepth 100000 in
set_option maxHeartbeats 4000000 in
theorem rp_15 (w : World) : Calls Tryd.prog 15 #[.int .u32 15] w fun e w' => e = .returned (.tuple #[.agg #[.int .i64 2, .int .i64 1, .int .i64 1, .int .i64 2], .int .i64 0]) ∧ Below w.heap.size w w' := by
  have e1 : bits .and .u32 7 3 = 3 := by kernel_rfl
  have e2 : bits .and .u32 15 1 = 1 := by kernel_rfl
  go_enter Tryd.func15, Tryd.ntmps15
  go_wp2
  refine bodyPost_ret (v := .tuple #[.agg #[.int .i64 2, .int .i64 1, .int .i64 1, .int .i64 2], .int .i64 0]) (by simp [results, Tryd.results15, go_sem]) rfl ⟨rfl, (by (repeat (with_reducible first | refine Below.setCell ?_ (by simp) _ | refine below_drew ?_ | refine Below.alloc ?_ (by simp) _)); exact Below.refl _ _)⟩
end Go.Proofs.YtmcloaonpkfibabDoor
