import Derived.Test.YtmcloaonpkfibabDoorRm
namespace Go.Proofs.YtmcloaonpkfibabDoor
open Go.RowKit
set_option linter.unusedVariables false
set_option linter.unusedSimpArgs false
set_option maxRecDepth 100000 in
set_option maxHeartbeats 4000000 in
theorem rp_16 (w : World) : Calls Tryd.prog 15 #[.int .u32 16] w fun e w' => e = .returned (.tuple #[.agg #[.int .i64 1, .int .i64 0, .int .i64 0, .int .i64 0], .int .i64 0]) ∧ Below w.heap.size w w' := by
  have e1 : bits .and .u32 8 3 = 0 := by kernel_rfl
  have e2 : bits .and .u32 16 1 = 0 := by kernel_rfl
  go_enter Tryd.func15, Tryd.ntmps15
  go_wp2
  refine bodyPost_ret (v := .tuple #[.agg #[.int .i64 1, .int .i64 0, .int .i64 0, .int .i64 0], .int .i64 0]) (by simp [results, Tryd.results15, go_sem]) rfl ⟨rfl, (by (repeat (with_reducible first | refine Below.setCell ?_ (by simp) _ | refine below_drew ?_ | refine Below.alloc ?_ (by simp) _)); exact Below.refl _ _)⟩
set_option maxRecDepth 100000 in
set_option maxHeartbeats 4000000 in
theorem rp_17 (w : World) : Calls Tryd.prog 15 #[.int .u32 17] w fun e w' => e = .returned (.tuple #[.agg #[.int .i64 1, .int .i64 0, .int .i64 0, .int .i64 0], .int .i64 0]) ∧ Below w.heap.size w w' := by
  have e1 : bits .and .u32 8 3 = 0 := by kernel_rfl
  have e2 : bits .and .u32 17 1 = 1 := by kernel_rfl
  go_enter Tryd.func15, Tryd.ntmps15
  go_wp2
  refine bodyPost_ret (v := .tuple #[.agg #[.int .i64 1, .int .i64 0, .int .i64 0, .int .i64 0], .int .i64 0]) (by simp [results, Tryd.results15, go_sem]) rfl ⟨rfl, (by (repeat (with_reducible first | refine Below.setCell ?_ (by simp) _ | refine below_drew ?_ | refine Below.alloc ?_ (by simp) _)); exact Below.refl _ _)⟩
set_option maxRecDepth 100000 in
set_option maxHeartbeats 4000000 in
theorem rp_18 (w : World) : Calls Tryd.prog 15 #[.int .u32 18] w fun e w' => e = .returned (.tuple #[.agg #[.int .i64 0, .int .i64 0, .int .i64 0, .int .i64 0], .int .i64 61]) ∧ Below w.heap.size w w' := by
  have e1 : bits .and .u32 9 3 = 1 := by kernel_rfl
  have e2 : bits .and .u32 18 1 = 0 := by kernel_rfl
  go_enter Tryd.func15, Tryd.ntmps15
  go_wp2
  refine bodyPost_ret (v := .tuple #[.agg #[.int .i64 0, .int .i64 0, .int .i64 0, .int .i64 0], .int .i64 61]) (by simp [results, Tryd.results15, go_sem]) rfl ⟨rfl, (by (repeat (with_reducible first | refine Below.setCell ?_ (by simp) _ | refine below_drew ?_ | refine Below.alloc ?_ (by simp) _)); exact Below.refl _ _)⟩
set_option maxRecDepth 100000 in
set_option maxHeartbeats 4000000 in
theorem rp_19 (w : World) : Calls Tryd.prog 15 #[.int .u32 19] w fun e w' => e = .returned (.tuple #[.agg #[.int .i64 0, .int .i64 0, .int .i64 0, .int .i64 0], .int .i64 61]) ∧ Below w.heap.size w w' := by
  have e1 : bits .and .u32 9 3 = 1 := by kernel_rfl
  have e2 : bits .and .u32 19 1 = 1 := by kernel_rfl
  go_enter Tryd.func15, Tryd.ntmps15
  go_wp2
  refine bodyPost_ret (v := .tuple #[.agg #[.int .i64 0, .int .i64 0, .int .i64 0, .int .i64 0], .int .i64 61]) (by simp [results, Tryd.results15, go_sem]) rfl ⟨rfl, (by (repeat (with_reducible first | refine Below.setCell ?_ (by simp) _ | refine below_drew ?_ | refine Below.alloc ?_ (by simp) _)); exact Below.refl _ _)⟩
set_option maxRecDepth 100000 in
set_option maxHeartbeats 4000000 in
theorem rp_20 (w : World) : Calls Tryd.prog 15 #[.int .u32 20] w fun e w' => e = .returned (.tuple #[.agg #[.int .i64 0, .int .i64 0, .int .i64 0, .int .i64 0], .int .i64 61]) ∧ Below w.heap.size w w' := by
  have e1 : bits .and .u32 10 3 = 2 := by kernel_rfl
  have e2 : bits .and .u32 20 1 = 0 := by kernel_rfl
  go_enter Tryd.func15, Tryd.ntmps15
  go_wp2
  refine bodyPost_ret (v := .tuple #[.agg #[.int .i64 0, .int .i64 0, .int .i64 0, .int .i64 0], .int .i64 61]) (by simp [results, Tryd.results15, go_sem]) rfl ⟨rfl, (by (repeat (with_reducible first | refine Below.setCell ?_ (by simp) _ | refine below_drew ?_ | refine Below.alloc ?_ (by simp) _)); exact Below.refl _ _)⟩
set_option maxRecDepth 100000 in
set_option maxHeartbeats 4000000 in
theorem rp_21 (w : World) : Calls Tryd.prog 15 #[.int .u32 21] w fun e w' => e = .returned (.tuple #[.agg #[.int .i64 0, .int .i64 0, .int .i64 0, .int .i64 0], .int .i64 61]) ∧ Below w.heap.size w w' := by
  have e1 : bits .and .u32 10 3 = 2 := by kernel_rfl
  have e2 : bits .and .u32 21 1 = 1 := by kernel_rfl
  go_enter Tryd.func15, Tryd.ntmps15
  go_wp2
  refine bodyPost_ret (v := .tuple #[.agg #[.int .i64 0, .int .i64 0, .int .i64 0, .int .i64 0], .int .i64 61]) (by simp [results, Tryd.results15, go_sem]) rfl ⟨rfl, (by (repeat (with_reducible first | refine Below.setCell ?_ (by simp) _ | refine below_drew ?_ | refine Below.alloc ?_ (by simp) _)); exact Below.refl _ _)⟩
set_option maxRecDepth 100000 in
set_option maxHeartbeats 4000000 in
theorem rp_22 (w : World) : Calls Tryd.prog 15 #[.int .u32 22] w fun e w' => e = .returned (.tuple #[.agg #[.int .i64 0, .int .i64 0, .int .i64 0, .int .i64 0], .int .i64 61]) ∧ Below w.heap.size w w' := by
  have e1 : bits .and .u32 11 3 = 3 := by kernel_rfl
  have e2 : bits .and .u32 22 1 = 0 := by kernel_rfl
  go_enter Tryd.func15, Tryd.ntmps15
  go_wp2
  refine bodyPost_ret (v := .tuple #[.agg #[.int .i64 0, .int .i64 0, .int .i64 0, .int .i64 0], .int .i64 61]) (by simp [results, Tryd.results15, go_sem]) rfl ⟨rfl, (by (repeat (with_reducible first | refine Below.setCell ?_ (by simp) _ | refine below_drew ?_ | refine Below.alloc ?_ (by simp) _)); exact Below.refl _ _)⟩
set_option maxRecDepth 100000 in
set_option maxHeartbeats 4000000 in
theorem rp_23 (w : World) : Calls Tryd.prog 15 #[.int .u32 23] w fun e w' => e = .returned (.tuple #[.agg #[.int .i64 0, .int .i64 0, .int .i64 0, .int .i64 0], .int .i64 61]) ∧ Below w.heap.size w w' := by
  have e1 : bits .and .u32 11 3 = 3 := by kernel_rfl
  have e2 : bits .and .u32 23 1 = 1 := by kernel_rfl
  go_enter Tryd.func15, Tryd.ntmps15
  go_wp2
  refine bodyPost_ret (v := .tuple #[.agg #[.int .i64 0, .int .i64 0, .int .i64 0, .int .i64 0], .int .i64 61]) (by simp [results, Tryd.results15, go_sem]) rfl ⟨rfl, (by (repeat (with_reducible first | refine Below.setCell ?_ (by simp) _ | refine below_drew ?_ | refine Below.alloc ?_ (by simp) _)); exact Below.refl _ _)⟩
set_option maxRecDepth 100000 in
set_option maxHeartbeats 4000000 in
theorem rp_24 (w : World) : Calls Tryd.prog 15 #[.int .u32 24] w fun e w' => e = .returned (.tuple #[.agg #[.int .i64 0, .int .i64 0, .int .i64 0, .int .i64 0], .int .i64 61]) ∧ Below w.heap.size w w' := by
  have e1 : bits .and .u32 12 3 = 0 := by kernel_rfl
  have e2 : bits .and .u32 24 1 = 0 := by kernel_rfl
  go_enter Tryd.func15, Tryd.ntmps15
  go_wp2
  refine bodyPost_ret (v := .tuple #[.agg #[.int .i64 0, .int .i64 0, .int .i64 0, .int .i64 0], .int .i64 61]) (by simp [results, Tryd.results15, go_sem]) rfl ⟨rfl, (by (repeat (with_reducible first | refine Below.setCell ?_ (by simp) _ | refine below_drew ?_ | refine Below.alloc ?_ (by simp) _)); exact Below.refl _ _)⟩
set_option maxRecDepth 100000 in
set_option maxHeartbeats 4000000 in
theorem rp_25 (w : World) : Calls Tryd.prog 15 #[.int .u32 25] w fun e w' => e = .returned (.tuple #[.agg #[.int .i64 0, .int .i64 0, .int .i64 0, .int .i64 0], .int .i64 61]) ∧ Below w.heap.size w w' := by
  have e1 : bits .and .u32 12 3 = 0 := by kernel_rfl
  have e2 : bits .and .u32 25 1 = 1 := by kernel_rfl
  go_enter Tryd.func15, Tryd.ntmps15
  go_wp2
  refine bodyPost_ret (v := .tuple #[.agg #[.int .i64 0, .int .i64 0, .int .i64 0, .int .i64 0], .int .i64 61]) (by simp [results, Tryd.results15, go_sem]) rfl ⟨rfl, (by (repeat (with_reducible first | refine Below.setCell ?_ (by simp) _ | refine below_drew ?_ | refine Below.alloc ?_ (by simp) _)); exact Below.refl _ _)⟩
set_option maxRecDepth 100000 in
set_option maxHeartbeats 4000000 in
theorem rp_26 (w : World) : Calls Tryd.prog 15 #[.int .u32 26] w fun e w' => e = .returned (.tuple #[.agg #[.int .i64 0, .int .i64 0, .int .i64 0, .int .i64 0], .int .i64 61]) ∧ Below w.heap.size w w' := by
  have e1 : bits .and .u32 13 3 = 1 := by kernel_rfl
  have e2 : bits .and .u32 26 1 = 0 := by kernel_rfl
  go_enter Tryd.func15, Tryd.ntmps15
  go_wp2
  refine bodyPost_ret (v := .tuple #[.agg #[.int .i64 0, .int .i64 0, .int .i64 0, .int .i64 0], .int .i64 61]) (by simp [results, Tryd.results15, go_sem]) rfl ⟨rfl, (by (repeat (with_reducible first | refine Below.setCell ?_ (by simp) _ | refine below_drew ?_ | refine Below.alloc ?_ (by simp) _)); exact Below.refl _ _)⟩
set_option maxRecDepth 100000 in
set_option maxHeartbeats 4000000 in
theorem rp_27 (w : World) : Calls Tryd.prog 15 #[.int .u32 27] w fun e w' => e = .returned (.tuple #[.agg #[.int .i64 0, .int .i64 0, .int .i64 0, .int .i64 0], .int .i64 61]) ∧ Below w.heap.size w w' := by
  have e1 : bits .and .u32 13 3 = 1 := by kernel_rfl
  have e2 : bits .and .u32 27 1 = 1 := by kernel_rfl
  go_enter Tryd.func15, Tryd.ntmps15
  go_wp2
  refine bodyPost_ret (v := .tuple #[.agg #[.int .i64 0, .int .i64 0, .int .i64 0, .int .i64 0], .int .i64 61]) (by simp [results, Tryd.results15, go_sem]) rfl ⟨rfl, (by (repeat (with_reducible first | refine Below.setCell ?_ (by simp) _ | refine below_drew ?_ | refine Below.alloc ?_ (by simp) _)); exact Below.refl _ _)⟩
set_option maxRecDepth 100000 in
set_option maxHeartbeats 4000000 in
theorem rp_28 (w : World) : Calls Tryd.prog 15 #[.int .u32 28] w fun e w' => e = .returned (.tuple #[.agg #[.int .i64 0, .int .i64 0, .int .i64 0, .int .i64 0], .int .i64 61]) ∧ Below w.heap.size w w' := by
  have e1 : bits .and .u32 14 3 = 2 := by kernel_rfl
  have e2 : bits .and .u32 28 1 = 0 := by kernel_rfl
  go_enter Tryd.func15, Tryd.ntmps15
  go_wp2
  refine bodyPost_ret (v := .tuple #[.agg #[.int .i64 0, .int .i64 0, .int .i64 0, .int .i64 0], .int .i64 61]) (by simp [results, Tryd.results15, go_sem]) rfl ⟨rfl, (by (repeat (with_reducible first | refine Below.setCell ?_ (by simp) _ | refine below_drew ?_ | refine Below.alloc ?_ (by simp) _)); exact Below.refl _ _)⟩
set_option maxRecDepth 100000 in
set_option maxHeartbeats 4000000 in
theorem rp_29 (w : World) : Calls Tryd.prog 15 #[.int .u32 29] w fun e w' => e = .returned (.tuple #[.agg #[.int .i64 0, .int .i64 0, .int .i64 0, .int .i64 0], .int .i64 61]) ∧ Below w.heap.size w w' := by
  have e1 : bits .and .u32 14 3 = 2 := by kernel_rfl
  have e2 : bits .and .u32 29 1 = 1 := by kernel_rfl
  go_enter Tryd.func15, Tryd.ntmps15
  go_wp2
  refine bodyPost_ret (v := .tuple #[.agg #[.int .i64 0, .int .i64 0, .int .i64 0, .int .i64 0], .int .i64 61]) (by simp [results, Tryd.results15, go_sem]) rfl ⟨rfl, (by (repeat (with_reducible first | refine Below.setCell ?_ (by simp) _ | refine below_drew ?_ | refine Below.alloc ?_ (by simp) _)); exact Below.refl _ _)⟩
set_option maxRecDepth 100000 in
set_option maxHeartbeats 4000000 in
theorem rp_30 (w : World) : Calls Tryd.prog 15 #[.int .u32 30] w fun e w' => e = .returned (.tuple #[.agg #[.int .i64 0, .int .i64 0, .int .i64 0, .int .i64 0], .int .i64 61]) ∧ Below w.heap.size w w' := by
  have e1 : bits .and .u32 15 3 = 3 := by kernel_rfl
  have e2 : bits .and .u32 30 1 = 0 := by kernel_rfl
  go_enter Tryd.func15, Tryd.ntmps15
  go_wp2
  refine bodyPost_ret (v := .tuple #[.agg #[.int .i64 0, .int .i64 0, .int .i64 0, .int .i64 0], .int .i64 61]) (by simp [results, Tryd.results15, go_sem]) rfl ⟨rfl, (by (repeat (with_reducible first | refine Below.setCell ?_ (by simp) _ | refine below_drew ?_ | refine Below.alloc ?_ (by simp) _)); exact Below.refl _ _)⟩
set_option maxRecDepth 100000 in
set_option maxHeartbeats 4000000 in
theorem rp_31 (w : World) : Calls Tryd.prog 15 #[.int .u32 31] w fun e w' => e = .returned (.tuple #[.agg #[.int .i64 0, .int .i64 0, .int .i64 0, .int .i64 0], .int .i64 61]) ∧ Below w.heap.size w w' := by
  have e1 : bits .and .u32 15 3 = 3 := by kernel_rfl
  have e2 : bits .and .u32 31 1 = 1 := by kernel_rfl
  go_enter Tryd.func15, Tryd.ntmps15
  go_wp2
  refine bodyPost_ret (v := .tuple #[.agg #[.int .i64 0, .int .i64 0, .int .i64 0, .int .i64 0], .int .i64 61]) (by simp [results, Tryd.results15, go_sem]) rfl ⟨rfl, (by (repeat (with_reducible first | refine Below.setCell ?_ (by simp) _ | refine below_drew ?_ | refine Below.alloc ?_ (by simp) _)); exact Below.refl _ _)⟩
end Go.Proofs.YtmcloaonpkfibabDoor
