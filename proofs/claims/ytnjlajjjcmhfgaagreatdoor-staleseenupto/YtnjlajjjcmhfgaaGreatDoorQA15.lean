import Derived.Test.YtnjlajjjcmhfgaaGreatDoorQA12
namespace Go.Proofs.YtnjlajjjcmhfgaaGreatDoor
open Go.RowKit
set_option linter.unusedVariables false
set_option linter.unusedSimpArgs false

set_option maxRecDepth 100000 in
set_option maxHeartbeats 4000000 in
theorem entryOf_1 (t2 t3 t4 t5 t6 : Int) (t7 t8 : Bool) (W : World) (ht : TR W) : Calls Tryz.prog 92 #[.agg #[.int .i64 1, .int .u32 t2, .int .u64 t3, .int .i64 t4, .int .i64 t5, .int .u32 t6, .bool t7, .bool t8]] W fun r w' => r = .returned (.agg #[.int .i64 5, .int .u64 t3, .int .i64 0, .bool false, .int .i64 t5, .int .u32 t6, .bool t7, .bool t8]) ∧ Below W.heap.size W w' := by
  have c0 := ht.kind 1 5 rfl
  have l0 : 2 < W.heap.size := cell_lt c0
  have z0 : ¬ (2 = W.heap.size) := by omega
  have z1 : ¬ (2 = W.heap.size + 1) := by omega
  have z2 : ¬ (2 = W.heap.size + 1 + 1) := by omega
  have z3 : ¬ (W.heap.size = 2) := by omega
  have z4 : ¬ (W.heap.size + 1 = 2) := by omega
  have z5 : ¬ (W.heap.size + 1 + 1 = 2) := by omega
  have z6 : ¬ (W.heap.size = 0) := by omega
  have z7 : ¬ (W.heap.size = 2 - 1) := by omega
  have z8 : ¬ (W.heap.size = 2 - 2) := by omega
  have z9 : W.heap.size ≠ 2 := by omega
  simp only [Nat.reduceSub] at z7 z8
  have HC : Hid (∀ o1 o2 o3, (((W.alloc o1).alloc o2).alloc o3).drew.cell? ⟨2, 1, none⟩ = some (.int .u8 5)) := fun o1 o2 o3 => ((below_drew ((((Below.refl _ _).alloc (Nat.le_refl _) o1).alloc (by simp) o2).alloc (by simp; omega) o3)).cell (p := ⟨2, 1, none⟩) l0).trans c0
  have HX : Hid (∀ o2 o3, Bl (((W.alloc (.cells ([.int .i64 1, .int .u32 t2, .int .u64 t3, .int .i64 t4, .int .i64 t5, .int .u32 t6, .bool t7, .bool t8]).toArray 43)).alloc o2).alloc o3).drew W.heap.size 43 [.int .i64 1, .int .u32 t2, .int .u64 t3, .int .i64 t4, .int .i64 t5, .int .u32 t6, .bool t7, .bool t8]) := fun o2 o3 => (((Bl.new W 43 [.int .i64 1, .int .u32 t2, .int .u64 t3, .int .i64 t4, .int .i64 t5, .int .u32 t6, .bool t7, .bool t8]).below ((Below.refl _ _).alloc (Nat.le_refl _) o2)).below ((Below.refl _ _).alloc (Nat.le_refl _) o3)).drew
  clear ht
  go_enter Tryz.func92, Tryz.ntmps92
  go_wp2
  refine wp_region_held_drew (S := fun w' => w'.cell? ⟨W.heap.size, 0, none⟩ = some (.int .i64 1) ∧ w'.cell? ⟨W.heap.size, 2, none⟩ = some (.int .u64 t3) ∧ w'.cell? ⟨W.heap.size, 4, none⟩ = some (.int .i64 t5) ∧ w'.cell? ⟨W.heap.size, 5, none⟩ = some (.int .u32 t6) ∧ w'.cell? ⟨W.heap.size, 6, none⟩ = some (.bool t7) ∧ w'.cell? ⟨W.heap.size, 7, none⟩ = some (.bool t8) ∧ w'.cell? ⟨2, 1, none⟩ = some (.int .u8 5)) (by kernel_rfl) (by (try dsimp only); go_keep) (fun hHeld => ?_)
  refine wpAnyH_take (i := 0) (oi := { dst := some 4, op := Op.fieldAddr 43 (Operand.tmp 1) 0, type := 0, pos := _, after := #[], guard := none }) (v := ?_) rfl (by kernel_rfl) (by kernel_rfl) (by kernel_rfl) (fun _ _ _ h => h) (Or.inl ⟨by rfl, ?_⟩) (by assumption) ?_
  rotate_left
  · (intro w hSw; (try dsimp only at hSw); go_simp; try with_reducible rfl)
  simp only [Act.put, List.setIfInBounds_toArray, List.set_cons_zero, List.set_cons_succ]
  refine wpAnyH_take (i := 1) (oi := { dst := some 5, op := Op.load 3 (Operand.tmp 4), type := 3, pos := _, after := #[{ on := 0, ground := Ground.data }], guard := none }) (v := ?_) rfl (by kernel_rfl) (by kernel_rfl) (by kernel_rfl) (fun _ _ _ h => h) (Or.inl ⟨by rfl, ?_⟩) (by assumption) ?_
  rotate_left
  · (intro w hSw; (try dsimp only at hSw); go_simp; try with_reducible rfl)
  simp only [Act.put, List.setIfInBounds_toArray, List.set_cons_zero, List.set_cons_succ]
  refine wpAnyH_take (i := 2) (oi := { dst := some 6, op := Op.indexAddr 169 (Operand.global 2) (Operand.tmp 5), type := 0, pos := _, after := #[{ on := 1, ground := Ground.data }], guard := none }) (v := ?_) rfl (by kernel_rfl) (by kernel_rfl) (by kernel_rfl) (fun _ _ _ h => h) (Or.inl ⟨by rfl, ?_⟩) (by assumption) ?_
  rotate_left
  · (intro w hSw; (try dsimp only at hSw); go_simp; try with_reducible rfl)
  simp only [Act.put, List.setIfInBounds_toArray, List.set_cons_zero, List.set_cons_succ]
  refine wpAnyH_take (i := 3) (oi := { dst := some 7, op := Op.load 5 (Operand.tmp 6), type := 5, pos := _, after := #[{ on := 2, ground := Ground.data }], guard := none }) (v := ?_) rfl (by kernel_rfl) (by kernel_rfl) (by kernel_rfl) (fun _ _ _ h => h) (Or.inl ⟨by rfl, ?_⟩) (by assumption) ?_
  rotate_left
  · (intro w hSw; (try dsimp only at hSw); go_simp; try with_reducible rfl)
  simp only [Act.put, List.setIfInBounds_toArray, List.set_cons_zero, List.set_cons_succ]
  refine wpAnyH_take (i := 4) (oi := { dst := some 8, op := Op.convert 5 3 (Operand.tmp 7), type := 3, pos := _, after := #[{ on := 3, ground := Ground.data }], guard := none }) (v := ?_) rfl (by kernel_rfl) (by kernel_rfl) (by kernel_rfl) (fun _ _ _ h => h) (Or.inl ⟨by rfl, ?_⟩) (by assumption) ?_
  rotate_left
  · (intro w hSw; (try dsimp only at hSw); go_simp; try with_reducible rfl)
  simp only [Act.put, List.setIfInBounds_toArray, List.set_cons_zero, List.set_cons_succ]
  refine wpAnyH_take (i := 5) (oi := { dst := some 9, op := Op.fieldAddr 43 (Operand.tmp 1) 2, type := 0, pos := _, after := #[], guard := none }) (v := ?_) rfl (by kernel_rfl) (by kernel_rfl) (by kernel_rfl) (fun _ _ _ h => h) (Or.inl ⟨by rfl, ?_⟩) (by assumption) ?_
  rotate_left
  · (intro w hSw; (try dsimp only at hSw); go_simp; try with_reducible rfl)
  simp only [Act.put, List.setIfInBounds_toArray, List.set_cons_zero, List.set_cons_succ]
  refine wpAnyH_take (i := 6) (oi := { dst := some 10, op := Op.load 35 (Operand.tmp 9), type := 35, pos := _, after := #[{ on := 5, ground := Ground.data }], guard := none }) (v := ?_) rfl (by kernel_rfl) (by kernel_rfl) (by kernel_rfl) (fun _ _ _ h => h) (Or.inl ⟨by rfl, ?_⟩) (by assumption) ?_
  rotate_left
  · (intro w hSw; (try dsimp only at hSw); go_simp; try with_reducible rfl)
  simp only [Act.put, List.setIfInBounds_toArray, List.set_cons_zero, List.set_cons_succ]
  refine wpAnyH_take (i := 7) (oi := { dst := some 11, op := Op.fieldAddr 43 (Operand.tmp 1) 4, type := 0, pos := _, after := #[], guard := none }) (v := ?_) rfl (by kernel_rfl) (by kernel_rfl) (by kernel_rfl) (fun _ _ _ h => h) (Or.inl ⟨by rfl, ?_⟩) (by assumption) ?_
  rotate_left
  · (intro w hSw; (try dsimp only at hSw); go_simp; try with_reducible rfl)
  simp only [Act.put, List.setIfInBounds_toArray, List.set_cons_zero, List.set_cons_succ]
  refine wpAnyH_take (i := 8) (oi := { dst := some 12, op := Op.load 41 (Operand.tmp 11), type := 41, pos := _, after := #[{ on := 7, ground := Ground.data }], guard := none }) (v := ?_) rfl (by kernel_rfl) (by kernel_rfl) (by kernel_rfl) (fun _ _ _ h => h) (Or.inl ⟨by rfl, ?_⟩) (by assumption) ?_
  rotate_left
  · (intro w hSw; (try dsimp only at hSw); go_simp; try with_reducible rfl)
  simp only [Act.put, List.setIfInBounds_toArray, List.set_cons_zero, List.set_cons_succ]
  refine wpAnyH_take (i := 9) (oi := { dst := some 13, op := Op.build 140 #[(0, Operand.tmp 8), (1, Operand.tmp 10), (4, Operand.tmp 12)], type := 140, pos := _, after := #[{ on := 4, ground := Ground.data }, { on := 6, ground := Ground.data }, { on := 8, ground := Ground.data }], guard := none }) (v := ?_) rfl (by kernel_rfl) (by kernel_rfl) (by kernel_rfl) (fun _ _ _ h => h) (Or.inl ⟨by rfl, ?_⟩) (by assumption) ?_
  rotate_left
  · (intro w hSw; (try dsimp only at hSw); go_simp; try with_reducible rfl)
  simp only [Act.put, List.setIfInBounds_toArray, List.set_cons_zero, List.set_cons_succ]
  refine wpAnyH_ready (rs := [10]) (by kernel_rfl) (by simp) ?_
  refine AllReadyH.cons (o := { dst := some 3, op := Op.alloc 140, type := 0, pos := _, after := #[], guard := none }) rfl (fun K hK => ?_) AllReadyH.nil
  go_simp
  skip
  refine hK.out _ _ ?_ (fun hHeld => ?_)
  · ((try dsimp only); exact ⟨(HX.out _ _).cell 0, (HX.out _ _).cell 2, (HX.out _ _).cell 4, (HX.out _ _).cell 5, (HX.out _ _).cell 6, (HX.out _ _).cell 7, HC.out _ _ _⟩)
  clear hK K
  try simp only [Act.put, List.setIfInBounds_toArray, List.set_cons_zero, List.set_cons_succ]
  refine wpAnyH_ready (rs := [11]) (by kernel_rfl) (by simp) ?_
  refine AllReadyH.cons (o := { dst := none, op := Op.store 140 (Operand.tmp 3) (Operand.tmp 13), type := 0, pos := _, after := #[{ on := 10, ground := Ground.data }, { on := 9, ground := Ground.data }, { on := 0, ground := Ground.phase }, { on := 1, ground := Ground.phase }, { on := 2, ground := Ground.phase }, { on := 3, ground := Ground.phase }, { on := 4, ground := Ground.phase }, { on := 5, ground := Ground.phase }, { on := 6, ground := Ground.phase }, { on := 7, ground := Ground.phase }, { on := 8, ground := Ground.phase }, { on := 9, ground := Ground.phase }, { on := 10, ground := Ground.phase }], guard := none }) rfl (fun K hK => ?_) AllReadyH.nil
  go_simp
  skip
  refine hK.out _ _ ?_ (fun hHeld => ?_)
  · ((try dsimp only); exact ⟨(HX.out _ _).cell 0, (HX.out _ _).cell 2, (HX.out _ _).cell 4, (HX.out _ _).cell 5, (HX.out _ _).cell 6, (HX.out _ _).cell 7, HC.out _ _ _⟩)
  clear hK K
  try simp only [Act.put, List.setIfInBounds_toArray, List.set_cons_zero, List.set_cons_succ]
  refine wpAnyH_done (by kernel_rfl) ?_ _
  go_wp2
  refine bodyPost_ret (v := .agg #[.int .i64 5, .int .u64 t3, .int .i64 0, .bool false, .int .i64 t5, .int .u32 t6, .bool t7, .bool t8]) (by simp [results, Tryz.results92, go_sem, IntKind.wrap_i64]) rfl ⟨rfl, (by (repeat (first | refine Below.setCell ?_ (by simp) _ | refine below_drew ?_ | refine Below.alloc ?_ (by simp; try omega) _)); exact Below.refl _ _)⟩
set_option maxRecDepth 100000 in
set_option maxHeartbeats 4000000 in
theorem entryOf_2 (t2 t3 t4 t5 t6 : Int) (t7 t8 : Bool) (W : World) (ht : TR W) : Calls Tryz.prog 92 #[.agg #[.int .i64 2, .int .u32 t2, .int .u64 t3, .int .i64 t4, .int .i64 t5, .int .u32 t6, .bool t7, .bool t8]] W fun r w' => r = .returned (.agg #[.int .i64 4, .int .u64 t3, .int .i64 0, .bool false, .int .i64 t5, .int .u32 t6, .bool t7, .bool t8]) ∧ Below W.heap.size W w' := by
  have c0 := ht.kind 2 4 rfl
  have l0 : 2 < W.heap.size := cell_lt c0
  have z0 : ¬ (2 = W.heap.size) := by omega
  have z1 : ¬ (2 = W.heap.size + 1) := by omega
  have z2 : ¬ (2 = W.heap.size + 1 + 1) := by omega
  have z3 : ¬ (W.heap.size = 2) := by omega
  have z4 : ¬ (W.heap.size + 1 = 2) := by omega
  have z5 : ¬ (W.heap.size + 1 + 1 = 2) := by omega
  have z6 : ¬ (W.heap.size = 0) := by omega
  have z7 : ¬ (W.heap.size = 2 - 1) := by omega
  have z8 : ¬ (W.heap.size = 2 - 2) := by omega
  have z9 : W.heap.size ≠ 2 := by omega
  simp only [Nat.reduceSub] at z7 z8
  have HC : Hid (∀ o1 o2 o3, (((W.alloc o1).alloc o2).alloc o3).drew.cell? ⟨2, 2, none⟩ = some (.int .u8 4)) := fun o1 o2 o3 => ((below_drew ((((Below.refl _ _).alloc (Nat.le_refl _) o1).alloc (by simp) o2).alloc (by simp; omega) o3)).cell (p := ⟨2, 2, none⟩) l0).trans c0
  have HX : Hid (∀ o2 o3, Bl (((W.alloc (.cells ([.int .i64 2, .int .u32 t2, .int .u64 t3, .int .i64 t4, .int .i64 t5, .int .u32 t6, .bool t7, .bool t8]).toArray 43)).alloc o2).alloc o3).drew W.heap.size 43 [.int .i64 2, .int .u32 t2, .int .u64 t3, .int .i64 t4, .int .i64 t5, .int .u32 t6, .bool t7, .bool t8]) := fun o2 o3 => (((Bl.new W 43 [.int .i64 2, .int .u32 t2, .int .u64 t3, .int .i64 t4, .int .i64 t5, .int .u32 t6, .bool t7, .bool t8]).below ((Below.refl _ _).alloc (Nat.le_refl _) o2)).below ((Below.refl _ _).alloc (Nat.le_refl _) o3)).drew
  clear ht
  go_enter Tryz.func92, Tryz.ntmps92
  go_wp2
  refine wp_region_held_drew (S := fun w' => w'.cell? ⟨W.heap.size, 0, none⟩ = some (.int .i64 2) ∧ w'.cell? ⟨W.heap.size, 2, none⟩ = some (.int .u64 t3) ∧ w'.cell? ⟨W.heap.size, 4, none⟩ = some (.int .i64 t5) ∧ w'.cell? ⟨W.heap.size, 5, none⟩ = some (.int .u32 t6) ∧ w'.cell? ⟨W.heap.size, 6, none⟩ = some (.bool t7) ∧ w'.cell? ⟨W.heap.size, 7, none⟩ = some (.bool t8) ∧ w'.cell? ⟨2, 2, none⟩ = some (.int .u8 4)) (by kernel_rfl) (by (try dsimp only); go_keep) (fun hHeld => ?_)
  refine wpAnyH_take (i := 0) (oi := { dst := some 4, op := Op.fieldAddr 43 (Operand.tmp 1) 0, type := 0, pos := _, after := #[], guard := none }) (v := ?_) rfl (by kernel_rfl) (by kernel_rfl) (by kernel_rfl) (fun _ _ _ h => h) (Or.inl ⟨by rfl, ?_⟩) (by assumption) ?_
  rotate_left
  · (intro w hSw; (try dsimp only at hSw); go_simp; try with_reducible rfl)
  simp only [Act.put, List.setIfInBounds_toArray, List.set_cons_zero, List.set_cons_succ]
  refine wpAnyH_take (i := 1) (oi := { dst := some 5, op := Op.load 3 (Operand.tmp 4), type := 3, pos := _, after := #[{ on := 0, ground := Ground.data }], guard := none }) (v := ?_) rfl (by kernel_rfl) (by kernel_rfl) (by kernel_rfl) (fun _ _ _ h => h) (Or.inl ⟨by rfl, ?_⟩) (by assumption) ?_
  rotate_left
  · (intro w hSw; (try dsimp only at hSw); go_simp; try with_reducible rfl)
  simp only [Act.put, List.setIfInBounds_toArray, List.set_cons_zero, List.set_cons_succ]
  refine wpAnyH_take (i := 2) (oi := { dst := some 6, op := Op.indexAddr 169 (Operand.global 2) (Operand.tmp 5), type := 0, pos := _, after := #[{ on := 1, ground := Ground.data }], guard := none }) (v := ?_) rfl (by kernel_rfl) (by kernel_rfl) (by kernel_rfl) (fun _ _ _ h => h) (Or.inl ⟨by rfl, ?_⟩) (by assumption) ?_
  rotate_left
  · (intro w hSw; (try dsimp only at hSw); go_simp; try with_reducible rfl)
  simp only [Act.put, List.setIfInBounds_toArray, List.set_cons_zero, List.set_cons_succ]
  refine wpAnyH_take (i := 3) (oi := { dst := some 7, op := Op.load 5 (Operand.tmp 6), type := 5, pos := _, after := #[{ on := 2, ground := Ground.data }], guard := none }) (v := ?_) rfl (by kernel_rfl) (by kernel_rfl) (by kernel_rfl) (fun _ _ _ h => h) (Or.inl ⟨by rfl, ?_⟩) (by assumption) ?_
  rotate_left
  · (intro w hSw; (try dsimp only at hSw); go_simp; try with_reducible rfl)
  simp only [Act.put, List.setIfInBounds_toArray, List.set_cons_zero, List.set_cons_succ]
  refine wpAnyH_take (i := 4) (oi := { dst := some 8, op := Op.convert 5 3 (Operand.tmp 7), type := 3, pos := _, after := #[{ on := 3, ground := Ground.data }], guard := none }) (v := ?_) rfl (by kernel_rfl) (by kernel_rfl) (by kernel_rfl) (fun _ _ _ h => h) (Or.inl ⟨by rfl, ?_⟩) (by assumption) ?_
  rotate_left
  · (intro w hSw; (try dsimp only at hSw); go_simp; try with_reducible rfl)
  simp only [Act.put, List.setIfInBounds_toArray, List.set_cons_zero, List.set_cons_succ]
  refine wpAnyH_take (i := 5) (oi := { dst := some 9, op := Op.fieldAddr 43 (Operand.tmp 1) 2, type := 0, pos := _, after := #[], guard := none }) (v := ?_) rfl (by kernel_rfl) (by kernel_rfl) (by kernel_rfl) (fun _ _ _ h => h) (Or.inl ⟨by rfl, ?_⟩) (by assumption) ?_
  rotate_left
  · (intro w hSw; (try dsimp only at hSw); go_simp; try with_reducible rfl)
  simp only [Act.put, List.setIfInBounds_toArray, List.set_cons_zero, List.set_cons_succ]
  refine wpAnyH_take (i := 6) (oi := { dst := some 10, op := Op.load 35 (Operand.tmp 9), type := 35, pos := _, after := #[{ on := 5, ground := Ground.data }], guard := none }) (v := ?_) rfl (by kernel_rfl) (by kernel_rfl) (by kernel_rfl) (fun _ _ _ h => h) (Or.inl ⟨by rfl, ?_⟩) (by assumption) ?_
  rotate_left
  · (intro w hSw; (try dsimp only at hSw); go_simp; try with_reducible rfl)
  simp only [Act.put, List.setIfInBounds_toArray, List.set_cons_zero, List.set_cons_succ]
  refine wpAnyH_take (i := 7) (oi := { dst := some 11, op := Op.fieldAddr 43 (Operand.tmp 1) 4, type := 0, pos := _, after := #[], guard := none }) (v := ?_) rfl (by kernel_rfl) (by kernel_rfl) (by kernel_rfl) (fun _ _ _ h => h) (Or.inl ⟨by rfl, ?_⟩) (by assumption) ?_
  rotate_left
  · (intro w hSw; (try dsimp only at hSw); go_simp; try with_reducible rfl)
  simp only [Act.put, List.setIfInBounds_toArray, List.set_cons_zero, List.set_cons_succ]
  refine wpAnyH_take (i := 8) (oi := { dst := some 12, op := Op.load 41 (Operand.tmp 11), type := 41, pos := _, after := #[{ on := 7, ground := Ground.data }], guard := none }) (v := ?_) rfl (by kernel_rfl) (by kernel_rfl) (by kernel_rfl) (fun _ _ _ h => h) (Or.inl ⟨by rfl, ?_⟩) (by assumption) ?_
  rotate_left
  · (intro w hSw; (try dsimp only at hSw); go_simp; try with_reducible rfl)
  simp only [Act.put, List.setIfInBounds_toArray, List.set_cons_zero, List.set_cons_succ]
  refine wpAnyH_take (i := 9) (oi := { dst := some 13, op := Op.build 140 #[(0, Operand.tmp 8), (1, Operand.tmp 10), (4, Operand.tmp 12)], type := 140, pos := _, after := #[{ on := 4, ground := Ground.data }, { on := 6, ground := Ground.data }, { on := 8, ground := Ground.data }], guard := none }) (v := ?_) rfl (by kernel_rfl) (by kernel_rfl) (by kernel_rfl) (fun _ _ _ h => h) (Or.inl ⟨by rfl, ?_⟩) (by assumption) ?_
  rotate_left
  · (intro w hSw; (try dsimp only at hSw); go_simp; try with_reducible rfl)
  simp only [Act.put, List.setIfInBounds_toArray, List.set_cons_zero, List.set_cons_succ]
  refine wpAnyH_ready (rs := [10]) (by kernel_rfl) (by simp) ?_
  refine AllReadyH.cons (o := { dst := some 3, op := Op.alloc 140, type := 0, pos := _, after := #[], guard := none }) rfl (fun K hK => ?_) AllReadyH.nil
  go_simp
  skip
  refine hK.out _ _ ?_ (fun hHeld => ?_)
  · ((try dsimp only); exact ⟨(HX.out _ _).cell 0, (HX.out _ _).cell 2, (HX.out _ _).cell 4, (HX.out _ _).cell 5, (HX.out _ _).cell 6, (HX.out _ _).cell 7, HC.out _ _ _⟩)
  clear hK K
  try simp only [Act.put, List.setIfInBounds_toArray, List.set_cons_zero, List.set_cons_succ]
  refine wpAnyH_ready (rs := [11]) (by kernel_rfl) (by simp) ?_
  refine AllReadyH.cons (o := { dst := none, op := Op.store 140 (Operand.tmp 3) (Operand.tmp 13), type := 0, pos := _, after := #[{ on := 10, ground := Ground.data }, { on := 9, ground := Ground.data }, { on := 0, ground := Ground.phase }, { on := 1, ground := Ground.phase }, { on := 2, ground := Ground.phase }, { on := 3, ground := Ground.phase }, { on := 4, ground := Ground.phase }, { on := 5, ground := Ground.phase }, { on := 6, ground := Ground.phase }, { on := 7, ground := Ground.phase }, { on := 8, ground := Ground.phase }, { on := 9, ground := Ground.phase }, { on := 10, ground := Ground.phase }], guard := none }) rfl (fun K hK => ?_) AllReadyH.nil
  go_simp
  skip
  refine hK.out _ _ ?_ (fun hHeld => ?_)
  · ((try dsimp only); exact ⟨(HX.out _ _).cell 0, (HX.out _ _).cell 2, (HX.out _ _).cell 4, (HX.out _ _).cell 5, (HX.out _ _).cell 6, (HX.out _ _).cell 7, HC.out _ _ _⟩)
  clear hK K
  try simp only [Act.put, List.setIfInBounds_toArray, List.set_cons_zero, List.set_cons_succ]
  refine wpAnyH_done (by kernel_rfl) ?_ _
  go_wp2
  refine bodyPost_ret (v := .agg #[.int .i64 4, .int .u64 t3, .int .i64 0, .bool false, .int .i64 t5, .int .u32 t6, .bool t7, .bool t8]) (by simp [results, Tryz.results92, go_sem, IntKind.wrap_i64]) rfl ⟨rfl, (by (repeat (first | refine Below.setCell ?_ (by simp) _ | refine below_drew ?_ | refine Below.alloc ?_ (by simp; try omega) _)); exact Below.refl _ _)⟩
set_option maxRecDepth 100000 in
set_option maxHeartbeats 4000000 in
theorem entryOf_3 (t2 t3 t4 t5 t6 : Int) (t7 t8 : Bool) (W : World) (ht : TR W) : Calls Tryz.prog 92 #[.agg #[.int .i64 3, .int .u32 t2, .int .u64 t3, .int .i64 t4, .int .i64 t5, .int .u32 t6, .bool t7, .bool t8]] W fun r w' => r = .returned (.agg #[.int .i64 2, .int .u64 t3, .int .i64 t4, .bool false, .int .i64 t5, .int .u32 t6, .bool t7, .bool t8]) ∧ Below W.heap.size W w' := by
  have c0 := ht.kind 3 2 rfl
  have l0 : 2 < W.heap.size := cell_lt c0
  have z0 : ¬ (2 = W.heap.size) := by omega
  have z1 : ¬ (2 = W.heap.size + 1) := by omega
  have z2 : ¬ (2 = W.heap.size + 1 + 1) := by omega
  have z3 : ¬ (W.heap.size = 2) := by omega
  have z4 : ¬ (W.heap.size + 1 = 2) := by omega
  have z5 : ¬ (W.heap.size + 1 + 1 = 2) := by omega
  have z6 : ¬ (W.heap.size = 0) := by omega
  have z7 : ¬ (W.heap.size = 2 - 1) := by omega
  have z8 : ¬ (W.heap.size = 2 - 2) := by omega
  have z9 : W.heap.size ≠ 2 := by omega
  simp only [Nat.reduceSub] at z7 z8
  have HC : Hid (∀ o1 o2 o3, (((W.alloc o1).alloc o2).alloc o3).drew.cell? ⟨2, 3, none⟩ = some (.int .u8 2)) := fun o1 o2 o3 => ((below_drew ((((Below.refl _ _).alloc (Nat.le_refl _) o1).alloc (by simp) o2).alloc (by simp; omega) o3)).cell (p := ⟨2, 3, none⟩) l0).trans c0
  have HX : Hid (∀ o2 o3, Bl (((W.alloc (.cells ([.int .i64 3, .int .u32 t2, .int .u64 t3, .int .i64 t4, .int .i64 t5, .int .u32 t6, .bool t7, .bool t8]).toArray 43)).alloc o2).alloc o3).drew W.heap.size 43 [.int .i64 3, .int .u32 t2, .int .u64 t3, .int .i64 t4, .int .i64 t5, .int .u32 t6, .bool t7, .bool t8]) := fun o2 o3 => (((Bl.new W 43 [.int .i64 3, .int .u32 t2, .int .u64 t3, .int .i64 t4, .int .i64 t5, .int .u32 t6, .bool t7, .bool t8]).below ((Below.refl _ _).alloc (Nat.le_refl _) o2)).below ((Below.refl _ _).alloc (Nat.le_refl _) o3)).drew
  clear ht
  go_enter Tryz.func92, Tryz.ntmps92
  go_wp2
  refine wp_region_held_drew (S := fun w' => w'.cell? ⟨W.heap.size, 0, none⟩ = some (.int .i64 3) ∧ w'.cell? ⟨W.heap.size, 2, none⟩ = some (.int .u64 t3) ∧ w'.cell? ⟨W.heap.size, 4, none⟩ = some (.int .i64 t5) ∧ w'.cell? ⟨W.heap.size, 5, none⟩ = some (.int .u32 t6) ∧ w'.cell? ⟨W.heap.size, 6, none⟩ = some (.bool t7) ∧ w'.cell? ⟨W.heap.size, 7, none⟩ = some (.bool t8) ∧ w'.cell? ⟨2, 3, none⟩ = some (.int .u8 2)) (by kernel_rfl) (by (try dsimp only); go_keep) (fun hHeld => ?_)
  refine wpAnyH_take (i := 0) (oi := { dst := some 4, op := Op.fieldAddr 43 (Operand.tmp 1) 0, type := 0, pos := _, after := #[], guard := none }) (v := ?_) rfl (by kernel_rfl) (by kernel_rfl) (by kernel_rfl) (fun _ _ _ h => h) (Or.inl ⟨by rfl, ?_⟩) (by assumption) ?_
  rotate_left
  · (intro w hSw; (try dsimp only at hSw); go_simp; try with_reducible rfl)
  simp only [Act.put, List.setIfInBounds_toArray, List.set_cons_zero, List.set_cons_succ]
  refine wpAnyH_take (i := 1) (oi := { dst := some 5, op := Op.load 3 (Operand.tmp 4), type := 3, pos := _, after := #[{ on := 0, ground := Ground.data }], guard := none }) (v := ?_) rfl (by kernel_rfl) (by kernel_rfl) (by kernel_rfl) (fun _ _ _ h => h) (Or.inl ⟨by rfl, ?_⟩) (by assumption) ?_
  rotate_left
  · (intro w hSw; (try dsimp only at hSw); go_simp; try with_reducible rfl)
  simp only [Act.put, List.setIfInBounds_toArray, List.set_cons_zero, List.set_cons_succ]
  refine wpAnyH_take (i := 2) (oi := { dst := some 6, op := Op.indexAddr 169 (Operand.global 2) (Operand.tmp 5), type := 0, pos := _, after := #[{ on := 1, ground := Ground.data }], guard := none }) (v := ?_) rfl (by kernel_rfl) (by kernel_rfl) (by kernel_rfl) (fun _ _ _ h => h) (Or.inl ⟨by rfl, ?_⟩) (by assumption) ?_
  rotate_left
  · (intro w hSw; (try dsimp only at hSw); go_simp; try with_reducible rfl)
  simp only [Act.put, List.setIfInBounds_toArray, List.set_cons_zero, List.set_cons_succ]
  refine wpAnyH_take (i := 3) (oi := { dst := some 7, op := Op.load 5 (Operand.tmp 6), type := 5, pos := _, after := #[{ on := 2, ground := Ground.data }], guard := none }) (v := ?_) rfl (by kernel_rfl) (by kernel_rfl) (by kernel_rfl) (fun _ _ _ h => h) (Or.inl ⟨by rfl, ?_⟩) (by assumption) ?_
  rotate_left
  · (intro w hSw; (try dsimp only at hSw); go_simp; try with_reducible rfl)
  simp only [Act.put, List.setIfInBounds_toArray, List.set_cons_zero, List.set_cons_succ]
  refine wpAnyH_take (i := 4) (oi := { dst := some 8, op := Op.convert 5 3 (Operand.tmp 7), type := 3, pos := _, after := #[{ on := 3, ground := Ground.data }], guard := none }) (v := ?_) rfl (by kernel_rfl) (by kernel_rfl) (by kernel_rfl) (fun _ _ _ h => h) (Or.inl ⟨by rfl, ?_⟩) (by assumption) ?_
  rotate_left
  · (intro w hSw; (try dsimp only at hSw); go_simp; try with_reducible rfl)
  simp only [Act.put, List.setIfInBounds_toArray, List.set_cons_zero, List.set_cons_succ]
  refine wpAnyH_take (i := 5) (oi := { dst := some 9, op := Op.fieldAddr 43 (Operand.tmp 1) 2, type := 0, pos := _, after := #[], guard := none }) (v := ?_) rfl (by kernel_rfl) (by kernel_rfl) (by kernel_rfl) (fun _ _ _ h => h) (Or.inl ⟨by rfl, ?_⟩) (by assumption) ?_
  rotate_left
  · (intro w hSw; (try dsimp only at hSw); go_simp; try with_reducible rfl)
  simp only [Act.put, List.setIfInBounds_toArray, List.set_cons_zero, List.set_cons_succ]
  refine wpAnyH_take (i := 6) (oi := { dst := some 10, op := Op.load 35 (Operand.tmp 9), type := 35, pos := _, after := #[{ on := 5, ground := Ground.data }], guard := none }) (v := ?_) rfl (by kernel_rfl) (by kernel_rfl) (by kernel_rfl) (fun _ _ _ h => h) (Or.inl ⟨by rfl, ?_⟩) (by assumption) ?_
  rotate_left
  · (intro w hSw; (try dsimp only at hSw); go_simp; try with_reducible rfl)
  simp only [Act.put, List.setIfInBounds_toArray, List.set_cons_zero, List.set_cons_succ]
  refine wpAnyH_take (i := 7) (oi := { dst := some 11, op := Op.fieldAddr 43 (Operand.tmp 1) 4, type := 0, pos := _, after := #[], guard := none }) (v := ?_) rfl (by kernel_rfl) (by kernel_rfl) (by kernel_rfl) (fun _ _ _ h => h) (Or.inl ⟨by rfl, ?_⟩) (by assumption) ?_
  rotate_left
  · (intro w hSw; (try dsimp only at hSw); go_simp; try with_reducible rfl)
  simp only [Act.put, List.setIfInBounds_toArray, List.set_cons_zero, List.set_cons_succ]
  refine wpAnyH_take (i := 8) (oi := { dst := some 12, op := Op.load 41 (Operand.tmp 11), type := 41, pos := _, after := #[{ on := 7, ground := Ground.data }], guard := none }) (v := ?_) rfl (by kernel_rfl) (by kernel_rfl) (by kernel_rfl) (fun _ _ _ h => h) (Or.inl ⟨by rfl, ?_⟩) (by assumption) ?_
  rotate_left
  · (intro w hSw; (try dsimp only at hSw); go_simp; try with_reducible rfl)
  simp only [Act.put, List.setIfInBounds_toArray, List.set_cons_zero, List.set_cons_succ]
  refine wpAnyH_take (i := 9) (oi := { dst := some 13, op := Op.build 140 #[(0, Operand.tmp 8), (1, Operand.tmp 10), (4, Operand.tmp 12)], type := 140, pos := _, after := #[{ on := 4, ground := Ground.data }, { on := 6, ground := Ground.data }, { on := 8, ground := Ground.data }], guard := none }) (v := ?_) rfl (by kernel_rfl) (by kernel_rfl) (by kernel_rfl) (fun _ _ _ h => h) (Or.inl ⟨by rfl, ?_⟩) (by assumption) ?_
  rotate_left
  · (intro w hSw; (try dsimp only at hSw); go_simp; try with_reducible rfl)
  simp only [Act.put, List.setIfInBounds_toArray, List.set_cons_zero, List.set_cons_succ]
  refine wpAnyH_ready (rs := [10]) (by kernel_rfl) (by simp) ?_
  refine AllReadyH.cons (o := { dst := some 3, op := Op.alloc 140, type := 0, pos := _, after := #[], guard := none }) rfl (fun K hK => ?_) AllReadyH.nil
  go_simp
  skip
  refine hK.out _ _ ?_ (fun hHeld => ?_)
  · ((try dsimp only); exact ⟨(HX.out _ _).cell 0, (HX.out _ _).cell 2, (HX.out _ _).cell 4, (HX.out _ _).cell 5, (HX.out _ _).cell 6, (HX.out _ _).cell 7, HC.out _ _ _⟩)
  clear hK K
  try simp only [Act.put, List.setIfInBounds_toArray, List.set_cons_zero, List.set_cons_succ]
  refine wpAnyH_ready (rs := [11]) (by kernel_rfl) (by simp) ?_
  refine AllReadyH.cons (o := { dst := none, op := Op.store 140 (Operand.tmp 3) (Operand.tmp 13), type := 0, pos := _, after := #[{ on := 10, ground := Ground.data }, { on := 9, ground := Ground.data }, { on := 0, ground := Ground.phase }, { on := 1, ground := Ground.phase }, { on := 2, ground := Ground.phase }, { on := 3, ground := Ground.phase }, { on := 4, ground := Ground.phase }, { on := 5, ground := Ground.phase }, { on := 6, ground := Ground.phase }, { on := 7, ground := Ground.phase }, { on := 8, ground := Ground.phase }, { on := 9, ground := Ground.phase }, { on := 10, ground := Ground.phase }], guard := none }) rfl (fun K hK => ?_) AllReadyH.nil
  go_simp
  skip
  refine hK.out _ _ ?_ (fun hHeld => ?_)
  · ((try dsimp only); exact ⟨(HX.out _ _).cell 0, (HX.out _ _).cell 2, (HX.out _ _).cell 4, (HX.out _ _).cell 5, (HX.out _ _).cell 6, (HX.out _ _).cell 7, HC.out _ _ _⟩)
  clear hK K
  try simp only [Act.put, List.setIfInBounds_toArray, List.set_cons_zero, List.set_cons_succ]
  refine wpAnyH_done (by kernel_rfl) ?_ _
  go_wp2
  refine bodyPost_ret (v := .agg #[.int .i64 2, .int .u64 t3, .int .i64 t4, .bool false, .int .i64 t5, .int .u32 t6, .bool t7, .bool t8]) (by simp [results, Tryz.results92, go_sem, IntKind.wrap_i64]) rfl ⟨rfl, (by (repeat (first | refine Below.setCell ?_ (by simp) _ | refine below_drew ?_ | refine Below.alloc ?_ (by simp; try omega) _)); exact Below.refl _ _)⟩
set_option maxRecDepth 100000 in
set_option maxHeartbeats 4000000 in
theorem entryOf_4 (t2 t3 t4 t5 t6 : Int) (t7 t8 : Bool) (W : World) (ht : TR W) : Calls Tryz.prog 92 #[.agg #[.int .i64 4, .int .u32 t2, .int .u64 t3, .int .i64 t4, .int .i64 t5, .int .u32 t6, .bool t7, .bool t8]] W fun r w' => r = .returned (.agg #[.int .i64 3, .int .u64 t3, .int .i64 0, .bool false, .int .i64 t5, .int .u32 t6, .bool t7, .bool t8]) ∧ Below W.heap.size W w' := by
  have c0 := ht.kind 4 3 rfl
  have l0 : 2 < W.heap.size := cell_lt c0
  have z0 : ¬ (2 = W.heap.size) := by omega
  have z1 : ¬ (2 = W.heap.size + 1) := by omega
  have z2 : ¬ (2 = W.heap.size + 1 + 1) := by omega
  have z3 : ¬ (W.heap.size = 2) := by omega
  have z4 : ¬ (W.heap.size + 1 = 2) := by omega
  have z5 : ¬ (W.heap.size + 1 + 1 = 2) := by omega
  have z6 : ¬ (W.heap.size = 0) := by omega
  have z7 : ¬ (W.heap.size = 2 - 1) := by omega
  have z8 : ¬ (W.heap.size = 2 - 2) := by omega
  have z9 : W.heap.size ≠ 2 := by omega
  simp only [Nat.reduceSub] at z7 z8
  have HC : Hid (∀ o1 o2 o3, (((W.alloc o1).alloc o2).alloc o3).drew.cell? ⟨2, 4, none⟩ = some (.int .u8 3)) := fun o1 o2 o3 => ((below_drew ((((Below.refl _ _).alloc (Nat.le_refl _) o1).alloc (by simp) o2).alloc (by simp; omega) o3)).cell (p := ⟨2, 4, none⟩) l0).trans c0
  have HX : Hid (∀ o2 o3, Bl (((W.alloc (.cells ([.int .i64 4, .int .u32 t2, .int .u64 t3, .int .i64 t4, .int .i64 t5, .int .u32 t6, .bool t7, .bool t8]).toArray 43)).alloc o2).alloc o3).drew W.heap.size 43 [.int .i64 4, .int .u32 t2, .int .u64 t3, .int .i64 t4, .int .i64 t5, .int .u32 t6, .bool t7, .bool t8]) := fun o2 o3 => (((Bl.new W 43 [.int .i64 4, .int .u32 t2, .int .u64 t3, .int .i64 t4, .int .i64 t5, .int .u32 t6, .bool t7, .bool t8]).below ((Below.refl _ _).alloc (Nat.le_refl _) o2)).below ((Below.refl _ _).alloc (Nat.le_refl _) o3)).drew
  clear ht
  go_enter Tryz.func92, Tryz.ntmps92
  go_wp2
  refine wp_region_held_drew (S := fun w' => w'.cell? ⟨W.heap.size, 0, none⟩ = some (.int .i64 4) ∧ w'.cell? ⟨W.heap.size, 2, none⟩ = some (.int .u64 t3) ∧ w'.cell? ⟨W.heap.size, 4, none⟩ = some (.int .i64 t5) ∧ w'.cell? ⟨W.heap.size, 5, none⟩ = some (.int .u32 t6) ∧ w'.cell? ⟨W.heap.size, 6, none⟩ = some (.bool t7) ∧ w'.cell? ⟨W.heap.size, 7, none⟩ = some (.bool t8) ∧ w'.cell? ⟨2, 4, none⟩ = some (.int .u8 3)) (by kernel_rfl) (by (try dsimp only); go_keep) (fun hHeld => ?_)
  refine wpAnyH_take (i := 0) (oi := { dst := some 4, op := Op.fieldAddr 43 (Operand.tmp 1) 0, type := 0, pos := _, after := #[], guard := none }) (v := ?_) rfl (by kernel_rfl) (by kernel_rfl) (by kernel_rfl) (fun _ _ _ h => h) (Or.inl ⟨by rfl, ?_⟩) (by assumption) ?_
  rotate_left
  · (intro w hSw; (try dsimp only at hSw); go_simp; try with_reducible rfl)
  simp only [Act.put, List.setIfInBounds_toArray, List.set_cons_zero, List.set_cons_succ]
  refine wpAnyH_take (i := 1) (oi := { dst := some 5, op := Op.load 3 (Operand.tmp 4), type := 3, pos := _, after := #[{ on := 0, ground := Ground.data }], guard := none }) (v := ?_) rfl (by kernel_rfl) (by kernel_rfl) (by kernel_rfl) (fun _ _ _ h => h) (Or.inl ⟨by rfl, ?_⟩) (by assumption) ?_
  rotate_left
  · (intro w hSw; (try dsimp only at hSw); go_simp; try with_reducible rfl)
  simp only [Act.put, List.setIfInBounds_toArray, List.set_cons_zero, List.set_cons_succ]
  refine wpAnyH_take (i := 2) (oi := { dst := some 6, op := Op.indexAddr 169 (Operand.global 2) (Operand.tmp 5), type := 0, pos := _, after := #[{ on := 1, ground := Ground.data }], guard := none }) (v := ?_) rfl (by kernel_rfl) (by kernel_rfl) (by kernel_rfl) (fun _ _ _ h => h) (Or.inl ⟨by rfl, ?_⟩) (by assumption) ?_
  rotate_left
  · (intro w hSw; (try dsimp only at hSw); go_simp; try with_reducible rfl)
  simp only [Act.put, List.setIfInBounds_toArray, List.set_cons_zero, List.set_cons_succ]
  refine wpAnyH_take (i := 3) (oi := { dst := some 7, op := Op.load 5 (Operand.tmp 6), type := 5, pos := _, after := #[{ on := 2, ground := Ground.data }], guard := none }) (v := ?_) rfl (by kernel_rfl) (by kernel_rfl) (by kernel_rfl) (fun _ _ _ h => h) (Or.inl ⟨by rfl, ?_⟩) (by assumption) ?_
  rotate_left
  · (intro w hSw; (try dsimp only at hSw); go_simp; try with_reducible rfl)
  simp only [Act.put, List.setIfInBounds_toArray, List.set_cons_zero, List.set_cons_succ]
  refine wpAnyH_take (i := 4) (oi := { dst := some 8, op := Op.convert 5 3 (Operand.tmp 7), type := 3, pos := _, after := #[{ on := 3, ground := Ground.data }], guard := none }) (v := ?_) rfl (by kernel_rfl) (by kernel_rfl) (by kernel_rfl) (fun _ _ _ h => h) (Or.inl ⟨by rfl, ?_⟩) (by assumption) ?_
  rotate_left
  · (intro w hSw; (try dsimp only at hSw); go_simp; try with_reducible rfl)
  simp only [Act.put, List.setIfInBounds_toArray, List.set_cons_zero, List.set_cons_succ]
  refine wpAnyH_take (i := 5) (oi := { dst := some 9, op := Op.fieldAddr 43 (Operand.tmp 1) 2, type := 0, pos := _, after := #[], guard := none }) (v := ?_) rfl (by kernel_rfl) (by kernel_rfl) (by kernel_rfl) (fun _ _ _ h => h) (Or.inl ⟨by rfl, ?_⟩) (by assumption) ?_
  rotate_left
  · (intro w hSw; (try dsimp only at hSw); go_simp; try with_reducible rfl)
  simp only [Act.put, List.setIfInBounds_toArray, List.set_cons_zero, List.set_cons_succ]
  refine wpAnyH_take (i := 6) (oi := { dst := some 10, op := Op.load 35 (Operand.tmp 9), type := 35, pos := _, after := #[{ on := 5, ground := Ground.data }], guard := none }) (v := ?_) rfl (by kernel_rfl) (by kernel_rfl) (by kernel_rfl) (fun _ _ _ h => h) (Or.inl ⟨by rfl, ?_⟩) (by assumption) ?_
  rotate_left
  · (intro w hSw; (try dsimp only at hSw); go_simp; try with_reducible rfl)
  simp only [Act.put, List.setIfInBounds_toArray, List.set_cons_zero, List.set_cons_succ]
  refine wpAnyH_take (i := 7) (oi := { dst := some 11, op := Op.fieldAddr 43 (Operand.tmp 1) 4, type := 0, pos := _, after := #[], guard := none }) (v := ?_) rfl (by kernel_rfl) (by kernel_rfl) (by kernel_rfl) (fun _ _ _ h => h) (Or.inl ⟨by rfl, ?_⟩) (by assumption) ?_
  rotate_left
  · (intro w hSw; (try dsimp only at hSw); go_simp; try with_reducible rfl)
  simp only [Act.put, List.setIfInBounds_toArray, List.set_cons_zero, List.set_cons_succ]
  refine wpAnyH_take (i := 8) (oi := { dst := some 12, op := Op.load 41 (Operand.tmp 11), type := 41, pos := _, after := #[{ on := 7, ground := Ground.data }], guard := none }) (v := ?_) rfl (by kernel_rfl) (by kernel_rfl) (by kernel_rfl) (fun _ _ _ h => h) (Or.inl ⟨by rfl, ?_⟩) (by assumption) ?_
  rotate_left
  · (intro w hSw; (try dsimp only at hSw); go_simp; try with_reducible rfl)
  simp only [Act.put, List.setIfInBounds_toArray, List.set_cons_zero, List.set_cons_succ]
  refine wpAnyH_take (i := 9) (oi := { dst := some 13, op := Op.build 140 #[(0, Operand.tmp 8), (1, Operand.tmp 10), (4, Operand.tmp 12)], type := 140, pos := _, after := #[{ on := 4, ground := Ground.data }, { on := 6, ground := Ground.data }, { on := 8, ground := Ground.data }], guard := none }) (v := ?_) rfl (by kernel_rfl) (by kernel_rfl) (by kernel_rfl) (fun _ _ _ h => h) (Or.inl ⟨by rfl, ?_⟩) (by assumption) ?_
  rotate_left
  · (intro w hSw; (try dsimp only at hSw); go_simp; try with_reducible rfl)
  simp only [Act.put, List.setIfInBounds_toArray, List.set_cons_zero, List.set_cons_succ]
  refine wpAnyH_ready (rs := [10]) (by kernel_rfl) (by simp) ?_
  refine AllReadyH.cons (o := { dst := some 3, op := Op.alloc 140, type := 0, pos := _, after := #[], guard := none }) rfl (fun K hK => ?_) AllReadyH.nil
  go_simp
  skip
  refine hK.out _ _ ?_ (fun hHeld => ?_)
  · ((try dsimp only); exact ⟨(HX.out _ _).cell 0, (HX.out _ _).cell 2, (HX.out _ _).cell 4, (HX.out _ _).cell 5, (HX.out _ _).cell 6, (HX.out _ _).cell 7, HC.out _ _ _⟩)
  clear hK K
  try simp only [Act.put, List.setIfInBounds_toArray, List.set_cons_zero, List.set_cons_succ]
  refine wpAnyH_ready (rs := [11]) (by kernel_rfl) (by simp) ?_
  refine AllReadyH.cons (o := { dst := none, op := Op.store 140 (Operand.tmp 3) (Operand.tmp 13), type := 0, pos := _, after := #[{ on := 10, ground := Ground.data }, { on := 9, ground := Ground.data }, { on := 0, ground := Ground.phase }, { on := 1, ground := Ground.phase }, { on := 2, ground := Ground.phase }, { on := 3, ground := Ground.phase }, { on := 4, ground := Ground.phase }, { on := 5, ground := Ground.phase }, { on := 6, ground := Ground.phase }, { on := 7, ground := Ground.phase }, { on := 8, ground := Ground.phase }, { on := 9, ground := Ground.phase }, { on := 10, ground := Ground.phase }], guard := none }) rfl (fun K hK => ?_) AllReadyH.nil
  go_simp
  skip
  refine hK.out _ _ ?_ (fun hHeld => ?_)
  · ((try dsimp only); exact ⟨(HX.out _ _).cell 0, (HX.out _ _).cell 2, (HX.out _ _).cell 4, (HX.out _ _).cell 5, (HX.out _ _).cell 6, (HX.out _ _).cell 7, HC.out _ _ _⟩)
  clear hK K
  try simp only [Act.put, List.setIfInBounds_toArray, List.set_cons_zero, List.set_cons_succ]
  refine wpAnyH_done (by kernel_rfl) ?_ _
  go_wp2
  refine bodyPost_ret (v := .agg #[.int .i64 3, .int .u64 t3, .int .i64 0, .bool false, .int .i64 t5, .int .u32 t6, .bool t7, .bool t8]) (by simp [results, Tryz.results92, go_sem, IntKind.wrap_i64]) rfl ⟨rfl, (by (repeat (first | refine Below.setCell ?_ (by simp) _ | refine below_drew ?_ | refine Below.alloc ?_ (by simp; try omega) _)); exact Below.refl _ _)⟩
theorem entryOf_any (t : Tra) (W : World) (ht : TR W) (hs : 1 ≤ t.size ∧ t.size ≤ 4) : Calls Tryz.prog 92 #[.agg #[.int .i64 t.size, .int .u32 t.va, .int .u64 t.pa, .int .i64 t.dom, .int .i64 t.ap, .int .u32 t.bits, .bool t.ng, .bool t.xn]] W fun r w' => r = .returned (.agg #[.int .i64 (enF t).kind, .int .u64 (enF t).base, .int .i64 (enF t).dom, .bool (enF t).ns, .int .i64 (enF t).ap, .int .u32 (enF t).bits, .bool (enF t).ng, .bool (enF t).xn]) ∧ Below W.heap.size W w' := by
  obtain ⟨s, t2, t3, t4, t5, t6, t7, t8⟩ := t
  simp only at hs
  rcases (show s = 1 ∨ s = 2 ∨ s = 3 ∨ s = 4 by omega) with rfl | rfl | rfl | rfl
  · exact entryOf_1 t2 t3 t4 t5 t6 t7 t8 W ht
  · exact entryOf_2 t2 t3 t4 t5 t6 t7 t8 W ht
  · exact entryOf_3 t2 t3 t4 t5 t6 t7 t8 W ht
  · exact entryOf_4 t2 t3 t4 t5 t6 t7 t8 W ht
end Go.Proofs.YtnjlajjjcmhfgaaGreatDoor
