import Derived.Test.YtnjlajjjcmhfgaaGreatDoorQA15
import Derived.Test.YtnjlajjjcmhfgaaGreatDoorQA20
import Derived.Test.YtnjlajjjcmhfgaaGreatDoorQA14
import Derived.Deep.CutRange
namespace Go.Proofs.YtnjlajjjcmhfgaaGreatDoor
open Go.RowKit
set_option linter.unusedVariables false
set_option linter.unusedSimpArgs false

set_option maxRecDepth 100000 in
set_option maxHeartbeats 8000000 in
theorem right_no (t1 t2 t3 t4 t5 t6 : Int) (t7 t8 : Bool) (W : World) (ht : TR W) (HI : ∀ w, Calls Tryz.prog 91 #[.int .i64 t1] w fun e w' => e = .returned (.bool false) ∧ w = w') :
    Calls Tryz.prog 51 #[.agg #[.int .i64 t1, .int .u32 t2, .int .u64 t3, .int .i64 t4, .int .i64 t5, .int .u32 t6, .bool t7, .bool t8]] W fun r w' => r = .returned (.bool false) ∧ Below W.heap.size W w' := by
  have hx1 := Bl.new W 43 [.int .i64 t1, .int .u32 t2, .int .u64 t3, .int .i64 t4, .int .i64 t5, .int .u32 t6, .bool t7, .bool t8]
  have HT : Hid (TR W) := ht
  clear ht
  have HB : Hid (∀ o, Below W.heap.size W (W.alloc o).drew) := fun o => below_drew ((Below.refl _ _).alloc (Nat.le_refl _) o)
  go_enter Tryz.func51, Tryz.ntmps51
  go_wp2
  refine wp_region_held_drew (S := fun w' => w'.cell? ⟨W.heap.size, 0, none⟩ = some (.int .i64 t1) ∧ w'.cell? ⟨W.heap.size, 1, none⟩ = some (.int .u32 t2) ∧ w'.cell? ⟨W.heap.size, 2, none⟩ = some (.int .u64 t3) ∧ w'.cell? ⟨W.heap.size, 3, none⟩ = some (.int .i64 t4) ∧ w'.cell? ⟨W.heap.size, 4, none⟩ = some (.int .i64 t5) ∧ w'.cell? ⟨W.heap.size, 5, none⟩ = some (.int .u32 t6) ∧ w'.cell? ⟨W.heap.size, 6, none⟩ = some (.bool t7) ∧ w'.cell? ⟨W.heap.size, 7, none⟩ = some (.bool t8)) (by kernel_rfl) (by (try dsimp only); exact ⟨hx1.drew.cell 0, hx1.drew.cell 1, hx1.drew.cell 2, hx1.drew.cell 3, hx1.drew.cell 4, hx1.drew.cell 5, hx1.drew.cell 6, hx1.drew.cell 7⟩) (fun hHeld => ?_)
  refine wpAnyH_take (i := 0) (oi := { dst := some 3, op := Op.fieldAddr 43 (Operand.tmp 1) 0, type := 0, pos := _, after := #[], guard := none }) (v := ?_) rfl (by kernel_rfl) (by kernel_rfl) (by kernel_rfl) (fun _ _ _ h => h) (Or.inl ⟨by rfl, ?_⟩) (by assumption) ?_
  rotate_left
  · (intro w hSw; (try dsimp only at hSw); go_simp; try with_reducible rfl)
  simp only [Act.put, List.setIfInBounds_toArray, List.set_cons_zero, List.set_cons_succ]
  refine wpAnyH_take (i := 1) (oi := { dst := some 4, op := Op.load 3 (Operand.tmp 3), type := 3, pos := _, after := #[{ on := 0, ground := Ground.data }], guard := none }) (v := ?_) rfl (by kernel_rfl) (by kernel_rfl) (by kernel_rfl) (fun _ _ _ h => h) (Or.inl ⟨by rfl, ?_⟩) (by assumption) ?_
  rotate_left
  · (intro w hSw; (try dsimp only at hSw); go_simp; try with_reducible rfl)
  simp only [Act.put, List.setIfInBounds_toArray, List.set_cons_zero, List.set_cons_succ]
  refine wpAnyH_ready (rs := [2]) (by kernel_rfl) (by simp) ?_
  refine AllReadyH.cons (o := { dst := some 5, op := Op.call { callee := Callee.value (Operand.func 91), args := #[Operand.tmp 4], argTypes := #[3] }, type := 4, pos := _, after := #[{ on := 1, ground := Ground.data }], guard := none }) rfl (fun K hK => ?_) AllReadyH.nil
  go_simp
  (go_at_call 91; refine (HI _).mono ?_; rintro e w' ⟨rfl, rfl⟩; go_wp2_with fail)
  refine hK.out _ _ ?_ (fun hHeld => ?_)
  · ((try dsimp only); exact ⟨hx1.drew.cell 0, hx1.drew.cell 1, hx1.drew.cell 2, hx1.drew.cell 3, hx1.drew.cell 4, hx1.drew.cell 5, hx1.drew.cell 6, hx1.drew.cell 7⟩)
  clear hK K
  try simp only [Act.put, List.setIfInBounds_toArray, List.set_cons_zero, List.set_cons_succ]
  refine wpAnyH_take (i := 3) (oi := { dst := some 6, op := Op.move (Operand.tmp 5), type := 4, pos := _, after := #[{ on := 2, ground := Ground.data }, { on := 2, ground := Ground.chain }], guard := none }) (v := ?_) rfl (by kernel_rfl) (by kernel_rfl) (by kernel_rfl) (fun _ _ _ h => h) (Or.inl ⟨by rfl, ?_⟩) (by assumption) ?_
  rotate_left
  · (intro w hSw; (try dsimp only at hSw); go_simp; try with_reducible rfl)
  simp only [Act.put, List.setIfInBounds_toArray, List.set_cons_zero, List.set_cons_succ]
  refine wpAnyH_take (i := 4) (oi := { dst := some 7, op := Op.load 43 (Operand.tmp 1), type := 43, pos := _, after := #[{ on := 3, ground := Ground.guard }], guard := some (3, true) }) (v := undef) rfl (by kernel_rfl) (by kernel_rfl) (by kernel_rfl) (fun _ _ _ h => h) (Or.inr ⟨by rfl, rfl⟩) (by assumption) ?_
  simp only [Act.put, List.setIfInBounds_toArray, List.set_cons_zero, List.set_cons_succ]
  refine wpAnyH_take (i := 5) (oi := { dst := some 8, op := Op.call { callee := Callee.value (Operand.func 92), args := #[Operand.tmp 7], argTypes := #[43] }, type := 140, pos := _, after := #[{ on := 4, ground := Ground.data }, { on := 3, ground := Ground.chain }, { on := 3, ground := Ground.guard }], guard := some (3, true) }) (v := undef) rfl (by kernel_rfl) (by kernel_rfl) (by kernel_rfl) (fun _ _ _ h => h) (Or.inr ⟨by rfl, rfl⟩) (by assumption) ?_
  simp only [Act.put, List.setIfInBounds_toArray, List.set_cons_zero, List.set_cons_succ]
  refine wpAnyH_take (i := 6) (oi := { dst := some 9, op := Op.fieldAddr 43 (Operand.tmp 1) 3, type := 0, pos := _, after := #[{ on := 3, ground := Ground.guard }], guard := some (3, true) }) (v := undef) rfl (by kernel_rfl) (by kernel_rfl) (by kernel_rfl) (fun _ _ _ h => h) (Or.inr ⟨by rfl, rfl⟩) (by assumption) ?_
  simp only [Act.put, List.setIfInBounds_toArray, List.set_cons_zero, List.set_cons_succ]
  refine wpAnyH_take (i := 7) (oi := { dst := some 10, op := Op.load 3 (Operand.tmp 9), type := 3, pos := _, after := #[{ on := 6, ground := Ground.data }, { on := 3, ground := Ground.guard }], guard := some (3, true) }) (v := undef) rfl (by kernel_rfl) (by kernel_rfl) (by kernel_rfl) (fun _ _ _ h => h) (Or.inr ⟨by rfl, rfl⟩) (by assumption) ?_
  simp only [Act.put, List.setIfInBounds_toArray, List.set_cons_zero, List.set_cons_succ]
  refine wpAnyH_take (i := 8) (oi := { dst := some 11, op := Op.fieldAddr 43 (Operand.tmp 1) 1, type := 0, pos := _, after := #[{ on := 3, ground := Ground.guard }], guard := some (3, true) }) (v := undef) rfl (by kernel_rfl) (by kernel_rfl) (by kernel_rfl) (fun _ _ _ h => h) (Or.inr ⟨by rfl, rfl⟩) (by assumption) ?_
  simp only [Act.put, List.setIfInBounds_toArray, List.set_cons_zero, List.set_cons_succ]
  refine wpAnyH_take (i := 9) (oi := { dst := some 12, op := Op.load 32 (Operand.tmp 11), type := 32, pos := _, after := #[{ on := 8, ground := Ground.data }, { on := 3, ground := Ground.guard }], guard := some (3, true) }) (v := undef) rfl (by kernel_rfl) (by kernel_rfl) (by kernel_rfl) (fun _ _ _ h => h) (Or.inr ⟨by rfl, rfl⟩) (by assumption) ?_
  simp only [Act.put, List.setIfInBounds_toArray, List.set_cons_zero, List.set_cons_succ]
  refine wpAnyH_take (i := 10) (oi := { dst := some 13, op := Op.call { callee := Callee.value (Operand.func 63), args := #[Operand.tmp 8, Operand.tmp 10, Operand.tmp 12], argTypes := #[140, 3, 32] }, type := 43, pos := _, after := #[{ on := 5, ground := Ground.data }, { on := 7, ground := Ground.data }, { on := 9, ground := Ground.data }, { on := 5, ground := Ground.chain }, { on := 3, ground := Ground.guard }], guard := some (3, true) }) (v := undef) rfl (by kernel_rfl) (by kernel_rfl) (by kernel_rfl) (fun _ _ _ h => h) (Or.inr ⟨by rfl, rfl⟩) (by assumption) ?_
  simp only [Act.put, List.setIfInBounds_toArray, List.set_cons_zero, List.set_cons_succ]
  refine wpAnyH_take (i := 11) (oi := { dst := some 14, op := Op.load 43 (Operand.tmp 1), type := 43, pos := _, after := #[{ on := 3, ground := Ground.guard }], guard := some (3, true) }) (v := undef) rfl (by kernel_rfl) (by kernel_rfl) (by kernel_rfl) (fun _ _ _ h => h) (Or.inr ⟨by rfl, rfl⟩) (by assumption) ?_
  simp only [Act.put, List.setIfInBounds_toArray, List.set_cons_zero, List.set_cons_succ]
  refine wpAnyH_take (i := 12) (oi := { dst := some 15, op := Op.binOp BinOp.eql 43 (Operand.tmp 13) (Operand.tmp 14) 43, type := 4, pos := _, after := #[{ on := 10, ground := Ground.data }, { on := 11, ground := Ground.data }, { on := 3, ground := Ground.guard }], guard := some (3, true) }) (v := undef) rfl (by kernel_rfl) (by kernel_rfl) (by kernel_rfl) (fun _ _ _ h => h) (Or.inr ⟨by rfl, rfl⟩) (by assumption) ?_
  simp only [Act.put, List.setIfInBounds_toArray, List.set_cons_zero, List.set_cons_succ]
  refine wpAnyH_take (i := 13) (oi := { dst := some 16, op := Op.pick (Operand.tmp 6) (Operand.tmp 15) (Operand.const (Value.bool false)), type := 4, pos := _, after := #[{ on := 3, ground := Ground.data }, { on := 12, ground := Ground.data }], guard := none }) (v := ?_) rfl (by kernel_rfl) (by kernel_rfl) (by kernel_rfl) (fun _ _ _ h => h) (Or.inl ⟨by rfl, ?_⟩) (by assumption) ?_
  rotate_left
  · (intro w hSw; (try dsimp only at hSw); go_simp; try with_reducible rfl)
  simp only [Act.put, List.setIfInBounds_toArray, List.set_cons_zero, List.set_cons_succ]
  refine wpAnyH_take (i := 14) (oi := { dst := some 2, op := Op.assign (Operand.tmp 16), type := 4, pos := _, after := #[{ on := 13, ground := Ground.data }, { on := 10, ground := Ground.chain }, { on := 0, ground := Ground.phase }, { on := 1, ground := Ground.phase }, { on := 2, ground := Ground.phase }, { on := 3, ground := Ground.phase }, { on := 4, ground := Ground.phase }, { on := 5, ground := Ground.phase }, { on := 6, ground := Ground.phase }, { on := 7, ground := Ground.phase }, { on := 8, ground := Ground.phase }, { on := 9, ground := Ground.phase }, { on := 10, ground := Ground.phase }, { on := 11, ground := Ground.phase }, { on := 12, ground := Ground.phase }, { on := 13, ground := Ground.phase }], guard := none }) (v := ?_) rfl (by kernel_rfl) (by kernel_rfl) (by kernel_rfl) (fun _ _ _ h => h) (Or.inl ⟨by rfl, ?_⟩) (by assumption) ?_
  rotate_left
  · (intro w hSw; (try dsimp only at hSw); go_simp; try with_reducible rfl)
  simp only [Act.put, List.setIfInBounds_toArray, List.set_cons_zero, List.set_cons_succ]
  refine wpAnyH_done (by kernel_rfl) ?_ _
  go_wp2
  go_ret
  exact ⟨rfl, HB.out _⟩
set_option maxRecDepth 100000 in
set_option maxHeartbeats 8000000 in
theorem right_yes (t1 t2 t3 t4 t5 t6 : Int) (t7 t8 : Bool) (W : World) (ht : TR W) (f : Ent) (g : Tra) (S : Bool) (HI : ∀ w, Calls Tryz.prog 91 #[.int .i64 t1] w fun e w' => e = .returned (.bool true) ∧ w = w')
    (HE : ∀ ww, TR ww → Calls Tryz.prog 92 #[.agg #[.int .i64 t1, .int .u32 t2, .int .u64 t3, .int .i64 t4, .int .i64 t5, .int .u32 t6, .bool t7, .bool t8]] ww fun r w' => r = .returned (.agg #[.int .i64 f.kind, .int .u64 f.base, .int .i64 f.dom, .bool f.ns, .int .i64 f.ap, .int .u32 f.bits, .bool f.ng, .bool f.xn]) ∧ Below ww.heap.size ww w')
    (HR : ∀ ww, TR ww → Calls Tryz.prog 63 #[.agg #[.int .i64 f.kind, .int .u64 f.base, .int .i64 f.dom, .bool f.ns, .int .i64 f.ap, .int .u32 f.bits, .bool f.ng, .bool f.xn], .int .i64 t4, .int .u32 t2] ww fun r w' => r = .returned (.agg #[.int .i64 g.size, .int .u32 g.va, .int .u64 g.pa, .int .i64 g.dom, .int .i64 g.ap, .int .u32 g.bits, .bool g.ng, .bool g.xn]) ∧ Below ww.heap.size ww w')
    (heq : ∀ w, (Op.equalIn 10000 43 (.agg #[.int .i64 g.size, .int .u32 g.va, .int .u64 g.pa, .int .i64 g.dom, .int .i64 g.ap, .int .u32 g.bits, .bool g.ng, .bool g.xn]) (.agg #[.int .i64 t1, .int .u32 t2, .int .u64 t3, .int .i64 t4, .int .i64 t5, .int .u32 t6, .bool t7, .bool t8])).run Tryz.prog w = .ok S w) :
    Calls Tryz.prog 51 #[.agg #[.int .i64 t1, .int .u32 t2, .int .u64 t3, .int .i64 t4, .int .i64 t5, .int .u32 t6, .bool t7, .bool t8]] W fun r w' => r = .returned (.bool S) ∧ Below W.heap.size W w' := by
  have hx1 := Bl.new W 43 [.int .i64 t1, .int .u32 t2, .int .u64 t3, .int .i64 t4, .int .i64 t5, .int .u32 t6, .bool t7, .bool t8]
  have HT : Hid (TR W) := ht
  clear ht
  have HB : Hid (∀ o, Below W.heap.size W (W.alloc o).drew) := fun o => below_drew ((Below.refl _ _).alloc (Nat.le_refl _) o)
  go_enter Tryz.func51, Tryz.ntmps51
  go_wp2
  refine wp_region_held_drew (S := fun w' => w'.cell? ⟨W.heap.size, 0, none⟩ = some (.int .i64 t1) ∧ w'.cell? ⟨W.heap.size, 1, none⟩ = some (.int .u32 t2) ∧ w'.cell? ⟨W.heap.size, 2, none⟩ = some (.int .u64 t3) ∧ w'.cell? ⟨W.heap.size, 3, none⟩ = some (.int .i64 t4) ∧ w'.cell? ⟨W.heap.size, 4, none⟩ = some (.int .i64 t5) ∧ w'.cell? ⟨W.heap.size, 5, none⟩ = some (.int .u32 t6) ∧ w'.cell? ⟨W.heap.size, 6, none⟩ = some (.bool t7) ∧ w'.cell? ⟨W.heap.size, 7, none⟩ = some (.bool t8)) (by kernel_rfl) (by (try dsimp only); exact ⟨hx1.drew.cell 0, hx1.drew.cell 1, hx1.drew.cell 2, hx1.drew.cell 3, hx1.drew.cell 4, hx1.drew.cell 5, hx1.drew.cell 6, hx1.drew.cell 7⟩) (fun hHeld => ?_)
  refine wpAnyH_take (i := 0) (oi := { dst := some 3, op := Op.fieldAddr 43 (Operand.tmp 1) 0, type := 0, pos := _, after := #[], guard := none }) (v := ?_) rfl (by kernel_rfl) (by kernel_rfl) (by kernel_rfl) (fun _ _ _ h => h) (Or.inl ⟨by rfl, ?_⟩) (by assumption) ?_
  rotate_left
  · (intro w hSw; (try dsimp only at hSw); go_simp; try with_reducible rfl)
  simp only [Act.put, List.setIfInBounds_toArray, List.set_cons_zero, List.set_cons_succ]
  refine wpAnyH_take (i := 1) (oi := { dst := some 4, op := Op.load 3 (Operand.tmp 3), type := 3, pos := _, after := #[{ on := 0, ground := Ground.data }], guard := none }) (v := ?_) rfl (by kernel_rfl) (by kernel_rfl) (by kernel_rfl) (fun _ _ _ h => h) (Or.inl ⟨by rfl, ?_⟩) (by assumption) ?_
  rotate_left
  · (intro w hSw; (try dsimp only at hSw); go_simp; try with_reducible rfl)
  simp only [Act.put, List.setIfInBounds_toArray, List.set_cons_zero, List.set_cons_succ]
  refine wpAnyH_ready (rs := [2]) (by kernel_rfl) (by simp) ?_
  refine AllReadyH.cons (o := { dst := some 5, op := Op.call { callee := Callee.value (Operand.func 91), args := #[Operand.tmp 4], argTypes := #[3] }, type := 4, pos := _, after := #[{ on := 1, ground := Ground.data }], guard := none }) rfl (fun K hK => ?_) AllReadyH.nil
  go_simp
  (go_at_call 91; refine (HI _).mono ?_; rintro e w' ⟨rfl, rfl⟩; go_wp2_with fail)
  refine hK.out _ _ ?_ (fun hHeld => ?_)
  · ((try dsimp only); (first | (exact ⟨hx4.cell 0, hx4.cell 1, hx4.cell 2, hx4.cell 3, hx4.cell 4, hx4.cell 5, hx4.cell 6, hx4.cell 7⟩) | (exact ⟨hx3.cell 0, hx3.cell 1, hx3.cell 2, hx3.cell 3, hx3.cell 4, hx3.cell 5, hx3.cell 6, hx3.cell 7⟩) | (exact ⟨hx1.drew.cell 0, hx1.drew.cell 1, hx1.drew.cell 2, hx1.drew.cell 3, hx1.drew.cell 4, hx1.drew.cell 5, hx1.drew.cell 6, hx1.drew.cell 7⟩)))
  clear hK K
  try simp only [Act.put, List.setIfInBounds_toArray, List.set_cons_zero, List.set_cons_succ]
  refine wpAnyH_take (i := 3) (oi := { dst := some 6, op := Op.move (Operand.tmp 5), type := 4, pos := _, after := #[{ on := 2, ground := Ground.data }, { on := 2, ground := Ground.chain }], guard := none }) (v := ?_) rfl (by kernel_rfl) (by kernel_rfl) (by kernel_rfl) (fun _ _ _ h => h) (Or.inl ⟨by rfl, ?_⟩) (by assumption) ?_
  rotate_left
  · (intro w hSw; (try dsimp only at hSw); go_simp; try with_reducible rfl)
  simp only [Act.put, List.setIfInBounds_toArray, List.set_cons_zero, List.set_cons_succ]
  refine wpAnyH_take (i := 4) (oi := { dst := some 7, op := Op.load 43 (Operand.tmp 1), type := 43, pos := _, after := #[{ on := 3, ground := Ground.guard }], guard := some (3, true) }) (v := ?_) rfl (by kernel_rfl) (by kernel_rfl) (by kernel_rfl) (fun _ _ _ h => h) (Or.inl ⟨by rfl, ?_⟩) (by assumption) ?_
  rotate_left
  · (intro w hSw; (try dsimp only at hSw); go_simp; try with_reducible rfl)
  simp only [Act.put, List.setIfInBounds_toArray, List.set_cons_zero, List.set_cons_succ]
  refine wpAnyH_take (i := 6) (oi := { dst := some 9, op := Op.fieldAddr 43 (Operand.tmp 1) 3, type := 0, pos := _, after := #[{ on := 3, ground := Ground.guard }], guard := some (3, true) }) (v := ?_) rfl (by kernel_rfl) (by kernel_rfl) (by kernel_rfl) (fun _ _ _ h => h) (Or.inl ⟨by rfl, ?_⟩) (by assumption) ?_
  rotate_left
  · (intro w hSw; (try dsimp only at hSw); go_simp; try with_reducible rfl)
  simp only [Act.put, List.setIfInBounds_toArray, List.set_cons_zero, List.set_cons_succ]
  refine wpAnyH_take (i := 7) (oi := { dst := some 10, op := Op.load 3 (Operand.tmp 9), type := 3, pos := _, after := #[{ on := 6, ground := Ground.data }, { on := 3, ground := Ground.guard }], guard := some (3, true) }) (v := ?_) rfl (by kernel_rfl) (by kernel_rfl) (by kernel_rfl) (fun _ _ _ h => h) (Or.inl ⟨by rfl, ?_⟩) (by assumption) ?_
  rotate_left
  · (intro w hSw; (try dsimp only at hSw); go_simp; try with_reducible rfl)
  simp only [Act.put, List.setIfInBounds_toArray, List.set_cons_zero, List.set_cons_succ]
  refine wpAnyH_take (i := 8) (oi := { dst := some 11, op := Op.fieldAddr 43 (Operand.tmp 1) 1, type := 0, pos := _, after := #[{ on := 3, ground := Ground.guard }], guard := some (3, true) }) (v := ?_) rfl (by kernel_rfl) (by kernel_rfl) (by kernel_rfl) (fun _ _ _ h => h) (Or.inl ⟨by rfl, ?_⟩) (by assumption) ?_
  rotate_left
  · (intro w hSw; (try dsimp only at hSw); go_simp; try with_reducible rfl)
  simp only [Act.put, List.setIfInBounds_toArray, List.set_cons_zero, List.set_cons_succ]
  refine wpAnyH_take (i := 9) (oi := { dst := some 12, op := Op.load 32 (Operand.tmp 11), type := 32, pos := _, after := #[{ on := 8, ground := Ground.data }, { on := 3, ground := Ground.guard }], guard := some (3, true) }) (v := ?_) rfl (by kernel_rfl) (by kernel_rfl) (by kernel_rfl) (fun _ _ _ h => h) (Or.inl ⟨by rfl, ?_⟩) (by assumption) ?_
  rotate_left
  · (intro w hSw; (try dsimp only at hSw); go_simp; try with_reducible rfl)
  simp only [Act.put, List.setIfInBounds_toArray, List.set_cons_zero, List.set_cons_succ]
  refine wpAnyH_take (i := 11) (oi := { dst := some 14, op := Op.load 43 (Operand.tmp 1), type := 43, pos := _, after := #[{ on := 3, ground := Ground.guard }], guard := some (3, true) }) (v := ?_) rfl (by kernel_rfl) (by kernel_rfl) (by kernel_rfl) (fun _ _ _ h => h) (Or.inl ⟨by rfl, ?_⟩) (by assumption) ?_
  rotate_left
  · (intro w hSw; (try dsimp only at hSw); go_simp; try with_reducible rfl)
  simp only [Act.put, List.setIfInBounds_toArray, List.set_cons_zero, List.set_cons_succ]
  refine wpAnyH_ready (rs := [5]) (by kernel_rfl) (by simp) ?_
  refine AllReadyH.cons (o := { dst := some 8, op := Op.call { callee := Callee.value (Operand.func 92), args := #[Operand.tmp 7], argTypes := #[43] }, type := 140, pos := _, after := #[{ on := 4, ground := Ground.data }, { on := 3, ground := Ground.chain }, { on := 3, ground := Ground.guard }], guard := some (3, true) }) rfl (fun K hK => ?_) AllReadyH.nil
  go_simp
  (go_at_call 92; refine (HE _ (HT.out.below (HB.out _))).mono ?_; rintro e w3 ⟨rfl, hb⟩; have hx3 := hx1.drew.below hb; have HB3 : Hid (Below W.heap.size W w3) := Below.step (HB.out _) hb; clear hb; go_wp2_with fail)
  refine hK.out _ _ ?_ (fun hHeld => ?_)
  · ((try dsimp only); (first | (exact ⟨hx4.cell 0, hx4.cell 1, hx4.cell 2, hx4.cell 3, hx4.cell 4, hx4.cell 5, hx4.cell 6, hx4.cell 7⟩) | (exact ⟨hx3.cell 0, hx3.cell 1, hx3.cell 2, hx3.cell 3, hx3.cell 4, hx3.cell 5, hx3.cell 6, hx3.cell 7⟩) | (exact ⟨hx1.drew.cell 0, hx1.drew.cell 1, hx1.drew.cell 2, hx1.drew.cell 3, hx1.drew.cell 4, hx1.drew.cell 5, hx1.drew.cell 6, hx1.drew.cell 7⟩)))
  clear hK K
  try simp only [Act.put, List.setIfInBounds_toArray, List.set_cons_zero, List.set_cons_succ]
  refine wpAnyH_ready (rs := [10]) (by kernel_rfl) (by simp) ?_
  refine AllReadyH.cons (o := { dst := some 13, op := Op.call { callee := Callee.value (Operand.func 63), args := #[Operand.tmp 8, Operand.tmp 10, Operand.tmp 12], argTypes := #[140, 3, 32] }, type := 43, pos := _, after := #[{ on := 5, ground := Ground.data }, { on := 7, ground := Ground.data }, { on := 9, ground := Ground.data }, { on := 5, ground := Ground.chain }, { on := 3, ground := Ground.guard }], guard := some (3, true) }) rfl (fun K hK => ?_) AllReadyH.nil
  go_simp
  (go_at_call 63; refine (HR _ (HT.out.below HB3.out)).mono ?_; rintro e w4 ⟨rfl, hb⟩; have hx4 := hx3.below hb; have HB4 : Hid (Below W.heap.size W w4) := Below.step HB3.out hb; clear hb; go_wp2_with fail)
  refine hK.out _ _ ?_ (fun hHeld => ?_)
  · ((try dsimp only); (first | (exact ⟨hx4.cell 0, hx4.cell 1, hx4.cell 2, hx4.cell 3, hx4.cell 4, hx4.cell 5, hx4.cell 6, hx4.cell 7⟩) | (exact ⟨hx3.cell 0, hx3.cell 1, hx3.cell 2, hx3.cell 3, hx3.cell 4, hx3.cell 5, hx3.cell 6, hx3.cell 7⟩) | (exact ⟨hx1.drew.cell 0, hx1.drew.cell 1, hx1.drew.cell 2, hx1.drew.cell 3, hx1.drew.cell 4, hx1.drew.cell 5, hx1.drew.cell 6, hx1.drew.cell 7⟩)))
  clear hK K
  try simp only [Act.put, List.setIfInBounds_toArray, List.set_cons_zero, List.set_cons_succ]
  refine wpAnyH_take (i := 12) (oi := { dst := some 15, op := Op.binOp BinOp.eql 43 (Operand.tmp 13) (Operand.tmp 14) 43, type := 4, pos := _, after := #[{ on := 10, ground := Ground.data }, { on := 11, ground := Ground.data }, { on := 3, ground := Ground.guard }], guard := some (3, true) }) (v := ?_) rfl (by kernel_rfl) (by kernel_rfl) (by kernel_rfl) (fun _ _ _ h => h) (Or.inl ⟨by rfl, ?_⟩) (by assumption) ?_
  rotate_left
  · (intro w hSw; (try dsimp only at hSw); go_simp; try with_reducible rfl)
  simp only [Act.put, List.setIfInBounds_toArray, List.set_cons_zero, List.set_cons_succ]
  refine wpAnyH_take (i := 13) (oi := { dst := some 16, op := Op.pick (Operand.tmp 6) (Operand.tmp 15) (Operand.const (Value.bool false)), type := 4, pos := _, after := #[{ on := 3, ground := Ground.data }, { on := 12, ground := Ground.data }], guard := none }) (v := ?_) rfl (by kernel_rfl) (by kernel_rfl) (by kernel_rfl) (fun _ _ _ h => h) (Or.inl ⟨by rfl, ?_⟩) (by assumption) ?_
  rotate_left
  · (intro w hSw; (try dsimp only at hSw); go_simp; try with_reducible rfl)
  simp only [Act.put, List.setIfInBounds_toArray, List.set_cons_zero, List.set_cons_succ]
  refine wpAnyH_take (i := 14) (oi := { dst := some 2, op := Op.assign (Operand.tmp 16), type := 4, pos := _, after := #[{ on := 13, ground := Ground.data }, { on := 10, ground := Ground.chain }, { on := 0, ground := Ground.phase }, { on := 1, ground := Ground.phase }, { on := 2, ground := Ground.phase }, { on := 3, ground := Ground.phase }, { on := 4, ground := Ground.phase }, { on := 5, ground := Ground.phase }, { on := 6, ground := Ground.phase }, { on := 7, ground := Ground.phase }, { on := 8, ground := Ground.phase }, { on := 9, ground := Ground.phase }, { on := 10, ground := Ground.phase }, { on := 11, ground := Ground.phase }, { on := 12, ground := Ground.phase }, { on := 13, ground := Ground.phase }], guard := none }) (v := ?_) rfl (by kernel_rfl) (by kernel_rfl) (by kernel_rfl) (fun _ _ _ h => h) (Or.inl ⟨by rfl, ?_⟩) (by assumption) ?_
  rotate_left
  · (intro w hSw; (try dsimp only at hSw); go_simp; try with_reducible rfl)
  simp only [Act.put, List.setIfInBounds_toArray, List.set_cons_zero, List.set_cons_succ]
  refine wpAnyH_done (by kernel_rfl) ?_ _
  go_wp2
  go_ret
  exact ⟨rfl, HB4.out⟩
theorem right_any (t : Tra) (W : World) (ht : TR W) (hv : 0 ≤ t.va ∧ t.va < 4294967296) (hO : (0 ≤ t.pa ∧ t.pa < 18446744073709551616) ∧ (0 ≤ t.bits ∧ t.bits < 4294967296)) : Calls Tryz.prog 51 #[.agg #[.int .i64 t.size, .int .u32 t.va, .int .u64 t.pa, .int .i64 t.dom, .int .i64 t.ap, .int .u32 t.bits, .bool t.ng, .bool t.xn]] W fun r w' => r = .returned (.bool (riF t)) ∧ Below W.heap.size W w' := by
  by_cases h : 1 ≤ t.size ∧ t.size ≤ 4
  · have q : (decide (1 ≤ t.size) && decide (t.size ≤ 4)) = true := by simp [h]
    have HI := fun w => isSize_any t.size w
    rw [q] at HI
    have hf : riF t = (trF (enF t) t.dom t.va).same t := by unfold riF; rw [q]; rfl
    rw [hf]
    exact right_yes _ _ _ _ _ _ _ _ W ht (enF t) (trF (enF t) t.dom t.va) _ HI (fun ww hh => entryOf_any t ww hh h) (fun ww hh => trans_any (enF t) t.dom t.va ww hh.toTT hO hv) (eqT _ _)
  · have q : (decide (1 ≤ t.size) && decide (t.size ≤ 4)) = false := by simp; omega
    have HI := fun w => isSize_any t.size w
    rw [q] at HI
    have hf : riF t = false := by unfold riF; rw [q]; rfl
    rw [hf]
    exact right_no _ _ _ _ _ _ _ _ W ht HI
end Go.Proofs.YtnjlajjjcmhfgaaGreatDoor
namespace Go.Proofs.YtnjlajjjcmhfgaaGreatDoor
open Go.RowKit
open Mm (Turn gr RM valV errV Byts)
set_option linter.unusedVariables false
set_option linter.unusedSimpArgs false
/-- The tables that Same reads. -/
structure TS (w : World) : Prop where
  r : TR w
  z : TZ w
theorem TZ.below {w w' : World} (h : TZ w) (hb : Below w.heap.size w w') : TZ w' := ⟨h.base.below hb, h.kind.below hb, h.rep.below hb⟩
theorem TS.below {w w' : World} (h : TS w) (hb : Below w.heap.size w w') : TS w' := ⟨h.r.below hb, h.z.below hb⟩
theorem TS.tw {w : World} (h : TS w) : TW w := ⟨h.r.toTT⟩
/-- How far the descriptors of a block stand apart. -/
def stp (s : Int) : Int := if s = 1 ∨ s = 2 then 4096 else 1048576
def okAt (M : Mo) (c : Ctx) (t : Tra) (i : Nat) : Bool := (wk M c (t.va + i * stp t.size)).1.same t
def allOk (M : Mo) (c : Ctx) (t : Tra) (n : Nat) : Bool := (List.range n).all (okAt M c t)
def smF (M : Mo) (c : Ctx) (t : Tra) : Bool := c.on && (riF t && allOk M c t (reN t.size).toNat)
theorem allOk_step (M : Mo) (c : Ctx) (t : Tra) (n : Nat) : allOk M c t (n + 1) = (allOk M c t n && okAt M c t n) := by
  unfold allOk
  rw [List.range_succ, List.all_append]
  simp
theorem allOk_no {M : Mo} {c : Ctx} {t : Tra} {k n : Nat} (hk : k < n) (h : okAt M c t k = false) : allOk M c t n = false := by
  unfold allOk
  rw [List.all_eq_false]
  exact ⟨k, List.mem_range.2 hk, by rw [h]; simp⟩
/-- What a right translation's numbers are. -/
theorem ri_size {t : Tra} (h : riF t = true) : t.size = 1 ∨ t.size = 2 ∨ t.size = 3 ∨ t.size = 4 := by
  unfold riF at h
  simp at h
  omega
structure Fz (t : Tra) : Prop where
  va : 0 ≤ t.va ∧ t.va < 4294967296
  pa : 0 ≤ t.pa ∧ t.pa < 18446744073709551616
  bt : 0 ≤ t.bits ∧ t.bits < 4294967296
theorem ri_rr {t : Tra} (hf : Fz t) (h : riF t = true) : RR t := (ri_iff t ⟨hf.pa, hf.bt⟩ (by have := ri_size h; omega)).1 h
theorem va_rng {t : Tra} (hf : Fz t) (h : riF t = true) {i : Nat} (hi : i < (reN t.size).toNat) : 0 ≤ t.va + i * stp t.size ∧ t.va + i * stp t.size < 4294967296 ∧ (i : Int) * stp t.size < 4294967296 := by
  have hr := (ri_rr hf h).1
  have hv := hf.va
  unfold stp reN byN at *
  rcases ri_size h with h1 | h1 | h1 | h1 <;> simp [h1] at hr hi ⊢ <;> omega
theorem reN_pos {t : Tra} (h : riF t = true) : 1 ≤ reN t.size ∧ reN t.size ≤ 16 ∧ byN t.size / reN t.size = stp t.size ∧ byN t.size = reN t.size * stp t.size ∧ 0 < stp t.size ∧ byN t.size < 4294967296 ∧ 0 ≤ byN t.size := by
  rcases ri_size h with h1 | h1 | h1 | h1 <;> simp [h1, reN, byN, stp]
set_option maxRecDepth 100000 in
set_option maxHeartbeats 4000000 in
theorem sameP_no (c : Ctx) (t : Tra) (w : World) (iv : Value) (h : c.on = false ∨ riF t = false) (hf : Fz t) (ht : TS w) :
    Calls Tryz.prog 17 #[iv, .agg #[.bool c.on, .bool c.tre, .bool c.afe, .int .i64 c.n, .bool c.pd0, .bool c.pd1, .int .u64 c.b0, .int .u64 c.b1, .int .u32 c.dacr, .int .u32 c.prrr, .int .u32 c.nmrr, .int .i64 c.asid], .agg #[.int .i64 t.size, .int .u32 t.va, .int .u64 t.pa, .int .i64 t.dom, .int .i64 t.ap, .int .u32 t.bits, .bool t.ng, .bool t.xn]] w fun e w' => e = .returned (.bool false) ∧ Below w.heap.size w w' := by
  have HB := hidW (Below.step (below_new w (.cells #[.bool c.on, .bool c.tre, .bool c.afe, .int .i64 c.n, .bool c.pd0, .bool c.pd1, .int .u64 c.b0, .int .u64 c.b1, .int .u32 c.dacr, .int .u32 c.prrr, .int .u32 c.nmrr, .int .i64 c.asid] 47)) (below_new _ (.cells #[.int .i64 t.size, .int .u32 t.va, .int .u64 t.pa, .int .i64 t.dom, .int .i64 t.ap, .int .u32 t.bits, .bool t.ng, .bool t.xn] 43)))
  cases hon : c.on
  · clear h
    rw [hon] at HB
    go_enter Tryz.func17, Tryz.ntmps17
    go_wp2
    go_ret
    exact ⟨rfl, HB.out⟩
  · have hr : riF t = false := by rcases h with h | h; exact absurd h (by rw [hon]; simp); exact h
    have HR := hidW (fun ww hw => right_any t ww hw hf.va ⟨hf.pa, hf.bt⟩)
    rw [hr] at HR
    rw [hon] at HB
    have HT := hidW ht
    clear h ht
    go_enter Tryz.func17, Tryz.ntmps17
    go_wp2_with fail
    go_at_call 51
    refine (HR.out _ (HT.out.below HB.out).r).mono ?_
    rintro e w1 ⟨rfl, hb⟩
    have HE := hidW (Below.step HB.out hb)
    clear hb HB HR HT
    go_wp2
    go_ret
    exact ⟨rfl, HE.out⟩
/-- Both boxes. -/
structure KS (w wr : World) (c : Ctx) (t : Tra) (x y : Nat) : Prop where
  bel : Below w.heap.size w wr
  C : Bl wr x 47 [.bool c.on, .bool c.tre, .bool c.afe, .int .i64 c.n, .bool c.pd0, .bool c.pd1, .int .u64 c.b0, .int .u64 c.b1, .int .u32 c.dacr, .int .u32 c.prrr, .int .u32 c.nmrr, .int .i64 c.asid]
  T : Bl wr y 43 [.int .i64 t.size, .int .u32 t.va, .int .u64 t.pa, .int .i64 t.dom, .int .i64 t.ap, .int .u32 t.bits, .bool t.ng, .bool t.xn]
theorem KS.below {w wr wn : World} {c : Ctx} {t : Tra} {x y : Nat} (h : KS w wr c t x y) (hb : Below wr.heap.size wr wn) : KS w wn c t x y := ⟨Below.step h.bel hb, h.C.below hb, h.T.below hb⟩
theorem KS.new (w : World) (c : Ctx) (t : Tra) : KS w ((w.alloc (.cells #[.bool c.on, .bool c.tre, .bool c.afe, .int .i64 c.n, .bool c.pd0, .bool c.pd1, .int .u64 c.b0, .int .u64 c.b1, .int .u32 c.dacr, .int .u32 c.prrr, .int .u32 c.nmrr, .int .i64 c.asid] 47)).alloc (.cells #[.int .i64 t.size, .int .u32 t.va, .int .u64 t.pa, .int .i64 t.dom, .int .i64 t.ap, .int .u32 t.bits, .bool t.ng, .bool t.xn] 43)) c t w.heap.size (w.heap.size + 1) := by
  have h := Bl.new (w.alloc (.cells #[.bool c.on, .bool c.tre, .bool c.afe, .int .i64 c.n, .bool c.pd0, .bool c.pd1, .int .u64 c.b0, .int .u64 c.b1, .int .u32 c.dacr, .int .u32 c.prrr, .int .u32 c.nmrr, .int .i64 c.asid] 47)) 43 [.int .i64 t.size, .int .u32 t.va, .int .u64 t.pa, .int .i64 t.dom, .int .i64 t.ap, .int .u32 t.bits, .bool t.ng, .bool t.xn]
  rw [show (w.alloc (.cells #[.bool c.on, .bool c.tre, .bool c.afe, .int .i64 c.n, .bool c.pd0, .bool c.pd1, .int .u64 c.b0, .int .u64 c.b1, .int .u32 c.dacr, .int .u32 c.prrr, .int .u32 c.nmrr, .int .i64 c.asid] 47)).heap.size = w.heap.size + 1 by simp] at h
  exact ⟨Below.step (below_new _ _) (below_new _ _), (Bl.new w 47 [.bool c.on, .bool c.tre, .bool c.afe, .int .i64 c.n, .bool c.pd0, .bool c.pd1, .int .u64 c.b0, .int .u64 c.b1, .int .u32 c.dacr, .int .u32 c.prrr, .int .u32 c.nmrr, .int .i64 c.asid]).below (below_new _ _), h⟩
set_option maxRecDepth 100000 in
set_option maxHeartbeats 8000000 in
theorem sameP_yes (c : Ctx) (t : Tra) (w : World) {S : Nat → Prop} {iv : Value} {M : Mo} (hm : MemP w S iv M) (hon : c.on = true) (hri : riF t = true) (hf : Fz t) (ht : TS w) (hc : c.Ok) :
    Calls Tryz.prog 17 #[iv, .agg #[.bool c.on, .bool c.tre, .bool c.afe, .int .i64 c.n, .bool c.pd0, .bool c.pd1, .int .u64 c.b0, .int .u64 c.b1, .int .u32 c.dacr, .int .u32 c.prrr, .int .u32 c.nmrr, .int .i64 c.asid], .agg #[.int .i64 t.size, .int .u32 t.va, .int .u64 t.pa, .int .i64 t.dom, .int .i64 t.ap, .int .u32 t.bits, .bool t.ng, .bool t.xn]] w fun e w' => e = .returned (.bool (allOk M c t (reN t.size).toNat)) ∧ Below w.heap.size w w' := by
  have hp := reN_pos hri
  have hvr := hidW (fun i hi => va_rng hf hri (i := i) hi)
  have HR := hidW (fun ww hw => right_any t ww hw hf.va ⟨hf.pa, hf.bt⟩)
  rw [hri] at HR
  have HX := hidW (KS.new w c t)
  have HN := hidW (fun ww (hw : TZ ww) => repeats_any t.size ww hw)
  have HY := hidW (fun ww (hw : TB ww) => bytes_any t.size ww hw)
  have HT := hidW ht
  have HM := hidW (fun ww (hb : Below w.heap.size w ww) va hv => walk_pure c va ww (hm.below hb) ((ht.below hb).tw) hc hv)
  have HA := hidW (fun n => allOk_step M c t n)
  have HZ := hidW (fun k n (hk : k < n) h => allOk_no (M := M) (c := c) (t := t) hk h)
  rw [hon] at HX HM ⊢
  obtain ⟨n, hn⟩ : ∃ n : Nat, reN t.size = (n : Int) := ⟨(reN t.size).toNat, by omega⟩
  rw [hn] at HN hp hvr ⊢
  have w1 : IntKind.u32.wrap (n : Int) = (n : Int) := by rw [IntKind.wrap_u32]; omega
  have w2 : IntKind.u32.wrap (byN t.size) = byN t.size := by rw [IntKind.wrap_u32]; omega
  have td : (byN t.size).tdiv (n : Int) = stp t.size := by rw [Int.tdiv_eq_ediv_of_nonneg (by omega)]; exact hp.2.2.1
  have hz : ¬ (n : Int) = 0 := by omega
  have h16 : (n : Int) ≤ 16 := by omega
  have hst : 0 < stp t.size := by omega
  have hby0 : 0 ≤ byN t.size := by omega
  have hby1 : byN t.size < 4294967296 := by omega
  have hdv : byN t.size / (n : Int) = stp t.size := hp.2.2.1
  have w0 : IntKind.u32.wrap (stp t.size) = stp t.size := by rw [IntKind.wrap_u32]; have : stp t.size ≤ 1048576 := (by unfold stp; split <;> omega); omega
  have hzb : ((n : Int) == 0) = false := by simp; omega
  rw [Int.toNat_natCast] at hvr ⊢
  clear hp hn
  go_enter Tryz.func17, Tryz.ntmps17
  go_wp2_with fail
  go_at_call 51
  refine (HR.out _ (HT.out.below HX.out.bel).r).mono ?_
  rintro e wa ⟨rfl, hb⟩
  have HX1 := hidW (HX.out.below hb)
  clear hb HX HR
  generalize w.heap.size + 1 = y at *
  have c1 := HX1.out.T.cell
  go_wp2_with fail
  go_at_call 52
  refine (HN.out _ (HT.out.below HX1.out.bel).z).mono ?_
  rintro e wb ⟨rfl, rfl⟩
  go_wp2_with fail
  go_at_call 53
  refine (HY.out _ ⟨(HT.out.below HX1.out.bel).z.base, (HT.out.below HX1.out.bel).z.kind⟩).mono ?_
  rintro e wb ⟨rfl, rfl⟩
  clear c1 HN HY
  go_wp2
  go_loopw [31] (fun i wr => ∃ k : Nat, k ≤ n ∧ i = .int .u32 k ∧ allOk M c t k = true ∧ Hid (KS w wr c t w.heap.size y)) (fun i _ => n - (intOf i).toNat)
  case atStart => exact ⟨0, Nat.zero_le _, rfl, rfl, HX1.out⟩
  case round =>
    obtain ⟨k, hk, rfl, hall, HK⟩ := hrel
    clear HX1
    by_cases hlt : k < n
    · have hkz : (k : Int) < (n : Int) := by omega
      have hv := hvr.out k hlt
      have w3 : IntKind.u32.wrap ((k : Int) * stp t.size) = (k : Int) * stp t.size := by rw [IntKind.wrap_u32]; have := Int.mul_nonneg (Int.natCast_nonneg k) (Int.le_of_lt hst); omega
      have w4 : IntKind.u32.wrap (t.va + (k : Int) * stp t.size) = t.va + (k : Int) * stp t.size := by rw [IntKind.wrap_u32]; omega
      have w5 : IntKind.u32.wrap ((k : Int) + 1) = (k : Int) + 1 := by rw [IntKind.wrap_u32]; omega
      have HC := hidW (HM.out wr HK.out.bel (t.va + (k : Int) * stp t.size) ⟨hv.1, hv.2.1⟩)
      have ho : okAt M c t k = (wk M c (t.va + (k : Int) * stp t.size)).1.same t := rfl
      have hs := HA.out k
      have hno := hidW (HZ.out k n hlt)
      have c1 := HK.out.T.cell
      have c2 := HK.out.C.cell
      rw [hon] at c2
      have eq := eqT (wk M c (t.va + (k : Int) * stp t.size)).1 t
      rw [ho] at hs hno
      generalize (wk M c (t.va + (k : Int) * stp t.size)).1 = U at *
      generalize (wk M c (t.va + (k : Int) * stp t.size)).2 = F at *
      generalize hsb : U.same t = sb at *
      rw [hall] at hs
      clear ho hvr hsb
      go_wp2_with fail
      go_at_call 32
      refine HC.out.mono ?_
      rintro e wb ⟨rfl, hb⟩
      have HK2 := hidW ((HK.out.below hb).below (Below.step (below_new wb (.cells #[.int .i64 U.size, .int .u32 U.va, .int .u64 U.pa, .int .i64 U.dom, .int .i64 U.ap, .int .u32 U.bits, .bool U.ng, .bool U.xn] 43)) (below_new _ (.cells #[.int .i64 F.k, .int .i64 F.l, .int .i64 F.d] 88))))
      have cT := HK2.out.T.cell
      have hyl : y < wb.heap.size := Nat.lt_of_lt_of_le HK.out.T.lt hb.size
      have n1 : ¬ y = wb.heap.size := by omega
      have n2 : ¬ y = wb.heap.size + 1 := by omega
      clear hb c1 c2 HC HK hyl
      cases sb
      · have hf := hidW (hno.out rfl)
        clear hs hno
        go_wp2
        go_ret
        rw [hf.out]
        exact ⟨rfl, HK2.out.bel⟩
      · simp at hs
        clear hno
        go_wp2
        go_roundw
        case rel => exact ⟨k + 1, by omega, by go_num, hs, HK2.out⟩
        case measure => simp [intOf]; omega
    · obtain rfl : k = n := by omega
      have HL := hidW hall
      clear hall
      go_wp2
      go_ret
      rw [HL.out]
      exact ⟨rfl, HK.out.bel⟩
theorem sameP_any (c : Ctx) (t : Tra) (w : World) {S : Nat → Prop} {iv : Value} {M : Mo} (hm : MemP w S iv M) (hf : Fz t) (ht : TS w) (hc : c.Ok) :
    Calls Tryz.prog 17 #[iv, .agg #[.bool c.on, .bool c.tre, .bool c.afe, .int .i64 c.n, .bool c.pd0, .bool c.pd1, .int .u64 c.b0, .int .u64 c.b1, .int .u32 c.dacr, .int .u32 c.prrr, .int .u32 c.nmrr, .int .i64 c.asid], .agg #[.int .i64 t.size, .int .u32 t.va, .int .u64 t.pa, .int .i64 t.dom, .int .i64 t.ap, .int .u32 t.bits, .bool t.ng, .bool t.xn]] w fun e w' => e = .returned (.bool (smF M c t)) ∧ Below w.heap.size w w' := by
  unfold smF
  cases hon : c.on
  · have h := sameP_no c t w iv (.inl hon) hf ht
    rw [hon] at h
    exact h
  · cases hri : riF t
    · have h := sameP_no c t w iv (.inr hri) hf ht
      rw [hon] at h
      exact h
    · have h := sameP_yes c t w hm hon hri hf ht hc
      rw [hon] at h
      exact h
end Go.Proofs.YtnjlajjjcmhfgaaGreatDoor
namespace Go.Proofs.YtnjlajjjcmhfgaaGreatDoor
open Go.RowKit
set_option linter.unusedVariables false
set_option linter.unusedSimpArgs false
theorem Bl.put {w : World} {b : Nat} {t : TypeId} {l : List Value} (h : Bl w b t l) (i : Nat) (v : Value) : Bl (w.setCell ⟨b, i, none⟩ v) b t (l.set i v) := by
  unfold Bl at h ⊢
  simp only [World.setCell, Array.getElem?_modify, h, if_true]
  simp
theorem Bl.set8 {w : World} {b : Nat} {t : TypeId} {u0 u1 u2 u3 u4 u5 u6 u7 : Value} (h : Bl w b t [u0, u1, u2, u3, u4, u5, u6, u7]) (v0 v1 v2 v3 v4 v5 v6 v7 : Value) : Bl ((((((((w.setCell ⟨b, 0, none⟩ v0).setCell ⟨b, 1, none⟩ v1).setCell ⟨b, 2, none⟩ v2).setCell ⟨b, 3, none⟩ v3).setCell ⟨b, 4, none⟩ v4).setCell ⟨b, 5, none⟩ v5).setCell ⟨b, 6, none⟩ v6).setCell ⟨b, 7, none⟩ v7) b t [v0, v1, v2, v3, v4, v5, v6, v7] :=
  (((((((h.put 0 v0).put 1 v1).put 2 v2).put 3 v3).put 4 v4).put 5 v5).put 6 v6).put 7 v7
theorem Bl.set3 {w : World} {b : Nat} {t : TypeId} {u0 u1 u2 : Value} (h : Bl w b t [u0, u1, u2]) (v0 v1 v2 : Value) : Bl (((w.setCell ⟨b, 0, none⟩ v0).setCell ⟨b, 1, none⟩ v1).setCell ⟨b, 2, none⟩ v2) b t [v0, v1, v2] :=
  ((h.put 0 v0).put 1 v1).put 2 v2
theorem heap8 (w : World) (b : Nat) (v0 v1 v2 v3 v4 v5 v6 v7 : Value) : ((((((((w.setCell ⟨b, 0, none⟩ v0).setCell ⟨b, 1, none⟩ v1).setCell ⟨b, 2, none⟩ v2).setCell ⟨b, 3, none⟩ v3).setCell ⟨b, 4, none⟩ v4).setCell ⟨b, 5, none⟩ v5).setCell ⟨b, 6, none⟩ v6).setCell ⟨b, 7, none⟩ v7).heap.size = w.heap.size := by simp
theorem heap3 (w : World) (b : Nat) (v0 v1 v2 : Value) : (((w.setCell ⟨b, 0, none⟩ v0).setCell ⟨b, 1, none⟩ v1).setCell ⟨b, 2, none⟩ v2).heap.size = w.heap.size := by simp
end Go.Proofs.YtnjlajjjcmhfgaaGreatDoor
namespace Go.Proofs.YtnjlajjjcmhfgaaGreatDoor
open Go.RowKit
open Mm (Turn gr RM RM valV errV Byts setV)
set_option linter.unusedVariables false
set_option linter.unusedSimpArgs false
abbrev zT : List Value := [.int .i64 0, .int .u32 0, .int .u64 0, .int .i64 0, .int .i64 0, .int .u32 0, .bool false, .bool false]
abbrev zF : List Value := [.int .i64 0, .int .i64 0, .int .i64 0]
set_option maxRecDepth 100000 in
theorem eqF (a b : Fa) (w : World) : (Op.equalIn 10000 88 (.agg #[.int .i64 a.k, .int .i64 a.l, .int .i64 a.d]) (.agg #[.int .i64 b.k, .int .i64 b.l, .int .i64 b.d])).run Tryz.prog w = .ok (a.same b) w := by
  obtain ⟨a1, a2, a3⟩ := a
  obtain ⟨b1, b2, b3⟩ := b
  go_simp
  simp only [Fa.same]
  repeat' split
  all_goals simp_all
/-- A translation and a fault have been told, and lie in boxes of their own. -/
structure Got (wr wx : World) (s t : Nat) (u : Tra) (f : Fa) : Prop where
  bel : Below wr.heap.size wr wx
  T : Bl wx s 43 [.int .i64 u.size, .int .u32 u.va, .int .u64 u.pa, .int .i64 u.dom, .int .i64 u.ap, .int .u32 u.bits, .bool u.ng, .bool u.xn]
  F : Bl wx t 88 [.int .i64 f.k, .int .i64 f.l, .int .i64 f.d]
  hs : wr.heap.size ≤ s
  ht : wr.heap.size ≤ t
theorem Bl.new1 (w : World) (o : Obj) (t : TypeId) (l : List Value) : Bl ((w.alloc o).alloc (.cells l.toArray t)) (w.heap.size + 1) t l := by
  have h := Bl.new (w.alloc o) t l
  rw [show (w.alloc o).heap.size = w.heap.size + 1 by simp] at h
  exact h
theorem got1 {wr w1 : World} (h : Below wr.heap.size wr w1) (u : Tra) (f : Fa) : Got wr ((w1.alloc (.cells #[.int .i64 u.size, .int .u32 u.va, .int .u64 u.pa, .int .i64 u.dom, .int .i64 u.ap, .int .u32 u.bits, .bool u.ng, .bool u.xn] 43)).alloc (.cells #[.int .i64 f.k, .int .i64 f.l, .int .i64 f.d] 88)) w1.heap.size (w1.heap.size + 1) u f :=
  ⟨(h.alloc h.size _).alloc (by simp; have := h.size; omega) _, (Bl.new w1 _ [.int .i64 u.size, .int .u32 u.va, .int .u64 u.pa, .int .i64 u.dom, .int .i64 u.ap, .int .u32 u.bits, .bool u.ng, .bool u.xn]).below (below_new _ _), Bl.new1 _ _ _ [.int .i64 f.k, .int .i64 f.l, .int .i64 f.d], h.size, by have := h.size; omega⟩
theorem got2 {wr w1 : World} (h : Below wr.heap.size wr w1) (u : Tra) (f : Fa) : Got wr ((w1.alloc (.cells #[.int .i64 f.k, .int .i64 f.l, .int .i64 f.d] 88)).alloc (.cells #[.int .i64 u.size, .int .u32 u.va, .int .u64 u.pa, .int .i64 u.dom, .int .i64 u.ap, .int .u32 u.bits, .bool u.ng, .bool u.xn] 43)) (w1.heap.size + 1) w1.heap.size u f :=
  ⟨(h.alloc h.size _).alloc (by simp; have := h.size; omega) _, Bl.new1 _ _ _ [.int .i64 u.size, .int .u32 u.va, .int .u64 u.pa, .int .i64 u.dom, .int .i64 u.ap, .int .u32 u.bits, .bool u.ng, .bool u.xn], (Bl.new w1 _ [.int .i64 f.k, .int .i64 f.l, .int .i64 f.d]).below (below_new _ _), by have := h.size; omega, h.size⟩
theorem got3 {wr w1 : World} (h : Below wr.heap.size wr w1) (u : Tra) (f : Fa) (b : Nat) (hb : wr.heap.size ≤ b) (hT : Bl w1 b 43 zT) : Got wr ((((((((((w1.setCell ⟨b, 0, none⟩ (.int .i64 u.size)).setCell ⟨b, 1, none⟩ (.int .u32 u.va)).setCell ⟨b, 2, none⟩ (.int .u64 u.pa)).setCell ⟨b, 3, none⟩ (.int .i64 u.dom)).setCell ⟨b, 4, none⟩ (.int .i64 u.ap)).setCell ⟨b, 5, none⟩ (.int .u32 u.bits)).setCell ⟨b, 6, none⟩ (.bool u.ng)).setCell ⟨b, 7, none⟩ (.bool u.xn))).alloc (.cells #[.int .i64 f.k, .int .i64 f.l, .int .i64 f.d] 88)) b w1.heap.size u f := by
  have hN := Bl.new (((((((((w1.setCell ⟨b, 0, none⟩ (.int .i64 u.size)).setCell ⟨b, 1, none⟩ (.int .u32 u.va)).setCell ⟨b, 2, none⟩ (.int .u64 u.pa)).setCell ⟨b, 3, none⟩ (.int .i64 u.dom)).setCell ⟨b, 4, none⟩ (.int .i64 u.ap)).setCell ⟨b, 5, none⟩ (.int .u32 u.bits)).setCell ⟨b, 6, none⟩ (.bool u.ng)).setCell ⟨b, 7, none⟩ (.bool u.xn))) 88 [.int .i64 f.k, .int .i64 f.l, .int .i64 f.d]
  rw [heap8] at hN
  exact ⟨Below.alloc (Below.setCell (Below.setCell (Below.setCell (Below.setCell (Below.setCell (Below.setCell (Below.setCell (Below.setCell h hb _) hb _) hb _) hb _) hb _) hb _) hb _) hb _) (by rw [heap8]; exact h.size) _, (hT.set8 _ _ _ _ _ _ _ _).below (below_new _ _), hN, hb, h.size⟩
theorem got4 {wr w1 : World} (h : Below wr.heap.size wr w1) (u : Tra) (f : Fa) (b : Nat) (hb : wr.heap.size ≤ b) (hF : Bl w1 b 88 zF) : Got wr (((((w1.setCell ⟨b, 0, none⟩ (.int .i64 f.k)).setCell ⟨b, 1, none⟩ (.int .i64 f.l)).setCell ⟨b, 2, none⟩ (.int .i64 f.d))).alloc (.cells #[.int .i64 u.size, .int .u32 u.va, .int .u64 u.pa, .int .i64 u.dom, .int .i64 u.ap, .int .u32 u.bits, .bool u.ng, .bool u.xn] 43)) w1.heap.size b u f := by
  have hN := Bl.new ((((w1.setCell ⟨b, 0, none⟩ (.int .i64 f.k)).setCell ⟨b, 1, none⟩ (.int .i64 f.l)).setCell ⟨b, 2, none⟩ (.int .i64 f.d))) 43 [.int .i64 u.size, .int .u32 u.va, .int .u64 u.pa, .int .i64 u.dom, .int .i64 u.ap, .int .u32 u.bits, .bool u.ng, .bool u.xn]
  rw [heap3] at hN
  exact ⟨Below.alloc (Below.setCell (Below.setCell (Below.setCell h hb _) hb _) hb _) (by rw [heap3]; exact h.size) _, hN, (hF.set3 _ _ _).below (below_new _ _), h.size, hb⟩
theorem got5 {wr w1 : World} (h : Below wr.heap.size wr w1) (u : Tra) (f : Fa) (b d : Nat) (hb : wr.heap.size ≤ b) (hd : wr.heap.size ≤ d) (hn : b ≠ d) (hT : Bl w1 b 43 zT) (hF : Bl w1 d 88 zF) : Got wr ((((((((((((w1.setCell ⟨b, 0, none⟩ (.int .i64 u.size)).setCell ⟨b, 1, none⟩ (.int .u32 u.va)).setCell ⟨b, 2, none⟩ (.int .u64 u.pa)).setCell ⟨b, 3, none⟩ (.int .i64 u.dom)).setCell ⟨b, 4, none⟩ (.int .i64 u.ap)).setCell ⟨b, 5, none⟩ (.int .u32 u.bits)).setCell ⟨b, 6, none⟩ (.bool u.ng)).setCell ⟨b, 7, none⟩ (.bool u.xn)).setCell ⟨d, 0, none⟩ (.int .i64 f.k)).setCell ⟨d, 1, none⟩ (.int .i64 f.l)).setCell ⟨d, 2, none⟩ (.int .i64 f.d))) b d u f :=
  ⟨Below.setCell (Below.setCell (Below.setCell (Below.setCell (Below.setCell (Below.setCell (Below.setCell (Below.setCell (Below.setCell (Below.setCell (Below.setCell h hb _) hb _) hb _) hb _) hb _) hb _) hb _) hb _) hd _) hd _) hd _, (hT.set8 _ _ _ _ _ _ _ _).keep3 hn _ _ _, (hF.keep8 (fun e => hn e.symm) _ _ _ _ _ _ _ _).set3 _ _ _, hb, hd⟩
end Go.Proofs.YtnjlajjjcmhfgaaGreatDoor
