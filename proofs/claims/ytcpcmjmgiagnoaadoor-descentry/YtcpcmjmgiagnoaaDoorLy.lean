import Derived.Test.YtcpcmjmgiagnoaaDoorRe
import Derived.Test.YtcpcmjmgiagnoaaDoorRi
import Derived.Test.YtcpcmjmgiagnoaaDoorOe
namespace Go.Proofs.YtcpcmjmgiagnoaaDoor
open Go.RowKit
set_option linter.unusedVariables false
set_option linter.unusedSimpArgs false

set_option maxRecDepth 100000 in
set_option maxHeartbeats 8000000 in
theorem law_entry_w (t1 t2 t3 t4 t5 t6 : Int) (t7 t8 : Bool) (f : Ent) (c : Int) (r : Bool) (W : World) (ht : TR W)
    (HE : ∀ ww, TR ww → Calls Tryd.prog 17 #[.agg #[.int .i64 t1, .int .u32 t2, .int .u64 t3, .int .i64 t4, .int .i64 t5, .int .u32 t6, .bool t7, .bool t8]] ww fun r w' => r = .returned (.tuple #[.agg #[.int .i64 f.kind, .int .u64 f.base, .int .i64 f.dom, .bool f.ns, .int .i64 f.ap, .int .u32 f.bits, .bool f.ng, .bool f.xn], .int .i64 c]) ∧ Below ww.heap.size ww w')
    (HQ : ∀ ww, Calls Tryd.prog 18 #[.agg #[.int .i64 t1, .int .u32 t2, .int .u64 t3, .int .i64 t4, .int .i64 t5, .int .u32 t6, .bool t7, .bool t8]] ww fun r w' => r = .returned (.tuple #[.agg #[.int .i64 f.kind, .int .u64 f.base, .int .i64 f.dom, .bool f.ns, .int .i64 f.ap, .int .u32 f.bits, .bool f.ng, .bool f.xn], .int .i64 c]) ∧ Below ww.heap.size ww w')
    (HR : ∀ ww, TR ww → Calls Tryd.prog 19 #[.agg #[.int .i64 t1, .int .u32 t2, .int .u64 t3, .int .i64 t4, .int .i64 t5, .int .u32 t6, .bool t7, .bool t8]] ww fun q w' => q = .returned (.bool r) ∧ Below ww.heap.size ww w')
    (HS : ∀ ww, Calls Tryd.prog 20 #[.agg #[.int .i64 t1, .int .u32 t2, .int .u64 t3, .int .i64 t4, .int .i64 t5, .int .u32 t6, .bool t7, .bool t8]] ww fun q w' => q = .returned (.bool r) ∧ Below ww.heap.size ww w') :
    Calls Tryd.prog 5 #[.agg #[.int .i64 t1, .int .u32 t2, .int .u64 t3, .int .i64 t4, .int .i64 t5, .int .u32 t6, .bool t7, .bool t8]] W fun r w' => r = .returned (.bool true) ∧ Below W.heap.size W w' := by
  have heq := eqE f f
  rw [Ent.same_self] at heq
  have hN := Bl.new W 34 [.int .i64 t1, .int .u32 t2, .int .u64 t3, .int .i64 t4, .int .i64 t5, .int .u32 t6, .bool t7, .bool t8]
  have HT : Hid (TR W) := ht
  clear ht
  go_enter Tryd.func5, Tryd.ntmps5
  go_wp2_with (first
    | (go_at_call 17; refine (HE _ (HT.out.below (by (repeat (refine Below.alloc ?_ (by simp) _)); exact Below.refl _ _))).mono ?_; rintro e w1 ⟨rfl, hb⟩; have hx1 := hN.below hb; have HB1 : Hid (Below W.heap.size W w1) := Below.one hb; clear hb hN; have hc := hx1.cell; have hl1 : W.heap.size < w1.heap.size := hx1.lt; have hn1 : ¬ (W.heap.size = w1.heap.size) := (by omega))
    | (go_at_call 18; refine (HQ _).mono ?_; rintro e w2 ⟨rfl, hb⟩; have hx2 := hx1.below (Below.one hb); have hy2 := (Bl.new w1 30 [.int .i64 f.kind, .int .u64 f.base, .int .i64 f.dom, .bool f.ns, .int .i64 f.ap, .int .u32 f.bits, .bool f.ng, .bool f.xn]).below hb; have HB2 : Hid (Below W.heap.size W w2) := Below.step HB1.out (Below.one hb); clear hb hc)
    | go_in)
  have hx3 := (hx2.below ((Below.refl _ _).alloc (Nat.le_refl _) (.cells ([.int .i64 f.kind, .int .u64 f.base, .int .i64 f.dom, .bool f.ns, .int .i64 f.ap, .int .u32 f.bits, .bool f.ng, .bool f.xn]).toArray 30))).drew
  have hy3 := (hy2.below ((Below.refl _ _).alloc (Nat.le_refl _) (.cells ([.int .i64 f.kind, .int .u64 f.base, .int .i64 f.dom, .bool f.ns, .int .i64 f.ap, .int .u32 f.bits, .bool f.ng, .bool f.xn]).toArray 30))).drew
  have hz3 := (Bl.new w2 30 [.int .i64 f.kind, .int .u64 f.base, .int .i64 f.dom, .bool f.ns, .int .i64 f.ap, .int .u32 f.bits, .bool f.ng, .bool f.xn]).drew
  have HB3 : Hid (Below W.heap.size W (w2.alloc (.cells ([.int .i64 f.kind, .int .u64 f.base, .int .i64 f.dom, .bool f.ns, .int .i64 f.ap, .int .u32 f.bits, .bool f.ng, .bool f.xn]).toArray 30)).drew) := below_drew (Below.alloc HB2.out HB2.out.size _)
  refine wp_region_held_drew (S := fun w' => w'.cell? ⟨W.heap.size, 0, none⟩ = some (.int .i64 t1) ∧ w'.cell? ⟨W.heap.size, 1, none⟩ = some (.int .u32 t2) ∧ w'.cell? ⟨W.heap.size, 2, none⟩ = some (.int .u64 t3) ∧ w'.cell? ⟨W.heap.size, 3, none⟩ = some (.int .i64 t4) ∧ w'.cell? ⟨W.heap.size, 4, none⟩ = some (.int .i64 t5) ∧ w'.cell? ⟨W.heap.size, 5, none⟩ = some (.int .u32 t6) ∧ w'.cell? ⟨W.heap.size, 6, none⟩ = some (.bool t7) ∧ w'.cell? ⟨W.heap.size, 7, none⟩ = some (.bool t8) ∧ w'.cell? ⟨w1.heap.size, 0, none⟩ = some (.int .i64 f.kind) ∧ w'.cell? ⟨w1.heap.size, 1, none⟩ = some (.int .u64 f.base) ∧ w'.cell? ⟨w1.heap.size, 2, none⟩ = some (.int .i64 f.dom) ∧ w'.cell? ⟨w1.heap.size, 3, none⟩ = some (.bool f.ns) ∧ w'.cell? ⟨w1.heap.size, 4, none⟩ = some (.int .i64 f.ap) ∧ w'.cell? ⟨w1.heap.size, 5, none⟩ = some (.int .u32 f.bits) ∧ w'.cell? ⟨w1.heap.size, 6, none⟩ = some (.bool f.ng) ∧ w'.cell? ⟨w1.heap.size, 7, none⟩ = some (.bool f.xn) ∧ w'.cell? ⟨w2.heap.size, 0, none⟩ = some (.int .i64 f.kind) ∧ w'.cell? ⟨w2.heap.size, 1, none⟩ = some (.int .u64 f.base) ∧ w'.cell? ⟨w2.heap.size, 2, none⟩ = some (.int .i64 f.dom) ∧ w'.cell? ⟨w2.heap.size, 3, none⟩ = some (.bool f.ns) ∧ w'.cell? ⟨w2.heap.size, 4, none⟩ = some (.int .i64 f.ap) ∧ w'.cell? ⟨w2.heap.size, 5, none⟩ = some (.int .u32 f.bits) ∧ w'.cell? ⟨w2.heap.size, 6, none⟩ = some (.bool f.ng) ∧ w'.cell? ⟨w2.heap.size, 7, none⟩ = some (.bool f.xn)) (by kernel_rfl) (by (try dsimp only); exact ⟨hx3.cell 0, hx3.cell 1, hx3.cell 2, hx3.cell 3, hx3.cell 4, hx3.cell 5, hx3.cell 6, hx3.cell 7, hy3.cell 0, hy3.cell 1, hy3.cell 2, hy3.cell 3, hy3.cell 4, hy3.cell 5, hy3.cell 6, hy3.cell 7, hz3.cell 0, hz3.cell 1, hz3.cell 2, hz3.cell 3, hz3.cell 4, hz3.cell 5, hz3.cell 6, hz3.cell 7⟩) (fun hHeld => ?_)
  refine wpAnyH_take (i := 0) (oi := { dst := some 17, op := Op.load 30 (Operand.tmp 3), type := 30, pos := _, after := #[], guard := none }) (v := ?_) rfl (by kernel_rfl) (by kernel_rfl) (by kernel_rfl) (fun _ _ _ h => h) (Or.inl ⟨by rfl, ?_⟩) (by assumption) ?_
  rotate_left
  · (intro w hSw; (try dsimp only at hSw); go_simp; try with_reducible rfl)
  simp only [Act.put, List.setIfInBounds_toArray, List.set_cons_zero, List.set_cons_succ]
  refine wpAnyH_take (i := 1) (oi := { dst := some 18, op := Op.load 30 (Operand.tmp 5), type := 30, pos := _, after := #[], guard := none }) (v := ?_) rfl (by kernel_rfl) (by kernel_rfl) (by kernel_rfl) (fun _ _ _ h => h) (Or.inl ⟨by rfl, ?_⟩) (by assumption) ?_
  rotate_left
  · (intro w hSw; (try dsimp only at hSw); go_simp; try with_reducible rfl)
  simp only [Act.put, List.setIfInBounds_toArray, List.set_cons_zero, List.set_cons_succ]
  refine wpAnyH_take (i := 2) (oi := { dst := some 19, op := Op.binOp BinOp.eql 30 (Operand.tmp 17) (Operand.tmp 18) 30, type := 4, pos := _, after := #[{ on := 0, ground := Ground.data }, { on := 1, ground := Ground.data }], guard := none }) (v := ?_) rfl (by kernel_rfl) (by kernel_rfl) (by kernel_rfl) (fun _ _ _ h => h) (Or.inl ⟨by rfl, ?_⟩) (by assumption) ?_
  rotate_left
  · (intro w hSw; (try dsimp only at hSw); go_simp; try with_reducible rfl)
  simp only [Act.put, List.setIfInBounds_toArray, List.set_cons_zero, List.set_cons_succ]
  refine wpAnyH_take (i := 3) (oi := { dst := some 20, op := Op.move (Operand.tmp 19), type := 4, pos := _, after := #[{ on := 2, ground := Ground.data }], guard := none }) (v := ?_) rfl (by kernel_rfl) (by kernel_rfl) (by kernel_rfl) (fun _ _ _ h => h) (Or.inl ⟨by rfl, ?_⟩) (by assumption) ?_
  rotate_left
  · (intro w hSw; (try dsimp only at hSw); go_simp; try with_reducible rfl)
  simp only [Act.put, List.setIfInBounds_toArray, List.set_cons_zero, List.set_cons_succ]
  refine wpAnyH_take (i := 4) (oi := { dst := some 21, op := Op.move (Operand.tmp 4), type := 35, pos := _, after := #[{ on := 3, ground := Ground.guard }], guard := some (3, true) }) (v := ?_) rfl (by kernel_rfl) (by kernel_rfl) (by kernel_rfl) (fun _ _ _ h => h) (Or.inl ⟨by rfl, ?_⟩) (by assumption) ?_
  rotate_left
  · (intro w hSw; (try dsimp only at hSw); go_simp; try with_reducible rfl)
  simp only [Act.put, List.setIfInBounds_toArray, List.set_cons_zero, List.set_cons_succ]
  refine wpAnyH_take (i := 5) (oi := { dst := some 22, op := Op.move (Operand.tmp 6), type := 35, pos := _, after := #[{ on := 3, ground := Ground.guard }], guard := some (3, true) }) (v := ?_) rfl (by kernel_rfl) (by kernel_rfl) (by kernel_rfl) (fun _ _ _ h => h) (Or.inl ⟨by rfl, ?_⟩) (by assumption) ?_
  rotate_left
  · (intro w hSw; (try dsimp only at hSw); go_simp; try with_reducible rfl)
  simp only [Act.put, List.setIfInBounds_toArray, List.set_cons_zero, List.set_cons_succ]
  refine wpAnyH_take (i := 6) (oi := { dst := some 23, op := Op.binOp BinOp.eql 35 (Operand.tmp 21) (Operand.tmp 22) 35, type := 4, pos := _, after := #[{ on := 4, ground := Ground.data }, { on := 5, ground := Ground.data }, { on := 3, ground := Ground.guard }], guard := some (3, true) }) (v := ?_) rfl (by kernel_rfl) (by kernel_rfl) (by kernel_rfl) (fun _ _ _ h => h) (Or.inl ⟨by rfl, ?_⟩) (by assumption) ?_
  rotate_left
  · (intro w hSw; (try dsimp only at hSw); go_simp; try with_reducible rfl)
  simp only [Act.put, List.setIfInBounds_toArray, List.set_cons_zero, List.set_cons_succ]
  refine wpAnyH_take (i := 7) (oi := { dst := some 24, op := Op.pick (Operand.tmp 20) (Operand.tmp 23) (Operand.const (Value.bool false)), type := 4, pos := _, after := #[{ on := 3, ground := Ground.data }, { on := 6, ground := Ground.data }], guard := none }) (v := ?_) rfl (by kernel_rfl) (by kernel_rfl) (by kernel_rfl) (fun _ _ _ h => h) (Or.inl ⟨by rfl, ?_⟩) (by assumption) ?_
  rotate_left
  · (intro w hSw; (try dsimp only at hSw); go_simp; try with_reducible rfl)
  simp only [Act.put, List.setIfInBounds_toArray, List.set_cons_zero, List.set_cons_succ]
  refine wpAnyH_take (i := 8) (oi := { dst := some 25, op := Op.move (Operand.tmp 24), type := 4, pos := _, after := #[{ on := 7, ground := Ground.data }, { on := 3, ground := Ground.chain }], guard := none }) (v := ?_) rfl (by kernel_rfl) (by kernel_rfl) (by kernel_rfl) (fun _ _ _ h => h) (Or.inl ⟨by rfl, ?_⟩) (by assumption) ?_
  rotate_left
  · (intro w hSw; (try dsimp only at hSw); go_simp; try with_reducible rfl)
  simp only [Act.put, List.setIfInBounds_toArray, List.set_cons_zero, List.set_cons_succ]
  refine wpAnyH_take (i := 9) (oi := { dst := some 26, op := Op.load 34 (Operand.tmp 1), type := 34, pos := _, after := #[{ on := 8, ground := Ground.guard }], guard := some (8, true) }) (v := ?_) rfl (by kernel_rfl) (by kernel_rfl) (by kernel_rfl) (fun _ _ _ h => h) (Or.inl ⟨by rfl, ?_⟩) (by assumption) ?_
  rotate_left
  · (intro w hSw; (try dsimp only at hSw); go_simp; try with_reducible rfl)
  simp only [Act.put, List.setIfInBounds_toArray, List.set_cons_zero, List.set_cons_succ]
  refine wpAnyH_take (i := 11) (oi := { dst := some 28, op := Op.load 34 (Operand.tmp 1), type := 34, pos := _, after := #[{ on := 8, ground := Ground.guard }], guard := some (8, true) }) (v := ?_) rfl (by kernel_rfl) (by kernel_rfl) (by kernel_rfl) (fun _ _ _ h => h) (Or.inl ⟨by rfl, ?_⟩) (by assumption) ?_
  rotate_left
  · (intro w hSw; (try dsimp only at hSw); go_simp; try with_reducible rfl)
  simp only [Act.put, List.setIfInBounds_toArray, List.set_cons_zero, List.set_cons_succ]
  refine wpAnyH_ready (rs := [10]) (by kernel_rfl) (by simp) ?_
  refine AllReadyH.cons (o := { dst := some 27, op := Op.call { callee := Callee.value (Operand.func 19), args := #[Operand.tmp 26], argTypes := #[34] }, type := 4, pos := _, after := #[{ on := 9, ground := Ground.data }, { on := 8, ground := Ground.chain }, { on := 8, ground := Ground.guard }], guard := some (8, true) }) rfl (fun K hK => ?_) AllReadyH.nil
  go_simp
  (go_at_call 19; refine (HR _ (HT.out.below HB3.out)).mono ?_; rintro e w4 ⟨rfl, hb⟩; have hx4 := hx3.below hb; have hy4 := hy3.below hb; have hz4 := hz3.below hb; have HB4 : Hid (Below W.heap.size W w4) := Below.step HB3.out hb; clear hb; go_wp2_with fail)
  refine hK.out _ _ ?_ (fun hHeld => ?_)
  · ((try dsimp only); (first | (exact ⟨hx5.cell 0, hx5.cell 1, hx5.cell 2, hx5.cell 3, hx5.cell 4, hx5.cell 5, hx5.cell 6, hx5.cell 7, hy5.cell 0, hy5.cell 1, hy5.cell 2, hy5.cell 3, hy5.cell 4, hy5.cell 5, hy5.cell 6, hy5.cell 7, hz5.cell 0, hz5.cell 1, hz5.cell 2, hz5.cell 3, hz5.cell 4, hz5.cell 5, hz5.cell 6, hz5.cell 7⟩) | (exact ⟨hx4.cell 0, hx4.cell 1, hx4.cell 2, hx4.cell 3, hx4.cell 4, hx4.cell 5, hx4.cell 6, hx4.cell 7, hy4.cell 0, hy4.cell 1, hy4.cell 2, hy4.cell 3, hy4.cell 4, hy4.cell 5, hy4.cell 6, hy4.cell 7, hz4.cell 0, hz4.cell 1, hz4.cell 2, hz4.cell 3, hz4.cell 4, hz4.cell 5, hz4.cell 6, hz4.cell 7⟩)))
  clear hK K
  try simp only [Act.put, List.setIfInBounds_toArray, List.set_cons_zero, List.set_cons_succ]
  refine wpAnyH_ready (rs := [12]) (by kernel_rfl) (by simp) ?_
  refine AllReadyH.cons (o := { dst := some 29, op := Op.call { callee := Callee.value (Operand.func 20), args := #[Operand.tmp 28], argTypes := #[34] }, type := 4, pos := _, after := #[{ on := 11, ground := Ground.data }, { on := 10, ground := Ground.chain }, { on := 8, ground := Ground.guard }], guard := some (8, true) }) rfl (fun K hK => ?_) AllReadyH.nil
  go_simp
  (go_at_call 20; refine (HS _).mono ?_; rintro e w5 ⟨rfl, hb⟩; have hx5 := hx4.below hb; have hy5 := hy4.below hb; have hz5 := hz4.below hb; have HB5 : Hid (Below W.heap.size W w5) := Below.step HB4.out hb; clear hb; go_wp2_with fail)
  refine hK.out _ _ ?_ (fun hHeld => ?_)
  · ((try dsimp only); (first | (exact ⟨hx5.cell 0, hx5.cell 1, hx5.cell 2, hx5.cell 3, hx5.cell 4, hx5.cell 5, hx5.cell 6, hx5.cell 7, hy5.cell 0, hy5.cell 1, hy5.cell 2, hy5.cell 3, hy5.cell 4, hy5.cell 5, hy5.cell 6, hy5.cell 7, hz5.cell 0, hz5.cell 1, hz5.cell 2, hz5.cell 3, hz5.cell 4, hz5.cell 5, hz5.cell 6, hz5.cell 7⟩) | (exact ⟨hx4.cell 0, hx4.cell 1, hx4.cell 2, hx4.cell 3, hx4.cell 4, hx4.cell 5, hx4.cell 6, hx4.cell 7, hy4.cell 0, hy4.cell 1, hy4.cell 2, hy4.cell 3, hy4.cell 4, hy4.cell 5, hy4.cell 6, hy4.cell 7, hz4.cell 0, hz4.cell 1, hz4.cell 2, hz4.cell 3, hz4.cell 4, hz4.cell 5, hz4.cell 6, hz4.cell 7⟩)))
  clear hK K
  try simp only [Act.put, List.setIfInBounds_toArray, List.set_cons_zero, List.set_cons_succ]
  refine wpAnyH_take (i := 13) (oi := { dst := some 30, op := Op.binOp BinOp.eql 4 (Operand.tmp 27) (Operand.tmp 29) 4, type := 4, pos := _, after := #[{ on := 10, ground := Ground.data }, { on := 12, ground := Ground.data }, { on := 8, ground := Ground.guard }], guard := some (8, true) }) (v := ?_) rfl (by kernel_rfl) (by kernel_rfl) (by kernel_rfl) (fun _ _ _ h => h) (Or.inl ⟨by rfl, ?_⟩) (by assumption) ?_
  rotate_left
  · (intro w hSw; (try dsimp only at hSw); go_simp; try with_reducible rfl)
  simp only [Act.put, List.setIfInBounds_toArray, List.set_cons_zero, List.set_cons_succ]
  refine wpAnyH_take (i := 14) (oi := { dst := some 31, op := Op.pick (Operand.tmp 25) (Operand.tmp 30) (Operand.const (Value.bool false)), type := 4, pos := _, after := #[{ on := 8, ground := Ground.data }, { on := 13, ground := Ground.data }], guard := none }) (v := ?_) rfl (by kernel_rfl) (by kernel_rfl) (by kernel_rfl) (fun _ _ _ h => h) (Or.inl ⟨by rfl, ?_⟩) (by assumption) ?_
  rotate_left
  · (intro w hSw; (try dsimp only at hSw); go_simp; try with_reducible rfl)
  simp only [Act.put, List.setIfInBounds_toArray, List.set_cons_zero, List.set_cons_succ]
  refine wpAnyH_take (i := 15) (oi := { dst := some 2, op := Op.assign (Operand.tmp 31), type := 4, pos := _, after := #[{ on := 14, ground := Ground.data }, { on := 12, ground := Ground.chain }, { on := 0, ground := Ground.phase }, { on := 1, ground := Ground.phase }, { on := 2, ground := Ground.phase }, { on := 3, ground := Ground.phase }, { on := 4, ground := Ground.phase }, { on := 5, ground := Ground.phase }, { on := 6, ground := Ground.phase }, { on := 7, ground := Ground.phase }, { on := 8, ground := Ground.phase }, { on := 9, ground := Ground.phase }, { on := 10, ground := Ground.phase }, { on := 11, ground := Ground.phase }, { on := 12, ground := Ground.phase }, { on := 13, ground := Ground.phase }, { on := 14, ground := Ground.phase }], guard := none }) (v := ?_) rfl (by kernel_rfl) (by kernel_rfl) (by kernel_rfl) (fun _ _ _ h => h) (Or.inl ⟨by rfl, ?_⟩) (by assumption) ?_
  rotate_left
  · (intro w hSw; (try dsimp only at hSw); go_simp; try with_reducible rfl)
  simp only [Act.put, List.setIfInBounds_toArray, List.set_cons_zero, List.set_cons_succ]
  refine wpAnyH_done (by kernel_rfl) ?_ _
  go_wp2
  go_ret
  exact ⟨by simp, HB5.out⟩
theorem law_entry (t : Tra) (W : World) (ht : TR W) (hw : TraWf t) : Calls Tryd.prog 5 #[.agg #[.int .i64 t.size, .int .u32 t.va, .int .u64 t.pa, .int .i64 t.dom, .int .i64 t.ap, .int .u32 t.bits, .bool t.ng, .bool t.xn]] W fun r w' => r = .returned (.bool true) ∧ Below W.heap.size W w' := by
  have hv : 0 ≤ t.va ∧ t.va < 4294967296 := by have := bounds_u32 hw.v; omega
  have hO : Ok (enF t) := by
    have h1 := bounds_u64 hw.p
    have h2 := bounds_u32 hw.t
    exact ⟨⟨h1.1, by show t.pa < _; omega⟩, ⟨h2.1, by show t.bits < _; omega⟩⟩
  have HE := fun ww (hh : TR ww) => entry_any t ww hh hv hO
  have HQ := fun ww => rentry_any t ww hv hO
  have HR := fun ww (hh : TR ww) => right_any t ww hh hv hO
  have HS := fun ww => rright_any t ww hv hO
  cases h : riF t with
  | false =>
    rw [h] at HE HQ HR HS
    exact law_entry_w _ _ _ _ _ _ _ _ dZ 50 false W ht HE HQ HR HS
  | true =>
    rw [h] at HE HQ HR HS
    exact law_entry_w _ _ _ _ _ _ _ _ (enF t) 0 true W ht HE HQ HR HS
end Go.Proofs.YtcpcmjmgiagnoaaDoor
