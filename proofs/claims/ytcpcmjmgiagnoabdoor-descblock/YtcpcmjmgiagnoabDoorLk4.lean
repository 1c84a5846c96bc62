import Derived.Test.YtcpcmjmgiagnoabDoorLk0
namespace Go.Proofs.YtcpcmjmgiagnoabDoor
open Go.RowKit
set_option linter.unusedVariables false
set_option linter.unusedSimpArgs false

set_option maxRecDepth 100000 in
set_option maxHeartbeats 16000000 in
theorem block_sy (x dom d va other sz v0 n y z : Int) (e d1 : Ent) (t2 : Tra) (W : World) (ht : TR W)
    (hk0 : (e.kind == 0) = false) (hk1 : (e.kind == 1) = false) (hd : bits .and .i64 dom 15 = d)
    (hn0 : decide (n < 4096) = false) (hva : va % 18446744073709551616 = va) (hv0 : v0 % 18446744073709551616 = v0) (hot : other % 18446744073709551616 = other)
    (hs1 : (va - v0) % 18446744073709551616 = va - v0) (hs2 : decide (n ≤ va - v0) = false) (hs3 : decide (va < v0) = false)
    (hn1 : ¬ (n = 0)) (r : Int) (hot2 : IntKind.u64.wrap other = other) (hv02 : IntKind.u64.wrap v0 = v0) (hr : IntKind.u32.wrap (other.tmod n) = r) (hy : IntKind.u32.wrap (v0 + r) = y) (hz : IntKind.u64.wrap (other - v0) = z) (hB : decide (n ≤ z) = true)
    (HD1 : ∀ ww, TR ww → Calls Tryd.prog 7 #[.int .u32 x] ww fun r w' => r = .returned (.agg #[.int .i64 d1.kind, .int .u64 d1.base, .int .i64 d1.dom, .bool d1.ns, .int .i64 d1.ap, .int .u32 d1.bits, .bool d1.ng, .bool d1.xn]) ∧ Below ww.heap.size ww w')
    (HD2 : ∀ ww, TR ww → Calls Tryd.prog 9 #[.int .u32 x] ww fun r w' => r = .returned (.agg #[.int .i64 e.kind, .int .u64 e.base, .int .i64 e.dom, .bool e.ns, .int .i64 e.ap, .int .u32 e.bits, .bool e.ng, .bool e.xn]) ∧ Below ww.heap.size ww w')
    (HT1 : ∀ ww, TR ww → Calls Tryd.prog 13 #[.agg #[.int .i64 e.kind, .int .u64 e.base, .int .i64 e.dom, .bool e.ns, .int .i64 e.ap, .int .u32 e.bits, .bool e.ng, .bool e.xn], .int .i64 d, .int .u32 va] ww fun r w' => r = .returned (.agg #[.int .i64 sz, .int .u32 v0, .int .u64 e.base, .int .i64 d, .int .i64 e.ap, .int .u32 e.bits, .bool e.ng, .bool e.xn]) ∧ Below ww.heap.size ww w')
    (HT2 : ∀ ww, TR ww → Calls Tryd.prog 13 #[.agg #[.int .i64 e.kind, .int .u64 e.base, .int .i64 e.dom, .bool e.ns, .int .i64 e.ap, .int .u32 e.bits, .bool e.ng, .bool e.xn], .int .i64 d, .int .u32 y] ww fun r w' => r = .returned (.agg #[.int .i64 sz, .int .u32 v0, .int .u64 e.base, .int .i64 d, .int .i64 e.ap, .int .u32 e.bits, .bool e.ng, .bool e.xn]) ∧ Below ww.heap.size ww w')
    (HT3 : ∀ ww, TR ww → Calls Tryd.prog 13 #[.agg #[.int .i64 e.kind, .int .u64 e.base, .int .i64 e.dom, .bool e.ns, .int .i64 e.ap, .int .u32 e.bits, .bool e.ng, .bool e.xn], .int .i64 d, .int .u32 other] ww fun r w' => r = .returned (.agg #[.int .i64 t2.size, .int .u32 t2.va, .int .u64 t2.pa, .int .i64 t2.dom, .int .i64 t2.ap, .int .u32 t2.bits, .bool t2.ng, .bool t2.xn]) ∧ Below ww.heap.size ww w')
    (q1 : ∀ w, (Op.equalIn 10000 36 (.agg #[.int .i64 sz, .int .u32 v0, .int .u64 e.base, .int .i64 d, .int .i64 e.ap, .int .u32 e.bits, .bool e.ng, .bool e.xn]) (.agg #[.int .i64 sz, .int .u32 v0, .int .u64 e.base, .int .i64 d, .int .i64 e.ap, .int .u32 e.bits, .bool e.ng, .bool e.xn])).run Tryd.prog w = .ok true w) (q2 : ∀ w, (Op.equalIn 10000 36 (.agg #[.int .i64 t2.size, .int .u32 t2.va, .int .u64 t2.pa, .int .i64 t2.dom, .int .i64 t2.ap, .int .u32 t2.bits, .bool t2.ng, .bool t2.xn]) (.agg #[.int .i64 sz, .int .u32 v0, .int .u64 e.base, .int .i64 d, .int .i64 e.ap, .int .u32 e.bits, .bool e.ng, .bool e.xn])).run Tryd.prog w = .ok false w)
    (q3 : ∀ w, (Op.equalIn 10000 28 (.agg #[.int .i64 e.kind, .int .u64 e.base, .int .i64 e.dom, .bool e.ns, .int .i64 e.ap, .int .u32 e.bits, .bool e.ng, .bool e.xn]) (.agg #[.int .i64 e.kind, .int .u64 e.base, .int .i64 e.dom, .bool e.ns, .int .i64 e.ap, .int .u32 e.bits, .bool e.ng, .bool e.xn])).run Tryd.prog w = .ok true w) (q4 : ∀ w, (Op.equalIn 10000 26 (.agg #[.int .i64 e.ap, .int .u32 e.bits, .bool e.ng, .bool e.xn]) (.agg #[.int .i64 e.ap, .int .u32 e.bits, .bool e.ng, .bool e.xn])).run Tryd.prog w = .ok true w)
    (HY : ∀ ww, TR ww → Calls Tryd.prog 14 #[.int .i64 sz] ww fun r w' => r = .returned (.int .u64 n) ∧ ww = w')
    (HR : ∀ ww, TR ww → Calls Tryd.prog 15 #[.agg #[.int .i64 sz, .int .u32 v0, .int .u64 e.base, .int .i64 d, .int .i64 e.ap, .int .u32 e.bits, .bool e.ng, .bool e.xn]] ww fun r w' => r = .returned (.bool true) ∧ Below ww.heap.size ww w')
    (HE : ∀ ww, TR ww → Calls Tryd.prog 16 #[.agg #[.int .i64 sz, .int .u32 v0, .int .u64 e.base, .int .i64 d, .int .i64 e.ap, .int .u32 e.bits, .bool e.ng, .bool e.xn]] ww fun r w' => r = .returned (.tuple #[.agg #[.int .i64 e.kind, .int .u64 e.base, .int .i64 e.dom, .bool false, .int .i64 e.ap, .int .u32 e.bits, .bool e.ng, .bool e.xn], .int .i64 0]) ∧ Below ww.heap.size ww w') :
    Calls Tryd.prog 4 #[.int .u32 x, .bool true, .int .i64 dom, .int .u32 va, .int .u32 other] W fun r w' => r = .returned (.bool true) ∧ Below W.heap.size W w' := by
  have HT : Hid (TR W) := ht
  clear ht
  go_enter Tryd.func4, Tryd.ntmps4
  go_wp2_with (first
    | (go_at_call 6; refine (alive_any _ HT.out.toTE).mono ?_; rintro e w1 ⟨rfl, hb⟩; have HB : Hid (Below W.heap.size W w1) := hb; clear hb)
    | (go_at_call 7; refine (HD1 _ (HT.out.below HB.out)).mono ?_; rintro e w2 ⟨rfl, hb⟩; have HB2 : Hid (Below W.heap.size W w2) := Below.step HB.out hb; clear hb)
    | (go_at_call 9; refine (HD2 _ (HT.out.below (Below.alloc HB2.out HB2.out.size _))).mono ?_; rintro e wb ⟨rfl, hb⟩; have hxb := (Bl.new w2 28 [.int .i64 d1.kind, .int .u64 d1.base, .int .i64 d1.dom, .bool d1.ns, .int .i64 d1.ap, .int .u32 d1.bits, .bool d1.ng, .bool d1.xn]).below hb; have HBb : Hid (Below W.heap.size W wb) := Below.step HB2.out (Below.one hb); have hs2 : W.heap.size ≤ w2.heap.size := HB2.out.size; clear hb; have hcb := hxb.cell; have hfb := hxb.frozen)
    | (go_at_call 13; refine (HT1 _ (HT.out.below (by (repeat (refine Below.setCell ?_ HB2.out.size _)); exact HBb.out))).mono ?_; rintro e w3 ⟨rfl, hb⟩; have hx3 := (wr8 hxb (.int .i64 e.kind) (.int .u64 e.base) (.int .i64 e.dom) (.bool e.ns) (.int .i64 e.ap) (.int .u32 e.bits) (.bool e.ng) (.bool e.xn)).below hb; have HB3 : Hid (Below W.heap.size W w3) := Below.step (by (repeat (refine Below.setCell ?_ HB2.out.size _)); exact HBb.out) hb; clear hcb hfb; clear hb; have hc3 := hx3.cell; have hl3 : w2.heap.size < w3.heap.size := hx3.lt; have hn3 : ¬ (w2.heap.size = w3.heap.size) := (by omega))
    | (go_at_call 14; refine (HY _ (HT.out.below (Below.alloc HB3.out HB3.out.size _))).mono ?_; rintro e w' ⟨rfl, rfl⟩)
    | (go_at_call 15; refine (HR _ (HT.out.below (Below.alloc HB3.out HB3.out.size _))).mono ?_; rintro e w4 ⟨rfl, hb⟩; have hx4 := hx3.below (Below.one hb); have hy4 := (Bl.new w3 36 [.int .i64 sz, .int .u32 v0, .int .u64 e.base, .int .i64 d, .int .i64 e.ap, .int .u32 e.bits, .bool e.ng, .bool e.xn]).below hb; have HB4 : Hid (Below W.heap.size W w4) := Below.step HB3.out (Below.one hb); clear hb hc3; have hc4 := hx4.cell; have hd4 := hy4.cell)
    | go_in)
  have hx4d := hx4.drew
  have hy4d := hy4.drew
  refine wp_region_held_drew (S := fun w' => w'.cell? ⟨w2.heap.size, 0, none⟩ = some (.int .i64 e.kind) ∧ w'.cell? ⟨w2.heap.size, 1, none⟩ = some (.int .u64 e.base) ∧ w'.cell? ⟨w2.heap.size, 2, none⟩ = some (.int .i64 e.dom) ∧ w'.cell? ⟨w2.heap.size, 3, none⟩ = some (.bool e.ns) ∧ w'.cell? ⟨w2.heap.size, 4, none⟩ = some (.int .i64 e.ap) ∧ w'.cell? ⟨w2.heap.size, 5, none⟩ = some (.int .u32 e.bits) ∧ w'.cell? ⟨w2.heap.size, 6, none⟩ = some (.bool e.ng) ∧ w'.cell? ⟨w2.heap.size, 7, none⟩ = some (.bool e.xn) ∧ w'.cell? ⟨w3.heap.size, 0, none⟩ = some (.int .i64 sz) ∧ w'.cell? ⟨w3.heap.size, 1, none⟩ = some (.int .u32 v0) ∧ w'.cell? ⟨w3.heap.size, 2, none⟩ = some (.int .u64 e.base) ∧ w'.cell? ⟨w3.heap.size, 3, none⟩ = some (.int .i64 d) ∧ w'.cell? ⟨w3.heap.size, 4, none⟩ = some (.int .i64 e.ap) ∧ w'.cell? ⟨w3.heap.size, 5, none⟩ = some (.int .u32 e.bits) ∧ w'.cell? ⟨w3.heap.size, 6, none⟩ = some (.bool e.ng) ∧ w'.cell? ⟨w3.heap.size, 7, none⟩ = some (.bool e.xn)) (by kernel_rfl) (by (try dsimp only); exact ⟨hx4d.cell 0, hx4d.cell 1, hx4d.cell 2, hx4d.cell 3, hx4d.cell 4, hx4d.cell 5, hx4d.cell 6, hx4d.cell 7, hy4d.cell 0, hy4d.cell 1, hy4d.cell 2, hy4d.cell 3, hy4d.cell 4, hy4d.cell 5, hy4d.cell 6, hy4d.cell 7⟩) (fun hHeld => ?_)
  refine wpAnyH_take (i := 0) (oi := { dst := some 82, op := Op.fieldAddr 36 (Operand.tmp 13) 1, type := 0, pos := _, after := #[], guard := none }) (v := ?_) rfl (by kernel_rfl) (by kernel_rfl) (by kernel_rfl) (fun _ _ _ h => h) (Or.inl ⟨by rfl, ?_⟩) (by assumption) ?_
  rotate_left
  · (intro w hSw; (try dsimp only at hSw); go_simp; try with_reducible rfl)
  simp only [Act.put, List.setIfInBounds_toArray, List.set_cons_zero, List.set_cons_succ]
  refine wpAnyH_take (i := 1) (oi := { dst := some 83, op := Op.load 22 (Operand.tmp 82), type := 22, pos := _, after := #[{ on := 0, ground := Ground.data }], guard := none }) (v := ?_) rfl (by kernel_rfl) (by kernel_rfl) (by kernel_rfl) (fun _ _ _ h => h) (Or.inl ⟨by rfl, ?_⟩) (by assumption) ?_
  rotate_left
  · (intro w hSw; (try dsimp only at hSw); go_simp; try with_reducible rfl)
  simp only [Act.put, List.setIfInBounds_toArray, List.set_cons_zero, List.set_cons_succ]
  refine wpAnyH_take (i := 2) (oi := { dst := some 84, op := Op.move (Operand.tmp 4), type := 22, pos := _, after := #[], guard := none }) (v := ?_) rfl (by kernel_rfl) (by kernel_rfl) (by kernel_rfl) (fun _ _ _ h => h) (Or.inl ⟨by rfl, ?_⟩) (by assumption) ?_
  rotate_left
  · (intro w hSw; (try dsimp only at hSw); go_simp; try with_reducible rfl)
  simp only [Act.put, List.setIfInBounds_toArray, List.set_cons_zero, List.set_cons_succ]
  refine wpAnyH_take (i := 3) (oi := { dst := some 85, op := Op.convert 22 24 (Operand.tmp 84), type := 24, pos := _, after := #[{ on := 2, ground := Ground.data }], guard := none }) (v := ?_) rfl (by kernel_rfl) (by kernel_rfl) (by kernel_rfl) (fun _ _ _ h => h) (Or.inl ⟨by rfl, ?_⟩) (by assumption) ?_
  rotate_left
  · (intro w hSw; (try dsimp only at hSw); go_simp; try with_reducible rfl)
  simp only [Act.put, List.setIfInBounds_toArray, List.set_cons_zero, List.set_cons_succ]
  refine wpAnyH_take (i := 4) (oi := { dst := some 86, op := Op.move (Operand.tmp 14), type := 24, pos := _, after := #[], guard := none }) (v := ?_) rfl (by kernel_rfl) (by kernel_rfl) (by kernel_rfl) (fun _ _ _ h => h) (Or.inl ⟨by rfl, ?_⟩) (by assumption) ?_
  rotate_left
  · (intro w hSw; (try dsimp only at hSw); go_simp; try with_reducible rfl)
  simp only [Act.put, List.setIfInBounds_toArray, List.set_cons_zero, List.set_cons_succ]
  refine wpAnyH_take (i := 5) (oi := { dst := some 87, op := Op.binOp BinOp.rem 24 (Operand.tmp 85) (Operand.tmp 86) 24, type := 24, pos := _, after := #[{ on := 3, ground := Ground.data }, { on := 4, ground := Ground.data }], guard := none }) (v := ?_) rfl (by kernel_rfl) (by kernel_rfl) (by kernel_rfl) (fun _ _ _ h => h) (Or.inl ⟨by rfl, ?_⟩) (by assumption) ?_
  rotate_left
  · (intro w hSw; (try dsimp only at hSw); go_simp; try with_reducible rfl)
  simp only [Act.put, List.setIfInBounds_toArray, List.set_cons_zero, List.set_cons_succ]
  refine wpAnyH_take (i := 6) (oi := { dst := some 88, op := Op.convert 24 22 (Operand.tmp 87), type := 22, pos := _, after := #[{ on := 5, ground := Ground.data }], guard := none }) (v := ?_) rfl (by kernel_rfl) (by kernel_rfl) (by kernel_rfl) (fun _ _ _ h => h) (Or.inl ⟨by rfl, ?_⟩) (by assumption) ?_
  rotate_left
  · (intro w hSw; (try dsimp only at hSw); go_simp; try with_reducible rfl)
  simp only [Act.put, List.setIfInBounds_toArray, List.set_cons_zero, List.set_cons_succ]
  refine wpAnyH_take (i := 7) (oi := { dst := some 89, op := Op.binOp BinOp.add 22 (Operand.tmp 83) (Operand.tmp 88) 22, type := 22, pos := _, after := #[{ on := 1, ground := Ground.data }, { on := 6, ground := Ground.data }], guard := none }) (v := ?_) rfl (by kernel_rfl) (by kernel_rfl) (by kernel_rfl) (fun _ _ _ h => h) (Or.inl ⟨by rfl, ?_⟩) (by assumption) ?_
  rotate_left
  · (intro w hSw; (try dsimp only at hSw); go_simp; try with_reducible rfl)
  simp only [Act.put, List.setIfInBounds_toArray, List.set_cons_zero, List.set_cons_succ]
  refine wpAnyH_take (i := 8) (oi := { dst := some 15, op := Op.assign (Operand.tmp 89), type := 22, pos := _, after := #[{ on := 7, ground := Ground.data }, { on := 0, ground := Ground.phase }, { on := 1, ground := Ground.phase }, { on := 2, ground := Ground.phase }, { on := 3, ground := Ground.phase }, { on := 4, ground := Ground.phase }, { on := 5, ground := Ground.phase }, { on := 6, ground := Ground.phase }, { on := 7, ground := Ground.phase }], guard := none }) (v := ?_) rfl (by kernel_rfl) (by kernel_rfl) (by kernel_rfl) (fun _ _ _ h => h) (Or.inl ⟨by rfl, ?_⟩) (by assumption) ?_
  rotate_left
  · (intro w hSw; (try dsimp only at hSw); go_simp; try with_reducible rfl)
  simp only [Act.put, List.setIfInBounds_toArray, List.set_cons_zero, List.set_cons_succ]
  refine wpAnyH_done (by kernel_rfl) ?_ _
  clear hc4 hd4 hx3
  have HB5 : Hid (Below W.heap.size W w4.drew) := below_drew HB4.out
  generalize w4.drew = w5 at *
  clear hx4 hy4 HB4
  have hx5 := hx4d
  have hy5 := hy4d
  have hx5d := hx5.drew
  have hy5d := hy5.drew
  have hc5 := hx5.cell
  have hd5 := hy5.cell
  go_wp2
  refine wp_region_held_drew (S := fun w' => w'.cell? ⟨w2.heap.size, 0, none⟩ = some (.int .i64 e.kind) ∧ w'.cell? ⟨w2.heap.size, 1, none⟩ = some (.int .u64 e.base) ∧ w'.cell? ⟨w2.heap.size, 2, none⟩ = some (.int .i64 e.dom) ∧ w'.cell? ⟨w2.heap.size, 3, none⟩ = some (.bool e.ns) ∧ w'.cell? ⟨w2.heap.size, 4, none⟩ = some (.int .i64 e.ap) ∧ w'.cell? ⟨w2.heap.size, 5, none⟩ = some (.int .u32 e.bits) ∧ w'.cell? ⟨w2.heap.size, 6, none⟩ = some (.bool e.ng) ∧ w'.cell? ⟨w2.heap.size, 7, none⟩ = some (.bool e.xn) ∧ w'.cell? ⟨w3.heap.size, 0, none⟩ = some (.int .i64 sz) ∧ w'.cell? ⟨w3.heap.size, 1, none⟩ = some (.int .u32 v0) ∧ w'.cell? ⟨w3.heap.size, 2, none⟩ = some (.int .u64 e.base) ∧ w'.cell? ⟨w3.heap.size, 3, none⟩ = some (.int .i64 d) ∧ w'.cell? ⟨w3.heap.size, 4, none⟩ = some (.int .i64 e.ap) ∧ w'.cell? ⟨w3.heap.size, 5, none⟩ = some (.int .u32 e.bits) ∧ w'.cell? ⟨w3.heap.size, 6, none⟩ = some (.bool e.ng) ∧ w'.cell? ⟨w3.heap.size, 7, none⟩ = some (.bool e.xn)) (by kernel_rfl) (by (try dsimp only); exact ⟨hx5d.cell 0, hx5d.cell 1, hx5d.cell 2, hx5d.cell 3, hx5d.cell 4, hx5d.cell 5, hx5d.cell 6, hx5d.cell 7, hy5d.cell 0, hy5d.cell 1, hy5d.cell 2, hy5d.cell 3, hy5d.cell 4, hy5d.cell 5, hy5d.cell 6, hy5d.cell 7⟩) (fun hHeld => ?_)
  refine wpAnyH_take (i := 0) (oi := { dst := some 90, op := Op.load 28 (Operand.tmp 11), type := 28, pos := _, after := #[], guard := none }) (v := ?_) rfl (by kernel_rfl) (by kernel_rfl) (by kernel_rfl) (fun _ _ _ h => h) (Or.inl ⟨by rfl, ?_⟩) (by assumption) ?_
  rotate_left
  · (intro w hSw; (try dsimp only at hSw); go_simp; try with_reducible rfl)
  simp only [Act.put, List.setIfInBounds_toArray, List.set_cons_zero, List.set_cons_succ]
  refine wpAnyH_take (i := 1) (oi := { dst := some 91, op := Op.move (Operand.tmp 12), type := 3, pos := _, after := #[], guard := none }) (v := ?_) rfl (by kernel_rfl) (by kernel_rfl) (by kernel_rfl) (fun _ _ _ h => h) (Or.inl ⟨by rfl, ?_⟩) (by assumption) ?_
  rotate_left
  · (intro w hSw; (try dsimp only at hSw); go_simp; try with_reducible rfl)
  simp only [Act.put, List.setIfInBounds_toArray, List.set_cons_zero, List.set_cons_succ]
  refine wpAnyH_take (i := 2) (oi := { dst := some 92, op := Op.move (Operand.tmp 15), type := 22, pos := _, after := #[], guard := none }) (v := ?_) rfl (by kernel_rfl) (by kernel_rfl) (by kernel_rfl) (fun _ _ _ h => h) (Or.inl ⟨by rfl, ?_⟩) (by assumption) ?_
  rotate_left
  · (intro w hSw; (try dsimp only at hSw); go_simp; try with_reducible rfl)
  simp only [Act.put, List.setIfInBounds_toArray, List.set_cons_zero, List.set_cons_succ]
  refine wpAnyH_take (i := 4) (oi := { dst := some 94, op := Op.load 36 (Operand.tmp 13), type := 36, pos := _, after := #[], guard := none }) (v := ?_) rfl (by kernel_rfl) (by kernel_rfl) (by kernel_rfl) (fun _ _ _ h => h) (Or.inl ⟨by rfl, ?_⟩) (by assumption) ?_
  rotate_left
  · (intro w hSw; (try dsimp only at hSw); go_simp; try with_reducible rfl)
  simp only [Act.put, List.setIfInBounds_toArray, List.set_cons_zero, List.set_cons_succ]
  refine wpAnyH_ready (rs := [3]) (by kernel_rfl) (by simp) ?_
  refine AllReadyH.cons (o := { dst := some 93, op := Op.call { callee := Callee.value (Operand.func 13), args := #[Operand.tmp 90, Operand.tmp 91, Operand.tmp 92], argTypes := #[28, 3, 22] }, type := 36, pos := _, after := #[{ on := 0, ground := Ground.data }, { on := 1, ground := Ground.data }, { on := 2, ground := Ground.data }], guard := none }) rfl (fun K hK => ?_) AllReadyH.nil
  go_simp
  ((first | (go_at_call_of 13 (Value.int IntKind.u32 y); refine (HT2 _ (HT.out.below (below_drew HB5.out))).mono ?_; rintro e w6 ⟨rfl, hb⟩; have hx6 := hx5d.below hb; have hy6 := hy5d.below hb; have HB6 : Hid (Below W.heap.size W w6) := Below.step (below_drew HB5.out) hb; clear hb) | (go_at_call_of 13 (Value.int IntKind.u32 other); refine (HT3 _ (HT.out.below HB6.out)).mono ?_; rintro e w7 ⟨rfl, hb⟩; have hx7 := hx6.below hb; have hy7 := hy6.below hb; have HB7 : Hid (Below W.heap.size W w7) := Below.step HB6.out hb; clear hb)); go_wp2_with fail)
  refine hK.out _ _ ?_ (fun hHeld => ?_)
  · ((try dsimp only); (first | (exact ⟨hx7.cell 0, hx7.cell 1, hx7.cell 2, hx7.cell 3, hx7.cell 4, hx7.cell 5, hx7.cell 6, hx7.cell 7, hy7.cell 0, hy7.cell 1, hy7.cell 2, hy7.cell 3, hy7.cell 4, hy7.cell 5, hy7.cell 6, hy7.cell 7⟩) | (exact ⟨hx6.cell 0, hx6.cell 1, hx6.cell 2, hx6.cell 3, hx6.cell 4, hx6.cell 5, hx6.cell 6, hx6.cell 7, hy6.cell 0, hy6.cell 1, hy6.cell 2, hy6.cell 3, hy6.cell 4, hy6.cell 5, hy6.cell 6, hy6.cell 7⟩)))
  clear hK K
  try simp only [Act.put, List.setIfInBounds_toArray, List.set_cons_zero, List.set_cons_succ]
  refine wpAnyH_take (i := 5) (oi := { dst := some 95, op := Op.binOp BinOp.neq 36 (Operand.tmp 93) (Operand.tmp 94) 36, type := 4, pos := _, after := #[{ on := 3, ground := Ground.data }, { on := 4, ground := Ground.data }], guard := none }) (v := ?_) rfl (by kernel_rfl) (by kernel_rfl) (by kernel_rfl) (fun _ _ _ h => h) (Or.inl ⟨by rfl, ?_⟩) (by assumption) ?_
  rotate_left
  · (intro w hSw; (try dsimp only at hSw); go_simp; try with_reducible rfl)
  simp only [Act.put, List.setIfInBounds_toArray, List.set_cons_zero, List.set_cons_succ]
  refine wpAnyH_take (i := 6) (oi := { dst := some 96, op := Op.move (Operand.tmp 95), type := 4, pos := _, after := #[{ on := 5, ground := Ground.data }, { on := 3, ground := Ground.chain }], guard := none }) (v := ?_) rfl (by kernel_rfl) (by kernel_rfl) (by kernel_rfl) (fun _ _ _ h => h) (Or.inl ⟨by rfl, ?_⟩) (by assumption) ?_
  rotate_left
  · (intro w hSw; (try dsimp only at hSw); go_simp; try with_reducible rfl)
  simp only [Act.put, List.setIfInBounds_toArray, List.set_cons_zero, List.set_cons_succ]
  refine wpAnyH_take (i := 7) (oi := { dst := some 97, op := Op.move (Operand.tmp 4), type := 22, pos := _, after := #[{ on := 6, ground := Ground.guard }], guard := some (6, false) }) (v := ?_) rfl (by kernel_rfl) (by kernel_rfl) (by kernel_rfl) (fun _ _ _ h => h) (Or.inl ⟨by rfl, ?_⟩) (by assumption) ?_
  rotate_left
  · (intro w hSw; (try dsimp only at hSw); go_simp; try with_reducible rfl)
  simp only [Act.put, List.setIfInBounds_toArray, List.set_cons_zero, List.set_cons_succ]
  refine wpAnyH_take (i := 8) (oi := { dst := some 98, op := Op.convert 22 24 (Operand.tmp 97), type := 24, pos := _, after := #[{ on := 7, ground := Ground.data }, { on := 6, ground := Ground.guard }], guard := some (6, false) }) (v := ?_) rfl (by kernel_rfl) (by kernel_rfl) (by kernel_rfl) (fun _ _ _ h => h) (Or.inl ⟨by rfl, ?_⟩) (by assumption) ?_
  rotate_left
  · (intro w hSw; (try dsimp only at hSw); go_simp; try with_reducible rfl)
  simp only [Act.put, List.setIfInBounds_toArray, List.set_cons_zero, List.set_cons_succ]
  refine wpAnyH_take (i := 9) (oi := { dst := some 99, op := Op.fieldAddr 36 (Operand.tmp 13) 1, type := 0, pos := _, after := #[{ on := 6, ground := Ground.guard }], guard := some (6, false) }) (v := ?_) rfl (by kernel_rfl) (by kernel_rfl) (by kernel_rfl) (fun _ _ _ h => h) (Or.inl ⟨by rfl, ?_⟩) (by assumption) ?_
  rotate_left
  · (intro w hSw; (try dsimp only at hSw); go_simp; try with_reducible rfl)
  simp only [Act.put, List.setIfInBounds_toArray, List.set_cons_zero, List.set_cons_succ]
  refine wpAnyH_take (i := 10) (oi := { dst := some 100, op := Op.load 22 (Operand.tmp 99), type := 22, pos := _, after := #[{ on := 9, ground := Ground.data }, { on := 6, ground := Ground.guard }], guard := some (6, false) }) (v := ?_) rfl (by kernel_rfl) (by kernel_rfl) (by kernel_rfl) (fun _ _ _ h => h) (Or.inl ⟨by rfl, ?_⟩) (by assumption) ?_
  rotate_left
  · (intro w hSw; (try dsimp only at hSw); go_simp; try with_reducible rfl)
  simp only [Act.put, List.setIfInBounds_toArray, List.set_cons_zero, List.set_cons_succ]
  refine wpAnyH_take (i := 11) (oi := { dst := some 101, op := Op.convert 22 24 (Operand.tmp 100), type := 24, pos := _, after := #[{ on := 10, ground := Ground.data }, { on := 6, ground := Ground.guard }], guard := some (6, false) }) (v := ?_) rfl (by kernel_rfl) (by kernel_rfl) (by kernel_rfl) (fun _ _ _ h => h) (Or.inl ⟨by rfl, ?_⟩) (by assumption) ?_
  rotate_left
  · (intro w hSw; (try dsimp only at hSw); go_simp; try with_reducible rfl)
  simp only [Act.put, List.setIfInBounds_toArray, List.set_cons_zero, List.set_cons_succ]
  refine wpAnyH_take (i := 12) (oi := { dst := some 102, op := Op.binOp BinOp.sub 24 (Operand.tmp 98) (Operand.tmp 101) 24, type := 24, pos := _, after := #[{ on := 8, ground := Ground.data }, { on := 11, ground := Ground.data }, { on := 6, ground := Ground.guard }], guard := some (6, false) }) (v := ?_) rfl (by kernel_rfl) (by kernel_rfl) (by kernel_rfl) (fun _ _ _ h => h) (Or.inl ⟨by rfl, ?_⟩) (by assumption) ?_
  rotate_left
  · (intro w hSw; (try dsimp only at hSw); go_simp; try with_reducible rfl)
  simp only [Act.put, List.setIfInBounds_toArray, List.set_cons_zero, List.set_cons_succ]
  refine wpAnyH_take (i := 13) (oi := { dst := some 103, op := Op.move (Operand.tmp 14), type := 24, pos := _, after := #[{ on := 6, ground := Ground.guard }], guard := some (6, false) }) (v := ?_) rfl (by kernel_rfl) (by kernel_rfl) (by kernel_rfl) (fun _ _ _ h => h) (Or.inl ⟨by rfl, ?_⟩) (by assumption) ?_
  rotate_left
  · (intro w hSw; (try dsimp only at hSw); go_simp; try with_reducible rfl)
  simp only [Act.put, List.setIfInBounds_toArray, List.set_cons_zero, List.set_cons_succ]
  refine wpAnyH_take (i := 14) (oi := { dst := some 104, op := Op.binOp BinOp.geq 24 (Operand.tmp 102) (Operand.tmp 103) 24, type := 4, pos := _, after := #[{ on := 12, ground := Ground.data }, { on := 13, ground := Ground.data }, { on := 6, ground := Ground.guard }], guard := some (6, false) }) (v := ?_) rfl (by kernel_rfl) (by kernel_rfl) (by kernel_rfl) (fun _ _ _ h => h) (Or.inl ⟨by rfl, ?_⟩) (by assumption) ?_
  rotate_left
  · (intro w hSw; (try dsimp only at hSw); go_simp; try with_reducible rfl)
  simp only [Act.put, List.setIfInBounds_toArray, List.set_cons_zero, List.set_cons_succ]
  refine wpAnyH_take (i := 15) (oi := { dst := some 105, op := Op.move (Operand.tmp 104), type := 4, pos := _, after := #[{ on := 14, ground := Ground.data }, { on := 6, ground := Ground.chain }, { on := 6, ground := Ground.guard }], guard := some (6, false) }) (v := ?_) rfl (by kernel_rfl) (by kernel_rfl) (by kernel_rfl) (fun _ _ _ h => h) (Or.inl ⟨by rfl, ?_⟩) (by assumption) ?_
  rotate_left
  · (intro w hSw; (try dsimp only at hSw); go_simp; try with_reducible rfl)
  simp only [Act.put, List.setIfInBounds_toArray, List.set_cons_zero, List.set_cons_succ]
  refine wpAnyH_take (i := 16) (oi := { dst := some 106, op := Op.load 28 (Operand.tmp 11), type := 28, pos := _, after := #[{ on := 15, ground := Ground.guard }], guard := some (15, true) }) (v := ?_) rfl (by kernel_rfl) (by kernel_rfl) (by kernel_rfl) (fun _ _ _ h => h) (Or.inl ⟨by rfl, ?_⟩) (by assumption) ?_
  rotate_left
  · (intro w hSw; (try dsimp only at hSw); go_simp; try with_reducible rfl)
  simp only [Act.put, List.setIfInBounds_toArray, List.set_cons_zero, List.set_cons_succ]
  refine wpAnyH_take (i := 17) (oi := { dst := some 107, op := Op.move (Operand.tmp 12), type := 3, pos := _, after := #[{ on := 15, ground := Ground.guard }], guard := some (15, true) }) (v := ?_) rfl (by kernel_rfl) (by kernel_rfl) (by kernel_rfl) (fun _ _ _ h => h) (Or.inl ⟨by rfl, ?_⟩) (by assumption) ?_
  rotate_left
  · (intro w hSw; (try dsimp only at hSw); go_simp; try with_reducible rfl)
  simp only [Act.put, List.setIfInBounds_toArray, List.set_cons_zero, List.set_cons_succ]
  refine wpAnyH_take (i := 18) (oi := { dst := some 108, op := Op.move (Operand.tmp 4), type := 22, pos := _, after := #[{ on := 15, ground := Ground.guard }], guard := some (15, true) }) (v := ?_) rfl (by kernel_rfl) (by kernel_rfl) (by kernel_rfl) (fun _ _ _ h => h) (Or.inl ⟨by rfl, ?_⟩) (by assumption) ?_
  rotate_left
  · (intro w hSw; (try dsimp only at hSw); go_simp; try with_reducible rfl)
  simp only [Act.put, List.setIfInBounds_toArray, List.set_cons_zero, List.set_cons_succ]
  refine wpAnyH_take (i := 20) (oi := { dst := some 110, op := Op.load 36 (Operand.tmp 13), type := 36, pos := _, after := #[{ on := 15, ground := Ground.guard }], guard := some (15, true) }) (v := ?_) rfl (by kernel_rfl) (by kernel_rfl) (by kernel_rfl) (fun _ _ _ h => h) (Or.inl ⟨by rfl, ?_⟩) (by assumption) ?_
  rotate_left
  · (intro w hSw; (try dsimp only at hSw); go_simp; try with_reducible rfl)
  simp only [Act.put, List.setIfInBounds_toArray, List.set_cons_zero, List.set_cons_succ]
  refine wpAnyH_ready (rs := [19]) (by kernel_rfl) (by simp) ?_
  refine AllReadyH.cons (o := { dst := some 109, op := Op.call { callee := Callee.value (Operand.func 13), args := #[Operand.tmp 106, Operand.tmp 107, Operand.tmp 108], argTypes := #[28, 3, 22] }, type := 36, pos := _, after := #[{ on := 16, ground := Ground.data }, { on := 17, ground := Ground.data }, { on := 18, ground := Ground.data }, { on := 15, ground := Ground.chain }, { on := 15, ground := Ground.guard }], guard := some (15, true) }) rfl (fun K hK => ?_) AllReadyH.nil
  go_simp
  ((first | (go_at_call_of 13 (Value.int IntKind.u32 y); refine (HT2 _ (HT.out.below (below_drew HB5.out))).mono ?_; rintro e w6 ⟨rfl, hb⟩; have hx6 := hx5d.below hb; have hy6 := hy5d.below hb; have HB6 : Hid (Below W.heap.size W w6) := Below.step (below_drew HB5.out) hb; clear hb) | (go_at_call_of 13 (Value.int IntKind.u32 other); refine (HT3 _ (HT.out.below HB6.out)).mono ?_; rintro e w7 ⟨rfl, hb⟩; have hx7 := hx6.below hb; have hy7 := hy6.below hb; have HB7 : Hid (Below W.heap.size W w7) := Below.step HB6.out hb; clear hb)); go_wp2_with fail)
  refine hK.out _ _ ?_ (fun hHeld => ?_)
  · ((try dsimp only); (first | (exact ⟨hx7.cell 0, hx7.cell 1, hx7.cell 2, hx7.cell 3, hx7.cell 4, hx7.cell 5, hx7.cell 6, hx7.cell 7, hy7.cell 0, hy7.cell 1, hy7.cell 2, hy7.cell 3, hy7.cell 4, hy7.cell 5, hy7.cell 6, hy7.cell 7⟩) | (exact ⟨hx6.cell 0, hx6.cell 1, hx6.cell 2, hx6.cell 3, hx6.cell 4, hx6.cell 5, hx6.cell 6, hx6.cell 7, hy6.cell 0, hy6.cell 1, hy6.cell 2, hy6.cell 3, hy6.cell 4, hy6.cell 5, hy6.cell 6, hy6.cell 7⟩)))
  clear hK K
  try simp only [Act.put, List.setIfInBounds_toArray, List.set_cons_zero, List.set_cons_succ]
  refine wpAnyH_take (i := 21) (oi := { dst := some 111, op := Op.binOp BinOp.eql 36 (Operand.tmp 109) (Operand.tmp 110) 36, type := 4, pos := _, after := #[{ on := 19, ground := Ground.data }, { on := 20, ground := Ground.data }, { on := 15, ground := Ground.guard }], guard := some (15, true) }) (v := ?_) rfl (by kernel_rfl) (by kernel_rfl) (by kernel_rfl) (fun _ _ _ h => h) (Or.inl ⟨by rfl, ?_⟩) (by assumption) ?_
  rotate_left
  · (intro w hSw; (try dsimp only at hSw); go_simp; try with_reducible rfl)
  simp only [Act.put, List.setIfInBounds_toArray, List.set_cons_zero, List.set_cons_succ]
  refine wpAnyH_take (i := 22) (oi := { dst := some 112, op := Op.pick (Operand.tmp 105) (Operand.tmp 111) (Operand.const (Value.bool false)), type := 4, pos := _, after := #[{ on := 15, ground := Ground.data }, { on := 21, ground := Ground.data }, { on := 6, ground := Ground.guard }], guard := some (6, false) }) (v := ?_) rfl (by kernel_rfl) (by kernel_rfl) (by kernel_rfl) (fun _ _ _ h => h) (Or.inl ⟨by rfl, ?_⟩) (by assumption) ?_
  rotate_left
  · (intro w hSw; (try dsimp only at hSw); go_simp; try with_reducible rfl)
  simp only [Act.put, List.setIfInBounds_toArray, List.set_cons_zero, List.set_cons_succ]
  refine wpAnyH_take (i := 23) (oi := { dst := some 113, op := Op.pick (Operand.tmp 96) (Operand.const (Value.bool true)) (Operand.tmp 112), type := 4, pos := _, after := #[{ on := 6, ground := Ground.data }, { on := 22, ground := Ground.data }], guard := none }) (v := ?_) rfl (by kernel_rfl) (by kernel_rfl) (by kernel_rfl) (fun _ _ _ h => h) (Or.inl ⟨by rfl, ?_⟩) (by assumption) ?_
  rotate_left
  · (intro w hSw; (try dsimp only at hSw); go_simp; try with_reducible rfl)
  simp only [Act.put, List.setIfInBounds_toArray, List.set_cons_zero, List.set_cons_succ]
  refine wpAnyH_done (by kernel_rfl) ?_ _
  clear hc5 hd5
  have hx8 := hx7
  have hy8 := hy7
  have HB8 := HB7
  have hc8 := hx8.cell
  have hd8 := hy8.cell
  go_wp2_with (first
    | (go_at_call 16; refine (HE _ (HT.out.below HB8.out)).mono ?_; rintro e w9 ⟨rfl, hb⟩; have hx9 := hx8.below hb; have HB9 : Hid (Below W.heap.size W w9) := Below.step HB8.out hb; clear hb hc8 hd8; have hc9 := hx9.cell; have hl9 : w2.heap.size < w9.heap.size := hx9.lt; have hn9 : ¬ (w2.heap.size = w9.heap.size) := (by omega); have hn9b : ¬ (w9.heap.size = w2.heap.size) := (by omega))
    | go_in)
  go_ret
  exact ⟨rfl, (by (repeat (first | refine Below.setCell ?_ (by simp) _ | refine Below.alloc ?_ HB9.out.size _)); exact HB9.out)⟩
end Go.Proofs.YtcpcmjmgiagnoabDoor
