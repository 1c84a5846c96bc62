import Derived.Test.YtnjlajjjcmhfgaaGreatDoorQA05
namespace Go.Proofs.YtnjlajjjcmhfgaaGreatDoor
open Go.RowKit
set_option linter.unusedVariables false
set_option linter.unusedSimpArgs false

theorem cell_drew (w : World) (a : Addr) : w.drew.cell? a = w.cell? a := rfl
theorem Bl.setCell {w : World} {b : Nat} {t : TypeId} {l : List Value} (h : Bl w b t l) (c o : Nat) (hp : c ≠ b) (v : Value) : Bl (w.setCell ⟨c, o, none⟩ v) b t l := (Below.heap_setCell w ⟨c, o, none⟩ v b (Ne.symm hp)).trans h
theorem far1 {w : World} {a : Addr} {u : Value} (h : w.cell? a = some u) (c o : Nat) (hc : c ≠ a.block) (v : Value) : (w.setCell ⟨c, o, none⟩ v).cell? a = some u := (World.cell?_setCell_far w ⟨c, o, none⟩ a v hc).trans h
theorem keep8 {w : World} {b : Nat} {t : TypeId} {l : List Value} (h : Bl w b t l) (c : Nat) (hc : c ≠ b) (v0 v1 v2 v3 v4 v5 v6 v7 : Value) : Bl ((((((((w.setCell ⟨c, 0, none⟩ v0).setCell ⟨c, 1, none⟩ v1).setCell ⟨c, 2, none⟩ v2).setCell ⟨c, 3, none⟩ v3).setCell ⟨c, 4, none⟩ v4).setCell ⟨c, 5, none⟩ v5).setCell ⟨c, 6, none⟩ v6).setCell ⟨c, 7, none⟩ v7).drew b t l := by
  have h := Bl.setCell h c 0 hc v0
  have h := Bl.setCell h c 1 hc v1
  have h := Bl.setCell h c 2 hc v2
  have h := Bl.setCell h c 3 hc v3
  have h := Bl.setCell h c 4 hc v4
  have h := Bl.setCell h c 5 hc v5
  have h := Bl.setCell h c 6 hc v6
  have h := Bl.setCell h c 7 hc v7
  exact Bl.drew h
theorem far8 {w : World} {a : Addr} {u : Value} (h : w.cell? a = some u) (c : Nat) (hc : c ≠ a.block) (v0 v1 v2 v3 v4 v5 v6 v7 : Value) : ((((((((w.setCell ⟨c, 0, none⟩ v0).setCell ⟨c, 1, none⟩ v1).setCell ⟨c, 2, none⟩ v2).setCell ⟨c, 3, none⟩ v3).setCell ⟨c, 4, none⟩ v4).setCell ⟨c, 5, none⟩ v5).setCell ⟨c, 6, none⟩ v6).setCell ⟨c, 7, none⟩ v7).drew.cell? a = some u := by
  have h := far1 h c 0 hc v0
  have h := far1 h c 1 hc v1
  have h := far1 h c 2 hc v2
  have h := far1 h c 3 hc v3
  have h := far1 h c 4 hc v4
  have h := far1 h c 5 hc v5
  have h := far1 h c 6 hc v6
  have h := far1 h c 7 hc v7
  rw [cell_drew]
  exact h
set_option maxRecDepth 100000 in
set_option maxHeartbeats 4000000 in
theorem trans_no (k1 k2 k3 : Int) (k4 : Bool) (k5 k6 : Int) (k7 k8 : Bool) (dm va : Int) (W : World) (ht : TT W) 
    (HS : ∀ ww, TE ww → Calls Tryz.prog 102 #[.agg #[.int .i64 k1, .int .u64 k2, .int .i64 k3, .bool k4, .int .i64 k5, .int .u32 k6, .bool k7, .bool k8]] ww fun r w' => r = .returned (.bool false) ∧ Below ww.heap.size ww w') :
    Calls Tryz.prog 63 #[.agg #[.int .i64 k1, .int .u64 k2, .int .i64 k3, .bool k4, .int .i64 k5, .int .u32 k6, .bool k7, .bool k8], .int .i64 dm, .int .u32 va] W fun r w' => r = .returned (.agg #[.int .i64 0, .int .u32 0, .int .u64 0, .int .i64 0, .int .i64 0, .int .u32 0, .bool false, .bool false]) ∧ Below W.heap.size W w' := by
  have hN := (Bl.new W 140 [.int .i64 k1, .int .u64 k2, .int .i64 k3, .bool k4, .int .i64 k5, .int .u32 k6, .bool k7, .bool k8])
  have hsz : (W.alloc (.cells ([.int .i64 k1, .int .u64 k2, .int .i64 k3, .bool k4, .int .i64 k5, .int .u32 k6, .bool k7, .bool k8]).toArray 140)).heap.size = W.heap.size + 1 := by simp
  have hM := Bl.new (W.alloc (.cells ([.int .i64 k1, .int .u64 k2, .int .i64 k3, .bool k4, .int .i64 k5, .int .u32 k6, .bool k7, .bool k8]).toArray 140)) 43 [.int .i64 0, .int .u32 0, .int .u64 0, .int .i64 0, .int .i64 0, .int .u32 0, .bool false, .bool false]
  have hN := hN.below ((Below.refl _ _).alloc (Nat.le_refl _) (.cells ([.int .i64 0, .int .u32 0, .int .u64 0, .int .i64 0, .int .i64 0, .int .u32 0, .bool false, .bool false]).toArray 43))
  rw [hsz] at hM
  have HT : Hid (TE W) := ht.toTE
  clear ht
  go_enter Tryz.func63, Tryz.ntmps63
  go_wp2_with (first | (go_at_call 102; refine (HS _ (HT.out.below (by (repeat (refine Below.alloc ?_ (by simp) _)); exact Below.refl _ _))).mono ?_; rintro e w1 ⟨rfl, hb⟩; have hx1 := hN.below hb; have hy1 := hM.below hb; have HB : Hid (Below W.heap.size W w1) := Below.step (by (repeat (refine Below.alloc ?_ (by simp) _)); exact Below.refl _ _) hb; clear hb hN hM; have hc := hx1.cell; have hd := hy1.cell; have hf := hy1.frozen) | go_in)
  refine bodyPost_ret (v := .agg #[.int .i64 0, .int .u32 0, .int .u64 0, .int .i64 0, .int .i64 0, .int .u32 0, .bool false, .bool false]) (by simp [results, Tryz.results63, go_sem, hd]) rfl ⟨rfl, (by (repeat (refine Below.setCell ?_ (by simp) _)); exact HB.out)⟩
set_option maxRecDepth 100000 in
set_option maxHeartbeats 4000000 in
theorem trans_2lo (k2 k3 : Int) (k4 : Bool) (k5 k6 : Int) (k7 k8 : Bool) (dm va : Int) (W : World) (ht : TT W) (hd1 : decide (k3 < 0) = true)
    (HS : ∀ ww, TE ww → Calls Tryz.prog 102 #[.agg #[.int .i64 2, .int .u64 k2, .int .i64 k3, .bool k4, .int .i64 k5, .int .u32 k6, .bool k7, .bool k8]] ww fun r w' => r = .returned (.bool true) ∧ Below ww.heap.size ww w') :
    Calls Tryz.prog 63 #[.agg #[.int .i64 2, .int .u64 k2, .int .i64 k3, .bool k4, .int .i64 k5, .int .u32 k6, .bool k7, .bool k8], .int .i64 dm, .int .u32 va] W fun r w' => r = .returned (.agg #[.int .i64 0, .int .u32 0, .int .u64 0, .int .i64 0, .int .i64 0, .int .u32 0, .bool false, .bool false]) ∧ Below W.heap.size W w' := by
  have hN := (Bl.new W 140 [.int .i64 2, .int .u64 k2, .int .i64 k3, .bool k4, .int .i64 k5, .int .u32 k6, .bool k7, .bool k8])
  have hsz : (W.alloc (.cells ([.int .i64 2, .int .u64 k2, .int .i64 k3, .bool k4, .int .i64 k5, .int .u32 k6, .bool k7, .bool k8]).toArray 140)).heap.size = W.heap.size + 1 := by simp
  have hM := Bl.new (W.alloc (.cells ([.int .i64 2, .int .u64 k2, .int .i64 k3, .bool k4, .int .i64 k5, .int .u32 k6, .bool k7, .bool k8]).toArray 140)) 43 [.int .i64 0, .int .u32 0, .int .u64 0, .int .i64 0, .int .i64 0, .int .u32 0, .bool false, .bool false]
  have hN := hN.below ((Below.refl _ _).alloc (Nat.le_refl _) (.cells ([.int .i64 0, .int .u32 0, .int .u64 0, .int .i64 0, .int .i64 0, .int .u32 0, .bool false, .bool false]).toArray 43))
  rw [hsz] at hM
  have HT : Hid (TE W) := ht.toTE
  clear ht
  go_enter Tryz.func63, Tryz.ntmps63
  go_wp2_with (first | (go_at_call 102; refine (HS _ (HT.out.below (by (repeat (refine Below.alloc ?_ (by simp) _)); exact Below.refl _ _))).mono ?_; rintro e w1 ⟨rfl, hb⟩; have hx1 := hN.below hb; have hy1 := hM.below hb; have HB : Hid (Below W.heap.size W w1) := Below.step (by (repeat (refine Below.alloc ?_ (by simp) _)); exact Below.refl _ _) hb; clear hb hN hM; have hc := hx1.cell; have hd := hy1.cell; have hf := hy1.frozen) | go_in)
  refine bodyPost_ret (v := .agg #[.int .i64 0, .int .u32 0, .int .u64 0, .int .i64 0, .int .i64 0, .int .u32 0, .bool false, .bool false]) (by simp [results, Tryz.results63, go_sem, hd]) rfl ⟨rfl, (by (repeat (refine Below.setCell ?_ (by simp) _)); exact HB.out)⟩
set_option maxRecDepth 100000 in
set_option maxHeartbeats 4000000 in
theorem trans_2hi (k2 k3 : Int) (k4 : Bool) (k5 k6 : Int) (k7 k8 : Bool) (dm va : Int) (W : World) (ht : TT W) (hd1 : decide (k3 < 0) = false) (hd2 : decide (15 < k3) = true)
    (HS : ∀ ww, TE ww → Calls Tryz.prog 102 #[.agg #[.int .i64 2, .int .u64 k2, .int .i64 k3, .bool k4, .int .i64 k5, .int .u32 k6, .bool k7, .bool k8]] ww fun r w' => r = .returned (.bool true) ∧ Below ww.heap.size ww w') :
    Calls Tryz.prog 63 #[.agg #[.int .i64 2, .int .u64 k2, .int .i64 k3, .bool k4, .int .i64 k5, .int .u32 k6, .bool k7, .bool k8], .int .i64 dm, .int .u32 va] W fun r w' => r = .returned (.agg #[.int .i64 0, .int .u32 0, .int .u64 0, .int .i64 0, .int .i64 0, .int .u32 0, .bool false, .bool false]) ∧ Below W.heap.size W w' := by
  have hN := (Bl.new W 140 [.int .i64 2, .int .u64 k2, .int .i64 k3, .bool k4, .int .i64 k5, .int .u32 k6, .bool k7, .bool k8])
  have hsz : (W.alloc (.cells ([.int .i64 2, .int .u64 k2, .int .i64 k3, .bool k4, .int .i64 k5, .int .u32 k6, .bool k7, .bool k8]).toArray 140)).heap.size = W.heap.size + 1 := by simp
  have hM := Bl.new (W.alloc (.cells ([.int .i64 2, .int .u64 k2, .int .i64 k3, .bool k4, .int .i64 k5, .int .u32 k6, .bool k7, .bool k8]).toArray 140)) 43 [.int .i64 0, .int .u32 0, .int .u64 0, .int .i64 0, .int .i64 0, .int .u32 0, .bool false, .bool false]
  have hN := hN.below ((Below.refl _ _).alloc (Nat.le_refl _) (.cells ([.int .i64 0, .int .u32 0, .int .u64 0, .int .i64 0, .int .i64 0, .int .u32 0, .bool false, .bool false]).toArray 43))
  rw [hsz] at hM
  have HT : Hid (TE W) := ht.toTE
  clear ht
  go_enter Tryz.func63, Tryz.ntmps63
  go_wp2_with (first | (go_at_call 102; refine (HS _ (HT.out.below (by (repeat (refine Below.alloc ?_ (by simp) _)); exact Below.refl _ _))).mono ?_; rintro e w1 ⟨rfl, hb⟩; have hx1 := hN.below hb; have hy1 := hM.below hb; have HB : Hid (Below W.heap.size W w1) := Below.step (by (repeat (refine Below.alloc ?_ (by simp) _)); exact Below.refl _ _) hb; clear hb hN hM; have hc := hx1.cell; have hd := hy1.cell; have hf := hy1.frozen) | go_in)
  refine bodyPost_ret (v := .agg #[.int .i64 0, .int .u32 0, .int .u64 0, .int .i64 0, .int .i64 0, .int .u32 0, .bool false, .bool false]) (by simp [results, Tryz.results63, go_sem, hd]) rfl ⟨rfl, (by (repeat (refine Below.setCell ?_ (by simp) _)); exact HB.out)⟩
set_option maxRecDepth 100000 in
set_option maxHeartbeats 4000000 in
theorem trans_2 (k2 k3 : Int) (k4 : Bool) (k5 k6 : Int) (k7 k8 : Bool) (dm va : Int) (W : World) (ht : TT W) (hva : 0 ≤ va ∧ va < 4294967296) (hd1 : decide (k3 < 0) = false) (hd2 : decide (15 < k3) = false)
    (HS : ∀ ww, TE ww → Calls Tryz.prog 102 #[.agg #[.int .i64 2, .int .u64 k2, .int .i64 k3, .bool k4, .int .i64 k5, .int .u32 k6, .bool k7, .bool k8]] ww fun r w' => r = .returned (.bool true) ∧ Below ww.heap.size ww w') :
    Calls Tryz.prog 63 #[.agg #[.int .i64 2, .int .u64 k2, .int .i64 k3, .bool k4, .int .i64 k5, .int .u32 k6, .bool k7, .bool k8], .int .i64 dm, .int .u32 va] W fun r w' => r = .returned (.agg #[.int .i64 3, .int .u32 (va / 1048576 * 1048576), .int .u64 k2, .int .i64 k3, .int .i64 k5, .int .u32 k6, .bool k7, .bool k8]) ∧ Below W.heap.size W w' := by
  have hN := (Bl.new W 140 [.int .i64 2, .int .u64 k2, .int .i64 k3, .bool k4, .int .i64 k5, .int .u32 k6, .bool k7, .bool k8])
  have hsz : (W.alloc (.cells ([.int .i64 2, .int .u64 k2, .int .i64 k3, .bool k4, .int .i64 k5, .int .u32 k6, .bool k7, .bool k8]).toArray 140)).heap.size = W.heap.size + 1 := by simp
  have hM := Bl.new (W.alloc (.cells ([.int .i64 2, .int .u64 k2, .int .i64 k3, .bool k4, .int .i64 k5, .int .u32 k6, .bool k7, .bool k8]).toArray 140)) 43 [.int .i64 0, .int .u32 0, .int .u64 0, .int .i64 0, .int .i64 0, .int .u32 0, .bool false, .bool false]
  have hN := hN.below ((Below.refl _ _).alloc (Nat.le_refl _) (.cells ([.int .i64 0, .int .u32 0, .int .u64 0, .int .i64 0, .int .i64 0, .int .u32 0, .bool false, .bool false]).toArray 43))
  rw [hsz] at hM
  have HT : Hid (TE W) := ht.toTE
  have hw : va / 1048576 * 1048576 % 4294967296 = va / 1048576 * 1048576 := by omega
  clear hva
  have g1 := ht.size 2 3 rfl
  have g2 := ht.base 2 20 rfl
  have l1 : 3 < W.heap.size := cell_lt g1
  have l2 : 1 < W.heap.size := cell_lt g2
  have HG : Hid (∀ w1, Below W.heap.size W w1 → w1.cell? ⟨3, 2, none⟩ = some (.int .u8 3) ∧ w1.cell? ⟨1, 2, none⟩ = some (.int .u8 20)) := fun w1 h => ⟨(h.cell (cell_lt g1)).trans g1, (h.cell (cell_lt g2)).trans g2⟩
  have n1 : W.heap.size + 1 ≠ 3 := by omega
  have n2 : W.heap.size + 1 ≠ 1 := by omega
  have m0 : W.heap.size + 1 ≠ W.heap.size := by omega
  clear ht g1 g2 l1 l2
  go_enter Tryz.func63, Tryz.ntmps63
  go_wp2_with (first | (go_at_call 102; refine (HS _ (HT.out.below (by (repeat (refine Below.alloc ?_ (by simp) _)); exact Below.refl _ _))).mono ?_; rintro e w1 ⟨rfl, hb⟩; have hx1 := hN.below hb; have hy1 := hM.below hb; have HB : Hid (Below W.heap.size W w1) := Below.step (by (repeat (refine Below.alloc ?_ (by simp) _)); exact Below.refl _ _) hb; clear hb hN hM; have hc := hx1.cell; have hd := hy1.cell; have hf := hy1.frozen) | go_in)
  have g3 := (HG.out _ HB.out).1
  have g4 := (HG.out _ HB.out).2
  refine wp_region_held_drew (S := fun w' => w'.cell? ⟨W.heap.size, 0, none⟩ = some (.int .i64 2) ∧ w'.cell? ⟨W.heap.size, 1, none⟩ = some (.int .u64 k2) ∧ w'.cell? ⟨W.heap.size, 4, none⟩ = some (.int .i64 k5) ∧ w'.cell? ⟨W.heap.size, 5, none⟩ = some (.int .u32 k6) ∧ w'.cell? ⟨W.heap.size, 6, none⟩ = some (.bool k7) ∧ w'.cell? ⟨W.heap.size, 7, none⟩ = some (.bool k8) ∧ w'.cell? ⟨3, 2, none⟩ = some (.int .u8 3) ∧ w'.cell? ⟨1, 2, none⟩ = some (.int .u8 20)) (by kernel_rfl) ⟨hx1.drew.cell 0, hx1.drew.cell 1, hx1.drew.cell 4, hx1.drew.cell 5, hx1.drew.cell 6, hx1.drew.cell 7, g3, g4⟩ (fun hHeld => ?_)
  refine wpAnyH_take (i := 0) (oi := { dst := some 28, op := Op.fieldAddr 140 (Operand.tmp 3) 0, type := 0, pos := _, after := #[], guard := none }) (v := ?_) rfl (by kernel_rfl) (by kernel_rfl) (by kernel_rfl) (fun _ _ _ h => h) (Or.inl ⟨by rfl, ?_⟩) (by assumption) ?_
  rotate_left
  · (intro w hSw; (try dsimp only at hSw); go_simp; try with_reducible rfl)
  simp only [Act.put, List.setIfInBounds_toArray, List.set_cons_zero, List.set_cons_succ]
  refine wpAnyH_take (i := 1) (oi := { dst := some 29, op := Op.load 3 (Operand.tmp 28), type := 3, pos := _, after := #[{ on := 0, ground := Ground.data }], guard := none }) (v := ?_) rfl (by kernel_rfl) (by kernel_rfl) (by kernel_rfl) (fun _ _ _ h => h) (Or.inl ⟨by rfl, ?_⟩) (by assumption) ?_
  rotate_left
  · (intro w hSw; (try dsimp only at hSw); go_simp; try with_reducible rfl)
  simp only [Act.put, List.setIfInBounds_toArray, List.set_cons_zero, List.set_cons_succ]
  refine wpAnyH_take (i := 2) (oi := { dst := some 30, op := Op.indexAddr 170 (Operand.global 3) (Operand.tmp 29), type := 0, pos := _, after := #[{ on := 1, ground := Ground.data }], guard := none }) (v := ?_) rfl (by kernel_rfl) (by kernel_rfl) (by kernel_rfl) (fun _ _ _ h => h) (Or.inl ⟨by rfl, ?_⟩) (by assumption) ?_
  rotate_left
  · (intro w hSw; (try dsimp only at hSw); go_simp; try with_reducible rfl)
  simp only [Act.put, List.setIfInBounds_toArray, List.set_cons_zero, List.set_cons_succ]
  refine wpAnyH_take (i := 3) (oi := { dst := some 31, op := Op.load 5 (Operand.tmp 30), type := 5, pos := _, after := #[{ on := 2, ground := Ground.data }], guard := none }) (v := ?_) rfl (by kernel_rfl) (by kernel_rfl) (by kernel_rfl) (fun _ _ _ h => h) (Or.inl ⟨by rfl, ?_⟩) (by assumption) ?_
  rotate_left
  · (intro w hSw; (try dsimp only at hSw); go_simp; try with_reducible rfl)
  simp only [Act.put, List.setIfInBounds_toArray, List.set_cons_zero, List.set_cons_succ]
  refine wpAnyH_take (i := 4) (oi := { dst := some 32, op := Op.convert 5 3 (Operand.tmp 31), type := 3, pos := _, after := #[{ on := 3, ground := Ground.data }], guard := none }) (v := ?_) rfl (by kernel_rfl) (by kernel_rfl) (by kernel_rfl) (fun _ _ _ h => h) (Or.inl ⟨by rfl, ?_⟩) (by assumption) ?_
  rotate_left
  · (intro w hSw; (try dsimp only at hSw); go_simp; try with_reducible rfl)
  simp only [Act.put, List.setIfInBounds_toArray, List.set_cons_zero, List.set_cons_succ]
  refine wpAnyH_take (i := 5) (oi := { dst := some 33, op := Op.move (Operand.tmp 2), type := 32, pos := _, after := #[], guard := none }) (v := ?_) rfl (by kernel_rfl) (by kernel_rfl) (by kernel_rfl) (fun _ _ _ h => h) (Or.inl ⟨by rfl, ?_⟩) (by assumption) ?_
  rotate_left
  · (intro w hSw; (try dsimp only at hSw); go_simp; try with_reducible rfl)
  simp only [Act.put, List.setIfInBounds_toArray, List.set_cons_zero, List.set_cons_succ]
  refine wpAnyH_take (i := 6) (oi := { dst := some 34, op := Op.fieldAddr 140 (Operand.tmp 3) 0, type := 0, pos := _, after := #[], guard := none }) (v := ?_) rfl (by kernel_rfl) (by kernel_rfl) (by kernel_rfl) (fun _ _ _ h => h) (Or.inl ⟨by rfl, ?_⟩) (by assumption) ?_
  rotate_left
  · (intro w hSw; (try dsimp only at hSw); go_simp; try with_reducible rfl)
  simp only [Act.put, List.setIfInBounds_toArray, List.set_cons_zero, List.set_cons_succ]
  refine wpAnyH_take (i := 7) (oi := { dst := some 35, op := Op.load 3 (Operand.tmp 34), type := 3, pos := _, after := #[{ on := 6, ground := Ground.data }], guard := none }) (v := ?_) rfl (by kernel_rfl) (by kernel_rfl) (by kernel_rfl) (fun _ _ _ h => h) (Or.inl ⟨by rfl, ?_⟩) (by assumption) ?_
  rotate_left
  · (intro w hSw; (try dsimp only at hSw); go_simp; try with_reducible rfl)
  simp only [Act.put, List.setIfInBounds_toArray, List.set_cons_zero, List.set_cons_succ]
  refine wpAnyH_take (i := 8) (oi := { dst := some 36, op := Op.indexAddr 170 (Operand.global 1) (Operand.tmp 35), type := 0, pos := _, after := #[{ on := 7, ground := Ground.data }], guard := none }) (v := ?_) rfl (by kernel_rfl) (by kernel_rfl) (by kernel_rfl) (fun _ _ _ h => h) (Or.inl ⟨by rfl, ?_⟩) (by assumption) ?_
  rotate_left
  · (intro w hSw; (try dsimp only at hSw); go_simp; try with_reducible rfl)
  simp only [Act.put, List.setIfInBounds_toArray, List.set_cons_zero, List.set_cons_succ]
  refine wpAnyH_take (i := 9) (oi := { dst := some 37, op := Op.load 5 (Operand.tmp 36), type := 5, pos := _, after := #[{ on := 8, ground := Ground.data }], guard := none }) (v := ?_) rfl (by kernel_rfl) (by kernel_rfl) (by kernel_rfl) (fun _ _ _ h => h) (Or.inl ⟨by rfl, ?_⟩) (by assumption) ?_
  rotate_left
  · (intro w hSw; (try dsimp only at hSw); go_simp; try with_reducible rfl)
  simp only [Act.put, List.setIfInBounds_toArray, List.set_cons_zero, List.set_cons_succ]
  refine wpAnyH_take (i := 10) (oi := { dst := some 38, op := Op.binOp BinOp.shr 32 (Operand.tmp 33) (Operand.tmp 37) 5, type := 32, pos := _, after := #[{ on := 5, ground := Ground.data }, { on := 9, ground := Ground.data }], guard := none }) (v := ?_) rfl (by kernel_rfl) (by kernel_rfl) (by kernel_rfl) (fun _ _ _ h => h) (Or.inl ⟨by rfl, ?_⟩) (by assumption) ?_
  rotate_left
  · (intro w hSw; (try dsimp only at hSw); go_simp; try with_reducible rfl)
  simp only [Act.put, List.setIfInBounds_toArray, List.set_cons_zero, List.set_cons_succ]
  refine wpAnyH_take (i := 11) (oi := { dst := some 39, op := Op.fieldAddr 140 (Operand.tmp 3) 0, type := 0, pos := _, after := #[], guard := none }) (v := ?_) rfl (by kernel_rfl) (by kernel_rfl) (by kernel_rfl) (fun _ _ _ h => h) (Or.inl ⟨by rfl, ?_⟩) (by assumption) ?_
  rotate_left
  · (intro w hSw; (try dsimp only at hSw); go_simp; try with_reducible rfl)
  simp only [Act.put, List.setIfInBounds_toArray, List.set_cons_zero, List.set_cons_succ]
  refine wpAnyH_take (i := 12) (oi := { dst := some 40, op := Op.load 3 (Operand.tmp 39), type := 3, pos := _, after := #[{ on := 11, ground := Ground.data }], guard := none }) (v := ?_) rfl (by kernel_rfl) (by kernel_rfl) (by kernel_rfl) (fun _ _ _ h => h) (Or.inl ⟨by rfl, ?_⟩) (by assumption) ?_
  rotate_left
  · (intro w hSw; (try dsimp only at hSw); go_simp; try with_reducible rfl)
  simp only [Act.put, List.setIfInBounds_toArray, List.set_cons_zero, List.set_cons_succ]
  refine wpAnyH_take (i := 13) (oi := { dst := some 41, op := Op.indexAddr 170 (Operand.global 1) (Operand.tmp 40), type := 0, pos := _, after := #[{ on := 12, ground := Ground.data }], guard := none }) (v := ?_) rfl (by kernel_rfl) (by kernel_rfl) (by kernel_rfl) (fun _ _ _ h => h) (Or.inl ⟨by rfl, ?_⟩) (by assumption) ?_
  rotate_left
  · (intro w hSw; (try dsimp only at hSw); go_simp; try with_reducible rfl)
  simp only [Act.put, List.setIfInBounds_toArray, List.set_cons_zero, List.set_cons_succ]
  refine wpAnyH_take (i := 14) (oi := { dst := some 42, op := Op.load 5 (Operand.tmp 41), type := 5, pos := _, after := #[{ on := 13, ground := Ground.data }], guard := none }) (v := ?_) rfl (by kernel_rfl) (by kernel_rfl) (by kernel_rfl) (fun _ _ _ h => h) (Or.inl ⟨by rfl, ?_⟩) (by assumption) ?_
  rotate_left
  · (intro w hSw; (try dsimp only at hSw); go_simp; try with_reducible rfl)
  simp only [Act.put, List.setIfInBounds_toArray, List.set_cons_zero, List.set_cons_succ]
  refine wpAnyH_take (i := 15) (oi := { dst := some 43, op := Op.binOp BinOp.shl 32 (Operand.tmp 38) (Operand.tmp 42) 5, type := 32, pos := _, after := #[{ on := 10, ground := Ground.data }, { on := 14, ground := Ground.data }], guard := none }) (v := ?_) rfl (by kernel_rfl) (by kernel_rfl) (by kernel_rfl) (fun _ _ _ h => h) (Or.inl ⟨by rfl, ?_⟩) (by assumption) ?_
  rotate_left
  · (intro w hSw; (try dsimp only at hSw); go_simp; try with_reducible rfl)
  simp only [Act.put, List.setIfInBounds_toArray, List.set_cons_zero, List.set_cons_succ]
  refine wpAnyH_take (i := 16) (oi := { dst := some 44, op := Op.fieldAddr 140 (Operand.tmp 3) 1, type := 0, pos := _, after := #[], guard := none }) (v := ?_) rfl (by kernel_rfl) (by kernel_rfl) (by kernel_rfl) (fun _ _ _ h => h) (Or.inl ⟨by rfl, ?_⟩) (by assumption) ?_
  rotate_left
  · (intro w hSw; (try dsimp only at hSw); go_simp; try with_reducible rfl)
  simp only [Act.put, List.setIfInBounds_toArray, List.set_cons_zero, List.set_cons_succ]
  refine wpAnyH_take (i := 17) (oi := { dst := some 45, op := Op.load 35 (Operand.tmp 44), type := 35, pos := _, after := #[{ on := 16, ground := Ground.data }], guard := none }) (v := ?_) rfl (by kernel_rfl) (by kernel_rfl) (by kernel_rfl) (fun _ _ _ h => h) (Or.inl ⟨by rfl, ?_⟩) (by assumption) ?_
  rotate_left
  · (intro w hSw; (try dsimp only at hSw); go_simp; try with_reducible rfl)
  simp only [Act.put, List.setIfInBounds_toArray, List.set_cons_zero, List.set_cons_succ]
  refine wpAnyH_take (i := 18) (oi := { dst := some 46, op := Op.move (Operand.tmp 1), type := 3, pos := _, after := #[], guard := none }) (v := ?_) rfl (by kernel_rfl) (by kernel_rfl) (by kernel_rfl) (fun _ _ _ h => h) (Or.inl ⟨by rfl, ?_⟩) (by assumption) ?_
  rotate_left
  · (intro w hSw; (try dsimp only at hSw); go_simp; try with_reducible rfl)
  simp only [Act.put, List.setIfInBounds_toArray, List.set_cons_zero, List.set_cons_succ]
  refine wpAnyH_take (i := 19) (oi := { dst := some 47, op := Op.fieldAddr 140 (Operand.tmp 3) 4, type := 0, pos := _, after := #[], guard := none }) (v := ?_) rfl (by kernel_rfl) (by kernel_rfl) (by kernel_rfl) (fun _ _ _ h => h) (Or.inl ⟨by rfl, ?_⟩) (by assumption) ?_
  rotate_left
  · (intro w hSw; (try dsimp only at hSw); go_simp; try with_reducible rfl)
  simp only [Act.put, List.setIfInBounds_toArray, List.set_cons_zero, List.set_cons_succ]
  refine wpAnyH_take (i := 20) (oi := { dst := some 48, op := Op.load 41 (Operand.tmp 47), type := 41, pos := _, after := #[{ on := 19, ground := Ground.data }], guard := none }) (v := ?_) rfl (by kernel_rfl) (by kernel_rfl) (by kernel_rfl) (fun _ _ _ h => h) (Or.inl ⟨by rfl, ?_⟩) (by assumption) ?_
  rotate_left
  · (intro w hSw; (try dsimp only at hSw); go_simp; try with_reducible rfl)
  simp only [Act.put, List.setIfInBounds_toArray, List.set_cons_zero, List.set_cons_succ]
  refine wpAnyH_take (i := 21) (oi := { dst := some 49, op := Op.build 43 #[(0, Operand.tmp 32), (1, Operand.tmp 43), (2, Operand.tmp 45), (3, Operand.tmp 46), (4, Operand.tmp 48)], type := 43, pos := _, after := #[{ on := 4, ground := Ground.data }, { on := 15, ground := Ground.data }, { on := 17, ground := Ground.data }, { on := 18, ground := Ground.data }, { on := 20, ground := Ground.data }], guard := none }) (v := ?_) rfl (by kernel_rfl) (by kernel_rfl) (by kernel_rfl) (fun _ _ _ h => h) (Or.inl ⟨by rfl, ?_⟩) (by assumption) ?_
  rotate_left
  · (intro w hSw; (try dsimp only at hSw); go_simp; try with_reducible rfl)
  simp only [Act.put, List.setIfInBounds_toArray, List.set_cons_zero, List.set_cons_succ]
  refine wpAnyH_ready (rs := [22]) (by kernel_rfl) (by simp) ?_
  refine AllReadyH.cons (o := { dst := none, op := Op.store 43 (Operand.tmp 6) (Operand.tmp 49), type := 0, pos := _, after := #[{ on := 21, ground := Ground.data }, { on := 0, ground := Ground.phase }, { on := 1, ground := Ground.phase }, { on := 2, ground := Ground.phase }, { on := 3, ground := Ground.phase }, { on := 4, ground := Ground.phase }, { on := 5, ground := Ground.phase }, { on := 6, ground := Ground.phase }, { on := 7, ground := Ground.phase }, { on := 8, ground := Ground.phase }, { on := 9, ground := Ground.phase }, { on := 10, ground := Ground.phase }, { on := 11, ground := Ground.phase }, { on := 12, ground := Ground.phase }, { on := 13, ground := Ground.phase }, { on := 14, ground := Ground.phase }, { on := 15, ground := Ground.phase }, { on := 16, ground := Ground.phase }, { on := 17, ground := Ground.phase }, { on := 18, ground := Ground.phase }, { on := 19, ground := Ground.phase }, { on := 20, ground := Ground.phase }, { on := 21, ground := Ground.phase }], guard := none }) rfl (fun K hK => ?_) AllReadyH.nil
  go_simp
  skip
  refine hK.out _ _ ?_ (fun hHeld => ?_)
  · (((try dsimp only); exact ⟨(keep8 hx1 _ m0 _ _ _ _ _ _ _ _).cell 0, (keep8 hx1 _ m0 _ _ _ _ _ _ _ _).cell 1, (keep8 hx1 _ m0 _ _ _ _ _ _ _ _).cell 4, (keep8 hx1 _ m0 _ _ _ _ _ _ _ _).cell 5, (keep8 hx1 _ m0 _ _ _ _ _ _ _ _).cell 6, (keep8 hx1 _ m0 _ _ _ _ _ _ _ _).cell 7, far8 g3 _ n1 _ _ _ _ _ _ _ _, far8 g4 _ n2 _ _ _ _ _ _ _ _⟩))
  clear hK K
  try simp only [Act.put, List.setIfInBounds_toArray, List.set_cons_zero, List.set_cons_succ]
  refine wpAnyH_done (by kernel_rfl) ?_ _
  go_wp2
  refine bodyPost_ret (v := .agg #[.int .i64 3, .int .u32 (va / 1048576 * 1048576), .int .u64 k2, .int .i64 k3, .int .i64 k5, .int .u32 k6, .bool k7, .bool k8]) (by simp [results, Tryz.results63, go_sem, hd, hw, IntKind.wrap_u32, IntKind.wrap_i64]) rfl ⟨rfl, (by refine below_drew ?_; (repeat (refine Below.setCell ?_ (by simp) _)); exact HB.out)⟩
set_option maxRecDepth 100000 in
set_option maxHeartbeats 4000000 in
theorem trans_3lo (k2 k3 : Int) (k4 : Bool) (k5 k6 : Int) (k7 k8 : Bool) (dm va : Int) (W : World) (ht : TT W) (hd1 : decide (k3 < 0) = true)
    (HS : ∀ ww, TE ww → Calls Tryz.prog 102 #[.agg #[.int .i64 3, .int .u64 k2, .int .i64 k3, .bool k4, .int .i64 k5, .int .u32 k6, .bool k7, .bool k8]] ww fun r w' => r = .returned (.bool true) ∧ Below ww.heap.size ww w') :
    Calls Tryz.prog 63 #[.agg #[.int .i64 3, .int .u64 k2, .int .i64 k3, .bool k4, .int .i64 k5, .int .u32 k6, .bool k7, .bool k8], .int .i64 dm, .int .u32 va] W fun r w' => r = .returned (.agg #[.int .i64 0, .int .u32 0, .int .u64 0, .int .i64 0, .int .i64 0, .int .u32 0, .bool false, .bool false]) ∧ Below W.heap.size W w' := by
  have hN := (Bl.new W 140 [.int .i64 3, .int .u64 k2, .int .i64 k3, .bool k4, .int .i64 k5, .int .u32 k6, .bool k7, .bool k8])
  have hsz : (W.alloc (.cells ([.int .i64 3, .int .u64 k2, .int .i64 k3, .bool k4, .int .i64 k5, .int .u32 k6, .bool k7, .bool k8]).toArray 140)).heap.size = W.heap.size + 1 := by simp
  have hM := Bl.new (W.alloc (.cells ([.int .i64 3, .int .u64 k2, .int .i64 k3, .bool k4, .int .i64 k5, .int .u32 k6, .bool k7, .bool k8]).toArray 140)) 43 [.int .i64 0, .int .u32 0, .int .u64 0, .int .i64 0, .int .i64 0, .int .u32 0, .bool false, .bool false]
  have hN := hN.below ((Below.refl _ _).alloc (Nat.le_refl _) (.cells ([.int .i64 0, .int .u32 0, .int .u64 0, .int .i64 0, .int .i64 0, .int .u32 0, .bool false, .bool false]).toArray 43))
  rw [hsz] at hM
  have HT : Hid (TE W) := ht.toTE
  clear ht
  go_enter Tryz.func63, Tryz.ntmps63
  go_wp2_with (first | (go_at_call 102; refine (HS _ (HT.out.below (by (repeat (refine Below.alloc ?_ (by simp) _)); exact Below.refl _ _))).mono ?_; rintro e w1 ⟨rfl, hb⟩; have hx1 := hN.below hb; have hy1 := hM.below hb; have HB : Hid (Below W.heap.size W w1) := Below.step (by (repeat (refine Below.alloc ?_ (by simp) _)); exact Below.refl _ _) hb; clear hb hN hM; have hc := hx1.cell; have hd := hy1.cell; have hf := hy1.frozen) | go_in)
  refine bodyPost_ret (v := .agg #[.int .i64 0, .int .u32 0, .int .u64 0, .int .i64 0, .int .i64 0, .int .u32 0, .bool false, .bool false]) (by simp [results, Tryz.results63, go_sem, hd]) rfl ⟨rfl, (by (repeat (refine Below.setCell ?_ (by simp) _)); exact HB.out)⟩
set_option maxRecDepth 100000 in
set_option maxHeartbeats 4000000 in
theorem trans_3hi (k2 k3 : Int) (k4 : Bool) (k5 k6 : Int) (k7 k8 : Bool) (dm va : Int) (W : World) (ht : TT W) (hd1 : decide (k3 < 0) = false) (hd2 : decide (15 < k3) = true)
    (HS : ∀ ww, TE ww → Calls Tryz.prog 102 #[.agg #[.int .i64 3, .int .u64 k2, .int .i64 k3, .bool k4, .int .i64 k5, .int .u32 k6, .bool k7, .bool k8]] ww fun r w' => r = .returned (.bool true) ∧ Below ww.heap.size ww w') :
    Calls Tryz.prog 63 #[.agg #[.int .i64 3, .int .u64 k2, .int .i64 k3, .bool k4, .int .i64 k5, .int .u32 k6, .bool k7, .bool k8], .int .i64 dm, .int .u32 va] W fun r w' => r = .returned (.agg #[.int .i64 0, .int .u32 0, .int .u64 0, .int .i64 0, .int .i64 0, .int .u32 0, .bool false, .bool false]) ∧ Below W.heap.size W w' := by
  have hN := (Bl.new W 140 [.int .i64 3, .int .u64 k2, .int .i64 k3, .bool k4, .int .i64 k5, .int .u32 k6, .bool k7, .bool k8])
  have hsz : (W.alloc (.cells ([.int .i64 3, .int .u64 k2, .int .i64 k3, .bool k4, .int .i64 k5, .int .u32 k6, .bool k7, .bool k8]).toArray 140)).heap.size = W.heap.size + 1 := by simp
  have hM := Bl.new (W.alloc (.cells ([.int .i64 3, .int .u64 k2, .int .i64 k3, .bool k4, .int .i64 k5, .int .u32 k6, .bool k7, .bool k8]).toArray 140)) 43 [.int .i64 0, .int .u32 0, .int .u64 0, .int .i64 0, .int .i64 0, .int .u32 0, .bool false, .bool false]
  have hN := hN.below ((Below.refl _ _).alloc (Nat.le_refl _) (.cells ([.int .i64 0, .int .u32 0, .int .u64 0, .int .i64 0, .int .i64 0, .int .u32 0, .bool false, .bool false]).toArray 43))
  rw [hsz] at hM
  have HT : Hid (TE W) := ht.toTE
  clear ht
  go_enter Tryz.func63, Tryz.ntmps63
  go_wp2_with (first | (go_at_call 102; refine (HS _ (HT.out.below (by (repeat (refine Below.alloc ?_ (by simp) _)); exact Below.refl _ _))).mono ?_; rintro e w1 ⟨rfl, hb⟩; have hx1 := hN.below hb; have hy1 := hM.below hb; have HB : Hid (Below W.heap.size W w1) := Below.step (by (repeat (refine Below.alloc ?_ (by simp) _)); exact Below.refl _ _) hb; clear hb hN hM; have hc := hx1.cell; have hd := hy1.cell; have hf := hy1.frozen) | go_in)
  refine bodyPost_ret (v := .agg #[.int .i64 0, .int .u32 0, .int .u64 0, .int .i64 0, .int .i64 0, .int .u32 0, .bool false, .bool false]) (by simp [results, Tryz.results63, go_sem, hd]) rfl ⟨rfl, (by (repeat (refine Below.setCell ?_ (by simp) _)); exact HB.out)⟩
set_option maxRecDepth 100000 in
set_option maxHeartbeats 4000000 in
theorem trans_3 (k2 k3 : Int) (k4 : Bool) (k5 k6 : Int) (k7 k8 : Bool) (dm va : Int) (W : World) (ht : TT W) (hva : 0 ≤ va ∧ va < 4294967296) (hd1 : decide (k3 < 0) = false) (hd2 : decide (15 < k3) = false)
    (HS : ∀ ww, TE ww → Calls Tryz.prog 102 #[.agg #[.int .i64 3, .int .u64 k2, .int .i64 k3, .bool k4, .int .i64 k5, .int .u32 k6, .bool k7, .bool k8]] ww fun r w' => r = .returned (.bool true) ∧ Below ww.heap.size ww w') :
    Calls Tryz.prog 63 #[.agg #[.int .i64 3, .int .u64 k2, .int .i64 k3, .bool k4, .int .i64 k5, .int .u32 k6, .bool k7, .bool k8], .int .i64 dm, .int .u32 va] W fun r w' => r = .returned (.agg #[.int .i64 4, .int .u32 (va / 16777216 * 16777216), .int .u64 k2, .int .i64 k3, .int .i64 k5, .int .u32 k6, .bool k7, .bool k8]) ∧ Below W.heap.size W w' := by
  have hN := (Bl.new W 140 [.int .i64 3, .int .u64 k2, .int .i64 k3, .bool k4, .int .i64 k5, .int .u32 k6, .bool k7, .bool k8])
  have hsz : (W.alloc (.cells ([.int .i64 3, .int .u64 k2, .int .i64 k3, .bool k4, .int .i64 k5, .int .u32 k6, .bool k7, .bool k8]).toArray 140)).heap.size = W.heap.size + 1 := by simp
  have hM := Bl.new (W.alloc (.cells ([.int .i64 3, .int .u64 k2, .int .i64 k3, .bool k4, .int .i64 k5, .int .u32 k6, .bool k7, .bool k8]).toArray 140)) 43 [.int .i64 0, .int .u32 0, .int .u64 0, .int .i64 0, .int .i64 0, .int .u32 0, .bool false, .bool false]
  have hN := hN.below ((Below.refl _ _).alloc (Nat.le_refl _) (.cells ([.int .i64 0, .int .u32 0, .int .u64 0, .int .i64 0, .int .i64 0, .int .u32 0, .bool false, .bool false]).toArray 43))
  rw [hsz] at hM
  have HT : Hid (TE W) := ht.toTE
  have hw : va / 16777216 * 16777216 % 4294967296 = va / 16777216 * 16777216 := by omega
  clear hva
  have g1 := ht.size 3 4 rfl
  have g2 := ht.base 3 24 rfl
  have l1 : 3 < W.heap.size := cell_lt g1
  have l2 : 1 < W.heap.size := cell_lt g2
  have HG : Hid (∀ w1, Below W.heap.size W w1 → w1.cell? ⟨3, 3, none⟩ = some (.int .u8 4) ∧ w1.cell? ⟨1, 3, none⟩ = some (.int .u8 24)) := fun w1 h => ⟨(h.cell (cell_lt g1)).trans g1, (h.cell (cell_lt g2)).trans g2⟩
  have n1 : W.heap.size + 1 ≠ 3 := by omega
  have n2 : W.heap.size + 1 ≠ 1 := by omega
  have m0 : W.heap.size + 1 ≠ W.heap.size := by omega
  clear ht g1 g2 l1 l2
  go_enter Tryz.func63, Tryz.ntmps63
  go_wp2_with (first | (go_at_call 102; refine (HS _ (HT.out.below (by (repeat (refine Below.alloc ?_ (by simp) _)); exact Below.refl _ _))).mono ?_; rintro e w1 ⟨rfl, hb⟩; have hx1 := hN.below hb; have hy1 := hM.below hb; have HB : Hid (Below W.heap.size W w1) := Below.step (by (repeat (refine Below.alloc ?_ (by simp) _)); exact Below.refl _ _) hb; clear hb hN hM; have hc := hx1.cell; have hd := hy1.cell; have hf := hy1.frozen) | go_in)
  have g3 := (HG.out _ HB.out).1
  have g4 := (HG.out _ HB.out).2
  refine wp_region_held_drew (S := fun w' => w'.cell? ⟨W.heap.size, 0, none⟩ = some (.int .i64 3) ∧ w'.cell? ⟨W.heap.size, 1, none⟩ = some (.int .u64 k2) ∧ w'.cell? ⟨W.heap.size, 4, none⟩ = some (.int .i64 k5) ∧ w'.cell? ⟨W.heap.size, 5, none⟩ = some (.int .u32 k6) ∧ w'.cell? ⟨W.heap.size, 6, none⟩ = some (.bool k7) ∧ w'.cell? ⟨W.heap.size, 7, none⟩ = some (.bool k8) ∧ w'.cell? ⟨3, 3, none⟩ = some (.int .u8 4) ∧ w'.cell? ⟨1, 3, none⟩ = some (.int .u8 24)) (by kernel_rfl) ⟨hx1.drew.cell 0, hx1.drew.cell 1, hx1.drew.cell 4, hx1.drew.cell 5, hx1.drew.cell 6, hx1.drew.cell 7, g3, g4⟩ (fun hHeld => ?_)
  refine wpAnyH_take (i := 0) (oi := { dst := some 28, op := Op.fieldAddr 140 (Operand.tmp 3) 0, type := 0, pos := _, after := #[], guard := none }) (v := ?_) rfl (by kernel_rfl) (by kernel_rfl) (by kernel_rfl) (fun _ _ _ h => h) (Or.inl ⟨by rfl, ?_⟩) (by assumption) ?_
  rotate_left
  · (intro w hSw; (try dsimp only at hSw); go_simp; try with_reducible rfl)
  simp only [Act.put, List.setIfInBounds_toArray, List.set_cons_zero, List.set_cons_succ]
  refine wpAnyH_take (i := 1) (oi := { dst := some 29, op := Op.load 3 (Operand.tmp 28), type := 3, pos := _, after := #[{ on := 0, ground := Ground.data }], guard := none }) (v := ?_) rfl (by kernel_rfl) (by kernel_rfl) (by kernel_rfl) (fun _ _ _ h => h) (Or.inl ⟨by rfl, ?_⟩) (by assumption) ?_
  rotate_left
  · (intro w hSw; (try dsimp only at hSw); go_simp; try with_reducible rfl)
  simp only [Act.put, List.setIfInBounds_toArray, List.set_cons_zero, List.set_cons_succ]
  refine wpAnyH_take (i := 2) (oi := { dst := some 30, op := Op.indexAddr 170 (Operand.global 3) (Operand.tmp 29), type := 0, pos := _, after := #[{ on := 1, ground := Ground.data }], guard := none }) (v := ?_) rfl (by kernel_rfl) (by kernel_rfl) (by kernel_rfl) (fun _ _ _ h => h) (Or.inl ⟨by rfl, ?_⟩) (by assumption) ?_
  rotate_left
  · (intro w hSw; (try dsimp only at hSw); go_simp; try with_reducible rfl)
  simp only [Act.put, List.setIfInBounds_toArray, List.set_cons_zero, List.set_cons_succ]
  refine wpAnyH_take (i := 3) (oi := { dst := some 31, op := Op.load 5 (Operand.tmp 30), type := 5, pos := _, after := #[{ on := 2, ground := Ground.data }], guard := none }) (v := ?_) rfl (by kernel_rfl) (by kernel_rfl) (by kernel_rfl) (fun _ _ _ h => h) (Or.inl ⟨by rfl, ?_⟩) (by assumption) ?_
  rotate_left
  · (intro w hSw; (try dsimp only at hSw); go_simp; try with_reducible rfl)
  simp only [Act.put, List.setIfInBounds_toArray, List.set_cons_zero, List.set_cons_succ]
  refine wpAnyH_take (i := 4) (oi := { dst := some 32, op := Op.convert 5 3 (Operand.tmp 31), type := 3, pos := _, after := #[{ on := 3, ground := Ground.data }], guard := none }) (v := ?_) rfl (by kernel_rfl) (by kernel_rfl) (by kernel_rfl) (fun _ _ _ h => h) (Or.inl ⟨by rfl, ?_⟩) (by assumption) ?_
  rotate_left
  · (intro w hSw; (try dsimp only at hSw); go_simp; try with_reducible rfl)
  simp only [Act.put, List.setIfInBounds_toArray, List.set_cons_zero, List.set_cons_succ]
  refine wpAnyH_take (i := 5) (oi := { dst := some 33, op := Op.move (Operand.tmp 2), type := 32, pos := _, after := #[], guard := none }) (v := ?_) rfl (by kernel_rfl) (by kernel_rfl) (by kernel_rfl) (fun _ _ _ h => h) (Or.inl ⟨by rfl, ?_⟩) (by assumption) ?_
  rotate_left
  · (intro w hSw; (try dsimp only at hSw); go_simp; try with_reducible rfl)
  simp only [Act.put, List.setIfInBounds_toArray, List.set_cons_zero, List.set_cons_succ]
  refine wpAnyH_take (i := 6) (oi := { dst := some 34, op := Op.fieldAddr 140 (Operand.tmp 3) 0, type := 0, pos := _, after := #[], guard := none }) (v := ?_) rfl (by kernel_rfl) (by kernel_rfl) (by kernel_rfl) (fun _ _ _ h => h) (Or.inl ⟨by rfl, ?_⟩) (by assumption) ?_
  rotate_left
  · (intro w hSw; (try dsimp only at hSw); go_simp; try with_reducible rfl)
  simp only [Act.put, List.setIfInBounds_toArray, List.set_cons_zero, List.set_cons_succ]
  refine wpAnyH_take (i := 7) (oi := { dst := some 35, op := Op.load 3 (Operand.tmp 34), type := 3, pos := _, after := #[{ on := 6, ground := Ground.data }], guard := none }) (v := ?_) rfl (by kernel_rfl) (by kernel_rfl) (by kernel_rfl) (fun _ _ _ h => h) (Or.inl ⟨by rfl, ?_⟩) (by assumption) ?_
  rotate_left
  · (intro w hSw; (try dsimp only at hSw); go_simp; try with_reducible rfl)
  simp only [Act.put, List.setIfInBounds_toArray, List.set_cons_zero, List.set_cons_succ]
  refine wpAnyH_take (i := 8) (oi := { dst := some 36, op := Op.indexAddr 170 (Operand.global 1) (Operand.tmp 35), type := 0, pos := _, after := #[{ on := 7, ground := Ground.data }], guard := none }) (v := ?_) rfl (by kernel_rfl) (by kernel_rfl) (by kernel_rfl) (fun _ _ _ h => h) (Or.inl ⟨by rfl, ?_⟩) (by assumption) ?_
  rotate_left
  · (intro w hSw; (try dsimp only at hSw); go_simp; try with_reducible rfl)
  simp only [Act.put, List.setIfInBounds_toArray, List.set_cons_zero, List.set_cons_succ]
  refine wpAnyH_take (i := 9) (oi := { dst := some 37, op := Op.load 5 (Operand.tmp 36), type := 5, pos := _, after := #[{ on := 8, ground := Ground.data }], guard := none }) (v := ?_) rfl (by kernel_rfl) (by kernel_rfl) (by kernel_rfl) (fun _ _ _ h => h) (Or.inl ⟨by rfl, ?_⟩) (by assumption) ?_
  rotate_left
  · (intro w hSw; (try dsimp only at hSw); go_simp; try with_reducible rfl)
  simp only [Act.put, List.setIfInBounds_toArray, List.set_cons_zero, List.set_cons_succ]
  refine wpAnyH_take (i := 10) (oi := { dst := some 38, op := Op.binOp BinOp.shr 32 (Operand.tmp 33) (Operand.tmp 37) 5, type := 32, pos := _, after := #[{ on := 5, ground := Ground.data }, { on := 9, ground := Ground.data }], guard := none }) (v := ?_) rfl (by kernel_rfl) (by kernel_rfl) (by kernel_rfl) (fun _ _ _ h => h) (Or.inl ⟨by rfl, ?_⟩) (by assumption) ?_
  rotate_left
  · (intro w hSw; (try dsimp only at hSw); go_simp; try with_reducible rfl)
  simp only [Act.put, List.setIfInBounds_toArray, List.set_cons_zero, List.set_cons_succ]
  refine wpAnyH_take (i := 11) (oi := { dst := some 39, op := Op.fieldAddr 140 (Operand.tmp 3) 0, type := 0, pos := _, after := #[], guard := none }) (v := ?_) rfl (by kernel_rfl) (by kernel_rfl) (by kernel_rfl) (fun _ _ _ h => h) (Or.inl ⟨by rfl, ?_⟩) (by assumption) ?_
  rotate_left
  · (intro w hSw; (try dsimp only at hSw); go_simp; try with_reducible rfl)
  simp only [Act.put, List.setIfInBounds_toArray, List.set_cons_zero, List.set_cons_succ]
  refine wpAnyH_take (i := 12) (oi := { dst := some 40, op := Op.load 3 (Operand.tmp 39), type := 3, pos := _, after := #[{ on := 11, ground := Ground.data }], guard := none }) (v := ?_) rfl (by kernel_rfl) (by kernel_rfl) (by kernel_rfl) (fun _ _ _ h => h) (Or.inl ⟨by rfl, ?_⟩) (by assumption) ?_
  rotate_left
  · (intro w hSw; (try dsimp only at hSw); go_simp; try with_reducible rfl)
  simp only [Act.put, List.setIfInBounds_toArray, List.set_cons_zero, List.set_cons_succ]
  refine wpAnyH_take (i := 13) (oi := { dst := some 41, op := Op.indexAddr 170 (Operand.global 1) (Operand.tmp 40), type := 0, pos := _, after := #[{ on := 12, ground := Ground.data }], guard := none }) (v := ?_) rfl (by kernel_rfl) (by kernel_rfl) (by kernel_rfl) (fun _ _ _ h => h) (Or.inl ⟨by rfl, ?_⟩) (by assumption) ?_
  rotate_left
  · (intro w hSw; (try dsimp only at hSw); go_simp; try with_reducible rfl)
  simp only [Act.put, List.setIfInBounds_toArray, List.set_cons_zero, List.set_cons_succ]
  refine wpAnyH_take (i := 14) (oi := { dst := some 42, op := Op.load 5 (Operand.tmp 41), type := 5, pos := _, after := #[{ on := 13, ground := Ground.data }], guard := none }) (v := ?_) rfl (by kernel_rfl) (by kernel_rfl) (by kernel_rfl) (fun _ _ _ h => h) (Or.inl ⟨by rfl, ?_⟩) (by assumption) ?_
  rotate_left
  · (intro w hSw; (try dsimp only at hSw); go_simp; try with_reducible rfl)
  simp only [Act.put, List.setIfInBounds_toArray, List.set_cons_zero, List.set_cons_succ]
  refine wpAnyH_take (i := 15) (oi := { dst := some 43, op := Op.binOp BinOp.shl 32 (Operand.tmp 38) (Operand.tmp 42) 5, type := 32, pos := _, after := #[{ on := 10, ground := Ground.data }, { on := 14, ground := Ground.data }], guard := none }) (v := ?_) rfl (by kernel_rfl) (by kernel_rfl) (by kernel_rfl) (fun _ _ _ h => h) (Or.inl ⟨by rfl, ?_⟩) (by assumption) ?_
  rotate_left
  · (intro w hSw; (try dsimp only at hSw); go_simp; try with_reducible rfl)
  simp only [Act.put, List.setIfInBounds_toArray, List.set_cons_zero, List.set_cons_succ]
  refine wpAnyH_take (i := 16) (oi := { dst := some 44, op := Op.fieldAddr 140 (Operand.tmp 3) 1, type := 0, pos := _, after := #[], guard := none }) (v := ?_) rfl (by kernel_rfl) (by kernel_rfl) (by kernel_rfl) (fun _ _ _ h => h) (Or.inl ⟨by rfl, ?_⟩) (by assumption) ?_
  rotate_left
  · (intro w hSw; (try dsimp only at hSw); go_simp; try with_reducible rfl)
  simp only [Act.put, List.setIfInBounds_toArray, List.set_cons_zero, List.set_cons_succ]
  refine wpAnyH_take (i := 17) (oi := { dst := some 45, op := Op.load 35 (Operand.tmp 44), type := 35, pos := _, after := #[{ on := 16, ground := Ground.data }], guard := none }) (v := ?_) rfl (by kernel_rfl) (by kernel_rfl) (by kernel_rfl) (fun _ _ _ h => h) (Or.inl ⟨by rfl, ?_⟩) (by assumption) ?_
  rotate_left
  · (intro w hSw; (try dsimp only at hSw); go_simp; try with_reducible rfl)
  simp only [Act.put, List.setIfInBounds_toArray, List.set_cons_zero, List.set_cons_succ]
  refine wpAnyH_take (i := 18) (oi := { dst := some 46, op := Op.move (Operand.tmp 1), type := 3, pos := _, after := #[], guard := none }) (v := ?_) rfl (by kernel_rfl) (by kernel_rfl) (by kernel_rfl) (fun _ _ _ h => h) (Or.inl ⟨by rfl, ?_⟩) (by assumption) ?_
  rotate_left
  · (intro w hSw; (try dsimp only at hSw); go_simp; try with_reducible rfl)
  simp only [Act.put, List.setIfInBounds_toArray, List.set_cons_zero, List.set_cons_succ]
  refine wpAnyH_take (i := 19) (oi := { dst := some 47, op := Op.fieldAddr 140 (Operand.tmp 3) 4, type := 0, pos := _, after := #[], guard := none }) (v := ?_) rfl (by kernel_rfl) (by kernel_rfl) (by kernel_rfl) (fun _ _ _ h => h) (Or.inl ⟨by rfl, ?_⟩) (by assumption) ?_
  rotate_left
  · (intro w hSw; (try dsimp only at hSw); go_simp; try with_reducible rfl)
  simp only [Act.put, List.setIfInBounds_toArray, List.set_cons_zero, List.set_cons_succ]
  refine wpAnyH_take (i := 20) (oi := { dst := some 48, op := Op.load 41 (Operand.tmp 47), type := 41, pos := _, after := #[{ on := 19, ground := Ground.data }], guard := none }) (v := ?_) rfl (by kernel_rfl) (by kernel_rfl) (by kernel_rfl) (fun _ _ _ h => h) (Or.inl ⟨by rfl, ?_⟩) (by assumption) ?_
  rotate_left
  · (intro w hSw; (try dsimp only at hSw); go_simp; try with_reducible rfl)
  simp only [Act.put, List.setIfInBounds_toArray, List.set_cons_zero, List.set_cons_succ]
  refine wpAnyH_take (i := 21) (oi := { dst := some 49, op := Op.build 43 #[(0, Operand.tmp 32), (1, Operand.tmp 43), (2, Operand.tmp 45), (3, Operand.tmp 46), (4, Operand.tmp 48)], type := 43, pos := _, after := #[{ on := 4, ground := Ground.data }, { on := 15, ground := Ground.data }, { on := 17, ground := Ground.data }, { on := 18, ground := Ground.data }, { on := 20, ground := Ground.data }], guard := none }) (v := ?_) rfl (by kernel_rfl) (by kernel_rfl) (by kernel_rfl) (fun _ _ _ h => h) (Or.inl ⟨by rfl, ?_⟩) (by assumption) ?_
  rotate_left
  · (intro w hSw; (try dsimp only at hSw); go_simp; try with_reducible rfl)
  simp only [Act.put, List.setIfInBounds_toArray, List.set_cons_zero, List.set_cons_succ]
  refine wpAnyH_ready (rs := [22]) (by kernel_rfl) (by simp) ?_
  refine AllReadyH.cons (o := { dst := none, op := Op.store 43 (Operand.tmp 6) (Operand.tmp 49), type := 0, pos := _, after := #[{ on := 21, ground := Ground.data }, { on := 0, ground := Ground.phase }, { on := 1, ground := Ground.phase }, { on := 2, ground := Ground.phase }, { on := 3, ground := Ground.phase }, { on := 4, ground := Ground.phase }, { on := 5, ground := Ground.phase }, { on := 6, ground := Ground.phase }, { on := 7, ground := Ground.phase }, { on := 8, ground := Ground.phase }, { on := 9, ground := Ground.phase }, { on := 10, ground := Ground.phase }, { on := 11, ground := Ground.phase }, { on := 12, ground := Ground.phase }, { on := 13, ground := Ground.phase }, { on := 14, ground := Ground.phase }, { on := 15, ground := Ground.phase }, { on := 16, ground := Ground.phase }, { on := 17, ground := Ground.phase }, { on := 18, ground := Ground.phase }, { on := 19, ground := Ground.phase }, { on := 20, ground := Ground.phase }, { on := 21, ground := Ground.phase }], guard := none }) rfl (fun K hK => ?_) AllReadyH.nil
  go_simp
  skip
  refine hK.out _ _ ?_ (fun hHeld => ?_)
  · (((try dsimp only); exact ⟨(keep8 hx1 _ m0 _ _ _ _ _ _ _ _).cell 0, (keep8 hx1 _ m0 _ _ _ _ _ _ _ _).cell 1, (keep8 hx1 _ m0 _ _ _ _ _ _ _ _).cell 4, (keep8 hx1 _ m0 _ _ _ _ _ _ _ _).cell 5, (keep8 hx1 _ m0 _ _ _ _ _ _ _ _).cell 6, (keep8 hx1 _ m0 _ _ _ _ _ _ _ _).cell 7, far8 g3 _ n1 _ _ _ _ _ _ _ _, far8 g4 _ n2 _ _ _ _ _ _ _ _⟩))
  clear hK K
  try simp only [Act.put, List.setIfInBounds_toArray, List.set_cons_zero, List.set_cons_succ]
  refine wpAnyH_done (by kernel_rfl) ?_ _
  go_wp2
  refine bodyPost_ret (v := .agg #[.int .i64 4, .int .u32 (va / 16777216 * 16777216), .int .u64 k2, .int .i64 k3, .int .i64 k5, .int .u32 k6, .bool k7, .bool k8]) (by simp [results, Tryz.results63, go_sem, hd, hw, IntKind.wrap_u32, IntKind.wrap_i64]) rfl ⟨rfl, (by refine below_drew ?_; (repeat (refine Below.setCell ?_ (by simp) _)); exact HB.out)⟩
set_option maxRecDepth 100000 in
set_option maxHeartbeats 4000000 in
theorem trans_4lo (k2 k3 : Int) (k4 : Bool) (k5 k6 : Int) (k7 k8 : Bool) (dm va : Int) (W : World) (ht : TT W) (hd1 : decide (dm < 0) = true)
    (HS : ∀ ww, TE ww → Calls Tryz.prog 102 #[.agg #[.int .i64 4, .int .u64 k2, .int .i64 k3, .bool k4, .int .i64 k5, .int .u32 k6, .bool k7, .bool k8]] ww fun r w' => r = .returned (.bool true) ∧ Below ww.heap.size ww w') :
    Calls Tryz.prog 63 #[.agg #[.int .i64 4, .int .u64 k2, .int .i64 k3, .bool k4, .int .i64 k5, .int .u32 k6, .bool k7, .bool k8], .int .i64 dm, .int .u32 va] W fun r w' => r = .returned (.agg #[.int .i64 0, .int .u32 0, .int .u64 0, .int .i64 0, .int .i64 0, .int .u32 0, .bool false, .bool false]) ∧ Below W.heap.size W w' := by
  have hN := (Bl.new W 140 [.int .i64 4, .int .u64 k2, .int .i64 k3, .bool k4, .int .i64 k5, .int .u32 k6, .bool k7, .bool k8])
  have hsz : (W.alloc (.cells ([.int .i64 4, .int .u64 k2, .int .i64 k3, .bool k4, .int .i64 k5, .int .u32 k6, .bool k7, .bool k8]).toArray 140)).heap.size = W.heap.size + 1 := by simp
  have hM := Bl.new (W.alloc (.cells ([.int .i64 4, .int .u64 k2, .int .i64 k3, .bool k4, .int .i64 k5, .int .u32 k6, .bool k7, .bool k8]).toArray 140)) 43 [.int .i64 0, .int .u32 0, .int .u64 0, .int .i64 0, .int .i64 0, .int .u32 0, .bool false, .bool false]
  have hN := hN.below ((Below.refl _ _).alloc (Nat.le_refl _) (.cells ([.int .i64 0, .int .u32 0, .int .u64 0, .int .i64 0, .int .i64 0, .int .u32 0, .bool false, .bool false]).toArray 43))
  rw [hsz] at hM
  have HT : Hid (TE W) := ht.toTE
  clear ht
  go_enter Tryz.func63, Tryz.ntmps63
  go_wp2_with (first | (go_at_call 102; refine (HS _ (HT.out.below (by (repeat (refine Below.alloc ?_ (by simp) _)); exact Below.refl _ _))).mono ?_; rintro e w1 ⟨rfl, hb⟩; have hx1 := hN.below hb; have hy1 := hM.below hb; have HB : Hid (Below W.heap.size W w1) := Below.step (by (repeat (refine Below.alloc ?_ (by simp) _)); exact Below.refl _ _) hb; clear hb hN hM; have hc := hx1.cell; have hd := hy1.cell; have hf := hy1.frozen) | go_in)
  refine bodyPost_ret (v := .agg #[.int .i64 0, .int .u32 0, .int .u64 0, .int .i64 0, .int .i64 0, .int .u32 0, .bool false, .bool false]) (by simp [results, Tryz.results63, go_sem, hd]) rfl ⟨rfl, (by (repeat (refine Below.setCell ?_ (by simp) _)); exact HB.out)⟩
set_option maxRecDepth 100000 in
set_option maxHeartbeats 4000000 in
theorem trans_4hi (k2 k3 : Int) (k4 : Bool) (k5 k6 : Int) (k7 k8 : Bool) (dm va : Int) (W : World) (ht : TT W) (hd1 : decide (dm < 0) = false) (hd2 : decide (15 < dm) = true)
    (HS : ∀ ww, TE ww → Calls Tryz.prog 102 #[.agg #[.int .i64 4, .int .u64 k2, .int .i64 k3, .bool k4, .int .i64 k5, .int .u32 k6, .bool k7, .bool k8]] ww fun r w' => r = .returned (.bool true) ∧ Below ww.heap.size ww w') :
    Calls Tryz.prog 63 #[.agg #[.int .i64 4, .int .u64 k2, .int .i64 k3, .bool k4, .int .i64 k5, .int .u32 k6, .bool k7, .bool k8], .int .i64 dm, .int .u32 va] W fun r w' => r = .returned (.agg #[.int .i64 0, .int .u32 0, .int .u64 0, .int .i64 0, .int .i64 0, .int .u32 0, .bool false, .bool false]) ∧ Below W.heap.size W w' := by
  have hN := (Bl.new W 140 [.int .i64 4, .int .u64 k2, .int .i64 k3, .bool k4, .int .i64 k5, .int .u32 k6, .bool k7, .bool k8])
  have hsz : (W.alloc (.cells ([.int .i64 4, .int .u64 k2, .int .i64 k3, .bool k4, .int .i64 k5, .int .u32 k6, .bool k7, .bool k8]).toArray 140)).heap.size = W.heap.size + 1 := by simp
  have hM := Bl.new (W.alloc (.cells ([.int .i64 4, .int .u64 k2, .int .i64 k3, .bool k4, .int .i64 k5, .int .u32 k6, .bool k7, .bool k8]).toArray 140)) 43 [.int .i64 0, .int .u32 0, .int .u64 0, .int .i64 0, .int .i64 0, .int .u32 0, .bool false, .bool false]
  have hN := hN.below ((Below.refl _ _).alloc (Nat.le_refl _) (.cells ([.int .i64 0, .int .u32 0, .int .u64 0, .int .i64 0, .int .i64 0, .int .u32 0, .bool false, .bool false]).toArray 43))
  rw [hsz] at hM
  have HT : Hid (TE W) := ht.toTE
  clear ht
  go_enter Tryz.func63, Tryz.ntmps63
  go_wp2_with (first | (go_at_call 102; refine (HS _ (HT.out.below (by (repeat (refine Below.alloc ?_ (by simp) _)); exact Below.refl _ _))).mono ?_; rintro e w1 ⟨rfl, hb⟩; have hx1 := hN.below hb; have hy1 := hM.below hb; have HB : Hid (Below W.heap.size W w1) := Below.step (by (repeat (refine Below.alloc ?_ (by simp) _)); exact Below.refl _ _) hb; clear hb hN hM; have hc := hx1.cell; have hd := hy1.cell; have hf := hy1.frozen) | go_in)
  refine bodyPost_ret (v := .agg #[.int .i64 0, .int .u32 0, .int .u64 0, .int .i64 0, .int .i64 0, .int .u32 0, .bool false, .bool false]) (by simp [results, Tryz.results63, go_sem, hd]) rfl ⟨rfl, (by (repeat (refine Below.setCell ?_ (by simp) _)); exact HB.out)⟩
set_option maxRecDepth 100000 in
set_option maxHeartbeats 4000000 in
theorem trans_4 (k2 k3 : Int) (k4 : Bool) (k5 k6 : Int) (k7 k8 : Bool) (dm va : Int) (W : World) (ht : TT W) (hva : 0 ≤ va ∧ va < 4294967296) (hd1 : decide (dm < 0) = false) (hd2 : decide (15 < dm) = false)
    (HS : ∀ ww, TE ww → Calls Tryz.prog 102 #[.agg #[.int .i64 4, .int .u64 k2, .int .i64 k3, .bool k4, .int .i64 k5, .int .u32 k6, .bool k7, .bool k8]] ww fun r w' => r = .returned (.bool true) ∧ Below ww.heap.size ww w') :
    Calls Tryz.prog 63 #[.agg #[.int .i64 4, .int .u64 k2, .int .i64 k3, .bool k4, .int .i64 k5, .int .u32 k6, .bool k7, .bool k8], .int .i64 dm, .int .u32 va] W fun r w' => r = .returned (.agg #[.int .i64 2, .int .u32 (va / 65536 * 65536), .int .u64 k2, .int .i64 dm, .int .i64 k5, .int .u32 k6, .bool k7, .bool k8]) ∧ Below W.heap.size W w' := by
  have hN := (Bl.new W 140 [.int .i64 4, .int .u64 k2, .int .i64 k3, .bool k4, .int .i64 k5, .int .u32 k6, .bool k7, .bool k8])
  have hsz : (W.alloc (.cells ([.int .i64 4, .int .u64 k2, .int .i64 k3, .bool k4, .int .i64 k5, .int .u32 k6, .bool k7, .bool k8]).toArray 140)).heap.size = W.heap.size + 1 := by simp
  have hM := Bl.new (W.alloc (.cells ([.int .i64 4, .int .u64 k2, .int .i64 k3, .bool k4, .int .i64 k5, .int .u32 k6, .bool k7, .bool k8]).toArray 140)) 43 [.int .i64 0, .int .u32 0, .int .u64 0, .int .i64 0, .int .i64 0, .int .u32 0, .bool false, .bool false]
  have hN := hN.below ((Below.refl _ _).alloc (Nat.le_refl _) (.cells ([.int .i64 0, .int .u32 0, .int .u64 0, .int .i64 0, .int .i64 0, .int .u32 0, .bool false, .bool false]).toArray 43))
  rw [hsz] at hM
  have HT : Hid (TE W) := ht.toTE
  have hw : va / 65536 * 65536 % 4294967296 = va / 65536 * 65536 := by omega
  clear hva
  have g1 := ht.size 4 2 rfl
  have g2 := ht.base 4 16 rfl
  have l1 : 3 < W.heap.size := cell_lt g1
  have l2 : 1 < W.heap.size := cell_lt g2
  have HG : Hid (∀ w1, Below W.heap.size W w1 → w1.cell? ⟨3, 4, none⟩ = some (.int .u8 2) ∧ w1.cell? ⟨1, 4, none⟩ = some (.int .u8 16)) := fun w1 h => ⟨(h.cell (cell_lt g1)).trans g1, (h.cell (cell_lt g2)).trans g2⟩
  have n1 : W.heap.size + 1 ≠ 3 := by omega
  have n2 : W.heap.size + 1 ≠ 1 := by omega
  have m0 : W.heap.size + 1 ≠ W.heap.size := by omega
  clear ht g1 g2 l1 l2
  go_enter Tryz.func63, Tryz.ntmps63
  go_wp2_with (first | (go_at_call 102; refine (HS _ (HT.out.below (by (repeat (refine Below.alloc ?_ (by simp) _)); exact Below.refl _ _))).mono ?_; rintro e w1 ⟨rfl, hb⟩; have hx1 := hN.below hb; have hy1 := hM.below hb; have HB : Hid (Below W.heap.size W w1) := Below.step (by (repeat (refine Below.alloc ?_ (by simp) _)); exact Below.refl _ _) hb; clear hb hN hM; have hc := hx1.cell; have hd := hy1.cell; have hf := hy1.frozen) | go_in)
  have g3 := (HG.out _ HB.out).1
  have g4 := (HG.out _ HB.out).2
  refine wp_region_held_drew (S := fun w' => w'.cell? ⟨W.heap.size, 0, none⟩ = some (.int .i64 4) ∧ w'.cell? ⟨W.heap.size, 1, none⟩ = some (.int .u64 k2) ∧ w'.cell? ⟨W.heap.size, 4, none⟩ = some (.int .i64 k5) ∧ w'.cell? ⟨W.heap.size, 5, none⟩ = some (.int .u32 k6) ∧ w'.cell? ⟨W.heap.size, 6, none⟩ = some (.bool k7) ∧ w'.cell? ⟨W.heap.size, 7, none⟩ = some (.bool k8) ∧ w'.cell? ⟨3, 4, none⟩ = some (.int .u8 2) ∧ w'.cell? ⟨1, 4, none⟩ = some (.int .u8 16)) (by kernel_rfl) ⟨hx1.drew.cell 0, hx1.drew.cell 1, hx1.drew.cell 4, hx1.drew.cell 5, hx1.drew.cell 6, hx1.drew.cell 7, g3, g4⟩ (fun hHeld => ?_)
  refine wpAnyH_take (i := 0) (oi := { dst := some 28, op := Op.fieldAddr 140 (Operand.tmp 3) 0, type := 0, pos := _, after := #[], guard := none }) (v := ?_) rfl (by kernel_rfl) (by kernel_rfl) (by kernel_rfl) (fun _ _ _ h => h) (Or.inl ⟨by rfl, ?_⟩) (by assumption) ?_
  rotate_left
  · (intro w hSw; (try dsimp only at hSw); go_simp; try with_reducible rfl)
  simp only [Act.put, List.setIfInBounds_toArray, List.set_cons_zero, List.set_cons_succ]
  refine wpAnyH_take (i := 1) (oi := { dst := some 29, op := Op.load 3 (Operand.tmp 28), type := 3, pos := _, after := #[{ on := 0, ground := Ground.data }], guard := none }) (v := ?_) rfl (by kernel_rfl) (by kernel_rfl) (by kernel_rfl) (fun _ _ _ h => h) (Or.inl ⟨by rfl, ?_⟩) (by assumption) ?_
  rotate_left
  · (intro w hSw; (try dsimp only at hSw); go_simp; try with_reducible rfl)
  simp only [Act.put, List.setIfInBounds_toArray, List.set_cons_zero, List.set_cons_succ]
  refine wpAnyH_take (i := 2) (oi := { dst := some 30, op := Op.indexAddr 170 (Operand.global 3) (Operand.tmp 29), type := 0, pos := _, after := #[{ on := 1, ground := Ground.data }], guard := none }) (v := ?_) rfl (by kernel_rfl) (by kernel_rfl) (by kernel_rfl) (fun _ _ _ h => h) (Or.inl ⟨by rfl, ?_⟩) (by assumption) ?_
  rotate_left
  · (intro w hSw; (try dsimp only at hSw); go_simp; try with_reducible rfl)
  simp only [Act.put, List.setIfInBounds_toArray, List.set_cons_zero, List.set_cons_succ]
  refine wpAnyH_take (i := 3) (oi := { dst := some 31, op := Op.load 5 (Operand.tmp 30), type := 5, pos := _, after := #[{ on := 2, ground := Ground.data }], guard := none }) (v := ?_) rfl (by kernel_rfl) (by kernel_rfl) (by kernel_rfl) (fun _ _ _ h => h) (Or.inl ⟨by rfl, ?_⟩) (by assumption) ?_
  rotate_left
  · (intro w hSw; (try dsimp only at hSw); go_simp; try with_reducible rfl)
  simp only [Act.put, List.setIfInBounds_toArray, List.set_cons_zero, List.set_cons_succ]
  refine wpAnyH_take (i := 4) (oi := { dst := some 32, op := Op.convert 5 3 (Operand.tmp 31), type := 3, pos := _, after := #[{ on := 3, ground := Ground.data }], guard := none }) (v := ?_) rfl (by kernel_rfl) (by kernel_rfl) (by kernel_rfl) (fun _ _ _ h => h) (Or.inl ⟨by rfl, ?_⟩) (by assumption) ?_
  rotate_left
  · (intro w hSw; (try dsimp only at hSw); go_simp; try with_reducible rfl)
  simp only [Act.put, List.setIfInBounds_toArray, List.set_cons_zero, List.set_cons_succ]
  refine wpAnyH_take (i := 5) (oi := { dst := some 33, op := Op.move (Operand.tmp 2), type := 32, pos := _, after := #[], guard := none }) (v := ?_) rfl (by kernel_rfl) (by kernel_rfl) (by kernel_rfl) (fun _ _ _ h => h) (Or.inl ⟨by rfl, ?_⟩) (by assumption) ?_
  rotate_left
  · (intro w hSw; (try dsimp only at hSw); go_simp; try with_reducible rfl)
  simp only [Act.put, List.setIfInBounds_toArray, List.set_cons_zero, List.set_cons_succ]
  refine wpAnyH_take (i := 6) (oi := { dst := some 34, op := Op.fieldAddr 140 (Operand.tmp 3) 0, type := 0, pos := _, after := #[], guard := none }) (v := ?_) rfl (by kernel_rfl) (by kernel_rfl) (by kernel_rfl) (fun _ _ _ h => h) (Or.inl ⟨by rfl, ?_⟩) (by assumption) ?_
  rotate_left
  · (intro w hSw; (try dsimp only at hSw); go_simp; try with_reducible rfl)
  simp only [Act.put, List.setIfInBounds_toArray, List.set_cons_zero, List.set_cons_succ]
  refine wpAnyH_take (i := 7) (oi := { dst := some 35, op := Op.load 3 (Operand.tmp 34), type := 3, pos := _, after := #[{ on := 6, ground := Ground.data }], guard := none }) (v := ?_) rfl (by kernel_rfl) (by kernel_rfl) (by kernel_rfl) (fun _ _ _ h => h) (Or.inl ⟨by rfl, ?_⟩) (by assumption) ?_
  rotate_left
  · (intro w hSw; (try dsimp only at hSw); go_simp; try with_reducible rfl)
  simp only [Act.put, List.setIfInBounds_toArray, List.set_cons_zero, List.set_cons_succ]
  refine wpAnyH_take (i := 8) (oi := { dst := some 36, op := Op.indexAddr 170 (Operand.global 1) (Operand.tmp 35), type := 0, pos := _, after := #[{ on := 7, ground := Ground.data }], guard := none }) (v := ?_) rfl (by kernel_rfl) (by kernel_rfl) (by kernel_rfl) (fun _ _ _ h => h) (Or.inl ⟨by rfl, ?_⟩) (by assumption) ?_
  rotate_left
  · (intro w hSw; (try dsimp only at hSw); go_simp; try with_reducible rfl)
  simp only [Act.put, List.setIfInBounds_toArray, List.set_cons_zero, List.set_cons_succ]
  refine wpAnyH_take (i := 9) (oi := { dst := some 37, op := Op.load 5 (Operand.tmp 36), type := 5, pos := _, after := #[{ on := 8, ground := Ground.data }], guard := none }) (v := ?_) rfl (by kernel_rfl) (by kernel_rfl) (by kernel_rfl) (fun _ _ _ h => h) (Or.inl ⟨by rfl, ?_⟩) (by assumption) ?_
  rotate_left
  · (intro w hSw; (try dsimp only at hSw); go_simp; try with_reducible rfl)
  simp only [Act.put, List.setIfInBounds_toArray, List.set_cons_zero, List.set_cons_succ]
  refine wpAnyH_take (i := 10) (oi := { dst := some 38, op := Op.binOp BinOp.shr 32 (Operand.tmp 33) (Operand.tmp 37) 5, type := 32, pos := _, after := #[{ on := 5, ground := Ground.data }, { on := 9, ground := Ground.data }], guard := none }) (v := ?_) rfl (by kernel_rfl) (by kernel_rfl) (by kernel_rfl) (fun _ _ _ h => h) (Or.inl ⟨by rfl, ?_⟩) (by assumption) ?_
  rotate_left
  · (intro w hSw; (try dsimp only at hSw); go_simp; try with_reducible rfl)
  simp only [Act.put, List.setIfInBounds_toArray, List.set_cons_zero, List.set_cons_succ]
  refine wpAnyH_take (i := 11) (oi := { dst := some 39, op := Op.fieldAddr 140 (Operand.tmp 3) 0, type := 0, pos := _, after := #[], guard := none }) (v := ?_) rfl (by kernel_rfl) (by kernel_rfl) (by kernel_rfl) (fun _ _ _ h => h) (Or.inl ⟨by rfl, ?_⟩) (by assumption) ?_
  rotate_left
  · (intro w hSw; (try dsimp only at hSw); go_simp; try with_reducible rfl)
  simp only [Act.put, List.setIfInBounds_toArray, List.set_cons_zero, List.set_cons_succ]
  refine wpAnyH_take (i := 12) (oi := { dst := some 40, op := Op.load 3 (Operand.tmp 39), type := 3, pos := _, after := #[{ on := 11, ground := Ground.data }], guard := none }) (v := ?_) rfl (by kernel_rfl) (by kernel_rfl) (by kernel_rfl) (fun _ _ _ h => h) (Or.inl ⟨by rfl, ?_⟩) (by assumption) ?_
  rotate_left
  · (intro w hSw; (try dsimp only at hSw); go_simp; try with_reducible rfl)
  simp only [Act.put, List.setIfInBounds_toArray, List.set_cons_zero, List.set_cons_succ]
  refine wpAnyH_take (i := 13) (oi := { dst := some 41, op := Op.indexAddr 170 (Operand.global 1) (Operand.tmp 40), type := 0, pos := _, after := #[{ on := 12, ground := Ground.data }], guard := none }) (v := ?_) rfl (by kernel_rfl) (by kernel_rfl) (by kernel_rfl) (fun _ _ _ h => h) (Or.inl ⟨by rfl, ?_⟩) (by assumption) ?_
  rotate_left
  · (intro w hSw; (try dsimp only at hSw); go_simp; try with_reducible rfl)
  simp only [Act.put, List.setIfInBounds_toArray, List.set_cons_zero, List.set_cons_succ]
  refine wpAnyH_take (i := 14) (oi := { dst := some 42, op := Op.load 5 (Operand.tmp 41), type := 5, pos := _, after := #[{ on := 13, ground := Ground.data }], guard := none }) (v := ?_) rfl (by kernel_rfl) (by kernel_rfl) (by kernel_rfl) (fun _ _ _ h => h) (Or.inl ⟨by rfl, ?_⟩) (by assumption) ?_
  rotate_left
  · (intro w hSw; (try dsimp only at hSw); go_simp; try with_reducible rfl)
  simp only [Act.put, List.setIfInBounds_toArray, List.set_cons_zero, List.set_cons_succ]
  refine wpAnyH_take (i := 15) (oi := { dst := some 43, op := Op.binOp BinOp.shl 32 (Operand.tmp 38) (Operand.tmp 42) 5, type := 32, pos := _, after := #[{ on := 10, ground := Ground.data }, { on := 14, ground := Ground.data }], guard := none }) (v := ?_) rfl (by kernel_rfl) (by kernel_rfl) (by kernel_rfl) (fun _ _ _ h => h) (Or.inl ⟨by rfl, ?_⟩) (by assumption) ?_
  rotate_left
  · (intro w hSw; (try dsimp only at hSw); go_simp; try with_reducible rfl)
  simp only [Act.put, List.setIfInBounds_toArray, List.set_cons_zero, List.set_cons_succ]
  refine wpAnyH_take (i := 16) (oi := { dst := some 44, op := Op.fieldAddr 140 (Operand.tmp 3) 1, type := 0, pos := _, after := #[], guard := none }) (v := ?_) rfl (by kernel_rfl) (by kernel_rfl) (by kernel_rfl) (fun _ _ _ h => h) (Or.inl ⟨by rfl, ?_⟩) (by assumption) ?_
  rotate_left
  · (intro w hSw; (try dsimp only at hSw); go_simp; try with_reducible rfl)
  simp only [Act.put, List.setIfInBounds_toArray, List.set_cons_zero, List.set_cons_succ]
  refine wpAnyH_take (i := 17) (oi := { dst := some 45, op := Op.load 35 (Operand.tmp 44), type := 35, pos := _, after := #[{ on := 16, ground := Ground.data }], guard := none }) (v := ?_) rfl (by kernel_rfl) (by kernel_rfl) (by kernel_rfl) (fun _ _ _ h => h) (Or.inl ⟨by rfl, ?_⟩) (by assumption) ?_
  rotate_left
  · (intro w hSw; (try dsimp only at hSw); go_simp; try with_reducible rfl)
  simp only [Act.put, List.setIfInBounds_toArray, List.set_cons_zero, List.set_cons_succ]
  refine wpAnyH_take (i := 18) (oi := { dst := some 46, op := Op.move (Operand.tmp 1), type := 3, pos := _, after := #[], guard := none }) (v := ?_) rfl (by kernel_rfl) (by kernel_rfl) (by kernel_rfl) (fun _ _ _ h => h) (Or.inl ⟨by rfl, ?_⟩) (by assumption) ?_
  rotate_left
  · (intro w hSw; (try dsimp only at hSw); go_simp; try with_reducible rfl)
  simp only [Act.put, List.setIfInBounds_toArray, List.set_cons_zero, List.set_cons_succ]
  refine wpAnyH_take (i := 19) (oi := { dst := some 47, op := Op.fieldAddr 140 (Operand.tmp 3) 4, type := 0, pos := _, after := #[], guard := none }) (v := ?_) rfl (by kernel_rfl) (by kernel_rfl) (by kernel_rfl) (fun _ _ _ h => h) (Or.inl ⟨by rfl, ?_⟩) (by assumption) ?_
  rotate_left
  · (intro w hSw; (try dsimp only at hSw); go_simp; try with_reducible rfl)
  simp only [Act.put, List.setIfInBounds_toArray, List.set_cons_zero, List.set_cons_succ]
  refine wpAnyH_take (i := 20) (oi := { dst := some 48, op := Op.load 41 (Operand.tmp 47), type := 41, pos := _, after := #[{ on := 19, ground := Ground.data }], guard := none }) (v := ?_) rfl (by kernel_rfl) (by kernel_rfl) (by kernel_rfl) (fun _ _ _ h => h) (Or.inl ⟨by rfl, ?_⟩) (by assumption) ?_
  rotate_left
  · (intro w hSw; (try dsimp only at hSw); go_simp; try with_reducible rfl)
  simp only [Act.put, List.setIfInBounds_toArray, List.set_cons_zero, List.set_cons_succ]
  refine wpAnyH_take (i := 21) (oi := { dst := some 49, op := Op.build 43 #[(0, Operand.tmp 32), (1, Operand.tmp 43), (2, Operand.tmp 45), (3, Operand.tmp 46), (4, Operand.tmp 48)], type := 43, pos := _, after := #[{ on := 4, ground := Ground.data }, { on := 15, ground := Ground.data }, { on := 17, ground := Ground.data }, { on := 18, ground := Ground.data }, { on := 20, ground := Ground.data }], guard := none }) (v := ?_) rfl (by kernel_rfl) (by kernel_rfl) (by kernel_rfl) (fun _ _ _ h => h) (Or.inl ⟨by rfl, ?_⟩) (by assumption) ?_
  rotate_left
  · (intro w hSw; (try dsimp only at hSw); go_simp; try with_reducible rfl)
  simp only [Act.put, List.setIfInBounds_toArray, List.set_cons_zero, List.set_cons_succ]
  refine wpAnyH_ready (rs := [22]) (by kernel_rfl) (by simp) ?_
  refine AllReadyH.cons (o := { dst := none, op := Op.store 43 (Operand.tmp 6) (Operand.tmp 49), type := 0, pos := _, after := #[{ on := 21, ground := Ground.data }, { on := 0, ground := Ground.phase }, { on := 1, ground := Ground.phase }, { on := 2, ground := Ground.phase }, { on := 3, ground := Ground.phase }, { on := 4, ground := Ground.phase }, { on := 5, ground := Ground.phase }, { on := 6, ground := Ground.phase }, { on := 7, ground := Ground.phase }, { on := 8, ground := Ground.phase }, { on := 9, ground := Ground.phase }, { on := 10, ground := Ground.phase }, { on := 11, ground := Ground.phase }, { on := 12, ground := Ground.phase }, { on := 13, ground := Ground.phase }, { on := 14, ground := Ground.phase }, { on := 15, ground := Ground.phase }, { on := 16, ground := Ground.phase }, { on := 17, ground := Ground.phase }, { on := 18, ground := Ground.phase }, { on := 19, ground := Ground.phase }, { on := 20, ground := Ground.phase }, { on := 21, ground := Ground.phase }], guard := none }) rfl (fun K hK => ?_) AllReadyH.nil
  go_simp
  skip
  refine hK.out _ _ ?_ (fun hHeld => ?_)
  · (((try dsimp only); exact ⟨(keep8 hx1 _ m0 _ _ _ _ _ _ _ _).cell 0, (keep8 hx1 _ m0 _ _ _ _ _ _ _ _).cell 1, (keep8 hx1 _ m0 _ _ _ _ _ _ _ _).cell 4, (keep8 hx1 _ m0 _ _ _ _ _ _ _ _).cell 5, (keep8 hx1 _ m0 _ _ _ _ _ _ _ _).cell 6, (keep8 hx1 _ m0 _ _ _ _ _ _ _ _).cell 7, far8 g3 _ n1 _ _ _ _ _ _ _ _, far8 g4 _ n2 _ _ _ _ _ _ _ _⟩))
  clear hK K
  try simp only [Act.put, List.setIfInBounds_toArray, List.set_cons_zero, List.set_cons_succ]
  refine wpAnyH_done (by kernel_rfl) ?_ _
  go_wp2
  refine bodyPost_ret (v := .agg #[.int .i64 2, .int .u32 (va / 65536 * 65536), .int .u64 k2, .int .i64 dm, .int .i64 k5, .int .u32 k6, .bool k7, .bool k8]) (by simp [results, Tryz.results63, go_sem, hd, hw, IntKind.wrap_u32, IntKind.wrap_i64]) rfl ⟨rfl, (by refine below_drew ?_; (repeat (refine Below.setCell ?_ (by simp) _)); exact HB.out)⟩
set_option maxRecDepth 100000 in
set_option maxHeartbeats 4000000 in
theorem trans_5lo (k2 k3 : Int) (k4 : Bool) (k5 k6 : Int) (k7 k8 : Bool) (dm va : Int) (W : World) (ht : TT W) (hd1 : decide (dm < 0) = true)
    (HS : ∀ ww, TE ww → Calls Tryz.prog 102 #[.agg #[.int .i64 5, .int .u64 k2, .int .i64 k3, .bool k4, .int .i64 k5, .int .u32 k6, .bool k7, .bool k8]] ww fun r w' => r = .returned (.bool true) ∧ Below ww.heap.size ww w') :
    Calls Tryz.prog 63 #[.agg #[.int .i64 5, .int .u64 k2, .int .i64 k3, .bool k4, .int .i64 k5, .int .u32 k6, .bool k7, .bool k8], .int .i64 dm, .int .u32 va] W fun r w' => r = .returned (.agg #[.int .i64 0, .int .u32 0, .int .u64 0, .int .i64 0, .int .i64 0, .int .u32 0, .bool false, .bool false]) ∧ Below W.heap.size W w' := by
  have hN := (Bl.new W 140 [.int .i64 5, .int .u64 k2, .int .i64 k3, .bool k4, .int .i64 k5, .int .u32 k6, .bool k7, .bool k8])
  have hsz : (W.alloc (.cells ([.int .i64 5, .int .u64 k2, .int .i64 k3, .bool k4, .int .i64 k5, .int .u32 k6, .bool k7, .bool k8]).toArray 140)).heap.size = W.heap.size + 1 := by simp
  have hM := Bl.new (W.alloc (.cells ([.int .i64 5, .int .u64 k2, .int .i64 k3, .bool k4, .int .i64 k5, .int .u32 k6, .bool k7, .bool k8]).toArray 140)) 43 [.int .i64 0, .int .u32 0, .int .u64 0, .int .i64 0, .int .i64 0, .int .u32 0, .bool false, .bool false]
  have hN := hN.below ((Below.refl _ _).alloc (Nat.le_refl _) (.cells ([.int .i64 0, .int .u32 0, .int .u64 0, .int .i64 0, .int .i64 0, .int .u32 0, .bool false, .bool false]).toArray 43))
  rw [hsz] at hM
  have HT : Hid (TE W) := ht.toTE
  clear ht
  go_enter Tryz.func63, Tryz.ntmps63
  go_wp2_with (first | (go_at_call 102; refine (HS _ (HT.out.below (by (repeat (refine Below.alloc ?_ (by simp) _)); exact Below.refl _ _))).mono ?_; rintro e w1 ⟨rfl, hb⟩; have hx1 := hN.below hb; have hy1 := hM.below hb; have HB : Hid (Below W.heap.size W w1) := Below.step (by (repeat (refine Below.alloc ?_ (by simp) _)); exact Below.refl _ _) hb; clear hb hN hM; have hc := hx1.cell; have hd := hy1.cell; have hf := hy1.frozen) | go_in)
  refine bodyPost_ret (v := .agg #[.int .i64 0, .int .u32 0, .int .u64 0, .int .i64 0, .int .i64 0, .int .u32 0, .bool false, .bool false]) (by simp [results, Tryz.results63, go_sem, hd]) rfl ⟨rfl, (by (repeat (refine Below.setCell ?_ (by simp) _)); exact HB.out)⟩
set_option maxRecDepth 100000 in
set_option maxHeartbeats 4000000 in
theorem trans_5hi (k2 k3 : Int) (k4 : Bool) (k5 k6 : Int) (k7 k8 : Bool) (dm va : Int) (W : World) (ht : TT W) (hd1 : decide (dm < 0) = false) (hd2 : decide (15 < dm) = true)
    (HS : ∀ ww, TE ww → Calls Tryz.prog 102 #[.agg #[.int .i64 5, .int .u64 k2, .int .i64 k3, .bool k4, .int .i64 k5, .int .u32 k6, .bool k7, .bool k8]] ww fun r w' => r = .returned (.bool true) ∧ Below ww.heap.size ww w') :
    Calls Tryz.prog 63 #[.agg #[.int .i64 5, .int .u64 k2, .int .i64 k3, .bool k4, .int .i64 k5, .int .u32 k6, .bool k7, .bool k8], .int .i64 dm, .int .u32 va] W fun r w' => r = .returned (.agg #[.int .i64 0, .int .u32 0, .int .u64 0, .int .i64 0, .int .i64 0, .int .u32 0, .bool false, .bool false]) ∧ Below W.heap.size W w' := by
  have hN := (Bl.new W 140 [.int .i64 5, .int .u64 k2, .int .i64 k3, .bool k4, .int .i64 k5, .int .u32 k6, .bool k7, .bool k8])
  have hsz : (W.alloc (.cells ([.int .i64 5, .int .u64 k2, .int .i64 k3, .bool k4, .int .i64 k5, .int .u32 k6, .bool k7, .bool k8]).toArray 140)).heap.size = W.heap.size + 1 := by simp
  have hM := Bl.new (W.alloc (.cells ([.int .i64 5, .int .u64 k2, .int .i64 k3, .bool k4, .int .i64 k5, .int .u32 k6, .bool k7, .bool k8]).toArray 140)) 43 [.int .i64 0, .int .u32 0, .int .u64 0, .int .i64 0, .int .i64 0, .int .u32 0, .bool false, .bool false]
  have hN := hN.below ((Below.refl _ _).alloc (Nat.le_refl _) (.cells ([.int .i64 0, .int .u32 0, .int .u64 0, .int .i64 0, .int .i64 0, .int .u32 0, .bool false, .bool false]).toArray 43))
  rw [hsz] at hM
  have HT : Hid (TE W) := ht.toTE
  clear ht
  go_enter Tryz.func63, Tryz.ntmps63
  go_wp2_with (first | (go_at_call 102; refine (HS _ (HT.out.below (by (repeat (refine Below.alloc ?_ (by simp) _)); exact Below.refl _ _))).mono ?_; rintro e w1 ⟨rfl, hb⟩; have hx1 := hN.below hb; have hy1 := hM.below hb; have HB : Hid (Below W.heap.size W w1) := Below.step (by (repeat (refine Below.alloc ?_ (by simp) _)); exact Below.refl _ _) hb; clear hb hN hM; have hc := hx1.cell; have hd := hy1.cell; have hf := hy1.frozen) | go_in)
  refine bodyPost_ret (v := .agg #[.int .i64 0, .int .u32 0, .int .u64 0, .int .i64 0, .int .i64 0, .int .u32 0, .bool false, .bool false]) (by simp [results, Tryz.results63, go_sem, hd]) rfl ⟨rfl, (by (repeat (refine Below.setCell ?_ (by simp) _)); exact HB.out)⟩
set_option maxRecDepth 100000 in
set_option maxHeartbeats 4000000 in
theorem trans_5 (k2 k3 : Int) (k4 : Bool) (k5 k6 : Int) (k7 k8 : Bool) (dm va : Int) (W : World) (ht : TT W) (hva : 0 ≤ va ∧ va < 4294967296) (hd1 : decide (dm < 0) = false) (hd2 : decide (15 < dm) = false)
    (HS : ∀ ww, TE ww → Calls Tryz.prog 102 #[.agg #[.int .i64 5, .int .u64 k2, .int .i64 k3, .bool k4, .int .i64 k5, .int .u32 k6, .bool k7, .bool k8]] ww fun r w' => r = .returned (.bool true) ∧ Below ww.heap.size ww w') :
    Calls Tryz.prog 63 #[.agg #[.int .i64 5, .int .u64 k2, .int .i64 k3, .bool k4, .int .i64 k5, .int .u32 k6, .bool k7, .bool k8], .int .i64 dm, .int .u32 va] W fun r w' => r = .returned (.agg #[.int .i64 1, .int .u32 (va / 4096 * 4096), .int .u64 k2, .int .i64 dm, .int .i64 k5, .int .u32 k6, .bool k7, .bool k8]) ∧ Below W.heap.size W w' := by
  have hN := (Bl.new W 140 [.int .i64 5, .int .u64 k2, .int .i64 k3, .bool k4, .int .i64 k5, .int .u32 k6, .bool k7, .bool k8])
  have hsz : (W.alloc (.cells ([.int .i64 5, .int .u64 k2, .int .i64 k3, .bool k4, .int .i64 k5, .int .u32 k6, .bool k7, .bool k8]).toArray 140)).heap.size = W.heap.size + 1 := by simp
  have hM := Bl.new (W.alloc (.cells ([.int .i64 5, .int .u64 k2, .int .i64 k3, .bool k4, .int .i64 k5, .int .u32 k6, .bool k7, .bool k8]).toArray 140)) 43 [.int .i64 0, .int .u32 0, .int .u64 0, .int .i64 0, .int .i64 0, .int .u32 0, .bool false, .bool false]
  have hN := hN.below ((Below.refl _ _).alloc (Nat.le_refl _) (.cells ([.int .i64 0, .int .u32 0, .int .u64 0, .int .i64 0, .int .i64 0, .int .u32 0, .bool false, .bool false]).toArray 43))
  rw [hsz] at hM
  have HT : Hid (TE W) := ht.toTE
  have hw : va / 4096 * 4096 % 4294967296 = va / 4096 * 4096 := by omega
  clear hva
  have g1 := ht.size 5 1 rfl
  have g2 := ht.base 5 12 rfl
  have l1 : 3 < W.heap.size := cell_lt g1
  have l2 : 1 < W.heap.size := cell_lt g2
  have HG : Hid (∀ w1, Below W.heap.size W w1 → w1.cell? ⟨3, 5, none⟩ = some (.int .u8 1) ∧ w1.cell? ⟨1, 5, none⟩ = some (.int .u8 12)) := fun w1 h => ⟨(h.cell (cell_lt g1)).trans g1, (h.cell (cell_lt g2)).trans g2⟩
  have n1 : W.heap.size + 1 ≠ 3 := by omega
  have n2 : W.heap.size + 1 ≠ 1 := by omega
  have m0 : W.heap.size + 1 ≠ W.heap.size := by omega
  clear ht g1 g2 l1 l2
  go_enter Tryz.func63, Tryz.ntmps63
  go_wp2_with (first | (go_at_call 102; refine (HS _ (HT.out.below (by (repeat (refine Below.alloc ?_ (by simp) _)); exact Below.refl _ _))).mono ?_; rintro e w1 ⟨rfl, hb⟩; have hx1 := hN.below hb; have hy1 := hM.below hb; have HB : Hid (Below W.heap.size W w1) := Below.step (by (repeat (refine Below.alloc ?_ (by simp) _)); exact Below.refl _ _) hb; clear hb hN hM; have hc := hx1.cell; have hd := hy1.cell; have hf := hy1.frozen) | go_in)
  have g3 := (HG.out _ HB.out).1
  have g4 := (HG.out _ HB.out).2
  refine wp_region_held_drew (S := fun w' => w'.cell? ⟨W.heap.size, 0, none⟩ = some (.int .i64 5) ∧ w'.cell? ⟨W.heap.size, 1, none⟩ = some (.int .u64 k2) ∧ w'.cell? ⟨W.heap.size, 4, none⟩ = some (.int .i64 k5) ∧ w'.cell? ⟨W.heap.size, 5, none⟩ = some (.int .u32 k6) ∧ w'.cell? ⟨W.heap.size, 6, none⟩ = some (.bool k7) ∧ w'.cell? ⟨W.heap.size, 7, none⟩ = some (.bool k8) ∧ w'.cell? ⟨3, 5, none⟩ = some (.int .u8 1) ∧ w'.cell? ⟨1, 5, none⟩ = some (.int .u8 12)) (by kernel_rfl) ⟨hx1.drew.cell 0, hx1.drew.cell 1, hx1.drew.cell 4, hx1.drew.cell 5, hx1.drew.cell 6, hx1.drew.cell 7, g3, g4⟩ (fun hHeld => ?_)
  refine wpAnyH_take (i := 0) (oi := { dst := some 28, op := Op.fieldAddr 140 (Operand.tmp 3) 0, type := 0, pos := _, after := #[], guard := none }) (v := ?_) rfl (by kernel_rfl) (by kernel_rfl) (by kernel_rfl) (fun _ _ _ h => h) (Or.inl ⟨by rfl, ?_⟩) (by assumption) ?_
  rotate_left
  · (intro w hSw; (try dsimp only at hSw); go_simp; try with_reducible rfl)
  simp only [Act.put, List.setIfInBounds_toArray, List.set_cons_zero, List.set_cons_succ]
  refine wpAnyH_take (i := 1) (oi := { dst := some 29, op := Op.load 3 (Operand.tmp 28), type := 3, pos := _, after := #[{ on := 0, ground := Ground.data }], guard := none }) (v := ?_) rfl (by kernel_rfl) (by kernel_rfl) (by kernel_rfl) (fun _ _ _ h => h) (Or.inl ⟨by rfl, ?_⟩) (by assumption) ?_
  rotate_left
  · (intro w hSw; (try dsimp only at hSw); go_simp; try with_reducible rfl)
  simp only [Act.put, List.setIfInBounds_toArray, List.set_cons_zero, List.set_cons_succ]
  refine wpAnyH_take (i := 2) (oi := { dst := some 30, op := Op.indexAddr 170 (Operand.global 3) (Operand.tmp 29), type := 0, pos := _, after := #[{ on := 1, ground := Ground.data }], guard := none }) (v := ?_) rfl (by kernel_rfl) (by kernel_rfl) (by kernel_rfl) (fun _ _ _ h => h) (Or.inl ⟨by rfl, ?_⟩) (by assumption) ?_
  rotate_left
  · (intro w hSw; (try dsimp only at hSw); go_simp; try with_reducible rfl)
  simp only [Act.put, List.setIfInBounds_toArray, List.set_cons_zero, List.set_cons_succ]
  refine wpAnyH_take (i := 3) (oi := { dst := some 31, op := Op.load 5 (Operand.tmp 30), type := 5, pos := _, after := #[{ on := 2, ground := Ground.data }], guard := none }) (v := ?_) rfl (by kernel_rfl) (by kernel_rfl) (by kernel_rfl) (fun _ _ _ h => h) (Or.inl ⟨by rfl, ?_⟩) (by assumption) ?_
  rotate_left
  · (intro w hSw; (try dsimp only at hSw); go_simp; try with_reducible rfl)
  simp only [Act.put, List.setIfInBounds_toArray, List.set_cons_zero, List.set_cons_succ]
  refine wpAnyH_take (i := 4) (oi := { dst := some 32, op := Op.convert 5 3 (Operand.tmp 31), type := 3, pos := _, after := #[{ on := 3, ground := Ground.data }], guard := none }) (v := ?_) rfl (by kernel_rfl) (by kernel_rfl) (by kernel_rfl) (fun _ _ _ h => h) (Or.inl ⟨by rfl, ?_⟩) (by assumption) ?_
  rotate_left
  · (intro w hSw; (try dsimp only at hSw); go_simp; try with_reducible rfl)
  simp only [Act.put, List.setIfInBounds_toArray, List.set_cons_zero, List.set_cons_succ]
  refine wpAnyH_take (i := 5) (oi := { dst := some 33, op := Op.move (Operand.tmp 2), type := 32, pos := _, after := #[], guard := none }) (v := ?_) rfl (by kernel_rfl) (by kernel_rfl) (by kernel_rfl) (fun _ _ _ h => h) (Or.inl ⟨by rfl, ?_⟩) (by assumption) ?_
  rotate_left
  · (intro w hSw; (try dsimp only at hSw); go_simp; try with_reducible rfl)
  simp only [Act.put, List.setIfInBounds_toArray, List.set_cons_zero, List.set_cons_succ]
  refine wpAnyH_take (i := 6) (oi := { dst := some 34, op := Op.fieldAddr 140 (Operand.tmp 3) 0, type := 0, pos := _, after := #[], guard := none }) (v := ?_) rfl (by kernel_rfl) (by kernel_rfl) (by kernel_rfl) (fun _ _ _ h => h) (Or.inl ⟨by rfl, ?_⟩) (by assumption) ?_
  rotate_left
  · (intro w hSw; (try dsimp only at hSw); go_simp; try with_reducible rfl)
  simp only [Act.put, List.setIfInBounds_toArray, List.set_cons_zero, List.set_cons_succ]
  refine wpAnyH_take (i := 7) (oi := { dst := some 35, op := Op.load 3 (Operand.tmp 34), type := 3, pos := _, after := #[{ on := 6, ground := Ground.data }], guard := none }) (v := ?_) rfl (by kernel_rfl) (by kernel_rfl) (by kernel_rfl) (fun _ _ _ h => h) (Or.inl ⟨by rfl, ?_⟩) (by assumption) ?_
  rotate_left
  · (intro w hSw; (try dsimp only at hSw); go_simp; try with_reducible rfl)
  simp only [Act.put, List.setIfInBounds_toArray, List.set_cons_zero, List.set_cons_succ]
  refine wpAnyH_take (i := 8) (oi := { dst := some 36, op := Op.indexAddr 170 (Operand.global 1) (Operand.tmp 35), type := 0, pos := _, after := #[{ on := 7, ground := Ground.data }], guard := none }) (v := ?_) rfl (by kernel_rfl) (by kernel_rfl) (by kernel_rfl) (fun _ _ _ h => h) (Or.inl ⟨by rfl, ?_⟩) (by assumption) ?_
  rotate_left
  · (intro w hSw; (try dsimp only at hSw); go_simp; try with_reducible rfl)
  simp only [Act.put, List.setIfInBounds_toArray, List.set_cons_zero, List.set_cons_succ]
  refine wpAnyH_take (i := 9) (oi := { dst := some 37, op := Op.load 5 (Operand.tmp 36), type := 5, pos := _, after := #[{ on := 8, ground := Ground.data }], guard := none }) (v := ?_) rfl (by kernel_rfl) (by kernel_rfl) (by kernel_rfl) (fun _ _ _ h => h) (Or.inl ⟨by rfl, ?_⟩) (by assumption) ?_
  rotate_left
  · (intro w hSw; (try dsimp only at hSw); go_simp; try with_reducible rfl)
  simp only [Act.put, List.setIfInBounds_toArray, List.set_cons_zero, List.set_cons_succ]
  refine wpAnyH_take (i := 10) (oi := { dst := some 38, op := Op.binOp BinOp.shr 32 (Operand.tmp 33) (Operand.tmp 37) 5, type := 32, pos := _, after := #[{ on := 5, ground := Ground.data }, { on := 9, ground := Ground.data }], guard := none }) (v := ?_) rfl (by kernel_rfl) (by kernel_rfl) (by kernel_rfl) (fun _ _ _ h => h) (Or.inl ⟨by rfl, ?_⟩) (by assumption) ?_
  rotate_left
  · (intro w hSw; (try dsimp only at hSw); go_simp; try with_reducible rfl)
  simp only [Act.put, List.setIfInBounds_toArray, List.set_cons_zero, List.set_cons_succ]
  refine wpAnyH_take (i := 11) (oi := { dst := some 39, op := Op.fieldAddr 140 (Operand.tmp 3) 0, type := 0, pos := _, after := #[], guard := none }) (v := ?_) rfl (by kernel_rfl) (by kernel_rfl) (by kernel_rfl) (fun _ _ _ h => h) (Or.inl ⟨by rfl, ?_⟩) (by assumption) ?_
  rotate_left
  · (intro w hSw; (try dsimp only at hSw); go_simp; try with_reducible rfl)
  simp only [Act.put, List.setIfInBounds_toArray, List.set_cons_zero, List.set_cons_succ]
  refine wpAnyH_take (i := 12) (oi := { dst := some 40, op := Op.load 3 (Operand.tmp 39), type := 3, pos := _, after := #[{ on := 11, ground := Ground.data }], guard := none }) (v := ?_) rfl (by kernel_rfl) (by kernel_rfl) (by kernel_rfl) (fun _ _ _ h => h) (Or.inl ⟨by rfl, ?_⟩) (by assumption) ?_
  rotate_left
  · (intro w hSw; (try dsimp only at hSw); go_simp; try with_reducible rfl)
  simp only [Act.put, List.setIfInBounds_toArray, List.set_cons_zero, List.set_cons_succ]
  refine wpAnyH_take (i := 13) (oi := { dst := some 41, op := Op.indexAddr 170 (Operand.global 1) (Operand.tmp 40), type := 0, pos := _, after := #[{ on := 12, ground := Ground.data }], guard := none }) (v := ?_) rfl (by kernel_rfl) (by kernel_rfl) (by kernel_rfl) (fun _ _ _ h => h) (Or.inl ⟨by rfl, ?_⟩) (by assumption) ?_
  rotate_left
  · (intro w hSw; (try dsimp only at hSw); go_simp; try with_reducible rfl)
  simp only [Act.put, List.setIfInBounds_toArray, List.set_cons_zero, List.set_cons_succ]
  refine wpAnyH_take (i := 14) (oi := { dst := some 42, op := Op.load 5 (Operand.tmp 41), type := 5, pos := _, after := #[{ on := 13, ground := Ground.data }], guard := none }) (v := ?_) rfl (by kernel_rfl) (by kernel_rfl) (by kernel_rfl) (fun _ _ _ h => h) (Or.inl ⟨by rfl, ?_⟩) (by assumption) ?_
  rotate_left
  · (intro w hSw; (try dsimp only at hSw); go_simp; try with_reducible rfl)
  simp only [Act.put, List.setIfInBounds_toArray, List.set_cons_zero, List.set_cons_succ]
  refine wpAnyH_take (i := 15) (oi := { dst := some 43, op := Op.binOp BinOp.shl 32 (Operand.tmp 38) (Operand.tmp 42) 5, type := 32, pos := _, after := #[{ on := 10, ground := Ground.data }, { on := 14, ground := Ground.data }], guard := none }) (v := ?_) rfl (by kernel_rfl) (by kernel_rfl) (by kernel_rfl) (fun _ _ _ h => h) (Or.inl ⟨by rfl, ?_⟩) (by assumption) ?_
  rotate_left
  · (intro w hSw; (try dsimp only at hSw); go_simp; try with_reducible rfl)
  simp only [Act.put, List.setIfInBounds_toArray, List.set_cons_zero, List.set_cons_succ]
  refine wpAnyH_take (i := 16) (oi := { dst := some 44, op := Op.fieldAddr 140 (Operand.tmp 3) 1, type := 0, pos := _, after := #[], guard := none }) (v := ?_) rfl (by kernel_rfl) (by kernel_rfl) (by kernel_rfl) (fun _ _ _ h => h) (Or.inl ⟨by rfl, ?_⟩) (by assumption) ?_
  rotate_left
  · (intro w hSw; (try dsimp only at hSw); go_simp; try with_reducible rfl)
  simp only [Act.put, List.setIfInBounds_toArray, List.set_cons_zero, List.set_cons_succ]
  refine wpAnyH_take (i := 17) (oi := { dst := some 45, op := Op.load 35 (Operand.tmp 44), type := 35, pos := _, after := #[{ on := 16, ground := Ground.data }], guard := none }) (v := ?_) rfl (by kernel_rfl) (by kernel_rfl) (by kernel_rfl) (fun _ _ _ h => h) (Or.inl ⟨by rfl, ?_⟩) (by assumption) ?_
  rotate_left
  · (intro w hSw; (try dsimp only at hSw); go_simp; try with_reducible rfl)
  simp only [Act.put, List.setIfInBounds_toArray, List.set_cons_zero, List.set_cons_succ]
  refine wpAnyH_take (i := 18) (oi := { dst := some 46, op := Op.move (Operand.tmp 1), type := 3, pos := _, after := #[], guard := none }) (v := ?_) rfl (by kernel_rfl) (by kernel_rfl) (by kernel_rfl) (fun _ _ _ h => h) (Or.inl ⟨by rfl, ?_⟩) (by assumption) ?_
  rotate_left
  · (intro w hSw; (try dsimp only at hSw); go_simp; try with_reducible rfl)
  simp only [Act.put, List.setIfInBounds_toArray, List.set_cons_zero, List.set_cons_succ]
  refine wpAnyH_take (i := 19) (oi := { dst := some 47, op := Op.fieldAddr 140 (Operand.tmp 3) 4, type := 0, pos := _, after := #[], guard := none }) (v := ?_) rfl (by kernel_rfl) (by kernel_rfl) (by kernel_rfl) (fun _ _ _ h => h) (Or.inl ⟨by rfl, ?_⟩) (by assumption) ?_
  rotate_left
  · (intro w hSw; (try dsimp only at hSw); go_simp; try with_reducible rfl)
  simp only [Act.put, List.setIfInBounds_toArray, List.set_cons_zero, List.set_cons_succ]
  refine wpAnyH_take (i := 20) (oi := { dst := some 48, op := Op.load 41 (Operand.tmp 47), type := 41, pos := _, after := #[{ on := 19, ground := Ground.data }], guard := none }) (v := ?_) rfl (by kernel_rfl) (by kernel_rfl) (by kernel_rfl) (fun _ _ _ h => h) (Or.inl ⟨by rfl, ?_⟩) (by assumption) ?_
  rotate_left
  · (intro w hSw; (try dsimp only at hSw); go_simp; try with_reducible rfl)
  simp only [Act.put, List.setIfInBounds_toArray, List.set_cons_zero, List.set_cons_succ]
  refine wpAnyH_take (i := 21) (oi := { dst := some 49, op := Op.build 43 #[(0, Operand.tmp 32), (1, Operand.tmp 43), (2, Operand.tmp 45), (3, Operand.tmp 46), (4, Operand.tmp 48)], type := 43, pos := _, after := #[{ on := 4, ground := Ground.data }, { on := 15, ground := Ground.data }, { on := 17, ground := Ground.data }, { on := 18, ground := Ground.data }, { on := 20, ground := Ground.data }], guard := none }) (v := ?_) rfl (by kernel_rfl) (by kernel_rfl) (by kernel_rfl) (fun _ _ _ h => h) (Or.inl ⟨by rfl, ?_⟩) (by assumption) ?_
  rotate_left
  · (intro w hSw; (try dsimp only at hSw); go_simp; try with_reducible rfl)
  simp only [Act.put, List.setIfInBounds_toArray, List.set_cons_zero, List.set_cons_succ]
  refine wpAnyH_ready (rs := [22]) (by kernel_rfl) (by simp) ?_
  refine AllReadyH.cons (o := { dst := none, op := Op.store 43 (Operand.tmp 6) (Operand.tmp 49), type := 0, pos := _, after := #[{ on := 21, ground := Ground.data }, { on := 0, ground := Ground.phase }, { on := 1, ground := Ground.phase }, { on := 2, ground := Ground.phase }, { on := 3, ground := Ground.phase }, { on := 4, ground := Ground.phase }, { on := 5, ground := Ground.phase }, { on := 6, ground := Ground.phase }, { on := 7, ground := Ground.phase }, { on := 8, ground := Ground.phase }, { on := 9, ground := Ground.phase }, { on := 10, ground := Ground.phase }, { on := 11, ground := Ground.phase }, { on := 12, ground := Ground.phase }, { on := 13, ground := Ground.phase }, { on := 14, ground := Ground.phase }, { on := 15, ground := Ground.phase }, { on := 16, ground := Ground.phase }, { on := 17, ground := Ground.phase }, { on := 18, ground := Ground.phase }, { on := 19, ground := Ground.phase }, { on := 20, ground := Ground.phase }, { on := 21, ground := Ground.phase }], guard := none }) rfl (fun K hK => ?_) AllReadyH.nil
  go_simp
  skip
  refine hK.out _ _ ?_ (fun hHeld => ?_)
  · (((try dsimp only); exact ⟨(keep8 hx1 _ m0 _ _ _ _ _ _ _ _).cell 0, (keep8 hx1 _ m0 _ _ _ _ _ _ _ _).cell 1, (keep8 hx1 _ m0 _ _ _ _ _ _ _ _).cell 4, (keep8 hx1 _ m0 _ _ _ _ _ _ _ _).cell 5, (keep8 hx1 _ m0 _ _ _ _ _ _ _ _).cell 6, (keep8 hx1 _ m0 _ _ _ _ _ _ _ _).cell 7, far8 g3 _ n1 _ _ _ _ _ _ _ _, far8 g4 _ n2 _ _ _ _ _ _ _ _⟩))
  clear hK K
  try simp only [Act.put, List.setIfInBounds_toArray, List.set_cons_zero, List.set_cons_succ]
  refine wpAnyH_done (by kernel_rfl) ?_ _
  go_wp2
  refine bodyPost_ret (v := .agg #[.int .i64 1, .int .u32 (va / 4096 * 4096), .int .u64 k2, .int .i64 dm, .int .i64 k5, .int .u32 k6, .bool k7, .bool k8]) (by simp [results, Tryz.results63, go_sem, hd, hw, IntKind.wrap_u32, IntKind.wrap_i64]) rfl ⟨rfl, (by refine below_drew ?_; (repeat (refine Below.setCell ?_ (by simp) _)); exact HB.out)⟩
end Go.Proofs.YtnjlajjjcmhfgaaGreatDoor
