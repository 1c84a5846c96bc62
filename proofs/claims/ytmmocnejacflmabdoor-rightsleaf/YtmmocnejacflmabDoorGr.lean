import Derived.Test.YtmmocnejacflmabDoorGa
import Derived.Test.YtmmocnejacflmabDoorQa
import Derived.Test.YtmmocnejacflmabDoorGl
namespace Go.Proofs.YtmmocnejacflmabDoor
open Go.RowKit
set_option linter.unusedVariables false
set_option linter.unusedSimpArgs false
theorem hidIn {p : Prop} (h : p) : Hid p := h
theorem Bl.set_ne {w : World} {b b' : Nat} {t : TypeId} {l : List Value} (h : Bl w b t l) (hn : b ≠ b') (j : Nat) (v : Value) : Bl (w.setCell ⟨b', j, none⟩ v) b t l := by
  show (w.setCell ⟨b', j, none⟩ v).heap[b]? = _
  rw [Below.heap_setCell _ _ _ _ hn]
  exact h
/-- The leaf's box and the result's in a world behind. -/
structure QR (w wr : World) (ap bt : Int) (ng xn : Bool) : Prop where
  bel : Below w.heap.size w wr
  a : Bl wr w.heap.size 24 [.int .i64 ap, .int .u32 bt, .bool ng, .bool xn]
  r : Bl wr (w.heap.size + 1) 26 [.bool false, .bool false, .bool false]
theorem QR.new (w : World) (ap bt : Int) (ng xn : Bool) : QR w ((w.alloc (.cells #[.int .i64 ap, .int .u32 bt, .bool ng, .bool xn] 24)).alloc (.cells #[.bool false, .bool false, .bool false] 26)) ap bt ng xn := by
  have h := Bl.new (w.alloc (.cells #[.int .i64 ap, .int .u32 bt, .bool ng, .bool xn] 24)) 26 [.bool false, .bool false, .bool false]
  rw [show (w.alloc (.cells #[.int .i64 ap, .int .u32 bt, .bool ng, .bool xn] 24)).heap.size = w.heap.size + 1 by simp] at h
  exact ⟨Below.step (below_new _ _) (below_new _ _), (Bl.new _ _ _).below (below_new _ _), h⟩
theorem QR.step {w wr wn : World} {ap bt : Int} {ng xn : Bool} (h : QR w wr ap bt ng xn) (hb : Below wr.heap.size wr wn) : QR w wn ap bt ng xn := ⟨Below.step h.bel hb, h.a.below hb, h.r.below hb⟩
theorem QR.drew {w wr : World} {ap bt : Int} {ng xn : Bool} (h : QR w wr ap bt ng xn) : QR w wr.drew ap bt ng xn := ⟨below_drew h.bel, h.a.drew, h.r.drew⟩
theorem QR.keep {w wr : World} {ap bt : Int} {ng xn : Bool} (h : QR w wr ap bt ng xn) (x y z : Value) : Bl (((wr.setCell ⟨w.heap.size + 1, 0, none⟩ x).setCell ⟨w.heap.size + 1, 1, none⟩ y).setCell ⟨w.heap.size + 1, 2, none⟩ z) w.heap.size 24 [.int .i64 ap, .int .u32 bt, .bool ng, .bool xn] :=
  Bl.set_ne (Bl.set_ne (Bl.set_ne h.a (by omega) 0 x) (by omega) 1 y) (by omega) 2 z
theorem QR.end3 {w wr : World} {ap bt : Int} {ng xn : Bool} (h : QR w wr ap bt ng xn) (x y z : Value) : Below w.heap.size w (((wr.setCell ⟨w.heap.size + 1, 0, none⟩ x).setCell ⟨w.heap.size + 1, 1, none⟩ y).setCell ⟨w.heap.size + 1, 2, none⟩ z) :=
  Below.setCell (Below.setCell (Below.setCell h.bel (by simp) _) (by simp) _) (by simp) _
set_option maxRecDepth 100000 in
set_option maxHeartbeats 4000000 in
theorem rights_any (ap bt : Int) (ng xn : Bool) (w : World) (hT : TP w) : Calls Tryd.prog 9 #[.agg #[.int .i64 ap, .int .u32 bt, .bool ng, .bool xn]] w fun e w' => e = .returned (.agg #[.bool (alF ap xn false false 2), .bool (alF ap xn false false 3), .bool (alF ap xn false false 1)]) ∧ Below w.heap.size w w' := by
  have HP : Hid (∀ (k : Int) w, TP w → Calls Tryd.prog 13 #[.agg #[.int .i64 ap, .int .u32 bt, .bool ng, .bool xn], .bool false, .bool false, .int .i64 k] w fun e w' => e = .returned (.bool (alF ap xn false false k)) ∧ Below w.heap.size w w') := fun k w hw => allows_any ap bt ng xn false false k w hw
  have HS := hidIn (QR.new w ap bt ng xn).drew
  have HT : Hid (TP w) := hT
  clear hT
  go_enter Tryd.func9, Tryd.ntmps9
  go_wp2
  refine wp_region_held_drew (S := fun w' => w'.cell? ⟨w.heap.size, 0, none⟩ = some (.int .i64 ap) ∧ w'.cell? ⟨w.heap.size, 1, none⟩ = some (.int .u32 bt) ∧ w'.cell? ⟨w.heap.size, 2, none⟩ = some (.bool ng) ∧ w'.cell? ⟨w.heap.size, 3, none⟩ = some (.bool xn)) (by kernel_rfl) (by (try dsimp only); exact ⟨HS.out.a.cell 0, HS.out.a.cell 1, HS.out.a.cell 2, HS.out.a.cell 3⟩) (fun hHeld => ?_)
  refine wpAnyH_take (i := 0) (oi := { dst := some 3, op := Op.load 24 (Operand.tmp 1), type := 24, pos := _, after := #[], guard := none }) (v := ?_) rfl (by kernel_rfl) (by kernel_rfl) (by kernel_rfl) (fun _ _ _ h => h) (Or.inl ⟨by rfl, ?_⟩) (by assumption) ?_
  rotate_left
  · (intro w hSw; (try dsimp only at hSw); go_simp; try with_reducible rfl)
  simp only [Act.put, List.setIfInBounds_toArray, List.set_cons_zero, List.set_cons_succ]
  refine wpAnyH_take (i := 2) (oi := { dst := some 5, op := Op.load 24 (Operand.tmp 1), type := 24, pos := _, after := #[], guard := none }) (v := ?_) rfl (by kernel_rfl) (by kernel_rfl) (by kernel_rfl) (fun _ _ _ h => h) (Or.inl ⟨by rfl, ?_⟩) (by assumption) ?_
  rotate_left
  · (intro w hSw; (try dsimp only at hSw); go_simp; try with_reducible rfl)
  simp only [Act.put, List.setIfInBounds_toArray, List.set_cons_zero, List.set_cons_succ]
  refine wpAnyH_take (i := 4) (oi := { dst := some 7, op := Op.load 24 (Operand.tmp 1), type := 24, pos := _, after := #[], guard := none }) (v := ?_) rfl (by kernel_rfl) (by kernel_rfl) (by kernel_rfl) (fun _ _ _ h => h) (Or.inl ⟨by rfl, ?_⟩) (by assumption) ?_
  rotate_left
  · (intro w hSw; (try dsimp only at hSw); go_simp; try with_reducible rfl)
  simp only [Act.put, List.setIfInBounds_toArray, List.set_cons_zero, List.set_cons_succ]
  refine wpAnyH_ready (rs := [1]) (by kernel_rfl) (by simp) ?_
  refine (AllReadyH.cons (o := { dst := some 4, op := Op.call { callee := Callee.value (Operand.func 13), args := #[Operand.tmp 3, Operand.const (Value.bool false), Operand.const (Value.bool false), Operand.const (Value.int IntKind.i64 2)], argTypes := #[24, 4, 4, 3] }, type := 4, pos := _, after := #[{ on := 0, ground := Ground.data }], guard := none }) rfl (fun K hK => ?_) AllReadyH.nil)
  go_simp
  (go_at_call 13; refine (HP.out _ _ (HT.out.below HS.out.bel)).mono ?_; rintro e w3 ⟨rfl, hb⟩; replace HS := hidIn (HS.out.step hb); clear hb)
  refine hK.out _ _ ?_ (fun hHeld => ?_)
  · ((try dsimp only); exact ⟨HS.out.a.cell 0, HS.out.a.cell 1, HS.out.a.cell 2, HS.out.a.cell 3⟩)
  clear hK K
  try simp only [Act.put, List.setIfInBounds_toArray, List.set_cons_zero, List.set_cons_succ]
  refine wpAnyH_ready (rs := [3]) (by kernel_rfl) (by simp) ?_
  refine (AllReadyH.cons (o := { dst := some 6, op := Op.call { callee := Callee.value (Operand.func 13), args := #[Operand.tmp 5, Operand.const (Value.bool false), Operand.const (Value.bool false), Operand.const (Value.int IntKind.i64 3)], argTypes := #[24, 4, 4, 3] }, type := 4, pos := _, after := #[{ on := 2, ground := Ground.data }, { on := 1, ground := Ground.chain }], guard := none }) rfl (fun K hK => ?_) AllReadyH.nil)
  go_simp
  (go_at_call 13; refine (HP.out _ _ (HT.out.below HS.out.bel)).mono ?_; rintro e w3 ⟨rfl, hb⟩; replace HS := hidIn (HS.out.step hb); clear hb)
  refine hK.out _ _ ?_ (fun hHeld => ?_)
  · ((try dsimp only); exact ⟨HS.out.a.cell 0, HS.out.a.cell 1, HS.out.a.cell 2, HS.out.a.cell 3⟩)
  clear hK K
  try simp only [Act.put, List.setIfInBounds_toArray, List.set_cons_zero, List.set_cons_succ]
  refine wpAnyH_ready (rs := [5]) (by kernel_rfl) (by simp) ?_
  refine (AllReadyH.cons (o := { dst := some 8, op := Op.call { callee := Callee.value (Operand.func 13), args := #[Operand.tmp 7, Operand.const (Value.bool false), Operand.const (Value.bool false), Operand.const (Value.int IntKind.i64 1)], argTypes := #[24, 4, 4, 3] }, type := 4, pos := _, after := #[{ on := 4, ground := Ground.data }, { on := 3, ground := Ground.chain }], guard := none }) rfl (fun K hK => ?_) AllReadyH.nil)
  go_simp
  (go_at_call 13; refine (HP.out _ _ (HT.out.below HS.out.bel)).mono ?_; rintro e w3 ⟨rfl, hb⟩; replace HS := hidIn (HS.out.step hb); clear hb)
  refine hK.out _ _ ?_ (fun hHeld => ?_)
  · ((try dsimp only); exact ⟨HS.out.a.cell 0, HS.out.a.cell 1, HS.out.a.cell 2, HS.out.a.cell 3⟩)
  clear hK K
  try simp only [Act.put, List.setIfInBounds_toArray, List.set_cons_zero, List.set_cons_succ]
  refine wpAnyH_take (i := 6) (oi := { dst := some 9, op := Op.build 26 #[(0, Operand.tmp 4), (1, Operand.tmp 6), (2, Operand.tmp 8)], type := 26, pos := _, after := #[{ on := 1, ground := Ground.data }, { on := 3, ground := Ground.data }, { on := 5, ground := Ground.data }], guard := none }) (v := ?_) rfl (by kernel_rfl) (by kernel_rfl) (by kernel_rfl) (fun _ _ _ h => h) (Or.inl ⟨by rfl, ?_⟩) (by assumption) ?_
  rotate_left
  · (intro w hSw; (try dsimp only at hSw); go_simp; try with_reducible rfl)
  simp only [Act.put, List.setIfInBounds_toArray, List.set_cons_zero, List.set_cons_succ]
  refine wpAnyH_ready (rs := [7]) (by kernel_rfl) (by simp) ?_
  refine (AllReadyH.cons (o := { dst := none, op := Op.store 26 (Operand.tmp 2) (Operand.tmp 9), type := 0, pos := _, after := #[{ on := 6, ground := Ground.data }, { on := 5, ground := Ground.chain }, { on := 0, ground := Ground.phase }, { on := 1, ground := Ground.phase }, { on := 2, ground := Ground.phase }, { on := 3, ground := Ground.phase }, { on := 4, ground := Ground.phase }, { on := 5, ground := Ground.phase }, { on := 6, ground := Ground.phase }], guard := none }) rfl (fun K hK => ?_) AllReadyH.nil)
  (have hd := HS.out.r.cell; have hf := HS.out.r.frozen; have hlt := HS.out.r.lt)
  go_simp
  skip
  refine hK.out _ _ ?_ (fun hHeld => ?_)
  · ((try dsimp only); exact ⟨(HS.out.keep _ _ _).cell 0, (HS.out.keep _ _ _).cell 1, (HS.out.keep _ _ _).cell 2, (HS.out.keep _ _ _).cell 3⟩)
  clear hK K
  try simp only [Act.put, List.setIfInBounds_toArray, List.set_cons_zero, List.set_cons_succ]
  refine wpAnyH_done (by kernel_rfl) ?_ _
  (go_wp2; refine bodyPost_ret (v := .agg #[.bool (alF ap xn false false 2), .bool (alF ap xn false false 3), .bool (alF ap xn false false 1)]) (by simp [results, Tryd.results9, go_sem, hd, hf, hlt]) rfl ⟨rfl, HS.out.end3 _ _ _⟩)
set_option maxRecDepth 100000 in
set_option maxHeartbeats 4000000 in
theorem rrights_any (ap bt : Int) (ng xn : Bool) (w : World) : Calls Tryd.prog 10 #[.agg #[.int .i64 ap, .int .u32 bt, .bool ng, .bool xn]] w fun e w' => e = .returned (.agg #[.bool (alF ap xn false false 2), .bool (alF ap xn false false 3), .bool (alF ap xn false false 1)]) ∧ Below w.heap.size w w' := by
  have HP : Hid (∀ (k : Int) w, Calls Tryd.prog 17 #[.agg #[.int .i64 ap, .int .u32 bt, .bool ng, .bool xn], .bool false, .bool false, .int .i64 k] w fun e w' => e = .returned (.bool (alF ap xn false false k)) ∧ Below w.heap.size w w') := fun k w => rallows_any ap bt ng xn false false k w
  have HS := hidIn (QR.new w ap bt ng xn).drew
  go_enter Tryd.func10, Tryd.ntmps10
  go_wp2
  refine wp_region_held_drew (S := fun w' => w'.cell? ⟨w.heap.size, 0, none⟩ = some (.int .i64 ap) ∧ w'.cell? ⟨w.heap.size, 1, none⟩ = some (.int .u32 bt) ∧ w'.cell? ⟨w.heap.size, 2, none⟩ = some (.bool ng) ∧ w'.cell? ⟨w.heap.size, 3, none⟩ = some (.bool xn)) (by kernel_rfl) (by (try dsimp only); exact ⟨HS.out.a.cell 0, HS.out.a.cell 1, HS.out.a.cell 2, HS.out.a.cell 3⟩) (fun hHeld => ?_)
  refine wpAnyH_take (i := 0) (oi := { dst := some 3, op := Op.load 24 (Operand.tmp 1), type := 24, pos := _, after := #[], guard := none }) (v := ?_) rfl (by kernel_rfl) (by kernel_rfl) (by kernel_rfl) (fun _ _ _ h => h) (Or.inl ⟨by rfl, ?_⟩) (by assumption) ?_
  rotate_left
  · (intro w hSw; (try dsimp only at hSw); go_simp; try with_reducible rfl)
  simp only [Act.put, List.setIfInBounds_toArray, List.set_cons_zero, List.set_cons_succ]
  refine wpAnyH_take (i := 2) (oi := { dst := some 5, op := Op.load 24 (Operand.tmp 1), type := 24, pos := _, after := #[], guard := none }) (v := ?_) rfl (by kernel_rfl) (by kernel_rfl) (by kernel_rfl) (fun _ _ _ h => h) (Or.inl ⟨by rfl, ?_⟩) (by assumption) ?_
  rotate_left
  · (intro w hSw; (try dsimp only at hSw); go_simp; try with_reducible rfl)
  simp only [Act.put, List.setIfInBounds_toArray, List.set_cons_zero, List.set_cons_succ]
  refine wpAnyH_take (i := 4) (oi := { dst := some 7, op := Op.load 24 (Operand.tmp 1), type := 24, pos := _, after := #[], guard := none }) (v := ?_) rfl (by kernel_rfl) (by kernel_rfl) (by kernel_rfl) (fun _ _ _ h => h) (Or.inl ⟨by rfl, ?_⟩) (by assumption) ?_
  rotate_left
  · (intro w hSw; (try dsimp only at hSw); go_simp; try with_reducible rfl)
  simp only [Act.put, List.setIfInBounds_toArray, List.set_cons_zero, List.set_cons_succ]
  refine wpAnyH_ready (rs := [1]) (by kernel_rfl) (by simp) ?_
  refine (AllReadyH.cons (o := { dst := some 4, op := Op.call { callee := Callee.value (Operand.func 17), args := #[Operand.tmp 3, Operand.const (Value.bool false), Operand.const (Value.bool false), Operand.const (Value.int IntKind.i64 2)], argTypes := #[24, 4, 4, 3] }, type := 4, pos := _, after := #[{ on := 0, ground := Ground.data }], guard := none }) rfl (fun K hK => ?_) AllReadyH.nil)
  go_simp
  (go_at_call 17; refine (HP.out _ _).mono ?_; rintro e w3 ⟨rfl, hb⟩; replace HS := hidIn (HS.out.step hb); clear hb)
  refine hK.out _ _ ?_ (fun hHeld => ?_)
  · ((try dsimp only); exact ⟨HS.out.a.cell 0, HS.out.a.cell 1, HS.out.a.cell 2, HS.out.a.cell 3⟩)
  clear hK K
  try simp only [Act.put, List.setIfInBounds_toArray, List.set_cons_zero, List.set_cons_succ]
  refine wpAnyH_ready (rs := [3]) (by kernel_rfl) (by simp) ?_
  refine (AllReadyH.cons (o := { dst := some 6, op := Op.call { callee := Callee.value (Operand.func 17), args := #[Operand.tmp 5, Operand.const (Value.bool false), Operand.const (Value.bool false), Operand.const (Value.int IntKind.i64 3)], argTypes := #[24, 4, 4, 3] }, type := 4, pos := _, after := #[{ on := 2, ground := Ground.data }, { on := 1, ground := Ground.chain }], guard := none }) rfl (fun K hK => ?_) AllReadyH.nil)
  go_simp
  (go_at_call 17; refine (HP.out _ _).mono ?_; rintro e w3 ⟨rfl, hb⟩; replace HS := hidIn (HS.out.step hb); clear hb)
  refine hK.out _ _ ?_ (fun hHeld => ?_)
  · ((try dsimp only); exact ⟨HS.out.a.cell 0, HS.out.a.cell 1, HS.out.a.cell 2, HS.out.a.cell 3⟩)
  clear hK K
  try simp only [Act.put, List.setIfInBounds_toArray, List.set_cons_zero, List.set_cons_succ]
  refine wpAnyH_ready (rs := [5]) (by kernel_rfl) (by simp) ?_
  refine (AllReadyH.cons (o := { dst := some 8, op := Op.call { callee := Callee.value (Operand.func 17), args := #[Operand.tmp 7, Operand.const (Value.bool false), Operand.const (Value.bool false), Operand.const (Value.int IntKind.i64 1)], argTypes := #[24, 4, 4, 3] }, type := 4, pos := _, after := #[{ on := 4, ground := Ground.data }, { on := 3, ground := Ground.chain }], guard := none }) rfl (fun K hK => ?_) AllReadyH.nil)
  go_simp
  (go_at_call 17; refine (HP.out _ _).mono ?_; rintro e w3 ⟨rfl, hb⟩; replace HS := hidIn (HS.out.step hb); clear hb)
  refine hK.out _ _ ?_ (fun hHeld => ?_)
  · ((try dsimp only); exact ⟨HS.out.a.cell 0, HS.out.a.cell 1, HS.out.a.cell 2, HS.out.a.cell 3⟩)
  clear hK K
  try simp only [Act.put, List.setIfInBounds_toArray, List.set_cons_zero, List.set_cons_succ]
  refine wpAnyH_take (i := 6) (oi := { dst := some 9, op := Op.build 26 #[(0, Operand.tmp 4), (1, Operand.tmp 6), (2, Operand.tmp 8)], type := 26, pos := _, after := #[{ on := 1, ground := Ground.data }, { on := 3, ground := Ground.data }, { on := 5, ground := Ground.data }], guard := none }) (v := ?_) rfl (by kernel_rfl) (by kernel_rfl) (by kernel_rfl) (fun _ _ _ h => h) (Or.inl ⟨by rfl, ?_⟩) (by assumption) ?_
  rotate_left
  · (intro w hSw; (try dsimp only at hSw); go_simp; try with_reducible rfl)
  simp only [Act.put, List.setIfInBounds_toArray, List.set_cons_zero, List.set_cons_succ]
  refine wpAnyH_ready (rs := [7]) (by kernel_rfl) (by simp) ?_
  refine (AllReadyH.cons (o := { dst := none, op := Op.store 26 (Operand.tmp 2) (Operand.tmp 9), type := 0, pos := _, after := #[{ on := 6, ground := Ground.data }, { on := 5, ground := Ground.chain }, { on := 0, ground := Ground.phase }, { on := 1, ground := Ground.phase }, { on := 2, ground := Ground.phase }, { on := 3, ground := Ground.phase }, { on := 4, ground := Ground.phase }, { on := 5, ground := Ground.phase }, { on := 6, ground := Ground.phase }], guard := none }) rfl (fun K hK => ?_) AllReadyH.nil)
  (have hd := HS.out.r.cell; have hf := HS.out.r.frozen; have hlt := HS.out.r.lt)
  go_simp
  skip
  refine hK.out _ _ ?_ (fun hHeld => ?_)
  · ((try dsimp only); exact ⟨(HS.out.keep _ _ _).cell 0, (HS.out.keep _ _ _).cell 1, (HS.out.keep _ _ _).cell 2, (HS.out.keep _ _ _).cell 3⟩)
  clear hK K
  try simp only [Act.put, List.setIfInBounds_toArray, List.set_cons_zero, List.set_cons_succ]
  refine wpAnyH_done (by kernel_rfl) ?_ _
  (go_wp2; refine bodyPost_ret (v := .agg #[.bool (alF ap xn false false 2), .bool (alF ap xn false false 3), .bool (alF ap xn false false 1)]) (by simp [results, Tryd.results10, go_sem, hd, hf, hlt]) rfl ⟨rfl, HS.out.end3 _ _ _⟩)
set_option maxRecDepth 100000 in
set_option maxHeartbeats 4000000 in
theorem rleafU_any (r s x : Bool) (w : World) : Calls Tryd.prog 8 #[.agg #[.bool r, .bool s, .bool x]] w fun e w' => e = .returned (.tuple #[.agg #[.int .i64 (leA r s x), .int .u32 (leB r s x), .bool (leG r s x), .bool (leX r s x)], .int .i64 (leE r s x)]) ∧ Below w.heap.size w w' := by
  cases r <;> cases s <;> cases x
  all_goals
    go_enter Tryd.func8, Tryd.ntmps8
    go_wp2
    first
    | refine bodyPost_ret (v := .tuple #[.agg #[.int .i64 0, .int .u32 0, .bool false, .bool false], .int .i64 71]) (by simp [results, Tryd.results8, go_sem]) rfl ⟨rfl, (by (repeat (first | apply below_drew | refine Below.setCell ?_ (by simp) _ | refine Below.alloc ?_ (by simp; try omega) _)); exact Below.refl _ _)⟩
    | refine bodyPost_ret (v := .tuple #[.agg #[.int .i64 1, .int .u32 14, .bool true, .bool true], .int .i64 0]) (by simp [results, Tryd.results8, go_sem]) rfl ⟨rfl, (by (repeat (first | apply below_drew | refine Below.setCell ?_ (by simp) _ | refine Below.alloc ?_ (by simp; try omega) _)); exact Below.refl _ _)⟩
    | refine bodyPost_ret (v := .tuple #[.agg #[.int .i64 2, .int .u32 14, .bool true, .bool true], .int .i64 0]) (by simp [results, Tryd.results8, go_sem]) rfl ⟨rfl, (by (repeat (first | apply below_drew | refine Below.setCell ?_ (by simp) _ | refine Below.alloc ?_ (by simp; try omega) _)); exact Below.refl _ _)⟩
    | refine bodyPost_ret (v := .tuple #[.agg #[.int .i64 2, .int .u32 14, .bool true, .bool false], .int .i64 0]) (by simp [results, Tryd.results8, go_sem]) rfl ⟨rfl, (by (repeat (first | apply below_drew | refine Below.setCell ?_ (by simp) _ | refine Below.alloc ?_ (by simp; try omega) _)); exact Below.refl _ _)⟩
    | refine bodyPost_ret (v := .tuple #[.agg #[.int .i64 3, .int .u32 14, .bool true, .bool true], .int .i64 0]) (by simp [results, Tryd.results8, go_sem]) rfl ⟨rfl, (by (repeat (first | apply below_drew | refine Below.setCell ?_ (by simp) _ | refine Below.alloc ?_ (by simp; try omega) _)); exact Below.refl _ _)⟩
    | refine bodyPost_ret (v := .tuple #[.agg #[.int .i64 3, .int .u32 14, .bool true, .bool false], .int .i64 0]) (by simp [results, Tryd.results8, go_sem]) rfl ⟨rfl, (by (repeat (first | apply below_drew | refine Below.setCell ?_ (by simp) _ | refine Below.alloc ?_ (by simp; try omega) _)); exact Below.refl _ _)⟩
end Go.Proofs.YtmmocnejacflmabDoor
