import Derived.Test.YtnjlajjjcmhfgaaGreatDoorQA08
namespace Go.Proofs.YtnjlajjjcmhfgaaGreatDoor
open Go.RowKit
set_option linter.unusedVariables false
set_option linter.unusedSimpArgs false

def sb (e : Ent) : Bool := if e.kind = 2 ∨ e.kind = 3 then (D1 (E e)).same e else if e.kind = 4 ∨ e.kind = 5 then (D2 (E e)).same e else false
def szK (k : Int) : Int := if k = 2 then 3 else if k = 3 then 4 else if k = 4 then 2 else if k = 5 then 1 else 0
def kdS (s : Int) : Int := if s = 1 then 5 else if s = 2 then 4 else if s = 3 then 2 else if s = 4 then 3 else 0
def tZ : Tra := ⟨0, 0, 0, 0, 0, 0, false, false⟩
def domOf (e : Ent) (d : Int) : Int := if e.kind = 2 ∨ e.kind = 3 then e.dom else d
def trF (e : Ent) (d va : Int) : Tra := if sb e = true ∧ 0 ≤ domOf e d ∧ domOf e d ≤ 15 then ⟨szK e.kind, va / byN (szK e.kind) * byN (szK e.kind), e.base, domOf e d, e.ap, e.bits, e.ng, e.xn⟩ else tZ
def enF (t : Tra) : Ent := ⟨kdS t.size, t.pa, if t.size = 3 then t.dom else 0, false, t.ap, t.bits, t.ng, t.xn⟩
def riF (t : Tra) : Bool := (decide (1 ≤ t.size) && decide (t.size ≤ 4)) && (trF (enF t) t.dom t.va).same t
theorem sb_kind {e : Ent} (h : sb e = true) : e.kind = 2 ∨ e.kind = 3 ∨ e.kind = 4 ∨ e.kind = 5 := by
  unfold sb at h
  split at h
  · omega
  · split at h
    · omega
    · cases h
set_option maxRecDepth 100000 in
set_option maxHeartbeats 4000000 in
theorem says_2 (k2 k3 : Int) (k4 : Bool) (k5 k6 : Int) (k7 k8 : Bool) (v : Int) (d : Ent) (S : Bool) (W : World) (ht : TE W)
    (HE : ∀ ww, TE ww → Calls Tryz.prog 141 #[.agg #[.int .i64 2, .int .u64 k2, .int .i64 k3, .bool k4, .int .i64 k5, .int .u32 k6, .bool k7, .bool k8]] ww fun r w' => r = .returned (.int .u32 v) ∧ Below ww.heap.size ww w')
    (HD : ∀ ww, TE ww → Calls Tryz.prog 100 #[.int .u32 v] ww fun r w' => r = .returned (.agg #[.int .i64 d.kind, .int .u64 d.base, .int .i64 d.dom, .bool d.ns, .int .i64 d.ap, .int .u32 d.bits, .bool d.ng, .bool d.xn]) ∧ Below ww.heap.size ww w')
    (heq : ∀ w, (Op.equalIn 10000 140 (.agg #[.int .i64 d.kind, .int .u64 d.base, .int .i64 d.dom, .bool d.ns, .int .i64 d.ap, .int .u32 d.bits, .bool d.ng, .bool d.xn]) (.agg #[.int .i64 2, .int .u64 k2, .int .i64 k3, .bool k4, .int .i64 k5, .int .u32 k6, .bool k7, .bool k8])).run Tryz.prog w = .ok S w) :
    Calls Tryz.prog 102 #[.agg #[.int .i64 2, .int .u64 k2, .int .i64 k3, .bool k4, .int .i64 k5, .int .u32 k6, .bool k7, .bool k8]] W fun r w' => r = .returned (.bool S) ∧ Below W.heap.size W w' := by
  have hx1 := (Bl.new W 140 [.int .i64 2, .int .u64 k2, .int .i64 k3, .bool k4, .int .i64 k5, .int .u32 k6, .bool k7, .bool k8]).drew
  have HT : Hid (TE W) := ht
  clear ht
  have HB : Hid (∀ o, Below W.heap.size W (W.alloc o).drew) := fun o => below_drew ((Below.refl _ _).alloc (Nat.le_refl _) o)
  go_enter Tryz.func102, Tryz.ntmps102
  go_wp2
  refine wp_region_held_drew (S := fun w' => w'.cell? ⟨W.heap.size, 0, none⟩ = some (.int .i64 2) ∧ w'.cell? ⟨W.heap.size, 1, none⟩ = some (.int .u64 k2) ∧ w'.cell? ⟨W.heap.size, 2, none⟩ = some (.int .i64 k3) ∧ w'.cell? ⟨W.heap.size, 3, none⟩ = some (.bool k4) ∧ w'.cell? ⟨W.heap.size, 4, none⟩ = some (.int .i64 k5) ∧ w'.cell? ⟨W.heap.size, 5, none⟩ = some (.int .u32 k6) ∧ w'.cell? ⟨W.heap.size, 6, none⟩ = some (.bool k7) ∧ w'.cell? ⟨W.heap.size, 7, none⟩ = some (.bool k8)) (by kernel_rfl) (by (try dsimp only); exact ⟨hx1.cell 0, hx1.cell 1, hx1.cell 2, hx1.cell 3, hx1.cell 4, hx1.cell 5, hx1.cell 6, hx1.cell 7⟩) (fun hHeld => ?_)
  refine wpAnyH_take (i := 0) (oi := { dst := some 8, op := Op.load 140 (Operand.tmp 1), type := 140, pos := _, after := #[], guard := none }) (v := ?_) rfl (by kernel_rfl) (by kernel_rfl) (by kernel_rfl) (fun _ _ _ h => h) (Or.inl ⟨by rfl, ?_⟩) (by assumption) ?_
  rotate_left
  · (intro w hSw; (try dsimp only at hSw); go_simp; try with_reducible rfl)
  simp only [Act.put, List.setIfInBounds_toArray, List.set_cons_zero, List.set_cons_succ]
  refine wpAnyH_take (i := 3) (oi := { dst := some 11, op := Op.load 140 (Operand.tmp 1), type := 140, pos := _, after := #[], guard := none }) (v := ?_) rfl (by kernel_rfl) (by kernel_rfl) (by kernel_rfl) (fun _ _ _ h => h) (Or.inl ⟨by rfl, ?_⟩) (by assumption) ?_
  rotate_left
  · (intro w hSw; (try dsimp only at hSw); go_simp; try with_reducible rfl)
  simp only [Act.put, List.setIfInBounds_toArray, List.set_cons_zero, List.set_cons_succ]
  refine wpAnyH_ready (rs := [1]) (by kernel_rfl) (by simp) ?_
  refine AllReadyH.cons (o := { dst := some 9, op := Op.call { callee := Callee.value (Operand.func 141), args := #[Operand.tmp 8], argTypes := #[140] }, type := 32, pos := _, after := #[{ on := 0, ground := Ground.data }], guard := none }) rfl (fun K hK => ?_) AllReadyH.nil
  go_simp
  (go_at_call 141; refine (HE _ (HT.out.below (HB.out _))).mono ?_; rintro e w2 ⟨rfl, hb⟩; have hx2 := hx1.below hb; have HB2 : Hid (Below W.heap.size W w2) := Below.step (HB.out _) hb; clear hb; go_wp2_with fail)
  refine hK.out _ _ ?_ (fun hHeld => ?_)
  · ((try dsimp only); (first | (exact ⟨hx3.cell 0, hx3.cell 1, hx3.cell 2, hx3.cell 3, hx3.cell 4, hx3.cell 5, hx3.cell 6, hx3.cell 7⟩) | (exact ⟨hx2.cell 0, hx2.cell 1, hx2.cell 2, hx2.cell 3, hx2.cell 4, hx2.cell 5, hx2.cell 6, hx2.cell 7⟩)))
  clear hK K
  try simp only [Act.put, List.setIfInBounds_toArray, List.set_cons_zero, List.set_cons_succ]
  refine wpAnyH_ready (rs := [2]) (by kernel_rfl) (by simp) ?_
  refine AllReadyH.cons (o := { dst := some 10, op := Op.call { callee := Callee.value (Operand.func 100), args := #[Operand.tmp 9], argTypes := #[32] }, type := 140, pos := _, after := #[{ on := 1, ground := Ground.data }, { on := 1, ground := Ground.chain }], guard := none }) rfl (fun K hK => ?_) AllReadyH.nil
  go_simp
  (go_at_call 100; refine (HD _ (HT.out.below HB2.out)).mono ?_; rintro e w3 ⟨rfl, hb⟩; have hx3 := hx2.below hb; have HB3 : Hid (Below W.heap.size W w3) := Below.step HB2.out hb; clear hb; go_wp2_with fail)
  refine hK.out _ _ ?_ (fun hHeld => ?_)
  · ((try dsimp only); (first | (exact ⟨hx3.cell 0, hx3.cell 1, hx3.cell 2, hx3.cell 3, hx3.cell 4, hx3.cell 5, hx3.cell 6, hx3.cell 7⟩) | (exact ⟨hx2.cell 0, hx2.cell 1, hx2.cell 2, hx2.cell 3, hx2.cell 4, hx2.cell 5, hx2.cell 6, hx2.cell 7⟩)))
  clear hK K
  try simp only [Act.put, List.setIfInBounds_toArray, List.set_cons_zero, List.set_cons_succ]
  refine wpAnyH_take (i := 4) (oi := { dst := some 12, op := Op.binOp BinOp.eql 140 (Operand.tmp 10) (Operand.tmp 11) 140, type := 4, pos := _, after := #[{ on := 2, ground := Ground.data }, { on := 3, ground := Ground.data }], guard := none }) (v := ?_) rfl (by kernel_rfl) (by kernel_rfl) (by kernel_rfl) (fun _ _ _ h => h) (Or.inl ⟨by rfl, ?_⟩) (by assumption) ?_
  rotate_left
  · (intro w hSw; (try dsimp only at hSw); go_simp; try with_reducible rfl)
  simp only [Act.put, List.setIfInBounds_toArray, List.set_cons_zero, List.set_cons_succ]
  refine wpAnyH_take (i := 5) (oi := { dst := some 2, op := Op.assign (Operand.tmp 12), type := 4, pos := _, after := #[{ on := 4, ground := Ground.data }, { on := 2, ground := Ground.chain }, { on := 0, ground := Ground.phase }, { on := 1, ground := Ground.phase }, { on := 2, ground := Ground.phase }, { on := 3, ground := Ground.phase }, { on := 4, ground := Ground.phase }], guard := none }) (v := ?_) rfl (by kernel_rfl) (by kernel_rfl) (by kernel_rfl) (fun _ _ _ h => h) (Or.inl ⟨by rfl, ?_⟩) (by assumption) ?_
  rotate_left
  · (intro w hSw; (try dsimp only at hSw); go_simp; try with_reducible rfl)
  simp only [Act.put, List.setIfInBounds_toArray, List.set_cons_zero, List.set_cons_succ]
  refine wpAnyH_done (by kernel_rfl) ?_ _
  go_wp2
  go_ret
  exact ⟨rfl, HB3.out⟩
set_option maxRecDepth 100000 in
set_option maxHeartbeats 4000000 in
theorem says_3 (k2 k3 : Int) (k4 : Bool) (k5 k6 : Int) (k7 k8 : Bool) (v : Int) (d : Ent) (S : Bool) (W : World) (ht : TE W)
    (HE : ∀ ww, TE ww → Calls Tryz.prog 141 #[.agg #[.int .i64 3, .int .u64 k2, .int .i64 k3, .bool k4, .int .i64 k5, .int .u32 k6, .bool k7, .bool k8]] ww fun r w' => r = .returned (.int .u32 v) ∧ Below ww.heap.size ww w')
    (HD : ∀ ww, TE ww → Calls Tryz.prog 100 #[.int .u32 v] ww fun r w' => r = .returned (.agg #[.int .i64 d.kind, .int .u64 d.base, .int .i64 d.dom, .bool d.ns, .int .i64 d.ap, .int .u32 d.bits, .bool d.ng, .bool d.xn]) ∧ Below ww.heap.size ww w')
    (heq : ∀ w, (Op.equalIn 10000 140 (.agg #[.int .i64 d.kind, .int .u64 d.base, .int .i64 d.dom, .bool d.ns, .int .i64 d.ap, .int .u32 d.bits, .bool d.ng, .bool d.xn]) (.agg #[.int .i64 3, .int .u64 k2, .int .i64 k3, .bool k4, .int .i64 k5, .int .u32 k6, .bool k7, .bool k8])).run Tryz.prog w = .ok S w) :
    Calls Tryz.prog 102 #[.agg #[.int .i64 3, .int .u64 k2, .int .i64 k3, .bool k4, .int .i64 k5, .int .u32 k6, .bool k7, .bool k8]] W fun r w' => r = .returned (.bool S) ∧ Below W.heap.size W w' := by
  have hx1 := (Bl.new W 140 [.int .i64 3, .int .u64 k2, .int .i64 k3, .bool k4, .int .i64 k5, .int .u32 k6, .bool k7, .bool k8]).drew
  have HT : Hid (TE W) := ht
  clear ht
  have HB : Hid (∀ o, Below W.heap.size W (W.alloc o).drew) := fun o => below_drew ((Below.refl _ _).alloc (Nat.le_refl _) o)
  go_enter Tryz.func102, Tryz.ntmps102
  go_wp2
  refine wp_region_held_drew (S := fun w' => w'.cell? ⟨W.heap.size, 0, none⟩ = some (.int .i64 3) ∧ w'.cell? ⟨W.heap.size, 1, none⟩ = some (.int .u64 k2) ∧ w'.cell? ⟨W.heap.size, 2, none⟩ = some (.int .i64 k3) ∧ w'.cell? ⟨W.heap.size, 3, none⟩ = some (.bool k4) ∧ w'.cell? ⟨W.heap.size, 4, none⟩ = some (.int .i64 k5) ∧ w'.cell? ⟨W.heap.size, 5, none⟩ = some (.int .u32 k6) ∧ w'.cell? ⟨W.heap.size, 6, none⟩ = some (.bool k7) ∧ w'.cell? ⟨W.heap.size, 7, none⟩ = some (.bool k8)) (by kernel_rfl) (by (try dsimp only); exact ⟨hx1.cell 0, hx1.cell 1, hx1.cell 2, hx1.cell 3, hx1.cell 4, hx1.cell 5, hx1.cell 6, hx1.cell 7⟩) (fun hHeld => ?_)
  refine wpAnyH_take (i := 0) (oi := { dst := some 8, op := Op.load 140 (Operand.tmp 1), type := 140, pos := _, after := #[], guard := none }) (v := ?_) rfl (by kernel_rfl) (by kernel_rfl) (by kernel_rfl) (fun _ _ _ h => h) (Or.inl ⟨by rfl, ?_⟩) (by assumption) ?_
  rotate_left
  · (intro w hSw; (try dsimp only at hSw); go_simp; try with_reducible rfl)
  simp only [Act.put, List.setIfInBounds_toArray, List.set_cons_zero, List.set_cons_succ]
  refine wpAnyH_take (i := 3) (oi := { dst := some 11, op := Op.load 140 (Operand.tmp 1), type := 140, pos := _, after := #[], guard := none }) (v := ?_) rfl (by kernel_rfl) (by kernel_rfl) (by kernel_rfl) (fun _ _ _ h => h) (Or.inl ⟨by rfl, ?_⟩) (by assumption) ?_
  rotate_left
  · (intro w hSw; (try dsimp only at hSw); go_simp; try with_reducible rfl)
  simp only [Act.put, List.setIfInBounds_toArray, List.set_cons_zero, List.set_cons_succ]
  refine wpAnyH_ready (rs := [1]) (by kernel_rfl) (by simp) ?_
  refine AllReadyH.cons (o := { dst := some 9, op := Op.call { callee := Callee.value (Operand.func 141), args := #[Operand.tmp 8], argTypes := #[140] }, type := 32, pos := _, after := #[{ on := 0, ground := Ground.data }], guard := none }) rfl (fun K hK => ?_) AllReadyH.nil
  go_simp
  (go_at_call 141; refine (HE _ (HT.out.below (HB.out _))).mono ?_; rintro e w2 ⟨rfl, hb⟩; have hx2 := hx1.below hb; have HB2 : Hid (Below W.heap.size W w2) := Below.step (HB.out _) hb; clear hb; go_wp2_with fail)
  refine hK.out _ _ ?_ (fun hHeld => ?_)
  · ((try dsimp only); (first | (exact ⟨hx3.cell 0, hx3.cell 1, hx3.cell 2, hx3.cell 3, hx3.cell 4, hx3.cell 5, hx3.cell 6, hx3.cell 7⟩) | (exact ⟨hx2.cell 0, hx2.cell 1, hx2.cell 2, hx2.cell 3, hx2.cell 4, hx2.cell 5, hx2.cell 6, hx2.cell 7⟩)))
  clear hK K
  try simp only [Act.put, List.setIfInBounds_toArray, List.set_cons_zero, List.set_cons_succ]
  refine wpAnyH_ready (rs := [2]) (by kernel_rfl) (by simp) ?_
  refine AllReadyH.cons (o := { dst := some 10, op := Op.call { callee := Callee.value (Operand.func 100), args := #[Operand.tmp 9], argTypes := #[32] }, type := 140, pos := _, after := #[{ on := 1, ground := Ground.data }, { on := 1, ground := Ground.chain }], guard := none }) rfl (fun K hK => ?_) AllReadyH.nil
  go_simp
  (go_at_call 100; refine (HD _ (HT.out.below HB2.out)).mono ?_; rintro e w3 ⟨rfl, hb⟩; have hx3 := hx2.below hb; have HB3 : Hid (Below W.heap.size W w3) := Below.step HB2.out hb; clear hb; go_wp2_with fail)
  refine hK.out _ _ ?_ (fun hHeld => ?_)
  · ((try dsimp only); (first | (exact ⟨hx3.cell 0, hx3.cell 1, hx3.cell 2, hx3.cell 3, hx3.cell 4, hx3.cell 5, hx3.cell 6, hx3.cell 7⟩) | (exact ⟨hx2.cell 0, hx2.cell 1, hx2.cell 2, hx2.cell 3, hx2.cell 4, hx2.cell 5, hx2.cell 6, hx2.cell 7⟩)))
  clear hK K
  try simp only [Act.put, List.setIfInBounds_toArray, List.set_cons_zero, List.set_cons_succ]
  refine wpAnyH_take (i := 4) (oi := { dst := some 12, op := Op.binOp BinOp.eql 140 (Operand.tmp 10) (Operand.tmp 11) 140, type := 4, pos := _, after := #[{ on := 2, ground := Ground.data }, { on := 3, ground := Ground.data }], guard := none }) (v := ?_) rfl (by kernel_rfl) (by kernel_rfl) (by kernel_rfl) (fun _ _ _ h => h) (Or.inl ⟨by rfl, ?_⟩) (by assumption) ?_
  rotate_left
  · (intro w hSw; (try dsimp only at hSw); go_simp; try with_reducible rfl)
  simp only [Act.put, List.setIfInBounds_toArray, List.set_cons_zero, List.set_cons_succ]
  refine wpAnyH_take (i := 5) (oi := { dst := some 2, op := Op.assign (Operand.tmp 12), type := 4, pos := _, after := #[{ on := 4, ground := Ground.data }, { on := 2, ground := Ground.chain }, { on := 0, ground := Ground.phase }, { on := 1, ground := Ground.phase }, { on := 2, ground := Ground.phase }, { on := 3, ground := Ground.phase }, { on := 4, ground := Ground.phase }], guard := none }) (v := ?_) rfl (by kernel_rfl) (by kernel_rfl) (by kernel_rfl) (fun _ _ _ h => h) (Or.inl ⟨by rfl, ?_⟩) (by assumption) ?_
  rotate_left
  · (intro w hSw; (try dsimp only at hSw); go_simp; try with_reducible rfl)
  simp only [Act.put, List.setIfInBounds_toArray, List.set_cons_zero, List.set_cons_succ]
  refine wpAnyH_done (by kernel_rfl) ?_ _
  go_wp2
  go_ret
  exact ⟨rfl, HB3.out⟩
set_option maxRecDepth 100000 in
set_option maxHeartbeats 4000000 in
theorem says_4 (k2 k3 : Int) (k4 : Bool) (k5 k6 : Int) (k7 k8 : Bool) (v : Int) (d : Ent) (S : Bool) (W : World) (ht : TE W)
    (HE : ∀ ww, TE ww → Calls Tryz.prog 141 #[.agg #[.int .i64 4, .int .u64 k2, .int .i64 k3, .bool k4, .int .i64 k5, .int .u32 k6, .bool k7, .bool k8]] ww fun r w' => r = .returned (.int .u32 v) ∧ Below ww.heap.size ww w')
    (HD : ∀ ww, TE ww → Calls Tryz.prog 101 #[.int .u32 v] ww fun r w' => r = .returned (.agg #[.int .i64 d.kind, .int .u64 d.base, .int .i64 d.dom, .bool d.ns, .int .i64 d.ap, .int .u32 d.bits, .bool d.ng, .bool d.xn]) ∧ Below ww.heap.size ww w')
    (heq : ∀ w, (Op.equalIn 10000 140 (.agg #[.int .i64 d.kind, .int .u64 d.base, .int .i64 d.dom, .bool d.ns, .int .i64 d.ap, .int .u32 d.bits, .bool d.ng, .bool d.xn]) (.agg #[.int .i64 4, .int .u64 k2, .int .i64 k3, .bool k4, .int .i64 k5, .int .u32 k6, .bool k7, .bool k8])).run Tryz.prog w = .ok S w) :
    Calls Tryz.prog 102 #[.agg #[.int .i64 4, .int .u64 k2, .int .i64 k3, .bool k4, .int .i64 k5, .int .u32 k6, .bool k7, .bool k8]] W fun r w' => r = .returned (.bool S) ∧ Below W.heap.size W w' := by
  have hx1 := (Bl.new W 140 [.int .i64 4, .int .u64 k2, .int .i64 k3, .bool k4, .int .i64 k5, .int .u32 k6, .bool k7, .bool k8]).drew
  have HT : Hid (TE W) := ht
  clear ht
  have HB : Hid (∀ o, Below W.heap.size W (W.alloc o).drew) := fun o => below_drew ((Below.refl _ _).alloc (Nat.le_refl _) o)
  go_enter Tryz.func102, Tryz.ntmps102
  go_wp2
  refine wp_region_held_drew (S := fun w' => w'.cell? ⟨W.heap.size, 0, none⟩ = some (.int .i64 4) ∧ w'.cell? ⟨W.heap.size, 1, none⟩ = some (.int .u64 k2) ∧ w'.cell? ⟨W.heap.size, 2, none⟩ = some (.int .i64 k3) ∧ w'.cell? ⟨W.heap.size, 3, none⟩ = some (.bool k4) ∧ w'.cell? ⟨W.heap.size, 4, none⟩ = some (.int .i64 k5) ∧ w'.cell? ⟨W.heap.size, 5, none⟩ = some (.int .u32 k6) ∧ w'.cell? ⟨W.heap.size, 6, none⟩ = some (.bool k7) ∧ w'.cell? ⟨W.heap.size, 7, none⟩ = some (.bool k8)) (by kernel_rfl) (by (try dsimp only); exact ⟨hx1.cell 0, hx1.cell 1, hx1.cell 2, hx1.cell 3, hx1.cell 4, hx1.cell 5, hx1.cell 6, hx1.cell 7⟩) (fun hHeld => ?_)
  refine wpAnyH_take (i := 0) (oi := { dst := some 16, op := Op.load 140 (Operand.tmp 1), type := 140, pos := _, after := #[], guard := none }) (v := ?_) rfl (by kernel_rfl) (by kernel_rfl) (by kernel_rfl) (fun _ _ _ h => h) (Or.inl ⟨by rfl, ?_⟩) (by assumption) ?_
  rotate_left
  · (intro w hSw; (try dsimp only at hSw); go_simp; try with_reducible rfl)
  simp only [Act.put, List.setIfInBounds_toArray, List.set_cons_zero, List.set_cons_succ]
  refine wpAnyH_take (i := 3) (oi := { dst := some 19, op := Op.load 140 (Operand.tmp 1), type := 140, pos := _, after := #[], guard := none }) (v := ?_) rfl (by kernel_rfl) (by kernel_rfl) (by kernel_rfl) (fun _ _ _ h => h) (Or.inl ⟨by rfl, ?_⟩) (by assumption) ?_
  rotate_left
  · (intro w hSw; (try dsimp only at hSw); go_simp; try with_reducible rfl)
  simp only [Act.put, List.setIfInBounds_toArray, List.set_cons_zero, List.set_cons_succ]
  refine wpAnyH_ready (rs := [1]) (by kernel_rfl) (by simp) ?_
  refine AllReadyH.cons (o := { dst := some 17, op := Op.call { callee := Callee.value (Operand.func 141), args := #[Operand.tmp 16], argTypes := #[140] }, type := 32, pos := _, after := #[{ on := 0, ground := Ground.data }], guard := none }) rfl (fun K hK => ?_) AllReadyH.nil
  go_simp
  (go_at_call 141; refine (HE _ (HT.out.below (HB.out _))).mono ?_; rintro e w2 ⟨rfl, hb⟩; have hx2 := hx1.below hb; have HB2 : Hid (Below W.heap.size W w2) := Below.step (HB.out _) hb; clear hb; go_wp2_with fail)
  refine hK.out _ _ ?_ (fun hHeld => ?_)
  · ((try dsimp only); (first | (exact ⟨hx3.cell 0, hx3.cell 1, hx3.cell 2, hx3.cell 3, hx3.cell 4, hx3.cell 5, hx3.cell 6, hx3.cell 7⟩) | (exact ⟨hx2.cell 0, hx2.cell 1, hx2.cell 2, hx2.cell 3, hx2.cell 4, hx2.cell 5, hx2.cell 6, hx2.cell 7⟩)))
  clear hK K
  try simp only [Act.put, List.setIfInBounds_toArray, List.set_cons_zero, List.set_cons_succ]
  refine wpAnyH_ready (rs := [2]) (by kernel_rfl) (by simp) ?_
  refine AllReadyH.cons (o := { dst := some 18, op := Op.call { callee := Callee.value (Operand.func 101), args := #[Operand.tmp 17], argTypes := #[32] }, type := 140, pos := _, after := #[{ on := 1, ground := Ground.data }, { on := 1, ground := Ground.chain }], guard := none }) rfl (fun K hK => ?_) AllReadyH.nil
  go_simp
  (go_at_call 101; refine (HD _ (HT.out.below HB2.out)).mono ?_; rintro e w3 ⟨rfl, hb⟩; have hx3 := hx2.below hb; have HB3 : Hid (Below W.heap.size W w3) := Below.step HB2.out hb; clear hb; go_wp2_with fail)
  refine hK.out _ _ ?_ (fun hHeld => ?_)
  · ((try dsimp only); (first | (exact ⟨hx3.cell 0, hx3.cell 1, hx3.cell 2, hx3.cell 3, hx3.cell 4, hx3.cell 5, hx3.cell 6, hx3.cell 7⟩) | (exact ⟨hx2.cell 0, hx2.cell 1, hx2.cell 2, hx2.cell 3, hx2.cell 4, hx2.cell 5, hx2.cell 6, hx2.cell 7⟩)))
  clear hK K
  try simp only [Act.put, List.setIfInBounds_toArray, List.set_cons_zero, List.set_cons_succ]
  refine wpAnyH_take (i := 4) (oi := { dst := some 20, op := Op.binOp BinOp.eql 140 (Operand.tmp 18) (Operand.tmp 19) 140, type := 4, pos := _, after := #[{ on := 2, ground := Ground.data }, { on := 3, ground := Ground.data }], guard := none }) (v := ?_) rfl (by kernel_rfl) (by kernel_rfl) (by kernel_rfl) (fun _ _ _ h => h) (Or.inl ⟨by rfl, ?_⟩) (by assumption) ?_
  rotate_left
  · (intro w hSw; (try dsimp only at hSw); go_simp; try with_reducible rfl)
  simp only [Act.put, List.setIfInBounds_toArray, List.set_cons_zero, List.set_cons_succ]
  refine wpAnyH_take (i := 5) (oi := { dst := some 2, op := Op.assign (Operand.tmp 20), type := 4, pos := _, after := #[{ on := 4, ground := Ground.data }, { on := 2, ground := Ground.chain }, { on := 0, ground := Ground.phase }, { on := 1, ground := Ground.phase }, { on := 2, ground := Ground.phase }, { on := 3, ground := Ground.phase }, { on := 4, ground := Ground.phase }], guard := none }) (v := ?_) rfl (by kernel_rfl) (by kernel_rfl) (by kernel_rfl) (fun _ _ _ h => h) (Or.inl ⟨by rfl, ?_⟩) (by assumption) ?_
  rotate_left
  · (intro w hSw; (try dsimp only at hSw); go_simp; try with_reducible rfl)
  simp only [Act.put, List.setIfInBounds_toArray, List.set_cons_zero, List.set_cons_succ]
  refine wpAnyH_done (by kernel_rfl) ?_ _
  go_wp2
  go_ret
  exact ⟨rfl, HB3.out⟩
set_option maxRecDepth 100000 in
set_option maxHeartbeats 4000000 in
theorem says_5 (k2 k3 : Int) (k4 : Bool) (k5 k6 : Int) (k7 k8 : Bool) (v : Int) (d : Ent) (S : Bool) (W : World) (ht : TE W)
    (HE : ∀ ww, TE ww → Calls Tryz.prog 141 #[.agg #[.int .i64 5, .int .u64 k2, .int .i64 k3, .bool k4, .int .i64 k5, .int .u32 k6, .bool k7, .bool k8]] ww fun r w' => r = .returned (.int .u32 v) ∧ Below ww.heap.size ww w')
    (HD : ∀ ww, TE ww → Calls Tryz.prog 101 #[.int .u32 v] ww fun r w' => r = .returned (.agg #[.int .i64 d.kind, .int .u64 d.base, .int .i64 d.dom, .bool d.ns, .int .i64 d.ap, .int .u32 d.bits, .bool d.ng, .bool d.xn]) ∧ Below ww.heap.size ww w')
    (heq : ∀ w, (Op.equalIn 10000 140 (.agg #[.int .i64 d.kind, .int .u64 d.base, .int .i64 d.dom, .bool d.ns, .int .i64 d.ap, .int .u32 d.bits, .bool d.ng, .bool d.xn]) (.agg #[.int .i64 5, .int .u64 k2, .int .i64 k3, .bool k4, .int .i64 k5, .int .u32 k6, .bool k7, .bool k8])).run Tryz.prog w = .ok S w) :
    Calls Tryz.prog 102 #[.agg #[.int .i64 5, .int .u64 k2, .int .i64 k3, .bool k4, .int .i64 k5, .int .u32 k6, .bool k7, .bool k8]] W fun r w' => r = .returned (.bool S) ∧ Below W.heap.size W w' := by
  have hx1 := (Bl.new W 140 [.int .i64 5, .int .u64 k2, .int .i64 k3, .bool k4, .int .i64 k5, .int .u32 k6, .bool k7, .bool k8]).drew
  have HT : Hid (TE W) := ht
  clear ht
  have HB : Hid (∀ o, Below W.heap.size W (W.alloc o).drew) := fun o => below_drew ((Below.refl _ _).alloc (Nat.le_refl _) o)
  go_enter Tryz.func102, Tryz.ntmps102
  go_wp2
  refine wp_region_held_drew (S := fun w' => w'.cell? ⟨W.heap.size, 0, none⟩ = some (.int .i64 5) ∧ w'.cell? ⟨W.heap.size, 1, none⟩ = some (.int .u64 k2) ∧ w'.cell? ⟨W.heap.size, 2, none⟩ = some (.int .i64 k3) ∧ w'.cell? ⟨W.heap.size, 3, none⟩ = some (.bool k4) ∧ w'.cell? ⟨W.heap.size, 4, none⟩ = some (.int .i64 k5) ∧ w'.cell? ⟨W.heap.size, 5, none⟩ = some (.int .u32 k6) ∧ w'.cell? ⟨W.heap.size, 6, none⟩ = some (.bool k7) ∧ w'.cell? ⟨W.heap.size, 7, none⟩ = some (.bool k8)) (by kernel_rfl) (by (try dsimp only); exact ⟨hx1.cell 0, hx1.cell 1, hx1.cell 2, hx1.cell 3, hx1.cell 4, hx1.cell 5, hx1.cell 6, hx1.cell 7⟩) (fun hHeld => ?_)
  refine wpAnyH_take (i := 0) (oi := { dst := some 16, op := Op.load 140 (Operand.tmp 1), type := 140, pos := _, after := #[], guard := none }) (v := ?_) rfl (by kernel_rfl) (by kernel_rfl) (by kernel_rfl) (fun _ _ _ h => h) (Or.inl ⟨by rfl, ?_⟩) (by assumption) ?_
  rotate_left
  · (intro w hSw; (try dsimp only at hSw); go_simp; try with_reducible rfl)
  simp only [Act.put, List.setIfInBounds_toArray, List.set_cons_zero, List.set_cons_succ]
  refine wpAnyH_take (i := 3) (oi := { dst := some 19, op := Op.load 140 (Operand.tmp 1), type := 140, pos := _, after := #[], guard := none }) (v := ?_) rfl (by kernel_rfl) (by kernel_rfl) (by kernel_rfl) (fun _ _ _ h => h) (Or.inl ⟨by rfl, ?_⟩) (by assumption) ?_
  rotate_left
  · (intro w hSw; (try dsimp only at hSw); go_simp; try with_reducible rfl)
  simp only [Act.put, List.setIfInBounds_toArray, List.set_cons_zero, List.set_cons_succ]
  refine wpAnyH_ready (rs := [1]) (by kernel_rfl) (by simp) ?_
  refine AllReadyH.cons (o := { dst := some 17, op := Op.call { callee := Callee.value (Operand.func 141), args := #[Operand.tmp 16], argTypes := #[140] }, type := 32, pos := _, after := #[{ on := 0, ground := Ground.data }], guard := none }) rfl (fun K hK => ?_) AllReadyH.nil
  go_simp
  (go_at_call 141; refine (HE _ (HT.out.below (HB.out _))).mono ?_; rintro e w2 ⟨rfl, hb⟩; have hx2 := hx1.below hb; have HB2 : Hid (Below W.heap.size W w2) := Below.step (HB.out _) hb; clear hb; go_wp2_with fail)
  refine hK.out _ _ ?_ (fun hHeld => ?_)
  · ((try dsimp only); (first | (exact ⟨hx3.cell 0, hx3.cell 1, hx3.cell 2, hx3.cell 3, hx3.cell 4, hx3.cell 5, hx3.cell 6, hx3.cell 7⟩) | (exact ⟨hx2.cell 0, hx2.cell 1, hx2.cell 2, hx2.cell 3, hx2.cell 4, hx2.cell 5, hx2.cell 6, hx2.cell 7⟩)))
  clear hK K
  try simp only [Act.put, List.setIfInBounds_toArray, List.set_cons_zero, List.set_cons_succ]
  refine wpAnyH_ready (rs := [2]) (by kernel_rfl) (by simp) ?_
  refine AllReadyH.cons (o := { dst := some 18, op := Op.call { callee := Callee.value (Operand.func 101), args := #[Operand.tmp 17], argTypes := #[32] }, type := 140, pos := _, after := #[{ on := 1, ground := Ground.data }, { on := 1, ground := Ground.chain }], guard := none }) rfl (fun K hK => ?_) AllReadyH.nil
  go_simp
  (go_at_call 101; refine (HD _ (HT.out.below HB2.out)).mono ?_; rintro e w3 ⟨rfl, hb⟩; have hx3 := hx2.below hb; have HB3 : Hid (Below W.heap.size W w3) := Below.step HB2.out hb; clear hb; go_wp2_with fail)
  refine hK.out _ _ ?_ (fun hHeld => ?_)
  · ((try dsimp only); (first | (exact ⟨hx3.cell 0, hx3.cell 1, hx3.cell 2, hx3.cell 3, hx3.cell 4, hx3.cell 5, hx3.cell 6, hx3.cell 7⟩) | (exact ⟨hx2.cell 0, hx2.cell 1, hx2.cell 2, hx2.cell 3, hx2.cell 4, hx2.cell 5, hx2.cell 6, hx2.cell 7⟩)))
  clear hK K
  try simp only [Act.put, List.setIfInBounds_toArray, List.set_cons_zero, List.set_cons_succ]
  refine wpAnyH_take (i := 4) (oi := { dst := some 20, op := Op.binOp BinOp.eql 140 (Operand.tmp 18) (Operand.tmp 19) 140, type := 4, pos := _, after := #[{ on := 2, ground := Ground.data }, { on := 3, ground := Ground.data }], guard := none }) (v := ?_) rfl (by kernel_rfl) (by kernel_rfl) (by kernel_rfl) (fun _ _ _ h => h) (Or.inl ⟨by rfl, ?_⟩) (by assumption) ?_
  rotate_left
  · (intro w hSw; (try dsimp only at hSw); go_simp; try with_reducible rfl)
  simp only [Act.put, List.setIfInBounds_toArray, List.set_cons_zero, List.set_cons_succ]
  refine wpAnyH_take (i := 5) (oi := { dst := some 2, op := Op.assign (Operand.tmp 20), type := 4, pos := _, after := #[{ on := 4, ground := Ground.data }, { on := 2, ground := Ground.chain }, { on := 0, ground := Ground.phase }, { on := 1, ground := Ground.phase }, { on := 2, ground := Ground.phase }, { on := 3, ground := Ground.phase }, { on := 4, ground := Ground.phase }], guard := none }) (v := ?_) rfl (by kernel_rfl) (by kernel_rfl) (by kernel_rfl) (fun _ _ _ h => h) (Or.inl ⟨by rfl, ?_⟩) (by assumption) ?_
  rotate_left
  · (intro w hSw; (try dsimp only at hSw); go_simp; try with_reducible rfl)
  simp only [Act.put, List.setIfInBounds_toArray, List.set_cons_zero, List.set_cons_succ]
  refine wpAnyH_done (by kernel_rfl) ?_ _
  go_wp2
  go_ret
  exact ⟨rfl, HB3.out⟩
set_option maxRecDepth 100000 in
set_option maxHeartbeats 4000000 in
theorem says_no (e : Ent) (W : World) (h : ¬ (e.kind = 2 ∨ e.kind = 3 ∨ e.kind = 4 ∨ e.kind = 5)) : Calls Tryz.prog 102 #[.agg #[.int .i64 e.kind, .int .u64 e.base, .int .i64 e.dom, .bool e.ns, .int .i64 e.ap, .int .u32 e.bits, .bool e.ng, .bool e.xn]] W fun r w' => r = .returned (.bool false) ∧ Below W.heap.size W w' := by
  have h2 : (e.kind == 2) = false := by simp; omega
  have h3 : (e.kind == 3) = false := by simp; omega
  have h4 : (e.kind == 4) = false := by simp; omega
  have h5 : (e.kind == 5) = false := by simp; omega
  have HB : Hid (∀ o, Below W.heap.size W (W.alloc o)) := fun o => ((Below.refl _ _).alloc (Nat.le_refl _) o)
  clear h
  go_enter Tryz.func102, Tryz.ntmps102
  go_wp2
  go_ret
  exact ⟨rfl, HB.out _⟩
theorem saysBlock_any (e : Ent) (W : World) (ht : TE W) (hO : Ok e) : Calls Tryz.prog 102 #[.agg #[.int .i64 e.kind, .int .u64 e.base, .int .i64 e.dom, .bool e.ns, .int .i64 e.ap, .int .u32 e.bits, .bool e.ng, .bool e.xn]] W fun r w' => r = .returned (.bool (sb e)) ∧ Below W.heap.size W w' := by
  have HE := fun ww (hh : TE ww) => encode_any e ww hh hO
  have H1 := fun ww (hh : TE ww) => Decode1_any (E e) ww hh.toTD (E_rng e hO)
  have H2 := fun ww (hh : TE ww) => Decode2_any (E e) ww hh.toTD (E_rng e hO)
  have q1 := eqE (D1 (E e)) e
  have q2 := eqE (D2 (E e)) e
  by_cases h : e.kind = 2 ∨ e.kind = 3 ∨ e.kind = 4 ∨ e.kind = 5
  · rcases h with h | h | h | h
    · rw [show sb e = (D1 (E e)).same e by unfold sb; rw [if_pos (.inl h)]]
      generalize (D1 (E e)).same e = S at *
      generalize D1 (E e) = d at *
      generalize E e = v at *
      rw [h] at HE q1 ⊢
      exact says_2 _ _ _ _ _ _ _ v d S W ht HE H1 q1
    · rw [show sb e = (D1 (E e)).same e by unfold sb; rw [if_pos (.inr h)]]
      generalize (D1 (E e)).same e = S at *
      generalize D1 (E e) = d at *
      generalize E e = v at *
      rw [h] at HE q1 ⊢
      exact says_3 _ _ _ _ _ _ _ v d S W ht HE H1 q1
    · rw [show sb e = (D2 (E e)).same e by unfold sb; rw [if_neg (by omega), if_pos (.inl h)]]
      generalize (D2 (E e)).same e = S at *
      generalize D2 (E e) = d at *
      generalize E e = v at *
      rw [h] at HE q2 ⊢
      exact says_4 _ _ _ _ _ _ _ v d S W ht HE H2 q2
    · rw [show sb e = (D2 (E e)).same e by unfold sb; rw [if_neg (by omega), if_pos (.inr h)]]
      generalize (D2 (E e)).same e = S at *
      generalize D2 (E e) = d at *
      generalize E e = v at *
      rw [h] at HE q2 ⊢
      exact says_5 _ _ _ _ _ _ _ v d S W ht HE H2 q2
  · rw [show sb e = false by unfold sb; rw [if_neg (by omega), if_neg (by omega)]]
    exact says_no e W h
end Go.Proofs.YtnjlajjjcmhfgaaGreatDoor
