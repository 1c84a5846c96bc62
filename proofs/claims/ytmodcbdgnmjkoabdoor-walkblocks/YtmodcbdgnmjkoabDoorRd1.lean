import Derived.Test.YtmodcbdgnmjkoabDoorMB
namespace Go.Proofs.YtmodcbdgnmjkoabDoor
open Go.RowKit
set_option linter.unusedVariables false
set_option linter.unusedSimpArgs false
set_option maxRecDepth 100000 in
set_option maxHeartbeats 4000000 in
theorem rd1_T (x : Int) (f : Nat → Int) (A B d : Int) (W : World)
    (HBI : ∀ w, Calls Tryd.prog 40 #[.int .u32 x] w fun e w' => e = .returned (.agg (encB f).toArray) ∧ Below w.heap.size w w')
    (H1_0 : ∀ w, Calls Tryd.prog 41 #[.agg (encB f).toArray, .int .i64 1, .int .i64 0] w fun e w' => e = .returned (.int .i64 1) ∧ Below w.heap.size w w')
    (H31_10 : ∀ w, Calls Tryd.prog 41 #[.agg (encB f).toArray, .int .i64 31, .int .i64 10] w fun e w' => e = .returned (.int .i64 A) ∧ Below w.heap.size w w')
    (H8_5 : ∀ w, Calls Tryd.prog 41 #[.agg (encB f).toArray, .int .i64 8, .int .i64 5] w fun e w' => e = .returned (.int .i64 d) ∧ Below w.heap.size w w')
    (q1 : IntKind.u64.wrap A = A) (q2 : IntKind.u64.wrap (A * 1024) = B) :
    Calls Tryd.prog 20 #[.int .u32 x] W fun e w' => e = .returned (.agg #[.int .i64 1, .int .u64 B, .int .i64 d, .bool (f 3 == 1), .int .i64 0, .int .u32 0, .bool false, .bool false]) ∧ Below W.heap.size W w' := by
  have hp10 := fun w => power_l 10 1024 w (by decide) (by decide) 10 rfl
  have hz := zeroB
  have hZl : (encB (fun _ => 0)).length = 32 := encB_len _
  generalize encB (fun _ => 0) = Z at *
  go_enter Tryd.func20, Tryd.ntmps20
  go_wp2_with (first | (go_at_call 40; refine (HBI _).mono ?_; rintro e w1 ⟨rfl, hb⟩; have HS : Hid (RS f W w1.heap.size ((w1.alloc (.cells Z.toArray 98)).setRow w1.heap.size (encB f).toArray)) := rs_start Z hb; have HSt : Hid ((Instr.storeAt 98 (Value.pointer (some ⟨w1.heap.size, 0, none⟩)) (.agg (encB f).toArray)).run Tryd.prog (w1.alloc (.cells Z.toArray 98)) = .ok () ((w1.alloc (.cells Z.toArray 98)).setRow w1.heap.size (encB f).toArray)) := storeB _ _ f Z (Bl.new w1 98 Z) hZl; clear hb) | (guard_target =~ wpList _ _ _ (Oper.mk none (Op.store 98 _ _) _ _ _ _ :: _) _ _; refine wpl_storeB _ rfl _ _ rfl (.pointer (some ⟨w1.heap.size, 0, none⟩)) (.agg (encB f).toArray) rfl rfl HSt.out ?_; clear HSt; generalize (w1.alloc (.cells Z.toArray 98)).setRow w1.heap.size (encB f).toArray = w2 at *; generalize w1.heap.size = n at *) | (guard_target =~ wpList _ _ _ (Oper.mk (some 8) (Op.load 98 _) _ _ _ _ :: _) _ _; refine wpl_loadB _ rfl _ rfl (.pointer (some ⟨n, 0, none⟩)) rfl (loadB _ _ _ HS.out.arr) ?_) | (go_at_call 41; refine (H1_0 _).mono ?_; rintro e w3 ⟨rfl, hb⟩; replace HS := hidIn (HS.out.below hb); clear hb) | go_in)
  refine wp_region_held_drew (S := fun w' => Hid (Bl w' n 98 (encB f)) ∧ w'.cell? ⟨n, 3, none⟩ = some (.int .i64 (f 3))) (by kernel_rfl) (by (try dsimp only); exact ⟨HS.out.drew.arr, HS.out.drew.cell 3 (by decide)⟩) (fun hHeld => ?_)
  replace HS := hidIn HS.out.drew
  generalize World.drew w3 = w3 at *
  refine wpAnyH_take (i := 0) (oi := { dst := some 12, op := Op.load 98 (Operand.tmp 3), type := 98, pos := _, after := #[], guard := none }) (v := .agg (encB f).toArray) rfl (by kernel_rfl) (by kernel_rfl) (by kernel_rfl) (fun _ _ _ h => h) (Or.inl ⟨by rfl, fun w hSw => exec54 _ _ _ rfl _ _ rfl w hSw.1.out⟩) (by assumption) ?_
  simp only [Act.put, List.setIfInBounds_toArray, List.set_cons_zero, List.set_cons_succ]
  refine wpAnyH_take (i := 5) (oi := { dst := some 17, op := Op.load 98 (Operand.tmp 3), type := 98, pos := _, after := #[], guard := none }) (v := .agg (encB f).toArray) rfl (by kernel_rfl) (by kernel_rfl) (by kernel_rfl) (fun _ _ _ h => h) (Or.inl ⟨by rfl, fun w hSw => exec54 _ _ _ rfl _ _ rfl w hSw.1.out⟩) (by assumption) ?_
  simp only [Act.put, List.setIfInBounds_toArray, List.set_cons_zero, List.set_cons_succ]
  refine wpAnyH_take (i := 7) (oi := { dst := some 19, op := Op.indexAddr 98 (Operand.tmp 3) (Operand.const (Value.int IntKind.i64 3)), type := 0, pos := _, after := #[], guard := none }) (v := ?_) rfl (by kernel_rfl) (by kernel_rfl) (by kernel_rfl) (fun _ _ _ h => h) (Or.inl ⟨by rfl, ?_⟩) (by assumption) ?_
  rotate_left
  · (intro w hSw; (try dsimp only at hSw); go_simp; try with_reducible rfl)
  simp only [Act.put, List.setIfInBounds_toArray, List.set_cons_zero, List.set_cons_succ]
  refine wpAnyH_take (i := 8) (oi := { dst := some 20, op := Op.load 3 (Operand.tmp 19), type := 3, pos := _, after := #[{ on := 7, ground := Ground.data }], guard := none }) (v := ?_) rfl (by kernel_rfl) (by kernel_rfl) (by kernel_rfl) (fun _ _ _ h => h) (Or.inl ⟨by rfl, ?_⟩) (by assumption) ?_
  rotate_left
  · (intro w hSw; (try dsimp only at hSw); go_simp; try with_reducible rfl)
  simp only [Act.put, List.setIfInBounds_toArray, List.set_cons_zero, List.set_cons_succ]
  refine wpAnyH_take (i := 9) (oi := { dst := some 21, op := Op.binOp BinOp.eql 3 (Operand.tmp 20) (Operand.const (Value.int IntKind.i64 1)) 3, type := 4, pos := _, after := #[{ on := 8, ground := Ground.data }], guard := none }) (v := ?_) rfl (by kernel_rfl) (by kernel_rfl) (by kernel_rfl) (fun _ _ _ h => h) (Or.inl ⟨by rfl, ?_⟩) (by assumption) ?_
  rotate_left
  · (intro w hSw; (try dsimp only at hSw); go_simp; try with_reducible rfl)
  simp only [Act.put, List.setIfInBounds_toArray, List.set_cons_zero, List.set_cons_succ]
  refine wpAnyH_ready (rs := [1]) (by kernel_rfl) (by simp) ?_
  refine (AllReadyH.cons (o := { dst := some 13, op := Op.call { callee := Callee.value (Operand.func 41), args := #[Operand.tmp 12, Operand.const (Value.int IntKind.i64 31), Operand.const (Value.int IntKind.i64 10)], argTypes := #[98, 3, 3] }, type := 3, pos := _, after := #[{ on := 0, ground := Ground.data }], guard := none }) rfl (fun K hK => ?_) AllReadyH.nil)
  go_simp
  (go_at_call 41; refine (H31_10 _).mono ?_; rintro e w3 ⟨rfl, hb⟩; replace HS := hidIn (HS.out.below hb); clear hb)
  refine hK.out _ _ ?_ (fun hHeld => ?_)
  · ((try dsimp only); exact ⟨HS.out.arr, HS.out.cell 3 (by decide)⟩)
  clear hK K
  try simp only [Act.put, List.setIfInBounds_toArray, List.set_cons_zero, List.set_cons_succ]
  refine wpAnyH_take (i := 2) (oi := { dst := some 14, op := Op.convert 3 23 (Operand.tmp 13), type := 23, pos := _, after := #[{ on := 1, ground := Ground.data }], guard := none }) (v := ?_) rfl (by kernel_rfl) (by kernel_rfl) (by kernel_rfl) (fun _ _ _ h => h) (Or.inl ⟨by rfl, ?_⟩) (by assumption) ?_
  rotate_left
  · (intro w hSw; (try dsimp only at hSw); go_simp; try with_reducible rfl)
  simp only [Act.put, List.setIfInBounds_toArray, List.set_cons_zero, List.set_cons_succ]
  refine wpAnyH_ready (rs := [3]) (by kernel_rfl) (by simp) ?_
  refine (AllReadyH.cons (o := { dst := some 15, op := Op.call { callee := Callee.value (Operand.func 42), args := #[Operand.const (Value.int IntKind.i64 10)], argTypes := #[3] }, type := 23, pos := _, after := #[{ on := 1, ground := Ground.chain }], guard := none }) rfl (fun K hK => ?_) AllReadyH.nil)
  go_simp
  (go_at_call 42; refine (hp10 _).mono ?_; rintro e w' ⟨rfl, rfl⟩)
  refine hK.out _ _ ?_ (fun hHeld => ?_)
  · ((try dsimp only); exact ⟨HS.out.arr, HS.out.cell 3 (by decide)⟩)
  clear hK K
  try simp only [Act.put, List.setIfInBounds_toArray, List.set_cons_zero, List.set_cons_succ]
  refine wpAnyH_take (i := 4) (oi := { dst := some 16, op := Op.binOp BinOp.mul 23 (Operand.tmp 14) (Operand.tmp 15) 23, type := 23, pos := _, after := #[{ on := 2, ground := Ground.data }, { on := 3, ground := Ground.data }], guard := none }) (v := ?_) rfl (by kernel_rfl) (by kernel_rfl) (by kernel_rfl) (fun _ _ _ h => h) (Or.inl ⟨by rfl, ?_⟩) (by assumption) ?_
  rotate_left
  · (intro w hSw; (try dsimp only at hSw); go_simp; try with_reducible rfl)
  simp only [Act.put, List.setIfInBounds_toArray, List.set_cons_zero, List.set_cons_succ]
  refine wpAnyH_ready (rs := [6]) (by kernel_rfl) (by simp) ?_
  refine (AllReadyH.cons (o := { dst := some 18, op := Op.call { callee := Callee.value (Operand.func 41), args := #[Operand.tmp 17, Operand.const (Value.int IntKind.i64 8), Operand.const (Value.int IntKind.i64 5)], argTypes := #[98, 3, 3] }, type := 3, pos := _, after := #[{ on := 5, ground := Ground.data }, { on := 3, ground := Ground.chain }], guard := none }) rfl (fun K hK => ?_) AllReadyH.nil)
  go_simp
  (go_at_call 41; refine (H8_5 _).mono ?_; rintro e w3 ⟨rfl, hb⟩; replace HS := hidIn (HS.out.below hb); clear hb)
  refine hK.out _ _ ?_ (fun hHeld => ?_)
  · ((try dsimp only); exact ⟨HS.out.arr, HS.out.cell 3 (by decide)⟩)
  clear hK K
  try simp only [Act.put, List.setIfInBounds_toArray, List.set_cons_zero, List.set_cons_succ]
  refine wpAnyH_take (i := 10) (oi := { dst := some 22, op := Op.build 70 #[(0, Operand.const (Value.int IntKind.i64 1)), (1, Operand.tmp 16), (2, Operand.tmp 18), (3, Operand.tmp 21)], type := 70, pos := _, after := #[{ on := 4, ground := Ground.data }, { on := 6, ground := Ground.data }, { on := 9, ground := Ground.data }], guard := none }) (v := ?_) rfl (by kernel_rfl) (by kernel_rfl) (by kernel_rfl) (fun _ _ _ h => h) (Or.inl ⟨by rfl, ?_⟩) (by assumption) ?_
  rotate_left
  · (intro w hSw; (try dsimp only at hSw); go_simp; try with_reducible rfl)
  simp only [Act.put, List.setIfInBounds_toArray, List.set_cons_zero, List.set_cons_succ]
  refine wpAnyH_ready (rs := [11]) (by kernel_rfl) (by simp) ?_
  refine (AllReadyH.cons (o := { dst := none, op := Op.store 70 (Operand.tmp 2) (Operand.tmp 22), type := 0, pos := _, after := #[{ on := 10, ground := Ground.data }, { on := 6, ground := Ground.chain }, { on := 0, ground := Ground.phase }, { on := 1, ground := Ground.phase }, { on := 2, ground := Ground.phase }, { on := 3, ground := Ground.phase }, { on := 4, ground := Ground.phase }, { on := 5, ground := Ground.phase }, { on := 6, ground := Ground.phase }, { on := 7, ground := Ground.phase }, { on := 8, ground := Ground.phase }, { on := 9, ground := Ground.phase }, { on := 10, ground := Ground.phase }], guard := none }) rfl (fun K hK => ?_) AllReadyH.nil)
  (have hd := HS.out.res.cell; have hf := HS.out.res.frozen)
  go_simp
  skip
  refine hK.out _ _ ?_ (fun hHeld => ?_)
  · ((try dsimp only); exact ⟨(HS.out.arr.keep8' W.heap.size (by have := HS.out.lt; omega) _ _ _ _ _ _ _ _), ((HS.out.arr.keep8' W.heap.size (by have := HS.out.lt; omega) _ _ _ _ _ _ _ _).cell 3).trans (encB_at f 3 (by decide))⟩)
  clear hK K
  try simp only [Act.put, List.setIfInBounds_toArray, List.set_cons_zero, List.set_cons_succ]
  refine wpAnyH_done (by kernel_rfl) ?_ _
  go_wp2
  have hd := HS.out.res.cell
  have hf := HS.out.res.frozen
  refine bodyPost_ret (v := .agg #[.int .i64 1, .int .u64 B, .int .i64 d, .bool (f 3 == 1), .int .i64 0, .int .u32 0, .bool false, .bool false]) (by simp [results, Tryd.results20, go_sem, hd]) rfl ⟨rfl, (by (repeat (refine Below.setCell ?_ (by simp) _)); exact HS.out.bel)⟩
set_option maxRecDepth 100000 in
set_option maxHeartbeats 4000000 in
theorem rd1_Z (x : Int) (f : Nat → Int) (k : Int) (W : World)
    (HBI : ∀ w, Calls Tryd.prog 40 #[.int .u32 x] w fun e w' => e = .returned (.agg (encB f).toArray) ∧ Below w.heap.size w w')
    (H1_0 : ∀ w, Calls Tryd.prog 41 #[.agg (encB f).toArray, .int .i64 1, .int .i64 0] w fun e w' => e = .returned (.int .i64 k) ∧ Below w.heap.size w w')
    (k1 : (k == 1) = false) (k2 : (k == 2) = false) :
    Calls Tryd.prog 20 #[.int .u32 x] W fun e w' => e = .returned (.agg #[.int .i64 0, .int .u64 0, .int .i64 0, .bool false, .int .i64 0, .int .u32 0, .bool false, .bool false]) ∧ Below W.heap.size W w' := by
  have hz := zeroB
  have hZl : (encB (fun _ => 0)).length = 32 := encB_len _
  generalize encB (fun _ => 0) = Z at *
  go_enter Tryd.func20, Tryd.ntmps20
  go_wp2_with (first | (go_at_call 40; refine (HBI _).mono ?_; rintro e w1 ⟨rfl, hb⟩; have HS : Hid (RS f W w1.heap.size ((w1.alloc (.cells Z.toArray 98)).setRow w1.heap.size (encB f).toArray)) := rs_start Z hb; have HSt : Hid ((Instr.storeAt 98 (Value.pointer (some ⟨w1.heap.size, 0, none⟩)) (.agg (encB f).toArray)).run Tryd.prog (w1.alloc (.cells Z.toArray 98)) = .ok () ((w1.alloc (.cells Z.toArray 98)).setRow w1.heap.size (encB f).toArray)) := storeB _ _ f Z (Bl.new w1 98 Z) hZl; clear hb) | (guard_target =~ wpList _ _ _ (Oper.mk none (Op.store 98 _ _) _ _ _ _ :: _) _ _; refine wpl_storeB _ rfl _ _ rfl (.pointer (some ⟨w1.heap.size, 0, none⟩)) (.agg (encB f).toArray) rfl rfl HSt.out ?_; clear HSt; generalize (w1.alloc (.cells Z.toArray 98)).setRow w1.heap.size (encB f).toArray = w2 at *; generalize w1.heap.size = n at *) | (guard_target =~ wpList _ _ _ (Oper.mk (some 8) (Op.load 98 _) _ _ _ _ :: _) _ _; refine wpl_loadB _ rfl _ rfl (.pointer (some ⟨n, 0, none⟩)) rfl (loadB _ _ _ HS.out.arr) ?_) | (go_at_call 41; refine (H1_0 _).mono ?_; rintro e w3 ⟨rfl, hb⟩; replace HS := hidIn (HS.out.below hb); clear hb; have hd := HS.out.res.cell; have hf := HS.out.res.frozen) | go_in)
  refine bodyPost_ret (v := .agg #[.int .i64 0, .int .u64 0, .int .i64 0, .bool false, .int .i64 0, .int .u32 0, .bool false, .bool false]) (by simp [results, Tryd.results20, go_sem, hd]) rfl ⟨rfl, (by (repeat (refine Below.setCell ?_ (by simp) _)); exact HS.out.bel)⟩
set_option maxRecDepth 100000 in
set_option maxHeartbeats 4000000 in
theorem rd1_S (x : Int) (f : Nat → Int) (A B d a t p1 p2 t1 t2 t3 t4 t5 t6 t7 : Int) (W : World)
    (HBI : ∀ w, Calls Tryd.prog 40 #[.int .u32 x] w fun e w' => e = .returned (.agg (encB f).toArray) ∧ Below w.heap.size w w')
    (H1_0 : ∀ w, Calls Tryd.prog 41 #[.agg (encB f).toArray, .int .i64 1, .int .i64 0] w fun e w' => e = .returned (.int .i64 2) ∧ Below w.heap.size w w')
    (H11_10 : ∀ w, Calls Tryd.prog 41 #[.agg (encB f).toArray, .int .i64 11, .int .i64 10] w fun e w' => e = .returned (.int .i64 a) ∧ Below w.heap.size w w')
    (H14_12 : ∀ w, Calls Tryd.prog 41 #[.agg (encB f).toArray, .int .i64 14, .int .i64 12] w fun e w' => e = .returned (.int .i64 t) ∧ Below w.heap.size w w')
    (H31_20 : ∀ w, Calls Tryd.prog 41 #[.agg (encB f).toArray, .int .i64 31, .int .i64 20] w fun e w' => e = .returned (.int .i64 A) ∧ Below w.heap.size w w')
    (H8_5 : ∀ w, Calls Tryd.prog 41 #[.agg (encB f).toArray, .int .i64 8, .int .i64 5] w fun e w' => e = .returned (.int .i64 d) ∧ Below w.heap.size w w')
    (r1 : IntKind.u64.wrap A = A) (r2 : IntKind.u64.wrap (A * 1048576) = B) (h18 : (f 18 == 0) = true) (q1 : IntKind.i64.wrap (4 * f 15) = p1) (q2 : IntKind.i64.wrap (p1 + a) = p2) (q3 : IntKind.i64.wrap (8 * t) = t1) (q4 : IntKind.i64.wrap (4 * f 3) = t2) (q5 : IntKind.i64.wrap (t1 + t2) = t3) (q6 : IntKind.i64.wrap (2 * f 2) = t4) (q7 : IntKind.i64.wrap (t3 + t4) = t5) (q8 : IntKind.i64.wrap (t5 + f 16) = t6) (q9 : IntKind.u32.wrap t6 = t7) :
    Calls Tryd.prog 20 #[.int .u32 x] W fun e w' => e = .returned (.agg #[.int .i64 2, .int .u64 B, .int .i64 d, .bool (f 19 == 1), .int .i64 p2, .int .u32 t7, .bool (f 17 == 1), .bool (f 4 == 1)]) ∧ Below W.heap.size W w' := by
  have hp20 := fun w => power_l 20 1048576 w (by decide) (by decide) 20 rfl
  have hz := zeroB
  have hZl : (encB (fun _ => 0)).length = 32 := encB_len _
  generalize encB (fun _ => 0) = Z at *
  go_enter Tryd.func20, Tryd.ntmps20
  go_wp2_with (first | (go_at_call 40; refine (HBI _).mono ?_; rintro e w1 ⟨rfl, hb⟩; have HS : Hid (RS f W w1.heap.size ((w1.alloc (.cells Z.toArray 98)).setRow w1.heap.size (encB f).toArray)) := rs_start Z hb; have HSt : Hid ((Instr.storeAt 98 (Value.pointer (some ⟨w1.heap.size, 0, none⟩)) (.agg (encB f).toArray)).run Tryd.prog (w1.alloc (.cells Z.toArray 98)) = .ok () ((w1.alloc (.cells Z.toArray 98)).setRow w1.heap.size (encB f).toArray)) := storeB _ _ f Z (Bl.new w1 98 Z) hZl; clear hb) | (guard_target =~ wpList _ _ _ (Oper.mk none (Op.store 98 _ _) _ _ _ _ :: _) _ _; refine wpl_storeB _ rfl _ _ rfl (.pointer (some ⟨w1.heap.size, 0, none⟩)) (.agg (encB f).toArray) rfl rfl HSt.out ?_; clear HSt; generalize (w1.alloc (.cells Z.toArray 98)).setRow w1.heap.size (encB f).toArray = w2 at *; generalize w1.heap.size = n at *) | (guard_target =~ wpList _ _ _ (Oper.mk (some 8) (Op.load 98 _) _ _ _ _ :: _) _ _; refine wpl_loadB _ rfl _ rfl (.pointer (some ⟨n, 0, none⟩)) rfl (loadB _ _ _ HS.out.arr) ?_) | (go_at_call 41; refine (H1_0 _).mono ?_; rintro e w3 ⟨rfl, hb⟩; replace HS := hidIn (HS.out.below hb); clear hb) | go_in)
  apply via (P := fun c w => Hid (RL f W n [.int .i64 p2, .int .u32 t7, .bool (f 17 == 1), .bool (f 4 == 1)] c w))
  case main =>
    intro key
    refine wp_region_held_drew (S := fun w' => Hid (Bl w' n 98 (encB f)) ∧ w'.cell? ⟨n, 15, none⟩ = some (.int .i64 (f 15)) ∧ w'.cell? ⟨n, 3, none⟩ = some (.int .i64 (f 3)) ∧ w'.cell? ⟨n, 2, none⟩ = some (.int .i64 (f 2)) ∧ w'.cell? ⟨n, 16, none⟩ = some (.int .i64 (f 16)) ∧ w'.cell? ⟨n, 17, none⟩ = some (.int .i64 (f 17)) ∧ w'.cell? ⟨n, 4, none⟩ = some (.int .i64 (f 4))) (by kernel_rfl) (by (try dsimp only); exact ⟨HS.out.drew.arr, HS.out.drew.cell 15 (by decide), HS.out.drew.cell 3 (by decide), HS.out.drew.cell 2 (by decide), HS.out.drew.cell 16 (by decide), HS.out.drew.cell 17 (by decide), HS.out.drew.cell 4 (by decide)⟩) (fun hHeld => ?_)
    replace HS := hidIn HS.out.drew
    generalize World.drew w3 = w3 at *
    refine wpAnyH_take (i := 0) (oi := { dst := some 25, op := Op.indexAddr 98 (Operand.tmp 3) (Operand.const (Value.int IntKind.i64 15)), type := 0, pos := _, after := #[], guard := none }) (v := ?_) rfl (by kernel_rfl) (by kernel_rfl) (by kernel_rfl) (fun _ _ _ h => h) (Or.inl ⟨by rfl, ?_⟩) (by assumption) ?_
    rotate_left
    · (intro w hSw; (try dsimp only at hSw); go_simp; try with_reducible rfl)
    simp only [Act.put, List.setIfInBounds_toArray, List.set_cons_zero, List.set_cons_succ]
    refine wpAnyH_take (i := 1) (oi := { dst := some 26, op := Op.load 3 (Operand.tmp 25), type := 3, pos := _, after := #[{ on := 0, ground := Ground.data }], guard := none }) (v := ?_) rfl (by kernel_rfl) (by kernel_rfl) (by kernel_rfl) (fun _ _ _ h => h) (Or.inl ⟨by rfl, ?_⟩) (by assumption) ?_
    rotate_left
    · (intro w hSw; (try dsimp only at hSw); go_simp; try with_reducible rfl)
    simp only [Act.put, List.setIfInBounds_toArray, List.set_cons_zero, List.set_cons_succ]
    refine wpAnyH_take (i := 2) (oi := { dst := some 27, op := Op.binOp BinOp.mul 3 (Operand.const (Value.int IntKind.i64 4)) (Operand.tmp 26) 3, type := 3, pos := _, after := #[{ on := 1, ground := Ground.data }], guard := none }) (v := ?_) rfl (by kernel_rfl) (by kernel_rfl) (by kernel_rfl) (fun _ _ _ h => h) (Or.inl ⟨by rfl, ?_⟩) (by assumption) ?_
    rotate_left
    · (intro w hSw; (try dsimp only at hSw); go_simp; try with_reducible rfl)
    simp only [Act.put, List.setIfInBounds_toArray, List.set_cons_zero, List.set_cons_succ]
    refine wpAnyH_take (i := 3) (oi := { dst := some 28, op := Op.load 98 (Operand.tmp 3), type := 98, pos := _, after := #[], guard := none }) (v := .agg (encB f).toArray) rfl (by kernel_rfl) (by kernel_rfl) (by kernel_rfl) (fun _ _ _ h => h) (Or.inl ⟨by rfl, fun w hSw => exec54 _ _ _ rfl _ _ rfl w hSw.1.out⟩) (by assumption) ?_
    simp only [Act.put, List.setIfInBounds_toArray, List.set_cons_zero, List.set_cons_succ]
    refine wpAnyH_take (i := 6) (oi := { dst := some 31, op := Op.load 98 (Operand.tmp 3), type := 98, pos := _, after := #[], guard := none }) (v := .agg (encB f).toArray) rfl (by kernel_rfl) (by kernel_rfl) (by kernel_rfl) (fun _ _ _ h => h) (Or.inl ⟨by rfl, fun w hSw => exec54 _ _ _ rfl _ _ rfl w hSw.1.out⟩) (by assumption) ?_
    simp only [Act.put, List.setIfInBounds_toArray, List.set_cons_zero, List.set_cons_succ]
    refine wpAnyH_take (i := 9) (oi := { dst := some 34, op := Op.indexAddr 98 (Operand.tmp 3) (Operand.const (Value.int IntKind.i64 3)), type := 0, pos := _, after := #[], guard := none }) (v := ?_) rfl (by kernel_rfl) (by kernel_rfl) (by kernel_rfl) (fun _ _ _ h => h) (Or.inl ⟨by rfl, ?_⟩) (by assumption) ?_
    rotate_left
    · (intro w hSw; (try dsimp only at hSw); go_simp; try with_reducible rfl)
    simp only [Act.put, List.setIfInBounds_toArray, List.set_cons_zero, List.set_cons_succ]
    refine wpAnyH_take (i := 10) (oi := { dst := some 35, op := Op.load 3 (Operand.tmp 34), type := 3, pos := _, after := #[{ on := 9, ground := Ground.data }], guard := none }) (v := ?_) rfl (by kernel_rfl) (by kernel_rfl) (by kernel_rfl) (fun _ _ _ h => h) (Or.inl ⟨by rfl, ?_⟩) (by assumption) ?_
    rotate_left
    · (intro w hSw; (try dsimp only at hSw); go_simp; try with_reducible rfl)
    simp only [Act.put, List.setIfInBounds_toArray, List.set_cons_zero, List.set_cons_succ]
    refine wpAnyH_take (i := 11) (oi := { dst := some 36, op := Op.binOp BinOp.mul 3 (Operand.const (Value.int IntKind.i64 4)) (Operand.tmp 35) 3, type := 3, pos := _, after := #[{ on := 10, ground := Ground.data }], guard := none }) (v := ?_) rfl (by kernel_rfl) (by kernel_rfl) (by kernel_rfl) (fun _ _ _ h => h) (Or.inl ⟨by rfl, ?_⟩) (by assumption) ?_
    rotate_left
    · (intro w hSw; (try dsimp only at hSw); go_simp; try with_reducible rfl)
    simp only [Act.put, List.setIfInBounds_toArray, List.set_cons_zero, List.set_cons_succ]
    refine wpAnyH_take (i := 13) (oi := { dst := some 38, op := Op.indexAddr 98 (Operand.tmp 3) (Operand.const (Value.int IntKind.i64 2)), type := 0, pos := _, after := #[], guard := none }) (v := ?_) rfl (by kernel_rfl) (by kernel_rfl) (by kernel_rfl) (fun _ _ _ h => h) (Or.inl ⟨by rfl, ?_⟩) (by assumption) ?_
    rotate_left
    · (intro w hSw; (try dsimp only at hSw); go_simp; try with_reducible rfl)
    simp only [Act.put, List.setIfInBounds_toArray, List.set_cons_zero, List.set_cons_succ]
    refine wpAnyH_take (i := 14) (oi := { dst := some 39, op := Op.load 3 (Operand.tmp 38), type := 3, pos := _, after := #[{ on := 13, ground := Ground.data }], guard := none }) (v := ?_) rfl (by kernel_rfl) (by kernel_rfl) (by kernel_rfl) (fun _ _ _ h => h) (Or.inl ⟨by rfl, ?_⟩) (by assumption) ?_
    rotate_left
    · (intro w hSw; (try dsimp only at hSw); go_simp; try with_reducible rfl)
    simp only [Act.put, List.setIfInBounds_toArray, List.set_cons_zero, List.set_cons_succ]
    refine wpAnyH_take (i := 15) (oi := { dst := some 40, op := Op.binOp BinOp.mul 3 (Operand.const (Value.int IntKind.i64 2)) (Operand.tmp 39) 3, type := 3, pos := _, after := #[{ on := 14, ground := Ground.data }], guard := none }) (v := ?_) rfl (by kernel_rfl) (by kernel_rfl) (by kernel_rfl) (fun _ _ _ h => h) (Or.inl ⟨by rfl, ?_⟩) (by assumption) ?_
    rotate_left
    · (intro w hSw; (try dsimp only at hSw); go_simp; try with_reducible rfl)
    simp only [Act.put, List.setIfInBounds_toArray, List.set_cons_zero, List.set_cons_succ]
    refine wpAnyH_take (i := 17) (oi := { dst := some 42, op := Op.indexAddr 98 (Operand.tmp 3) (Operand.const (Value.int IntKind.i64 16)), type := 0, pos := _, after := #[], guard := none }) (v := ?_) rfl (by kernel_rfl) (by kernel_rfl) (by kernel_rfl) (fun _ _ _ h => h) (Or.inl ⟨by rfl, ?_⟩) (by assumption) ?_
    rotate_left
    · (intro w hSw; (try dsimp only at hSw); go_simp; try with_reducible rfl)
    simp only [Act.put, List.setIfInBounds_toArray, List.set_cons_zero, List.set_cons_succ]
    refine wpAnyH_take (i := 18) (oi := { dst := some 43, op := Op.load 3 (Operand.tmp 42), type := 3, pos := _, after := #[{ on := 17, ground := Ground.data }], guard := none }) (v := ?_) rfl (by kernel_rfl) (by kernel_rfl) (by kernel_rfl) (fun _ _ _ h => h) (Or.inl ⟨by rfl, ?_⟩) (by assumption) ?_
    rotate_left
    · (intro w hSw; (try dsimp only at hSw); go_simp; try with_reducible rfl)
    simp only [Act.put, List.setIfInBounds_toArray, List.set_cons_zero, List.set_cons_succ]
    refine wpAnyH_take (i := 21) (oi := { dst := some 46, op := Op.indexAddr 98 (Operand.tmp 3) (Operand.const (Value.int IntKind.i64 17)), type := 0, pos := _, after := #[], guard := none }) (v := ?_) rfl (by kernel_rfl) (by kernel_rfl) (by kernel_rfl) (fun _ _ _ h => h) (Or.inl ⟨by rfl, ?_⟩) (by assumption) ?_
    rotate_left
    · (intro w hSw; (try dsimp only at hSw); go_simp; try with_reducible rfl)
    simp only [Act.put, List.setIfInBounds_toArray, List.set_cons_zero, List.set_cons_succ]
    refine wpAnyH_take (i := 22) (oi := { dst := some 47, op := Op.load 3 (Operand.tmp 46), type := 3, pos := _, after := #[{ on := 21, ground := Ground.data }], guard := none }) (v := ?_) rfl (by kernel_rfl) (by kernel_rfl) (by kernel_rfl) (fun _ _ _ h => h) (Or.inl ⟨by rfl, ?_⟩) (by assumption) ?_
    rotate_left
    · (intro w hSw; (try dsimp only at hSw); go_simp; try with_reducible rfl)
    simp only [Act.put, List.setIfInBounds_toArray, List.set_cons_zero, List.set_cons_succ]
    refine wpAnyH_take (i := 23) (oi := { dst := some 48, op := Op.binOp BinOp.eql 3 (Operand.tmp 47) (Operand.const (Value.int IntKind.i64 1)) 3, type := 4, pos := _, after := #[{ on := 22, ground := Ground.data }], guard := none }) (v := ?_) rfl (by kernel_rfl) (by kernel_rfl) (by kernel_rfl) (fun _ _ _ h => h) (Or.inl ⟨by rfl, ?_⟩) (by assumption) ?_
    rotate_left
    · (intro w hSw; (try dsimp only at hSw); go_simp; try with_reducible rfl)
    simp only [Act.put, List.setIfInBounds_toArray, List.set_cons_zero, List.set_cons_succ]
    refine wpAnyH_take (i := 24) (oi := { dst := some 49, op := Op.indexAddr 98 (Operand.tmp 3) (Operand.const (Value.int IntKind.i64 4)), type := 0, pos := _, after := #[], guard := none }) (v := ?_) rfl (by kernel_rfl) (by kernel_rfl) (by kernel_rfl) (fun _ _ _ h => h) (Or.inl ⟨by rfl, ?_⟩) (by assumption) ?_
    rotate_left
    · (intro w hSw; (try dsimp only at hSw); go_simp; try with_reducible rfl)
    simp only [Act.put, List.setIfInBounds_toArray, List.set_cons_zero, List.set_cons_succ]
    refine wpAnyH_take (i := 25) (oi := { dst := some 50, op := Op.load 3 (Operand.tmp 49), type := 3, pos := _, after := #[{ on := 24, ground := Ground.data }], guard := none }) (v := ?_) rfl (by kernel_rfl) (by kernel_rfl) (by kernel_rfl) (fun _ _ _ h => h) (Or.inl ⟨by rfl, ?_⟩) (by assumption) ?_
    rotate_left
    · (intro w hSw; (try dsimp only at hSw); go_simp; try with_reducible rfl)
    simp only [Act.put, List.setIfInBounds_toArray, List.set_cons_zero, List.set_cons_succ]
    refine wpAnyH_take (i := 26) (oi := { dst := some 51, op := Op.binOp BinOp.eql 3 (Operand.tmp 50) (Operand.const (Value.int IntKind.i64 1)) 3, type := 4, pos := _, after := #[{ on := 25, ground := Ground.data }], guard := none }) (v := ?_) rfl (by kernel_rfl) (by kernel_rfl) (by kernel_rfl) (fun _ _ _ h => h) (Or.inl ⟨by rfl, ?_⟩) (by assumption) ?_
    rotate_left
    · (intro w hSw; (try dsimp only at hSw); go_simp; try with_reducible rfl)
    simp only [Act.put, List.setIfInBounds_toArray, List.set_cons_zero, List.set_cons_succ]
    refine wpAnyH_ready (rs := [4, 28]) (by kernel_rfl) (by simp) ?_
    refine (AllReadyH.cons (o := { dst := some 29, op := Op.call { callee := Callee.value (Operand.func 41), args := #[Operand.tmp 28, Operand.const (Value.int IntKind.i64 11), Operand.const (Value.int IntKind.i64 10)], argTypes := #[98, 3, 3] }, type := 3, pos := _, after := #[{ on := 3, ground := Ground.data }], guard := none }) rfl (fun K hK => ?_) (AllReadyH.cons (o := { dst := some 4, op := Op.alloc 47, type := 0, pos := _, after := #[], guard := none }) rfl (fun K hK => ?_) AllReadyH.nil))
    · go_simp
      (go_at_call 41; refine (H11_10 _).mono ?_; rintro e w3 ⟨rfl, hb⟩; replace HS := hidIn (HS.out.below hb); clear hb)
      refine hK.out _ _ ?_ (fun hHeld => ?_)
      · ((try dsimp only); exact ⟨HS.out.arr, HS.out.cell 15 (by decide), HS.out.cell 3 (by decide), HS.out.cell 2 (by decide), HS.out.cell 16 (by decide), HS.out.cell 17 (by decide), HS.out.cell 4 (by decide)⟩)
      clear hK K
      try simp only [Act.put, List.setIfInBounds_toArray, List.set_cons_zero, List.set_cons_succ]
      refine wpAnyH_take (i := 5) (oi := { dst := some 30, op := Op.binOp BinOp.add 3 (Operand.tmp 27) (Operand.tmp 29) 3, type := 3, pos := _, after := #[{ on := 2, ground := Ground.data }, { on := 4, ground := Ground.data }], guard := none }) (v := ?_) rfl (by kernel_rfl) (by kernel_rfl) (by kernel_rfl) (fun _ _ _ h => h) (Or.inl ⟨by rfl, ?_⟩) (by assumption) ?_
      rotate_left
      · (intro w hSw; (try dsimp only at hSw); go_simp; try with_reducible rfl)
      simp only [Act.put, List.setIfInBounds_toArray, List.set_cons_zero, List.set_cons_succ]
      refine wpAnyH_ready (rs := [7, 28]) (by kernel_rfl) (by simp) ?_
      refine (AllReadyH.cons (o := { dst := some 32, op := Op.call { callee := Callee.value (Operand.func 41), args := #[Operand.tmp 31, Operand.const (Value.int IntKind.i64 14), Operand.const (Value.int IntKind.i64 12)], argTypes := #[98, 3, 3] }, type := 3, pos := _, after := #[{ on := 6, ground := Ground.data }, { on := 4, ground := Ground.chain }], guard := none }) rfl (fun K hK => ?_) (AllReadyH.cons (o := { dst := some 4, op := Op.alloc 47, type := 0, pos := _, after := #[], guard := none }) rfl (fun K hK => ?_) AllReadyH.nil))
      · go_simp
        (go_at_call 41; refine (H14_12 _).mono ?_; rintro e w3 ⟨rfl, hb⟩; replace HS := hidIn (HS.out.below hb); clear hb)
        refine hK.out _ _ ?_ (fun hHeld => ?_)
        · ((try dsimp only); exact ⟨HS.out.arr, HS.out.cell 15 (by decide), HS.out.cell 3 (by decide), HS.out.cell 2 (by decide), HS.out.cell 16 (by decide), HS.out.cell 17 (by decide), HS.out.cell 4 (by decide)⟩)
        clear hK K
        try simp only [Act.put, List.setIfInBounds_toArray, List.set_cons_zero, List.set_cons_succ]
        refine wpAnyH_take (i := 8) (oi := { dst := some 33, op := Op.binOp BinOp.mul 3 (Operand.const (Value.int IntKind.i64 8)) (Operand.tmp 32) 3, type := 3, pos := _, after := #[{ on := 7, ground := Ground.data }], guard := none }) (v := ?_) rfl (by kernel_rfl) (by kernel_rfl) (by kernel_rfl) (fun _ _ _ h => h) (Or.inl ⟨by rfl, ?_⟩) (by assumption) ?_
        rotate_left
        · (intro w hSw; (try dsimp only at hSw); go_simp; try with_reducible rfl)
        simp only [Act.put, List.setIfInBounds_toArray, List.set_cons_zero, List.set_cons_succ]
        refine wpAnyH_take (i := 12) (oi := { dst := some 37, op := Op.binOp BinOp.add 3 (Operand.tmp 33) (Operand.tmp 36) 3, type := 3, pos := _, after := #[{ on := 8, ground := Ground.data }, { on := 11, ground := Ground.data }], guard := none }) (v := ?_) rfl (by kernel_rfl) (by kernel_rfl) (by kernel_rfl) (fun _ _ _ h => h) (Or.inl ⟨by rfl, ?_⟩) (by assumption) ?_
        rotate_left
        · (intro w hSw; (try dsimp only at hSw); go_simp; try with_reducible rfl)
        simp only [Act.put, List.setIfInBounds_toArray, List.set_cons_zero, List.set_cons_succ]
        refine wpAnyH_take (i := 16) (oi := { dst := some 41, op := Op.binOp BinOp.add 3 (Operand.tmp 37) (Operand.tmp 40) 3, type := 3, pos := _, after := #[{ on := 12, ground := Ground.data }, { on := 15, ground := Ground.data }], guard := none }) (v := ?_) rfl (by kernel_rfl) (by kernel_rfl) (by kernel_rfl) (fun _ _ _ h => h) (Or.inl ⟨by rfl, ?_⟩) (by assumption) ?_
        rotate_left
        · (intro w hSw; (try dsimp only at hSw); go_simp; try with_reducible rfl)
        simp only [Act.put, List.setIfInBounds_toArray, List.set_cons_zero, List.set_cons_succ]
        refine wpAnyH_take (i := 19) (oi := { dst := some 44, op := Op.binOp BinOp.add 3 (Operand.tmp 41) (Operand.tmp 43) 3, type := 3, pos := _, after := #[{ on := 16, ground := Ground.data }, { on := 18, ground := Ground.data }], guard := none }) (v := ?_) rfl (by kernel_rfl) (by kernel_rfl) (by kernel_rfl) (fun _ _ _ h => h) (Or.inl ⟨by rfl, ?_⟩) (by assumption) ?_
        rotate_left
        · (intro w hSw; (try dsimp only at hSw); go_simp; try with_reducible rfl)
        simp only [Act.put, List.setIfInBounds_toArray, List.set_cons_zero, List.set_cons_succ]
        refine wpAnyH_take (i := 20) (oi := { dst := some 45, op := Op.convert 3 24 (Operand.tmp 44), type := 24, pos := _, after := #[{ on := 19, ground := Ground.data }], guard := none }) (v := ?_) rfl (by kernel_rfl) (by kernel_rfl) (by kernel_rfl) (fun _ _ _ h => h) (Or.inl ⟨by rfl, ?_⟩) (by assumption) ?_
        rotate_left
        · (intro w hSw; (try dsimp only at hSw); go_simp; try with_reducible rfl)
        simp only [Act.put, List.setIfInBounds_toArray, List.set_cons_zero, List.set_cons_succ]
        refine wpAnyH_take (i := 27) (oi := { dst := some 52, op := Op.build 47 #[(0, Operand.tmp 30), (1, Operand.tmp 45), (2, Operand.tmp 48), (3, Operand.tmp 51)], type := 47, pos := _, after := #[{ on := 5, ground := Ground.data }, { on := 20, ground := Ground.data }, { on := 23, ground := Ground.data }, { on := 26, ground := Ground.data }], guard := none }) (v := ?_) rfl (by kernel_rfl) (by kernel_rfl) (by kernel_rfl) (fun _ _ _ h => h) (Or.inl ⟨by rfl, ?_⟩) (by assumption) ?_
        rotate_left
        · (intro w hSw; (try dsimp only at hSw); go_simp; try with_reducible rfl)
        simp only [Act.put, List.setIfInBounds_toArray, List.set_cons_zero, List.set_cons_succ]
        refine wpAnyH_ready (rs := [28]) (by kernel_rfl) (by simp) ?_
        refine (AllReadyH.cons (o := { dst := some 4, op := Op.alloc 47, type := 0, pos := _, after := #[], guard := none }) rfl (fun K hK => ?_) AllReadyH.nil)
        go_simp
        (replace HS := hidIn (HS.out.alloc [.int .i64 0, .int .u32 0, .bool false, .bool false]))
        refine hK.out _ _ ?_ (fun hHeld => ?_)
        · ((try dsimp only); exact ⟨HS.out.arr, HS.out.cell 15 (by decide), HS.out.cell 3 (by decide), HS.out.cell 2 (by decide), HS.out.cell 16 (by decide), HS.out.cell 17 (by decide), HS.out.cell 4 (by decide)⟩)
        (generalize w3.heap.size = c at *; generalize w3.alloc _ = w3 at *)
        clear hK K
        try simp only [Act.put, List.setIfInBounds_toArray, List.set_cons_zero, List.set_cons_succ]
        refine wpAnyH_ready (rs := [29]) (by kernel_rfl) (by simp) ?_
        refine (AllReadyH.cons (o := { dst := none, op := Op.store 47 (Operand.tmp 4) (Operand.tmp 52), type := 0, pos := _, after := #[{ on := 28, ground := Ground.data }, { on := 27, ground := Ground.data }, { on := 7, ground := Ground.chain }, { on := 0, ground := Ground.phase }, { on := 1, ground := Ground.phase }, { on := 2, ground := Ground.phase }, { on := 3, ground := Ground.phase }, { on := 4, ground := Ground.phase }, { on := 5, ground := Ground.phase }, { on := 6, ground := Ground.phase }, { on := 7, ground := Ground.phase }, { on := 8, ground := Ground.phase }, { on := 9, ground := Ground.phase }, { on := 10, ground := Ground.phase }, { on := 11, ground := Ground.phase }, { on := 12, ground := Ground.phase }, { on := 13, ground := Ground.phase }, { on := 14, ground := Ground.phase }, { on := 15, ground := Ground.phase }, { on := 16, ground := Ground.phase }, { on := 17, ground := Ground.phase }, { on := 18, ground := Ground.phase }, { on := 19, ground := Ground.phase }, { on := 20, ground := Ground.phase }, { on := 21, ground := Ground.phase }, { on := 22, ground := Ground.phase }, { on := 23, ground := Ground.phase }, { on := 24, ground := Ground.phase }, { on := 25, ground := Ground.phase }, { on := 26, ground := Ground.phase }, { on := 27, ground := Ground.phase }, { on := 28, ground := Ground.phase }], guard := none }) rfl (fun K hK => ?_) AllReadyH.nil)
        (have hd := HS.out.leaf.cell; have hf := HS.out.leaf.frozen)
        go_simp
        (replace HS := hidIn (HS.out.store (.int .i64 p2) (.int .u32 t7) (.bool (f 17 == 1)) (.bool (f 4 == 1))); clear hd hf)
        refine hK.out _ _ ?_ (fun hHeld => ?_)
        · ((try dsimp only); exact ⟨HS.out.arr, HS.out.cell 15 (by decide), HS.out.cell 3 (by decide), HS.out.cell 2 (by decide), HS.out.cell 16 (by decide), HS.out.cell 17 (by decide), HS.out.cell 4 (by decide)⟩)
        (generalize (World.setCell (World.setCell (World.setCell (World.setCell w3 ⟨c, 0, none⟩ (.int .i64 p2)) ⟨c, 1, none⟩ (.int .u32 t7)) ⟨c, 2, none⟩ (.bool (f 17 == 1))) ⟨c, 3, none⟩ (.bool (f 4 == 1))) = w3 at *)
        clear hK K
        try simp only [Act.put, List.setIfInBounds_toArray, List.set_cons_zero, List.set_cons_succ]
        refine wpAnyH_done (by kernel_rfl) ?_ _
        exact key _ _ HS
      · go_simp
        (replace HS := hidIn (HS.out.alloc [.int .i64 0, .int .u32 0, .bool false, .bool false]))
        refine hK.out _ _ ?_ (fun hHeld => ?_)
        · ((try dsimp only); exact ⟨HS.out.arr, HS.out.cell 15 (by decide), HS.out.cell 3 (by decide), HS.out.cell 2 (by decide), HS.out.cell 16 (by decide), HS.out.cell 17 (by decide), HS.out.cell 4 (by decide)⟩)
        (generalize w3.heap.size = c at *; generalize w3.alloc _ = w3 at *)
        clear hK K
        try simp only [Act.put, List.setIfInBounds_toArray, List.set_cons_zero, List.set_cons_succ]
        refine wpAnyH_ready (rs := [7]) (by kernel_rfl) (by simp) ?_
        refine (AllReadyH.cons (o := { dst := some 32, op := Op.call { callee := Callee.value (Operand.func 41), args := #[Operand.tmp 31, Operand.const (Value.int IntKind.i64 14), Operand.const (Value.int IntKind.i64 12)], argTypes := #[98, 3, 3] }, type := 3, pos := _, after := #[{ on := 6, ground := Ground.data }, { on := 4, ground := Ground.chain }], guard := none }) rfl (fun K hK => ?_) AllReadyH.nil)
        go_simp
        (go_at_call 41; refine (H14_12 _).mono ?_; rintro e w3 ⟨rfl, hb⟩; replace HS := hidIn (HS.out.below hb); clear hb)
        refine hK.out _ _ ?_ (fun hHeld => ?_)
        · ((try dsimp only); exact ⟨HS.out.arr, HS.out.cell 15 (by decide), HS.out.cell 3 (by decide), HS.out.cell 2 (by decide), HS.out.cell 16 (by decide), HS.out.cell 17 (by decide), HS.out.cell 4 (by decide)⟩)
        clear hK K
        try simp only [Act.put, List.setIfInBounds_toArray, List.set_cons_zero, List.set_cons_succ]
        refine wpAnyH_take (i := 8) (oi := { dst := some 33, op := Op.binOp BinOp.mul 3 (Operand.const (Value.int IntKind.i64 8)) (Operand.tmp 32) 3, type := 3, pos := _, after := #[{ on := 7, ground := Ground.data }], guard := none }) (v := ?_) rfl (by kernel_rfl) (by kernel_rfl) (by kernel_rfl) (fun _ _ _ h => h) (Or.inl ⟨by rfl, ?_⟩) (by assumption) ?_
        rotate_left
        · (intro w hSw; (try dsimp only at hSw); go_simp; try with_reducible rfl)
        simp only [Act.put, List.setIfInBounds_toArray, List.set_cons_zero, List.set_cons_succ]
        refine wpAnyH_take (i := 12) (oi := { dst := some 37, op := Op.binOp BinOp.add 3 (Operand.tmp 33) (Operand.tmp 36) 3, type := 3, pos := _, after := #[{ on := 8, ground := Ground.data }, { on := 11, ground := Ground.data }], guard := none }) (v := ?_) rfl (by kernel_rfl) (by kernel_rfl) (by kernel_rfl) (fun _ _ _ h => h) (Or.inl ⟨by rfl, ?_⟩) (by assumption) ?_
        rotate_left
        · (intro w hSw; (try dsimp only at hSw); go_simp; try with_reducible rfl)
        simp only [Act.put, List.setIfInBounds_toArray, List.set_cons_zero, List.set_cons_succ]
        refine wpAnyH_take (i := 16) (oi := { dst := some 41, op := Op.binOp BinOp.add 3 (Operand.tmp 37) (Operand.tmp 40) 3, type := 3, pos := _, after := #[{ on := 12, ground := Ground.data }, { on := 15, ground := Ground.data }], guard := none }) (v := ?_) rfl (by kernel_rfl) (by kernel_rfl) (by kernel_rfl) (fun _ _ _ h => h) (Or.inl ⟨by rfl, ?_⟩) (by assumption) ?_
        rotate_left
        · (intro w hSw; (try dsimp only at hSw); go_simp; try with_reducible rfl)
        simp only [Act.put, List.setIfInBounds_toArray, List.set_cons_zero, List.set_cons_succ]
        refine wpAnyH_take (i := 19) (oi := { dst := some 44, op := Op.binOp BinOp.add 3 (Operand.tmp 41) (Operand.tmp 43) 3, type := 3, pos := _, after := #[{ on := 16, ground := Ground.data }, { on := 18, ground := Ground.data }], guard := none }) (v := ?_) rfl (by kernel_rfl) (by kernel_rfl) (by kernel_rfl) (fun _ _ _ h => h) (Or.inl ⟨by rfl, ?_⟩) (by assumption) ?_
        rotate_left
        · (intro w hSw; (try dsimp only at hSw); go_simp; try with_reducible rfl)
        simp only [Act.put, List.setIfInBounds_toArray, List.set_cons_zero, List.set_cons_succ]
        refine wpAnyH_take (i := 20) (oi := { dst := some 45, op := Op.convert 3 24 (Operand.tmp 44), type := 24, pos := _, after := #[{ on := 19, ground := Ground.data }], guard := none }) (v := ?_) rfl (by kernel_rfl) (by kernel_rfl) (by kernel_rfl) (fun _ _ _ h => h) (Or.inl ⟨by rfl, ?_⟩) (by assumption) ?_
        rotate_left
        · (intro w hSw; (try dsimp only at hSw); go_simp; try with_reducible rfl)
        simp only [Act.put, List.setIfInBounds_toArray, List.set_cons_zero, List.set_cons_succ]
        refine wpAnyH_take (i := 27) (oi := { dst := some 52, op := Op.build 47 #[(0, Operand.tmp 30), (1, Operand.tmp 45), (2, Operand.tmp 48), (3, Operand.tmp 51)], type := 47, pos := _, after := #[{ on := 5, ground := Ground.data }, { on := 20, ground := Ground.data }, { on := 23, ground := Ground.data }, { on := 26, ground := Ground.data }], guard := none }) (v := ?_) rfl (by kernel_rfl) (by kernel_rfl) (by kernel_rfl) (fun _ _ _ h => h) (Or.inl ⟨by rfl, ?_⟩) (by assumption) ?_
        rotate_left
        · (intro w hSw; (try dsimp only at hSw); go_simp; try with_reducible rfl)
        simp only [Act.put, List.setIfInBounds_toArray, List.set_cons_zero, List.set_cons_succ]
        refine wpAnyH_ready (rs := [29]) (by kernel_rfl) (by simp) ?_
        refine (AllReadyH.cons (o := { dst := none, op := Op.store 47 (Operand.tmp 4) (Operand.tmp 52), type := 0, pos := _, after := #[{ on := 28, ground := Ground.data }, { on := 27, ground := Ground.data }, { on := 7, ground := Ground.chain }, { on := 0, ground := Ground.phase }, { on := 1, ground := Ground.phase }, { on := 2, ground := Ground.phase }, { on := 3, ground := Ground.phase }, { on := 4, ground := Ground.phase }, { on := 5, ground := Ground.phase }, { on := 6, ground := Ground.phase }, { on := 7, ground := Ground.phase }, { on := 8, ground := Ground.phase }, { on := 9, ground := Ground.phase }, { on := 10, ground := Ground.phase }, { on := 11, ground := Ground.phase }, { on := 12, ground := Ground.phase }, { on := 13, ground := Ground.phase }, { on := 14, ground := Ground.phase }, { on := 15, ground := Ground.phase }, { on := 16, ground := Ground.phase }, { on := 17, ground := Ground.phase }, { on := 18, ground := Ground.phase }, { on := 19, ground := Ground.phase }, { on := 20, ground := Ground.phase }, { on := 21, ground := Ground.phase }, { on := 22, ground := Ground.phase }, { on := 23, ground := Ground.phase }, { on := 24, ground := Ground.phase }, { on := 25, ground := Ground.phase }, { on := 26, ground := Ground.phase }, { on := 27, ground := Ground.phase }, { on := 28, ground := Ground.phase }], guard := none }) rfl (fun K hK => ?_) AllReadyH.nil)
        (have hd := HS.out.leaf.cell; have hf := HS.out.leaf.frozen)
        go_simp
        (replace HS := hidIn (HS.out.store (.int .i64 p2) (.int .u32 t7) (.bool (f 17 == 1)) (.bool (f 4 == 1))); clear hd hf)
        refine hK.out _ _ ?_ (fun hHeld => ?_)
        · ((try dsimp only); exact ⟨HS.out.arr, HS.out.cell 15 (by decide), HS.out.cell 3 (by decide), HS.out.cell 2 (by decide), HS.out.cell 16 (by decide), HS.out.cell 17 (by decide), HS.out.cell 4 (by decide)⟩)
        (generalize (World.setCell (World.setCell (World.setCell (World.setCell w3 ⟨c, 0, none⟩ (.int .i64 p2)) ⟨c, 1, none⟩ (.int .u32 t7)) ⟨c, 2, none⟩ (.bool (f 17 == 1))) ⟨c, 3, none⟩ (.bool (f 4 == 1))) = w3 at *)
        clear hK K
        try simp only [Act.put, List.setIfInBounds_toArray, List.set_cons_zero, List.set_cons_succ]
        refine wpAnyH_done (by kernel_rfl) ?_ _
        exact key _ _ HS
    · go_simp
      (replace HS := hidIn (HS.out.alloc [.int .i64 0, .int .u32 0, .bool false, .bool false]))
      refine hK.out _ _ ?_ (fun hHeld => ?_)
      · ((try dsimp only); exact ⟨HS.out.arr, HS.out.cell 15 (by decide), HS.out.cell 3 (by decide), HS.out.cell 2 (by decide), HS.out.cell 16 (by decide), HS.out.cell 17 (by decide), HS.out.cell 4 (by decide)⟩)
      (generalize w3.heap.size = c at *; generalize w3.alloc _ = w3 at *)
      clear hK K
      try simp only [Act.put, List.setIfInBounds_toArray, List.set_cons_zero, List.set_cons_succ]
      refine wpAnyH_ready (rs := [4]) (by kernel_rfl) (by simp) ?_
      refine (AllReadyH.cons (o := { dst := some 29, op := Op.call { callee := Callee.value (Operand.func 41), args := #[Operand.tmp 28, Operand.const (Value.int IntKind.i64 11), Operand.const (Value.int IntKind.i64 10)], argTypes := #[98, 3, 3] }, type := 3, pos := _, after := #[{ on := 3, ground := Ground.data }], guard := none }) rfl (fun K hK => ?_) AllReadyH.nil)
      go_simp
      (go_at_call 41; refine (H11_10 _).mono ?_; rintro e w3 ⟨rfl, hb⟩; replace HS := hidIn (HS.out.below hb); clear hb)
      refine hK.out _ _ ?_ (fun hHeld => ?_)
      · ((try dsimp only); exact ⟨HS.out.arr, HS.out.cell 15 (by decide), HS.out.cell 3 (by decide), HS.out.cell 2 (by decide), HS.out.cell 16 (by decide), HS.out.cell 17 (by decide), HS.out.cell 4 (by decide)⟩)
      clear hK K
      try simp only [Act.put, List.setIfInBounds_toArray, List.set_cons_zero, List.set_cons_succ]
      refine wpAnyH_take (i := 5) (oi := { dst := some 30, op := Op.binOp BinOp.add 3 (Operand.tmp 27) (Operand.tmp 29) 3, type := 3, pos := _, after := #[{ on := 2, ground := Ground.data }, { on := 4, ground := Ground.data }], guard := none }) (v := ?_) rfl (by kernel_rfl) (by kernel_rfl) (by kernel_rfl) (fun _ _ _ h => h) (Or.inl ⟨by rfl, ?_⟩) (by assumption) ?_
      rotate_left
      · (intro w hSw; (try dsimp only at hSw); go_simp; try with_reducible rfl)
      simp only [Act.put, List.setIfInBounds_toArray, List.set_cons_zero, List.set_cons_succ]
      refine wpAnyH_ready (rs := [7]) (by kernel_rfl) (by simp) ?_
      refine (AllReadyH.cons (o := { dst := some 32, op := Op.call { callee := Callee.value (Operand.func 41), args := #[Operand.tmp 31, Operand.const (Value.int IntKind.i64 14), Operand.const (Value.int IntKind.i64 12)], argTypes := #[98, 3, 3] }, type := 3, pos := _, after := #[{ on := 6, ground := Ground.data }, { on := 4, ground := Ground.chain }], guard := none }) rfl (fun K hK => ?_) AllReadyH.nil)
      go_simp
      (go_at_call 41; refine (H14_12 _).mono ?_; rintro e w3 ⟨rfl, hb⟩; replace HS := hidIn (HS.out.below hb); clear hb)
      refine hK.out _ _ ?_ (fun hHeld => ?_)
      · ((try dsimp only); exact ⟨HS.out.arr, HS.out.cell 15 (by decide), HS.out.cell 3 (by decide), HS.out.cell 2 (by decide), HS.out.cell 16 (by decide), HS.out.cell 17 (by decide), HS.out.cell 4 (by decide)⟩)
      clear hK K
      try simp only [Act.put, List.setIfInBounds_toArray, List.set_cons_zero, List.set_cons_succ]
      refine wpAnyH_take (i := 8) (oi := { dst := some 33, op := Op.binOp BinOp.mul 3 (Operand.const (Value.int IntKind.i64 8)) (Operand.tmp 32) 3, type := 3, pos := _, after := #[{ on := 7, ground := Ground.data }], guard := none }) (v := ?_) rfl (by kernel_rfl) (by kernel_rfl) (by kernel_rfl) (fun _ _ _ h => h) (Or.inl ⟨by rfl, ?_⟩) (by assumption) ?_
      rotate_left
      · (intro w hSw; (try dsimp only at hSw); go_simp; try with_reducible rfl)
      simp only [Act.put, List.setIfInBounds_toArray, List.set_cons_zero, List.set_cons_succ]
      refine wpAnyH_take (i := 12) (oi := { dst := some 37, op := Op.binOp BinOp.add 3 (Operand.tmp 33) (Operand.tmp 36) 3, type := 3, pos := _, after := #[{ on := 8, ground := Ground.data }, { on := 11, ground := Ground.data }], guard := none }) (v := ?_) rfl (by kernel_rfl) (by kernel_rfl) (by kernel_rfl) (fun _ _ _ h => h) (Or.inl ⟨by rfl, ?_⟩) (by assumption) ?_
      rotate_left
      · (intro w hSw; (try dsimp only at hSw); go_simp; try with_reducible rfl)
      simp only [Act.put, List.setIfInBounds_toArray, List.set_cons_zero, List.set_cons_succ]
      refine wpAnyH_take (i := 16) (oi := { dst := some 41, op := Op.binOp BinOp.add 3 (Operand.tmp 37) (Operand.tmp 40) 3, type := 3, pos := _, after := #[{ on := 12, ground := Ground.data }, { on := 15, ground := Ground.data }], guard := none }) (v := ?_) rfl (by kernel_rfl) (by kernel_rfl) (by kernel_rfl) (fun _ _ _ h => h) (Or.inl ⟨by rfl, ?_⟩) (by assumption) ?_
      rotate_left
      · (intro w hSw; (try dsimp only at hSw); go_simp; try with_reducible rfl)
      simp only [Act.put, List.setIfInBounds_toArray, List.set_cons_zero, List.set_cons_succ]
      refine wpAnyH_take (i := 19) (oi := { dst := some 44, op := Op.binOp BinOp.add 3 (Operand.tmp 41) (Operand.tmp 43) 3, type := 3, pos := _, after := #[{ on := 16, ground := Ground.data }, { on := 18, ground := Ground.data }], guard := none }) (v := ?_) rfl (by kernel_rfl) (by kernel_rfl) (by kernel_rfl) (fun _ _ _ h => h) (Or.inl ⟨by rfl, ?_⟩) (by assumption) ?_
      rotate_left
      · (intro w hSw; (try dsimp only at hSw); go_simp; try with_reducible rfl)
      simp only [Act.put, List.setIfInBounds_toArray, List.set_cons_zero, List.set_cons_succ]
      refine wpAnyH_take (i := 20) (oi := { dst := some 45, op := Op.convert 3 24 (Operand.tmp 44), type := 24, pos := _, after := #[{ on := 19, ground := Ground.data }], guard := none }) (v := ?_) rfl (by kernel_rfl) (by kernel_rfl) (by kernel_rfl) (fun _ _ _ h => h) (Or.inl ⟨by rfl, ?_⟩) (by assumption) ?_
      rotate_left
      · (intro w hSw; (try dsimp only at hSw); go_simp; try with_reducible rfl)
      simp only [Act.put, List.setIfInBounds_toArray, List.set_cons_zero, List.set_cons_succ]
      refine wpAnyH_take (i := 27) (oi := { dst := some 52, op := Op.build 47 #[(0, Operand.tmp 30), (1, Operand.tmp 45), (2, Operand.tmp 48), (3, Operand.tmp 51)], type := 47, pos := _, after := #[{ on := 5, ground := Ground.data }, { on := 20, ground := Ground.data }, { on := 23, ground := Ground.data }, { on := 26, ground := Ground.data }], guard := none }) (v := ?_) rfl (by kernel_rfl) (by kernel_rfl) (by kernel_rfl) (fun _ _ _ h => h) (Or.inl ⟨by rfl, ?_⟩) (by assumption) ?_
      rotate_left
      · (intro w hSw; (try dsimp only at hSw); go_simp; try with_reducible rfl)
      simp only [Act.put, List.setIfInBounds_toArray, List.set_cons_zero, List.set_cons_succ]
      refine wpAnyH_ready (rs := [29]) (by kernel_rfl) (by simp) ?_
      refine (AllReadyH.cons (o := { dst := none, op := Op.store 47 (Operand.tmp 4) (Operand.tmp 52), type := 0, pos := _, after := #[{ on := 28, ground := Ground.data }, { on := 27, ground := Ground.data }, { on := 7, ground := Ground.chain }, { on := 0, ground := Ground.phase }, { on := 1, ground := Ground.phase }, { on := 2, ground := Ground.phase }, { on := 3, ground := Ground.phase }, { on := 4, ground := Ground.phase }, { on := 5, ground := Ground.phase }, { on := 6, ground := Ground.phase }, { on := 7, ground := Ground.phase }, { on := 8, ground := Ground.phase }, { on := 9, ground := Ground.phase }, { on := 10, ground := Ground.phase }, { on := 11, ground := Ground.phase }, { on := 12, ground := Ground.phase }, { on := 13, ground := Ground.phase }, { on := 14, ground := Ground.phase }, { on := 15, ground := Ground.phase }, { on := 16, ground := Ground.phase }, { on := 17, ground := Ground.phase }, { on := 18, ground := Ground.phase }, { on := 19, ground := Ground.phase }, { on := 20, ground := Ground.phase }, { on := 21, ground := Ground.phase }, { on := 22, ground := Ground.phase }, { on := 23, ground := Ground.phase }, { on := 24, ground := Ground.phase }, { on := 25, ground := Ground.phase }, { on := 26, ground := Ground.phase }, { on := 27, ground := Ground.phase }, { on := 28, ground := Ground.phase }], guard := none }) rfl (fun K hK => ?_) AllReadyH.nil)
      (have hd := HS.out.leaf.cell; have hf := HS.out.leaf.frozen)
      go_simp
      (replace HS := hidIn (HS.out.store (.int .i64 p2) (.int .u32 t7) (.bool (f 17 == 1)) (.bool (f 4 == 1))); clear hd hf)
      refine hK.out _ _ ?_ (fun hHeld => ?_)
      · ((try dsimp only); exact ⟨HS.out.arr, HS.out.cell 15 (by decide), HS.out.cell 3 (by decide), HS.out.cell 2 (by decide), HS.out.cell 16 (by decide), HS.out.cell 17 (by decide), HS.out.cell 4 (by decide)⟩)
      (generalize (World.setCell (World.setCell (World.setCell (World.setCell w3 ⟨c, 0, none⟩ (.int .i64 p2)) ⟨c, 1, none⟩ (.int .u32 t7)) ⟨c, 2, none⟩ (.bool (f 17 == 1))) ⟨c, 3, none⟩ (.bool (f 4 == 1))) = w3 at *)
      clear hK K
      try simp only [Act.put, List.setIfInBounds_toArray, List.set_cons_zero, List.set_cons_succ]
      refine wpAnyH_done (by kernel_rfl) ?_ _
      exact key _ _ HS
  case key =>
    intro c w3 HS
    have c18 := HS.out.cell 18 (by decide)
    go_wp2
    refine wp_region_held_drew (S := fun w' => Hid (Bl w' n 98 (encB f)) ∧ w'.cell? ⟨n, 19, none⟩ = some (.int .i64 (f 19)) ∧ w'.cell? ⟨c, 0, none⟩ = some (.int .i64 p2) ∧ w'.cell? ⟨c, 1, none⟩ = some (.int .u32 t7) ∧ w'.cell? ⟨c, 2, none⟩ = some (.bool (f 17 == 1)) ∧ w'.cell? ⟨c, 3, none⟩ = some (.bool (f 4 == 1))) (by kernel_rfl) (by (try dsimp only); exact ⟨HS.out.drew.arr, HS.out.drew.cell 19 (by decide), HS.out.drew.leaf.cell 0, HS.out.drew.leaf.cell 1, HS.out.drew.leaf.cell 2, HS.out.drew.leaf.cell 3⟩) (fun hHeld => ?_)
    replace HS := hidIn HS.out.drew
    generalize World.drew w3 = w3 at *
    refine wpAnyH_take (i := 0) (oi := { dst := some 56, op := Op.load 98 (Operand.tmp 3), type := 98, pos := _, after := #[], guard := none }) (v := .agg (encB f).toArray) rfl (by kernel_rfl) (by kernel_rfl) (by kernel_rfl) (fun _ _ _ h => h) (Or.inl ⟨by rfl, fun w hSw => exec54 _ _ _ rfl _ _ rfl w hSw.1.out⟩) (by assumption) ?_
    simp only [Act.put, List.setIfInBounds_toArray, List.set_cons_zero, List.set_cons_succ]
    refine wpAnyH_take (i := 5) (oi := { dst := some 61, op := Op.load 98 (Operand.tmp 3), type := 98, pos := _, after := #[], guard := none }) (v := .agg (encB f).toArray) rfl (by kernel_rfl) (by kernel_rfl) (by kernel_rfl) (fun _ _ _ h => h) (Or.inl ⟨by rfl, fun w hSw => exec54 _ _ _ rfl _ _ rfl w hSw.1.out⟩) (by assumption) ?_
    simp only [Act.put, List.setIfInBounds_toArray, List.set_cons_zero, List.set_cons_succ]
    refine wpAnyH_take (i := 7) (oi := { dst := some 63, op := Op.indexAddr 98 (Operand.tmp 3) (Operand.const (Value.int IntKind.i64 19)), type := 0, pos := _, after := #[], guard := none }) (v := ?_) rfl (by kernel_rfl) (by kernel_rfl) (by kernel_rfl) (fun _ _ _ h => h) (Or.inl ⟨by rfl, ?_⟩) (by assumption) ?_
    rotate_left
    · (intro w hSw; (try dsimp only at hSw); go_simp; try with_reducible rfl)
    simp only [Act.put, List.setIfInBounds_toArray, List.set_cons_zero, List.set_cons_succ]
    refine wpAnyH_take (i := 8) (oi := { dst := some 64, op := Op.load 3 (Operand.tmp 63), type := 3, pos := _, after := #[{ on := 7, ground := Ground.data }], guard := none }) (v := ?_) rfl (by kernel_rfl) (by kernel_rfl) (by kernel_rfl) (fun _ _ _ h => h) (Or.inl ⟨by rfl, ?_⟩) (by assumption) ?_
    rotate_left
    · (intro w hSw; (try dsimp only at hSw); go_simp; try with_reducible rfl)
    simp only [Act.put, List.setIfInBounds_toArray, List.set_cons_zero, List.set_cons_succ]
    refine wpAnyH_take (i := 9) (oi := { dst := some 65, op := Op.binOp BinOp.eql 3 (Operand.tmp 64) (Operand.const (Value.int IntKind.i64 1)) 3, type := 4, pos := _, after := #[{ on := 8, ground := Ground.data }], guard := none }) (v := ?_) rfl (by kernel_rfl) (by kernel_rfl) (by kernel_rfl) (fun _ _ _ h => h) (Or.inl ⟨by rfl, ?_⟩) (by assumption) ?_
    rotate_left
    · (intro w hSw; (try dsimp only at hSw); go_simp; try with_reducible rfl)
    simp only [Act.put, List.setIfInBounds_toArray, List.set_cons_zero, List.set_cons_succ]
    refine wpAnyH_take (i := 10) (oi := { dst := some 66, op := Op.load 47 (Operand.tmp 4), type := 47, pos := _, after := #[], guard := none }) (v := ?_) rfl (by kernel_rfl) (by kernel_rfl) (by kernel_rfl) (fun _ _ _ h => h) (Or.inl ⟨by rfl, ?_⟩) (by assumption) ?_
    rotate_left
    · (intro w hSw; (try dsimp only at hSw); go_simp; try with_reducible rfl)
    simp only [Act.put, List.setIfInBounds_toArray, List.set_cons_zero, List.set_cons_succ]
    refine wpAnyH_ready (rs := [1]) (by kernel_rfl) (by simp) ?_
    refine (AllReadyH.cons (o := { dst := some 57, op := Op.call { callee := Callee.value (Operand.func 41), args := #[Operand.tmp 56, Operand.const (Value.int IntKind.i64 31), Operand.const (Value.int IntKind.i64 20)], argTypes := #[98, 3, 3] }, type := 3, pos := _, after := #[{ on := 0, ground := Ground.data }], guard := none }) rfl (fun K hK => ?_) AllReadyH.nil)
    go_simp
    (go_at_call 41; refine (H31_20 _).mono ?_; rintro e w3 ⟨rfl, hb⟩; replace HS := hidIn (HS.out.below hb); clear hb)
    refine hK.out _ _ ?_ (fun hHeld => ?_)
    · ((try dsimp only); exact ⟨HS.out.arr, HS.out.cell 19 (by decide), HS.out.leaf.cell 0, HS.out.leaf.cell 1, HS.out.leaf.cell 2, HS.out.leaf.cell 3⟩)
    clear hK K
    try simp only [Act.put, List.setIfInBounds_toArray, List.set_cons_zero, List.set_cons_succ]
    refine wpAnyH_take (i := 2) (oi := { dst := some 58, op := Op.convert 3 23 (Operand.tmp 57), type := 23, pos := _, after := #[{ on := 1, ground := Ground.data }], guard := none }) (v := ?_) rfl (by kernel_rfl) (by kernel_rfl) (by kernel_rfl) (fun _ _ _ h => h) (Or.inl ⟨by rfl, ?_⟩) (by assumption) ?_
    rotate_left
    · (intro w hSw; (try dsimp only at hSw); go_simp; try with_reducible rfl)
    simp only [Act.put, List.setIfInBounds_toArray, List.set_cons_zero, List.set_cons_succ]
    refine wpAnyH_ready (rs := [3]) (by kernel_rfl) (by simp) ?_
    refine (AllReadyH.cons (o := { dst := some 59, op := Op.call { callee := Callee.value (Operand.func 42), args := #[Operand.const (Value.int IntKind.i64 20)], argTypes := #[3] }, type := 23, pos := _, after := #[{ on := 1, ground := Ground.chain }], guard := none }) rfl (fun K hK => ?_) AllReadyH.nil)
    go_simp
    (go_at_call 42; refine (hp20 _).mono ?_; rintro e w' ⟨rfl, rfl⟩)
    refine hK.out _ _ ?_ (fun hHeld => ?_)
    · ((try dsimp only); exact ⟨HS.out.arr, HS.out.cell 19 (by decide), HS.out.leaf.cell 0, HS.out.leaf.cell 1, HS.out.leaf.cell 2, HS.out.leaf.cell 3⟩)
    clear hK K
    try simp only [Act.put, List.setIfInBounds_toArray, List.set_cons_zero, List.set_cons_succ]
    refine wpAnyH_take (i := 4) (oi := { dst := some 60, op := Op.binOp BinOp.mul 23 (Operand.tmp 58) (Operand.tmp 59) 23, type := 23, pos := _, after := #[{ on := 2, ground := Ground.data }, { on := 3, ground := Ground.data }], guard := none }) (v := ?_) rfl (by kernel_rfl) (by kernel_rfl) (by kernel_rfl) (fun _ _ _ h => h) (Or.inl ⟨by rfl, ?_⟩) (by assumption) ?_
    rotate_left
    · (intro w hSw; (try dsimp only at hSw); go_simp; try with_reducible rfl)
    simp only [Act.put, List.setIfInBounds_toArray, List.set_cons_zero, List.set_cons_succ]
    refine wpAnyH_ready (rs := [6]) (by kernel_rfl) (by simp) ?_
    refine (AllReadyH.cons (o := { dst := some 62, op := Op.call { callee := Callee.value (Operand.func 41), args := #[Operand.tmp 61, Operand.const (Value.int IntKind.i64 8), Operand.const (Value.int IntKind.i64 5)], argTypes := #[98, 3, 3] }, type := 3, pos := _, after := #[{ on := 5, ground := Ground.data }, { on := 3, ground := Ground.chain }], guard := none }) rfl (fun K hK => ?_) AllReadyH.nil)
    go_simp
    (go_at_call 41; refine (H8_5 _).mono ?_; rintro e w3 ⟨rfl, hb⟩; replace HS := hidIn (HS.out.below hb); clear hb)
    refine hK.out _ _ ?_ (fun hHeld => ?_)
    · ((try dsimp only); exact ⟨HS.out.arr, HS.out.cell 19 (by decide), HS.out.leaf.cell 0, HS.out.leaf.cell 1, HS.out.leaf.cell 2, HS.out.leaf.cell 3⟩)
    clear hK K
    try simp only [Act.put, List.setIfInBounds_toArray, List.set_cons_zero, List.set_cons_succ]
    refine wpAnyH_take (i := 11) (oi := { dst := some 67, op := Op.build 70 #[(0, Operand.const (Value.int IntKind.i64 2)), (1, Operand.tmp 60), (2, Operand.tmp 62), (3, Operand.tmp 65), (4, Operand.tmp 66)], type := 70, pos := _, after := #[{ on := 4, ground := Ground.data }, { on := 6, ground := Ground.data }, { on := 9, ground := Ground.data }, { on := 10, ground := Ground.data }], guard := none }) (v := ?_) rfl (by kernel_rfl) (by kernel_rfl) (by kernel_rfl) (fun _ _ _ h => h) (Or.inl ⟨by rfl, ?_⟩) (by assumption) ?_
    rotate_left
    · (intro w hSw; (try dsimp only at hSw); go_simp; try with_reducible rfl)
    simp only [Act.put, List.setIfInBounds_toArray, List.set_cons_zero, List.set_cons_succ]
    refine wpAnyH_ready (rs := [12]) (by kernel_rfl) (by simp) ?_
    refine (AllReadyH.cons (o := { dst := none, op := Op.store 70 (Operand.tmp 2) (Operand.tmp 67), type := 0, pos := _, after := #[{ on := 11, ground := Ground.data }, { on := 6, ground := Ground.chain }, { on := 0, ground := Ground.phase }, { on := 1, ground := Ground.phase }, { on := 2, ground := Ground.phase }, { on := 3, ground := Ground.phase }, { on := 4, ground := Ground.phase }, { on := 5, ground := Ground.phase }, { on := 6, ground := Ground.phase }, { on := 7, ground := Ground.phase }, { on := 8, ground := Ground.phase }, { on := 9, ground := Ground.phase }, { on := 10, ground := Ground.phase }, { on := 11, ground := Ground.phase }], guard := none }) rfl (fun K hK => ?_) AllReadyH.nil)
    (have hd := HS.out.res.cell; have hf := HS.out.res.frozen)
    go_simp
    skip
    refine hK.out _ _ ?_ (fun hHeld => ?_)
    · ((try dsimp only); exact ⟨(HS.out.arr.keep8' W.heap.size (by have := HS.out.lt; omega) _ _ _ _ _ _ _ _), ((HS.out.arr.keep8' W.heap.size (by have := HS.out.lt; omega) _ _ _ _ _ _ _ _).cell 19).trans (encB_at f 19 (by decide)), (HS.out.leaf.keep8' W.heap.size (by have := HS.out.ltc; omega) _ _ _ _ _ _ _ _).cell 0, (HS.out.leaf.keep8' W.heap.size (by have := HS.out.ltc; omega) _ _ _ _ _ _ _ _).cell 1, (HS.out.leaf.keep8' W.heap.size (by have := HS.out.ltc; omega) _ _ _ _ _ _ _ _).cell 2, (HS.out.leaf.keep8' W.heap.size (by have := HS.out.ltc; omega) _ _ _ _ _ _ _ _).cell 3⟩)
    clear hK K
    try simp only [Act.put, List.setIfInBounds_toArray, List.set_cons_zero, List.set_cons_succ]
    refine wpAnyH_done (by kernel_rfl) ?_ _
    go_wp2
    have hd := HS.out.res.cell
    have hf := HS.out.res.frozen
    refine bodyPost_ret (v := .agg #[.int .i64 2, .int .u64 B, .int .i64 d, .bool (f 19 == 1), .int .i64 p2, .int .u32 t7, .bool (f 17 == 1), .bool (f 4 == 1)]) (by simp [results, Tryd.results20, go_sem, hd]) rfl ⟨rfl, (by (repeat (refine Below.setCell ?_ (by simp) _)); exact HS.out.bel)⟩
set_option maxRecDepth 100000 in
set_option maxHeartbeats 4000000 in
theorem rd1_U (x : Int) (f : Nat → Int) (A C D B1 B2 B3 B4 B a t p1 p2 t1 t2 t3 t4 t5 t6 t7 : Int) (W : World)
    (HBI : ∀ w, Calls Tryd.prog 40 #[.int .u32 x] w fun e w' => e = .returned (.agg (encB f).toArray) ∧ Below w.heap.size w w')
    (H1_0 : ∀ w, Calls Tryd.prog 41 #[.agg (encB f).toArray, .int .i64 1, .int .i64 0] w fun e w' => e = .returned (.int .i64 2) ∧ Below w.heap.size w w')
    (H11_10 : ∀ w, Calls Tryd.prog 41 #[.agg (encB f).toArray, .int .i64 11, .int .i64 10] w fun e w' => e = .returned (.int .i64 a) ∧ Below w.heap.size w w')
    (H14_12 : ∀ w, Calls Tryd.prog 41 #[.agg (encB f).toArray, .int .i64 14, .int .i64 12] w fun e w' => e = .returned (.int .i64 t) ∧ Below w.heap.size w w')
    (H31_24 : ∀ w, Calls Tryd.prog 41 #[.agg (encB f).toArray, .int .i64 31, .int .i64 24] w fun e w' => e = .returned (.int .i64 A) ∧ Below w.heap.size w w')
    (H23_20 : ∀ w, Calls Tryd.prog 41 #[.agg (encB f).toArray, .int .i64 23, .int .i64 20] w fun e w' => e = .returned (.int .i64 C) ∧ Below w.heap.size w w')
    (H8_5 : ∀ w, Calls Tryd.prog 41 #[.agg (encB f).toArray, .int .i64 8, .int .i64 5] w fun e w' => e = .returned (.int .i64 D) ∧ Below w.heap.size w w')
    (r1 : IntKind.u64.wrap A = A) (r2 : IntKind.u64.wrap C = C) (r3 : IntKind.u64.wrap D = D) (r4 : IntKind.u64.wrap (A * 16777216) = B1) (r5 : IntKind.u64.wrap (C * 4294967296) = B2) (r6 : IntKind.u64.wrap (B1 + B2) = B3) (r7 : IntKind.u64.wrap (D * 68719476736) = B4) (r8 : IntKind.u64.wrap (B3 + B4) = B) (h18 : (f 18 == 0) = false) (q1 : IntKind.i64.wrap (4 * f 15) = p1) (q2 : IntKind.i64.wrap (p1 + a) = p2) (q3 : IntKind.i64.wrap (8 * t) = t1) (q4 : IntKind.i64.wrap (4 * f 3) = t2) (q5 : IntKind.i64.wrap (t1 + t2) = t3) (q6 : IntKind.i64.wrap (2 * f 2) = t4) (q7 : IntKind.i64.wrap (t3 + t4) = t5) (q8 : IntKind.i64.wrap (t5 + f 16) = t6) (q9 : IntKind.u32.wrap t6 = t7) :
    Calls Tryd.prog 20 #[.int .u32 x] W fun e w' => e = .returned (.agg #[.int .i64 3, .int .u64 B, .int .i64 0, .bool (f 19 == 1), .int .i64 p2, .int .u32 t7, .bool (f 17 == 1), .bool (f 4 == 1)]) ∧ Below W.heap.size W w' := by
  have hp24 := fun w => power_l 24 16777216 w (by decide) (by decide) 24 rfl
  have hp32 := fun w => power_l 32 4294967296 w (by decide) (by decide) 32 rfl
  have hp36 := fun w => power_l 36 68719476736 w (by decide) (by decide) 36 rfl
  have hz := zeroB
  have hZl : (encB (fun _ => 0)).length = 32 := encB_len _
  generalize encB (fun _ => 0) = Z at *
  go_enter Tryd.func20, Tryd.ntmps20
  go_wp2_with (first | (go_at_call 40; refine (HBI _).mono ?_; rintro e w1 ⟨rfl, hb⟩; have HS : Hid (RS f W w1.heap.size ((w1.alloc (.cells Z.toArray 98)).setRow w1.heap.size (encB f).toArray)) := rs_start Z hb; have HSt : Hid ((Instr.storeAt 98 (Value.pointer (some ⟨w1.heap.size, 0, none⟩)) (.agg (encB f).toArray)).run Tryd.prog (w1.alloc (.cells Z.toArray 98)) = .ok () ((w1.alloc (.cells Z.toArray 98)).setRow w1.heap.size (encB f).toArray)) := storeB _ _ f Z (Bl.new w1 98 Z) hZl; clear hb) | (guard_target =~ wpList _ _ _ (Oper.mk none (Op.store 98 _ _) _ _ _ _ :: _) _ _; refine wpl_storeB _ rfl _ _ rfl (.pointer (some ⟨w1.heap.size, 0, none⟩)) (.agg (encB f).toArray) rfl rfl HSt.out ?_; clear HSt; generalize (w1.alloc (.cells Z.toArray 98)).setRow w1.heap.size (encB f).toArray = w2 at *; generalize w1.heap.size = n at *) | (guard_target =~ wpList _ _ _ (Oper.mk (some 8) (Op.load 98 _) _ _ _ _ :: _) _ _; refine wpl_loadB _ rfl _ rfl (.pointer (some ⟨n, 0, none⟩)) rfl (loadB _ _ _ HS.out.arr) ?_) | (go_at_call 41; refine (H1_0 _).mono ?_; rintro e w3 ⟨rfl, hb⟩; replace HS := hidIn (HS.out.below hb); clear hb) | go_in)
  apply via (P := fun c w => Hid (RL f W n [.int .i64 p2, .int .u32 t7, .bool (f 17 == 1), .bool (f 4 == 1)] c w))
  case main =>
    intro key
    refine wp_region_held_drew (S := fun w' => Hid (Bl w' n 98 (encB f)) ∧ w'.cell? ⟨n, 15, none⟩ = some (.int .i64 (f 15)) ∧ w'.cell? ⟨n, 3, none⟩ = some (.int .i64 (f 3)) ∧ w'.cell? ⟨n, 2, none⟩ = some (.int .i64 (f 2)) ∧ w'.cell? ⟨n, 16, none⟩ = some (.int .i64 (f 16)) ∧ w'.cell? ⟨n, 17, none⟩ = some (.int .i64 (f 17)) ∧ w'.cell? ⟨n, 4, none⟩ = some (.int .i64 (f 4))) (by kernel_rfl) (by (try dsimp only); exact ⟨HS.out.drew.arr, HS.out.drew.cell 15 (by decide), HS.out.drew.cell 3 (by decide), HS.out.drew.cell 2 (by decide), HS.out.drew.cell 16 (by decide), HS.out.drew.cell 17 (by decide), HS.out.drew.cell 4 (by decide)⟩) (fun hHeld => ?_)
    replace HS := hidIn HS.out.drew
    generalize World.drew w3 = w3 at *
    refine wpAnyH_take (i := 0) (oi := { dst := some 25, op := Op.indexAddr 98 (Operand.tmp 3) (Operand.const (Value.int IntKind.i64 15)), type := 0, pos := _, after := #[], guard := none }) (v := ?_) rfl (by kernel_rfl) (by kernel_rfl) (by kernel_rfl) (fun _ _ _ h => h) (Or.inl ⟨by rfl, ?_⟩) (by assumption) ?_
    rotate_left
    · (intro w hSw; (try dsimp only at hSw); go_simp; try with_reducible rfl)
    simp only [Act.put, List.setIfInBounds_toArray, List.set_cons_zero, List.set_cons_succ]
    refine wpAnyH_take (i := 1) (oi := { dst := some 26, op := Op.load 3 (Operand.tmp 25), type := 3, pos := _, after := #[{ on := 0, ground := Ground.data }], guard := none }) (v := ?_) rfl (by kernel_rfl) (by kernel_rfl) (by kernel_rfl) (fun _ _ _ h => h) (Or.inl ⟨by rfl, ?_⟩) (by assumption) ?_
    rotate_left
    · (intro w hSw; (try dsimp only at hSw); go_simp; try with_reducible rfl)
    simp only [Act.put, List.setIfInBounds_toArray, List.set_cons_zero, List.set_cons_succ]
    refine wpAnyH_take (i := 2) (oi := { dst := some 27, op := Op.binOp BinOp.mul 3 (Operand.const (Value.int IntKind.i64 4)) (Operand.tmp 26) 3, type := 3, pos := _, after := #[{ on := 1, ground := Ground.data }], guard := none }) (v := ?_) rfl (by kernel_rfl) (by kernel_rfl) (by kernel_rfl) (fun _ _ _ h => h) (Or.inl ⟨by rfl, ?_⟩) (by assumption) ?_
    rotate_left
    · (intro w hSw; (try dsimp only at hSw); go_simp; try with_reducible rfl)
    simp only [Act.put, List.setIfInBounds_toArray, List.set_cons_zero, List.set_cons_succ]
    refine wpAnyH_take (i := 3) (oi := { dst := some 28, op := Op.load 98 (Operand.tmp 3), type := 98, pos := _, after := #[], guard := none }) (v := .agg (encB f).toArray) rfl (by kernel_rfl) (by kernel_rfl) (by kernel_rfl) (fun _ _ _ h => h) (Or.inl ⟨by rfl, fun w hSw => exec54 _ _ _ rfl _ _ rfl w hSw.1.out⟩) (by assumption) ?_
    simp only [Act.put, List.setIfInBounds_toArray, List.set_cons_zero, List.set_cons_succ]
    refine wpAnyH_take (i := 6) (oi := { dst := some 31, op := Op.load 98 (Operand.tmp 3), type := 98, pos := _, after := #[], guard := none }) (v := .agg (encB f).toArray) rfl (by kernel_rfl) (by kernel_rfl) (by kernel_rfl) (fun _ _ _ h => h) (Or.inl ⟨by rfl, fun w hSw => exec54 _ _ _ rfl _ _ rfl w hSw.1.out⟩) (by assumption) ?_
    simp only [Act.put, List.setIfInBounds_toArray, List.set_cons_zero, List.set_cons_succ]
    refine wpAnyH_take (i := 9) (oi := { dst := some 34, op := Op.indexAddr 98 (Operand.tmp 3) (Operand.const (Value.int IntKind.i64 3)), type := 0, pos := _, after := #[], guard := none }) (v := ?_) rfl (by kernel_rfl) (by kernel_rfl) (by kernel_rfl) (fun _ _ _ h => h) (Or.inl ⟨by rfl, ?_⟩) (by assumption) ?_
    rotate_left
    · (intro w hSw; (try dsimp only at hSw); go_simp; try with_reducible rfl)
    simp only [Act.put, List.setIfInBounds_toArray, List.set_cons_zero, List.set_cons_succ]
    refine wpAnyH_take (i := 10) (oi := { dst := some 35, op := Op.load 3 (Operand.tmp 34), type := 3, pos := _, after := #[{ on := 9, ground := Ground.data }], guard := none }) (v := ?_) rfl (by kernel_rfl) (by kernel_rfl) (by kernel_rfl) (fun _ _ _ h => h) (Or.inl ⟨by rfl, ?_⟩) (by assumption) ?_
    rotate_left
    · (intro w hSw; (try dsimp only at hSw); go_simp; try with_reducible rfl)
    simp only [Act.put, List.setIfInBounds_toArray, List.set_cons_zero, List.set_cons_succ]
    refine wpAnyH_take (i := 11) (oi := { dst := some 36, op := Op.binOp BinOp.mul 3 (Operand.const (Value.int IntKind.i64 4)) (Operand.tmp 35) 3, type := 3, pos := _, after := #[{ on := 10, ground := Ground.data }], guard := none }) (v := ?_) rfl (by kernel_rfl) (by kernel_rfl) (by kernel_rfl) (fun _ _ _ h => h) (Or.inl ⟨by rfl, ?_⟩) (by assumption) ?_
    rotate_left
    · (intro w hSw; (try dsimp only at hSw); go_simp; try with_reducible rfl)
    simp only [Act.put, List.setIfInBounds_toArray, List.set_cons_zero, List.set_cons_succ]
    refine wpAnyH_take (i := 13) (oi := { dst := some 38, op := Op.indexAddr 98 (Operand.tmp 3) (Operand.const (Value.int IntKind.i64 2)), type := 0, pos := _, after := #[], guard := none }) (v := ?_) rfl (by kernel_rfl) (by kernel_rfl) (by kernel_rfl) (fun _ _ _ h => h) (Or.inl ⟨by rfl, ?_⟩) (by assumption) ?_
    rotate_left
    · (intro w hSw; (try dsimp only at hSw); go_simp; try with_reducible rfl)
    simp only [Act.put, List.setIfInBounds_toArray, List.set_cons_zero, List.set_cons_succ]
    refine wpAnyH_take (i := 14) (oi := { dst := some 39, op := Op.load 3 (Operand.tmp 38), type := 3, pos := _, after := #[{ on := 13, ground := Ground.data }], guard := none }) (v := ?_) rfl (by kernel_rfl) (by kernel_rfl) (by kernel_rfl) (fun _ _ _ h => h) (Or.inl ⟨by rfl, ?_⟩) (by assumption) ?_
    rotate_left
    · (intro w hSw; (try dsimp only at hSw); go_simp; try with_reducible rfl)
    simp only [Act.put, List.setIfInBounds_toArray, List.set_cons_zero, List.set_cons_succ]
    refine wpAnyH_take (i := 15) (oi := { dst := some 40, op := Op.binOp BinOp.mul 3 (Operand.const (Value.int IntKind.i64 2)) (Operand.tmp 39) 3, type := 3, pos := _, after := #[{ on := 14, ground := Ground.data }], guard := none }) (v := ?_) rfl (by kernel_rfl) (by kernel_rfl) (by kernel_rfl) (fun _ _ _ h => h) (Or.inl ⟨by rfl, ?_⟩) (by assumption) ?_
    rotate_left
    · (intro w hSw; (try dsimp only at hSw); go_simp; try with_reducible rfl)
    simp only [Act.put, List.setIfInBounds_toArray, List.set_cons_zero, List.set_cons_succ]
    refine wpAnyH_take (i := 17) (oi := { dst := some 42, op := Op.indexAddr 98 (Operand.tmp 3) (Operand.const (Value.int IntKind.i64 16)), type := 0, pos := _, after := #[], guard := none }) (v := ?_) rfl (by kernel_rfl) (by kernel_rfl) (by kernel_rfl) (fun _ _ _ h => h) (Or.inl ⟨by rfl, ?_⟩) (by assumption) ?_
    rotate_left
    · (intro w hSw; (try dsimp only at hSw); go_simp; try with_reducible rfl)
    simp only [Act.put, List.setIfInBounds_toArray, List.set_cons_zero, List.set_cons_succ]
    refine wpAnyH_take (i := 18) (oi := { dst := some 43, op := Op.load 3 (Operand.tmp 42), type := 3, pos := _, after := #[{ on := 17, ground := Ground.data }], guard := none }) (v := ?_) rfl (by kernel_rfl) (by kernel_rfl) (by kernel_rfl) (fun _ _ _ h => h) (Or.inl ⟨by rfl, ?_⟩) (by assumption) ?_
    rotate_left
    · (intro w hSw; (try dsimp only at hSw); go_simp; try with_reducible rfl)
    simp only [Act.put, List.setIfInBounds_toArray, List.set_cons_zero, List.set_cons_succ]
    refine wpAnyH_take (i := 21) (oi := { dst := some 46, op := Op.indexAddr 98 (Operand.tmp 3) (Operand.const (Value.int IntKind.i64 17)), type := 0, pos := _, after := #[], guard := none }) (v := ?_) rfl (by kernel_rfl) (by kernel_rfl) (by kernel_rfl) (fun _ _ _ h => h) (Or.inl ⟨by rfl, ?_⟩) (by assumption) ?_
    rotate_left
    · (intro w hSw; (try dsimp only at hSw); go_simp; try with_reducible rfl)
    simp only [Act.put, List.setIfInBounds_toArray, List.set_cons_zero, List.set_cons_succ]
    refine wpAnyH_take (i := 22) (oi := { dst := some 47, op := Op.load 3 (Operand.tmp 46), type := 3, pos := _, after := #[{ on := 21, ground := Ground.data }], guard := none }) (v := ?_) rfl (by kernel_rfl) (by kernel_rfl) (by kernel_rfl) (fun _ _ _ h => h) (Or.inl ⟨by rfl, ?_⟩) (by assumption) ?_
    rotate_left
    · (intro w hSw; (try dsimp only at hSw); go_simp; try with_reducible rfl)
    simp only [Act.put, List.setIfInBounds_toArray, List.set_cons_zero, List.set_cons_succ]
    refine wpAnyH_take (i := 23) (oi := { dst := some 48, op := Op.binOp BinOp.eql 3 (Operand.tmp 47) (Operand.const (Value.int IntKind.i64 1)) 3, type := 4, pos := _, after := #[{ on := 22, ground := Ground.data }], guard := none }) (v := ?_) rfl (by kernel_rfl) (by kernel_rfl) (by kernel_rfl) (fun _ _ _ h => h) (Or.inl ⟨by rfl, ?_⟩) (by assumption) ?_
    rotate_left
    · (intro w hSw; (try dsimp only at hSw); go_simp; try with_reducible rfl)
    simp only [Act.put, List.setIfInBounds_toArray, List.set_cons_zero, List.set_cons_succ]
    refine wpAnyH_take (i := 24) (oi := { dst := some 49, op := Op.indexAddr 98 (Operand.tmp 3) (Operand.const (Value.int IntKind.i64 4)), type := 0, pos := _, after := #[], guard := none }) (v := ?_) rfl (by kernel_rfl) (by kernel_rfl) (by kernel_rfl) (fun _ _ _ h => h) (Or.inl ⟨by rfl, ?_⟩) (by assumption) ?_
    rotate_left
    · (intro w hSw; (try dsimp only at hSw); go_simp; try with_reducible rfl)
    simp only [Act.put, List.setIfInBounds_toArray, List.set_cons_zero, List.set_cons_succ]
    refine wpAnyH_take (i := 25) (oi := { dst := some 50, op := Op.load 3 (Operand.tmp 49), type := 3, pos := _, after := #[{ on := 24, ground := Ground.data }], guard := none }) (v := ?_) rfl (by kernel_rfl) (by kernel_rfl) (by kernel_rfl) (fun _ _ _ h => h) (Or.inl ⟨by rfl, ?_⟩) (by assumption) ?_
    rotate_left
    · (intro w hSw; (try dsimp only at hSw); go_simp; try with_reducible rfl)
    simp only [Act.put, List.setIfInBounds_toArray, List.set_cons_zero, List.set_cons_succ]
    refine wpAnyH_take (i := 26) (oi := { dst := some 51, op := Op.binOp BinOp.eql 3 (Operand.tmp 50) (Operand.const (Value.int IntKind.i64 1)) 3, type := 4, pos := _, after := #[{ on := 25, ground := Ground.data }], guard := none }) (v := ?_) rfl (by kernel_rfl) (by kernel_rfl) (by kernel_rfl) (fun _ _ _ h => h) (Or.inl ⟨by rfl, ?_⟩) (by assumption) ?_
    rotate_left
    · (intro w hSw; (try dsimp only at hSw); go_simp; try with_reducible rfl)
    simp only [Act.put, List.setIfInBounds_toArray, List.set_cons_zero, List.set_cons_succ]
    refine wpAnyH_ready (rs := [4, 28]) (by kernel_rfl) (by simp) ?_
    refine (AllReadyH.cons (o := { dst := some 29, op := Op.call { callee := Callee.value (Operand.func 41), args := #[Operand.tmp 28, Operand.const (Value.int IntKind.i64 11), Operand.const (Value.int IntKind.i64 10)], argTypes := #[98, 3, 3] }, type := 3, pos := _, after := #[{ on := 3, ground := Ground.data }], guard := none }) rfl (fun K hK => ?_) (AllReadyH.cons (o := { dst := some 4, op := Op.alloc 47, type := 0, pos := _, after := #[], guard := none }) rfl (fun K hK => ?_) AllReadyH.nil))
    · go_simp
      (go_at_call 41; refine (H11_10 _).mono ?_; rintro e w3 ⟨rfl, hb⟩; replace HS := hidIn (HS.out.below hb); clear hb)
      refine hK.out _ _ ?_ (fun hHeld => ?_)
      · ((try dsimp only); exact ⟨HS.out.arr, HS.out.cell 15 (by decide), HS.out.cell 3 (by decide), HS.out.cell 2 (by decide), HS.out.cell 16 (by decide), HS.out.cell 17 (by decide), HS.out.cell 4 (by decide)⟩)
      clear hK K
      try simp only [Act.put, List.setIfInBounds_toArray, List.set_cons_zero, List.set_cons_succ]
      refine wpAnyH_take (i := 5) (oi := { dst := some 30, op := Op.binOp BinOp.add 3 (Operand.tmp 27) (Operand.tmp 29) 3, type := 3, pos := _, after := #[{ on := 2, ground := Ground.data }, { on := 4, ground := Ground.data }], guard := none }) (v := ?_) rfl (by kernel_rfl) (by kernel_rfl) (by kernel_rfl) (fun _ _ _ h => h) (Or.inl ⟨by rfl, ?_⟩) (by assumption) ?_
      rotate_left
      · (intro w hSw; (try dsimp only at hSw); go_simp; try with_reducible rfl)
      simp only [Act.put, List.setIfInBounds_toArray, List.set_cons_zero, List.set_cons_succ]
      refine wpAnyH_ready (rs := [7, 28]) (by kernel_rfl) (by simp) ?_
      refine (AllReadyH.cons (o := { dst := some 32, op := Op.call { callee := Callee.value (Operand.func 41), args := #[Operand.tmp 31, Operand.const (Value.int IntKind.i64 14), Operand.const (Value.int IntKind.i64 12)], argTypes := #[98, 3, 3] }, type := 3, pos := _, after := #[{ on := 6, ground := Ground.data }, { on := 4, ground := Ground.chain }], guard := none }) rfl (fun K hK => ?_) (AllReadyH.cons (o := { dst := some 4, op := Op.alloc 47, type := 0, pos := _, after := #[], guard := none }) rfl (fun K hK => ?_) AllReadyH.nil))
      · go_simp
        (go_at_call 41; refine (H14_12 _).mono ?_; rintro e w3 ⟨rfl, hb⟩; replace HS := hidIn (HS.out.below hb); clear hb)
        refine hK.out _ _ ?_ (fun hHeld => ?_)
        · ((try dsimp only); exact ⟨HS.out.arr, HS.out.cell 15 (by decide), HS.out.cell 3 (by decide), HS.out.cell 2 (by decide), HS.out.cell 16 (by decide), HS.out.cell 17 (by decide), HS.out.cell 4 (by decide)⟩)
        clear hK K
        try simp only [Act.put, List.setIfInBounds_toArray, List.set_cons_zero, List.set_cons_succ]
        refine wpAnyH_take (i := 8) (oi := { dst := some 33, op := Op.binOp BinOp.mul 3 (Operand.const (Value.int IntKind.i64 8)) (Operand.tmp 32) 3, type := 3, pos := _, after := #[{ on := 7, ground := Ground.data }], guard := none }) (v := ?_) rfl (by kernel_rfl) (by kernel_rfl) (by kernel_rfl) (fun _ _ _ h => h) (Or.inl ⟨by rfl, ?_⟩) (by assumption) ?_
        rotate_left
        · (intro w hSw; (try dsimp only at hSw); go_simp; try with_reducible rfl)
        simp only [Act.put, List.setIfInBounds_toArray, List.set_cons_zero, List.set_cons_succ]
        refine wpAnyH_take (i := 12) (oi := { dst := some 37, op := Op.binOp BinOp.add 3 (Operand.tmp 33) (Operand.tmp 36) 3, type := 3, pos := _, after := #[{ on := 8, ground := Ground.data }, { on := 11, ground := Ground.data }], guard := none }) (v := ?_) rfl (by kernel_rfl) (by kernel_rfl) (by kernel_rfl) (fun _ _ _ h => h) (Or.inl ⟨by rfl, ?_⟩) (by assumption) ?_
        rotate_left
        · (intro w hSw; (try dsimp only at hSw); go_simp; try with_reducible rfl)
        simp only [Act.put, List.setIfInBounds_toArray, List.set_cons_zero, List.set_cons_succ]
        refine wpAnyH_take (i := 16) (oi := { dst := some 41, op := Op.binOp BinOp.add 3 (Operand.tmp 37) (Operand.tmp 40) 3, type := 3, pos := _, after := #[{ on := 12, ground := Ground.data }, { on := 15, ground := Ground.data }], guard := none }) (v := ?_) rfl (by kernel_rfl) (by kernel_rfl) (by kernel_rfl) (fun _ _ _ h => h) (Or.inl ⟨by rfl, ?_⟩) (by assumption) ?_
        rotate_left
        · (intro w hSw; (try dsimp only at hSw); go_simp; try with_reducible rfl)
        simp only [Act.put, List.setIfInBounds_toArray, List.set_cons_zero, List.set_cons_succ]
        refine wpAnyH_take (i := 19) (oi := { dst := some 44, op := Op.binOp BinOp.add 3 (Operand.tmp 41) (Operand.tmp 43) 3, type := 3, pos := _, after := #[{ on := 16, ground := Ground.data }, { on := 18, ground := Ground.data }], guard := none }) (v := ?_) rfl (by kernel_rfl) (by kernel_rfl) (by kernel_rfl) (fun _ _ _ h => h) (Or.inl ⟨by rfl, ?_⟩) (by assumption) ?_
        rotate_left
        · (intro w hSw; (try dsimp only at hSw); go_simp; try with_reducible rfl)
        simp only [Act.put, List.setIfInBounds_toArray, List.set_cons_zero, List.set_cons_succ]
        refine wpAnyH_take (i := 20) (oi := { dst := some 45, op := Op.convert 3 24 (Operand.tmp 44), type := 24, pos := _, after := #[{ on := 19, ground := Ground.data }], guard := none }) (v := ?_) rfl (by kernel_rfl) (by kernel_rfl) (by kernel_rfl) (fun _ _ _ h => h) (Or.inl ⟨by rfl, ?_⟩) (by assumption) ?_
        rotate_left
        · (intro w hSw; (try dsimp only at hSw); go_simp; try with_reducible rfl)
        simp only [Act.put, List.setIfInBounds_toArray, List.set_cons_zero, List.set_cons_succ]
        refine wpAnyH_take (i := 27) (oi := { dst := some 52, op := Op.build 47 #[(0, Operand.tmp 30), (1, Operand.tmp 45), (2, Operand.tmp 48), (3, Operand.tmp 51)], type := 47, pos := _, after := #[{ on := 5, ground := Ground.data }, { on := 20, ground := Ground.data }, { on := 23, ground := Ground.data }, { on := 26, ground := Ground.data }], guard := none }) (v := ?_) rfl (by kernel_rfl) (by kernel_rfl) (by kernel_rfl) (fun _ _ _ h => h) (Or.inl ⟨by rfl, ?_⟩) (by assumption) ?_
        rotate_left
        · (intro w hSw; (try dsimp only at hSw); go_simp; try with_reducible rfl)
        simp only [Act.put, List.setIfInBounds_toArray, List.set_cons_zero, List.set_cons_succ]
        refine wpAnyH_ready (rs := [28]) (by kernel_rfl) (by simp) ?_
        refine (AllReadyH.cons (o := { dst := some 4, op := Op.alloc 47, type := 0, pos := _, after := #[], guard := none }) rfl (fun K hK => ?_) AllReadyH.nil)
        go_simp
        (replace HS := hidIn (HS.out.alloc [.int .i64 0, .int .u32 0, .bool false, .bool false]))
        refine hK.out _ _ ?_ (fun hHeld => ?_)
        · ((try dsimp only); exact ⟨HS.out.arr, HS.out.cell 15 (by decide), HS.out.cell 3 (by decide), HS.out.cell 2 (by decide), HS.out.cell 16 (by decide), HS.out.cell 17 (by decide), HS.out.cell 4 (by decide)⟩)
        (generalize w3.heap.size = c at *; generalize w3.alloc _ = w3 at *)
        clear hK K
        try simp only [Act.put, List.setIfInBounds_toArray, List.set_cons_zero, List.set_cons_succ]
        refine wpAnyH_ready (rs := [29]) (by kernel_rfl) (by simp) ?_
        refine (AllReadyH.cons (o := { dst := none, op := Op.store 47 (Operand.tmp 4) (Operand.tmp 52), type := 0, pos := _, after := #[{ on := 28, ground := Ground.data }, { on := 27, ground := Ground.data }, { on := 7, ground := Ground.chain }, { on := 0, ground := Ground.phase }, { on := 1, ground := Ground.phase }, { on := 2, ground := Ground.phase }, { on := 3, ground := Ground.phase }, { on := 4, ground := Ground.phase }, { on := 5, ground := Ground.phase }, { on := 6, ground := Ground.phase }, { on := 7, ground := Ground.phase }, { on := 8, ground := Ground.phase }, { on := 9, ground := Ground.phase }, { on := 10, ground := Ground.phase }, { on := 11, ground := Ground.phase }, { on := 12, ground := Ground.phase }, { on := 13, ground := Ground.phase }, { on := 14, ground := Ground.phase }, { on := 15, ground := Ground.phase }, { on := 16, ground := Ground.phase }, { on := 17, ground := Ground.phase }, { on := 18, ground := Ground.phase }, { on := 19, ground := Ground.phase }, { on := 20, ground := Ground.phase }, { on := 21, ground := Ground.phase }, { on := 22, ground := Ground.phase }, { on := 23, ground := Ground.phase }, { on := 24, ground := Ground.phase }, { on := 25, ground := Ground.phase }, { on := 26, ground := Ground.phase }, { on := 27, ground := Ground.phase }, { on := 28, ground := Ground.phase }], guard := none }) rfl (fun K hK => ?_) AllReadyH.nil)
        (have hd := HS.out.leaf.cell; have hf := HS.out.leaf.frozen)
        go_simp
        (replace HS := hidIn (HS.out.store (.int .i64 p2) (.int .u32 t7) (.bool (f 17 == 1)) (.bool (f 4 == 1))); clear hd hf)
        refine hK.out _ _ ?_ (fun hHeld => ?_)
        · ((try dsimp only); exact ⟨HS.out.arr, HS.out.cell 15 (by decide), HS.out.cell 3 (by decide), HS.out.cell 2 (by decide), HS.out.cell 16 (by decide), HS.out.cell 17 (by decide), HS.out.cell 4 (by decide)⟩)
        (generalize (World.setCell (World.setCell (World.setCell (World.setCell w3 ⟨c, 0, none⟩ (.int .i64 p2)) ⟨c, 1, none⟩ (.int .u32 t7)) ⟨c, 2, none⟩ (.bool (f 17 == 1))) ⟨c, 3, none⟩ (.bool (f 4 == 1))) = w3 at *)
        clear hK K
        try simp only [Act.put, List.setIfInBounds_toArray, List.set_cons_zero, List.set_cons_succ]
        refine wpAnyH_done (by kernel_rfl) ?_ _
        exact key _ _ HS
      · go_simp
        (replace HS := hidIn (HS.out.alloc [.int .i64 0, .int .u32 0, .bool false, .bool false]))
        refine hK.out _ _ ?_ (fun hHeld => ?_)
        · ((try dsimp only); exact ⟨HS.out.arr, HS.out.cell 15 (by decide), HS.out.cell 3 (by decide), HS.out.cell 2 (by decide), HS.out.cell 16 (by decide), HS.out.cell 17 (by decide), HS.out.cell 4 (by decide)⟩)
        (generalize w3.heap.size = c at *; generalize w3.alloc _ = w3 at *)
        clear hK K
        try simp only [Act.put, List.setIfInBounds_toArray, List.set_cons_zero, List.set_cons_succ]
        refine wpAnyH_ready (rs := [7]) (by kernel_rfl) (by simp) ?_
        refine (AllReadyH.cons (o := { dst := some 32, op := Op.call { callee := Callee.value (Operand.func 41), args := #[Operand.tmp 31, Operand.const (Value.int IntKind.i64 14), Operand.const (Value.int IntKind.i64 12)], argTypes := #[98, 3, 3] }, type := 3, pos := _, after := #[{ on := 6, ground := Ground.data }, { on := 4, ground := Ground.chain }], guard := none }) rfl (fun K hK => ?_) AllReadyH.nil)
        go_simp
        (go_at_call 41; refine (H14_12 _).mono ?_; rintro e w3 ⟨rfl, hb⟩; replace HS := hidIn (HS.out.below hb); clear hb)
        refine hK.out _ _ ?_ (fun hHeld => ?_)
        · ((try dsimp only); exact ⟨HS.out.arr, HS.out.cell 15 (by decide), HS.out.cell 3 (by decide), HS.out.cell 2 (by decide), HS.out.cell 16 (by decide), HS.out.cell 17 (by decide), HS.out.cell 4 (by decide)⟩)
        clear hK K
        try simp only [Act.put, List.setIfInBounds_toArray, List.set_cons_zero, List.set_cons_succ]
        refine wpAnyH_take (i := 8) (oi := { dst := some 33, op := Op.binOp BinOp.mul 3 (Operand.const (Value.int IntKind.i64 8)) (Operand.tmp 32) 3, type := 3, pos := _, after := #[{ on := 7, ground := Ground.data }], guard := none }) (v := ?_) rfl (by kernel_rfl) (by kernel_rfl) (by kernel_rfl) (fun _ _ _ h => h) (Or.inl ⟨by rfl, ?_⟩) (by assumption) ?_
        rotate_left
        · (intro w hSw; (try dsimp only at hSw); go_simp; try with_reducible rfl)
        simp only [Act.put, List.setIfInBounds_toArray, List.set_cons_zero, List.set_cons_succ]
        refine wpAnyH_take (i := 12) (oi := { dst := some 37, op := Op.binOp BinOp.add 3 (Operand.tmp 33) (Operand.tmp 36) 3, type := 3, pos := _, after := #[{ on := 8, ground := Ground.data }, { on := 11, ground := Ground.data }], guard := none }) (v := ?_) rfl (by kernel_rfl) (by kernel_rfl) (by kernel_rfl) (fun _ _ _ h => h) (Or.inl ⟨by rfl, ?_⟩) (by assumption) ?_
        rotate_left
        · (intro w hSw; (try dsimp only at hSw); go_simp; try with_reducible rfl)
        simp only [Act.put, List.setIfInBounds_toArray, List.set_cons_zero, List.set_cons_succ]
        refine wpAnyH_take (i := 16) (oi := { dst := some 41, op := Op.binOp BinOp.add 3 (Operand.tmp 37) (Operand.tmp 40) 3, type := 3, pos := _, after := #[{ on := 12, ground := Ground.data }, { on := 15, ground := Ground.data }], guard := none }) (v := ?_) rfl (by kernel_rfl) (by kernel_rfl) (by kernel_rfl) (fun _ _ _ h => h) (Or.inl ⟨by rfl, ?_⟩) (by assumption) ?_
        rotate_left
        · (intro w hSw; (try dsimp only at hSw); go_simp; try with_reducible rfl)
        simp only [Act.put, List.setIfInBounds_toArray, List.set_cons_zero, List.set_cons_succ]
        refine wpAnyH_take (i := 19) (oi := { dst := some 44, op := Op.binOp BinOp.add 3 (Operand.tmp 41) (Operand.tmp 43) 3, type := 3, pos := _, after := #[{ on := 16, ground := Ground.data }, { on := 18, ground := Ground.data }], guard := none }) (v := ?_) rfl (by kernel_rfl) (by kernel_rfl) (by kernel_rfl) (fun _ _ _ h => h) (Or.inl ⟨by rfl, ?_⟩) (by assumption) ?_
        rotate_left
        · (intro w hSw; (try dsimp only at hSw); go_simp; try with_reducible rfl)
        simp only [Act.put, List.setIfInBounds_toArray, List.set_cons_zero, List.set_cons_succ]
        refine wpAnyH_take (i := 20) (oi := { dst := some 45, op := Op.convert 3 24 (Operand.tmp 44), type := 24, pos := _, after := #[{ on := 19, ground := Ground.data }], guard := none }) (v := ?_) rfl (by kernel_rfl) (by kernel_rfl) (by kernel_rfl) (fun _ _ _ h => h) (Or.inl ⟨by rfl, ?_⟩) (by assumption) ?_
        rotate_left
        · (intro w hSw; (try dsimp only at hSw); go_simp; try with_reducible rfl)
        simp only [Act.put, List.setIfInBounds_toArray, List.set_cons_zero, List.set_cons_succ]
        refine wpAnyH_take (i := 27) (oi := { dst := some 52, op := Op.build 47 #[(0, Operand.tmp 30), (1, Operand.tmp 45), (2, Operand.tmp 48), (3, Operand.tmp 51)], type := 47, pos := _, after := #[{ on := 5, ground := Ground.data }, { on := 20, ground := Ground.data }, { on := 23, ground := Ground.data }, { on := 26, ground := Ground.data }], guard := none }) (v := ?_) rfl (by kernel_rfl) (by kernel_rfl) (by kernel_rfl) (fun _ _ _ h => h) (Or.inl ⟨by rfl, ?_⟩) (by assumption) ?_
        rotate_left
        · (intro w hSw; (try dsimp only at hSw); go_simp; try with_reducible rfl)
        simp only [Act.put, List.setIfInBounds_toArray, List.set_cons_zero, List.set_cons_succ]
        refine wpAnyH_ready (rs := [29]) (by kernel_rfl) (by simp) ?_
        refine (AllReadyH.cons (o := { dst := none, op := Op.store 47 (Operand.tmp 4) (Operand.tmp 52), type := 0, pos := _, after := #[{ on := 28, ground := Ground.data }, { on := 27, ground := Ground.data }, { on := 7, ground := Ground.chain }, { on := 0, ground := Ground.phase }, { on := 1, ground := Ground.phase }, { on := 2, ground := Ground.phase }, { on := 3, ground := Ground.phase }, { on := 4, ground := Ground.phase }, { on := 5, ground := Ground.phase }, { on := 6, ground := Ground.phase }, { on := 7, ground := Ground.phase }, { on := 8, ground := Ground.phase }, { on := 9, ground := Ground.phase }, { on := 10, ground := Ground.phase }, { on := 11, ground := Ground.phase }, { on := 12, ground := Ground.phase }, { on := 13, ground := Ground.phase }, { on := 14, ground := Ground.phase }, { on := 15, ground := Ground.phase }, { on := 16, ground := Ground.phase }, { on := 17, ground := Ground.phase }, { on := 18, ground := Ground.phase }, { on := 19, ground := Ground.phase }, { on := 20, ground := Ground.phase }, { on := 21, ground := Ground.phase }, { on := 22, ground := Ground.phase }, { on := 23, ground := Ground.phase }, { on := 24, ground := Ground.phase }, { on := 25, ground := Ground.phase }, { on := 26, ground := Ground.phase }, { on := 27, ground := Ground.phase }, { on := 28, ground := Ground.phase }], guard := none }) rfl (fun K hK => ?_) AllReadyH.nil)
        (have hd := HS.out.leaf.cell; have hf := HS.out.leaf.frozen)
        go_simp
        (replace HS := hidIn (HS.out.store (.int .i64 p2) (.int .u32 t7) (.bool (f 17 == 1)) (.bool (f 4 == 1))); clear hd hf)
        refine hK.out _ _ ?_ (fun hHeld => ?_)
        · ((try dsimp only); exact ⟨HS.out.arr, HS.out.cell 15 (by decide), HS.out.cell 3 (by decide), HS.out.cell 2 (by decide), HS.out.cell 16 (by decide), HS.out.cell 17 (by decide), HS.out.cell 4 (by decide)⟩)
        (generalize (World.setCell (World.setCell (World.setCell (World.setCell w3 ⟨c, 0, none⟩ (.int .i64 p2)) ⟨c, 1, none⟩ (.int .u32 t7)) ⟨c, 2, none⟩ (.bool (f 17 == 1))) ⟨c, 3, none⟩ (.bool (f 4 == 1))) = w3 at *)
        clear hK K
        try simp only [Act.put, List.setIfInBounds_toArray, List.set_cons_zero, List.set_cons_succ]
        refine wpAnyH_done (by kernel_rfl) ?_ _
        exact key _ _ HS
    · go_simp
      (replace HS := hidIn (HS.out.alloc [.int .i64 0, .int .u32 0, .bool false, .bool false]))
      refine hK.out _ _ ?_ (fun hHeld => ?_)
      · ((try dsimp only); exact ⟨HS.out.arr, HS.out.cell 15 (by decide), HS.out.cell 3 (by decide), HS.out.cell 2 (by decide), HS.out.cell 16 (by decide), HS.out.cell 17 (by decide), HS.out.cell 4 (by decide)⟩)
      (generalize w3.heap.size = c at *; generalize w3.alloc _ = w3 at *)
      clear hK K
      try simp only [Act.put, List.setIfInBounds_toArray, List.set_cons_zero, List.set_cons_succ]
      refine wpAnyH_ready (rs := [4]) (by kernel_rfl) (by simp) ?_
      refine (AllReadyH.cons (o := { dst := some 29, op := Op.call { callee := Callee.value (Operand.func 41), args := #[Operand.tmp 28, Operand.const (Value.int IntKind.i64 11), Operand.const (Value.int IntKind.i64 10)], argTypes := #[98, 3, 3] }, type := 3, pos := _, after := #[{ on := 3, ground := Ground.data }], guard := none }) rfl (fun K hK => ?_) AllReadyH.nil)
      go_simp
      (go_at_call 41; refine (H11_10 _).mono ?_; rintro e w3 ⟨rfl, hb⟩; replace HS := hidIn (HS.out.below hb); clear hb)
      refine hK.out _ _ ?_ (fun hHeld => ?_)
      · ((try dsimp only); exact ⟨HS.out.arr, HS.out.cell 15 (by decide), HS.out.cell 3 (by decide), HS.out.cell 2 (by decide), HS.out.cell 16 (by decide), HS.out.cell 17 (by decide), HS.out.cell 4 (by decide)⟩)
      clear hK K
      try simp only [Act.put, List.setIfInBounds_toArray, List.set_cons_zero, List.set_cons_succ]
      refine wpAnyH_take (i := 5) (oi := { dst := some 30, op := Op.binOp BinOp.add 3 (Operand.tmp 27) (Operand.tmp 29) 3, type := 3, pos := _, after := #[{ on := 2, ground := Ground.data }, { on := 4, ground := Ground.data }], guard := none }) (v := ?_) rfl (by kernel_rfl) (by kernel_rfl) (by kernel_rfl) (fun _ _ _ h => h) (Or.inl ⟨by rfl, ?_⟩) (by assumption) ?_
      rotate_left
      · (intro w hSw; (try dsimp only at hSw); go_simp; try with_reducible rfl)
      simp only [Act.put, List.setIfInBounds_toArray, List.set_cons_zero, List.set_cons_succ]
      refine wpAnyH_ready (rs := [7]) (by kernel_rfl) (by simp) ?_
      refine (AllReadyH.cons (o := { dst := some 32, op := Op.call { callee := Callee.value (Operand.func 41), args := #[Operand.tmp 31, Operand.const (Value.int IntKind.i64 14), Operand.const (Value.int IntKind.i64 12)], argTypes := #[98, 3, 3] }, type := 3, pos := _, after := #[{ on := 6, ground := Ground.data }, { on := 4, ground := Ground.chain }], guard := none }) rfl (fun K hK => ?_) AllReadyH.nil)
      go_simp
      (go_at_call 41; refine (H14_12 _).mono ?_; rintro e w3 ⟨rfl, hb⟩; replace HS := hidIn (HS.out.below hb); clear hb)
      refine hK.out _ _ ?_ (fun hHeld => ?_)
      · ((try dsimp only); exact ⟨HS.out.arr, HS.out.cell 15 (by decide), HS.out.cell 3 (by decide), HS.out.cell 2 (by decide), HS.out.cell 16 (by decide), HS.out.cell 17 (by decide), HS.out.cell 4 (by decide)⟩)
      clear hK K
      try simp only [Act.put, List.setIfInBounds_toArray, List.set_cons_zero, List.set_cons_succ]
      refine wpAnyH_take (i := 8) (oi := { dst := some 33, op := Op.binOp BinOp.mul 3 (Operand.const (Value.int IntKind.i64 8)) (Operand.tmp 32) 3, type := 3, pos := _, after := #[{ on := 7, ground := Ground.data }], guard := none }) (v := ?_) rfl (by kernel_rfl) (by kernel_rfl) (by kernel_rfl) (fun _ _ _ h => h) (Or.inl ⟨by rfl, ?_⟩) (by assumption) ?_
      rotate_left
      · (intro w hSw; (try dsimp only at hSw); go_simp; try with_reducible rfl)
      simp only [Act.put, List.setIfInBounds_toArray, List.set_cons_zero, List.set_cons_succ]
      refine wpAnyH_take (i := 12) (oi := { dst := some 37, op := Op.binOp BinOp.add 3 (Operand.tmp 33) (Operand.tmp 36) 3, type := 3, pos := _, after := #[{ on := 8, ground := Ground.data }, { on := 11, ground := Ground.data }], guard := none }) (v := ?_) rfl (by kernel_rfl) (by kernel_rfl) (by kernel_rfl) (fun _ _ _ h => h) (Or.inl ⟨by rfl, ?_⟩) (by assumption) ?_
      rotate_left
      · (intro w hSw; (try dsimp only at hSw); go_simp; try with_reducible rfl)
      simp only [Act.put, List.setIfInBounds_toArray, List.set_cons_zero, List.set_cons_succ]
      refine wpAnyH_take (i := 16) (oi := { dst := some 41, op := Op.binOp BinOp.add 3 (Operand.tmp 37) (Operand.tmp 40) 3, type := 3, pos := _, after := #[{ on := 12, ground := Ground.data }, { on := 15, ground := Ground.data }], guard := none }) (v := ?_) rfl (by kernel_rfl) (by kernel_rfl) (by kernel_rfl) (fun _ _ _ h => h) (Or.inl ⟨by rfl, ?_⟩) (by assumption) ?_
      rotate_left
      · (intro w hSw; (try dsimp only at hSw); go_simp; try with_reducible rfl)
      simp only [Act.put, List.setIfInBounds_toArray, List.set_cons_zero, List.set_cons_succ]
      refine wpAnyH_take (i := 19) (oi := { dst := some 44, op := Op.binOp BinOp.add 3 (Operand.tmp 41) (Operand.tmp 43) 3, type := 3, pos := _, after := #[{ on := 16, ground := Ground.data }, { on := 18, ground := Ground.data }], guard := none }) (v := ?_) rfl (by kernel_rfl) (by kernel_rfl) (by kernel_rfl) (fun _ _ _ h => h) (Or.inl ⟨by rfl, ?_⟩) (by assumption) ?_
      rotate_left
      · (intro w hSw; (try dsimp only at hSw); go_simp; try with_reducible rfl)
      simp only [Act.put, List.setIfInBounds_toArray, List.set_cons_zero, List.set_cons_succ]
      refine wpAnyH_take (i := 20) (oi := { dst := some 45, op := Op.convert 3 24 (Operand.tmp 44), type := 24, pos := _, after := #[{ on := 19, ground := Ground.data }], guard := none }) (v := ?_) rfl (by kernel_rfl) (by kernel_rfl) (by kernel_rfl) (fun _ _ _ h => h) (Or.inl ⟨by rfl, ?_⟩) (by assumption) ?_
      rotate_left
      · (intro w hSw; (try dsimp only at hSw); go_simp; try with_reducible rfl)
      simp only [Act.put, List.setIfInBounds_toArray, List.set_cons_zero, List.set_cons_succ]
      refine wpAnyH_take (i := 27) (oi := { dst := some 52, op := Op.build 47 #[(0, Operand.tmp 30), (1, Operand.tmp 45), (2, Operand.tmp 48), (3, Operand.tmp 51)], type := 47, pos := _, after := #[{ on := 5, ground := Ground.data }, { on := 20, ground := Ground.data }, { on := 23, ground := Ground.data }, { on := 26, ground := Ground.data }], guard := none }) (v := ?_) rfl (by kernel_rfl) (by kernel_rfl) (by kernel_rfl) (fun _ _ _ h => h) (Or.inl ⟨by rfl, ?_⟩) (by assumption) ?_
      rotate_left
      · (intro w hSw; (try dsimp only at hSw); go_simp; try with_reducible rfl)
      simp only [Act.put, List.setIfInBounds_toArray, List.set_cons_zero, List.set_cons_succ]
      refine wpAnyH_ready (rs := [29]) (by kernel_rfl) (by simp) ?_
      refine (AllReadyH.cons (o := { dst := none, op := Op.store 47 (Operand.tmp 4) (Operand.tmp 52), type := 0, pos := _, after := #[{ on := 28, ground := Ground.data }, { on := 27, ground := Ground.data }, { on := 7, ground := Ground.chain }, { on := 0, ground := Ground.phase }, { on := 1, ground := Ground.phase }, { on := 2, ground := Ground.phase }, { on := 3, ground := Ground.phase }, { on := 4, ground := Ground.phase }, { on := 5, ground := Ground.phase }, { on := 6, ground := Ground.phase }, { on := 7, ground := Ground.phase }, { on := 8, ground := Ground.phase }, { on := 9, ground := Ground.phase }, { on := 10, ground := Ground.phase }, { on := 11, ground := Ground.phase }, { on := 12, ground := Ground.phase }, { on := 13, ground := Ground.phase }, { on := 14, ground := Ground.phase }, { on := 15, ground := Ground.phase }, { on := 16, ground := Ground.phase }, { on := 17, ground := Ground.phase }, { on := 18, ground := Ground.phase }, { on := 19, ground := Ground.phase }, { on := 20, ground := Ground.phase }, { on := 21, ground := Ground.phase }, { on := 22, ground := Ground.phase }, { on := 23, ground := Ground.phase }, { on := 24, ground := Ground.phase }, { on := 25, ground := Ground.phase }, { on := 26, ground := Ground.phase }, { on := 27, ground := Ground.phase }, { on := 28, ground := Ground.phase }], guard := none }) rfl (fun K hK => ?_) AllReadyH.nil)
      (have hd := HS.out.leaf.cell; have hf := HS.out.leaf.frozen)
      go_simp
      (replace HS := hidIn (HS.out.store (.int .i64 p2) (.int .u32 t7) (.bool (f 17 == 1)) (.bool (f 4 == 1))); clear hd hf)
      refine hK.out _ _ ?_ (fun hHeld => ?_)
      · ((try dsimp only); exact ⟨HS.out.arr, HS.out.cell 15 (by decide), HS.out.cell 3 (by decide), HS.out.cell 2 (by decide), HS.out.cell 16 (by decide), HS.out.cell 17 (by decide), HS.out.cell 4 (by decide)⟩)
      (generalize (World.setCell (World.setCell (World.setCell (World.setCell w3 ⟨c, 0, none⟩ (.int .i64 p2)) ⟨c, 1, none⟩ (.int .u32 t7)) ⟨c, 2, none⟩ (.bool (f 17 == 1))) ⟨c, 3, none⟩ (.bool (f 4 == 1))) = w3 at *)
      clear hK K
      try simp only [Act.put, List.setIfInBounds_toArray, List.set_cons_zero, List.set_cons_succ]
      refine wpAnyH_done (by kernel_rfl) ?_ _
      exact key _ _ HS
  case key =>
    intro c w3 HS
    have c18 := HS.out.cell 18 (by decide)
    go_wp2
    refine wp_region_held_drew (S := fun w' => Hid (Bl w' n 98 (encB f)) ∧ True) (by kernel_rfl) (by (try dsimp only); exact ⟨HS.out.drew.arr, trivial⟩) (fun hHeld => ?_)
    replace HS := hidIn HS.out.drew
    generalize World.drew w3 = w3 at *
    refine wpAnyH_take (i := 0) (oi := { dst := some 68, op := Op.load 98 (Operand.tmp 3), type := 98, pos := _, after := #[], guard := none }) (v := .agg (encB f).toArray) rfl (by kernel_rfl) (by kernel_rfl) (by kernel_rfl) (fun _ _ _ h => h) (Or.inl ⟨by rfl, fun w hSw => exec54 _ _ _ rfl _ _ rfl w hSw.1.out⟩) (by assumption) ?_
    simp only [Act.put, List.setIfInBounds_toArray, List.set_cons_zero, List.set_cons_succ]
    refine wpAnyH_take (i := 5) (oi := { dst := some 73, op := Op.load 98 (Operand.tmp 3), type := 98, pos := _, after := #[], guard := none }) (v := .agg (encB f).toArray) rfl (by kernel_rfl) (by kernel_rfl) (by kernel_rfl) (fun _ _ _ h => h) (Or.inl ⟨by rfl, fun w hSw => exec54 _ _ _ rfl _ _ rfl w hSw.1.out⟩) (by assumption) ?_
    simp only [Act.put, List.setIfInBounds_toArray, List.set_cons_zero, List.set_cons_succ]
    refine wpAnyH_take (i := 11) (oi := { dst := some 79, op := Op.load 98 (Operand.tmp 3), type := 98, pos := _, after := #[], guard := none }) (v := .agg (encB f).toArray) rfl (by kernel_rfl) (by kernel_rfl) (by kernel_rfl) (fun _ _ _ h => h) (Or.inl ⟨by rfl, fun w hSw => exec54 _ _ _ rfl _ _ rfl w hSw.1.out⟩) (by assumption) ?_
    simp only [Act.put, List.setIfInBounds_toArray, List.set_cons_zero, List.set_cons_succ]
    refine wpAnyH_ready (rs := [1]) (by kernel_rfl) (by simp) ?_
    refine (AllReadyH.cons (o := { dst := some 69, op := Op.call { callee := Callee.value (Operand.func 41), args := #[Operand.tmp 68, Operand.const (Value.int IntKind.i64 31), Operand.const (Value.int IntKind.i64 24)], argTypes := #[98, 3, 3] }, type := 3, pos := _, after := #[{ on := 0, ground := Ground.data }], guard := none }) rfl (fun K hK => ?_) AllReadyH.nil)
    go_simp
    (go_at_call 41; refine (H31_24 _).mono ?_; rintro e w3 ⟨rfl, hb⟩; replace HS := hidIn (HS.out.below hb); clear hb)
    refine hK.out _ _ ?_ (fun hHeld => ?_)
    · ((try dsimp only); exact ⟨HS.out.arr, trivial⟩)
    clear hK K
    try simp only [Act.put, List.setIfInBounds_toArray, List.set_cons_zero, List.set_cons_succ]
    refine wpAnyH_take (i := 2) (oi := { dst := some 70, op := Op.convert 3 23 (Operand.tmp 69), type := 23, pos := _, after := #[{ on := 1, ground := Ground.data }], guard := none }) (v := ?_) rfl (by kernel_rfl) (by kernel_rfl) (by kernel_rfl) (fun _ _ _ h => h) (Or.inl ⟨by rfl, ?_⟩) (by assumption) ?_
    rotate_left
    · (intro w hSw; (try dsimp only at hSw); go_simp; try with_reducible rfl)
    simp only [Act.put, List.setIfInBounds_toArray, List.set_cons_zero, List.set_cons_succ]
    refine wpAnyH_ready (rs := [3]) (by kernel_rfl) (by simp) ?_
    refine (AllReadyH.cons (o := { dst := some 71, op := Op.call { callee := Callee.value (Operand.func 42), args := #[Operand.const (Value.int IntKind.i64 24)], argTypes := #[3] }, type := 23, pos := _, after := #[{ on := 1, ground := Ground.chain }], guard := none }) rfl (fun K hK => ?_) AllReadyH.nil)
    go_simp
    (go_at_call 42; refine (hp24 _).mono ?_; rintro e w' ⟨rfl, rfl⟩)
    refine hK.out _ _ ?_ (fun hHeld => ?_)
    · ((try dsimp only); exact ⟨HS.out.arr, trivial⟩)
    clear hK K
    try simp only [Act.put, List.setIfInBounds_toArray, List.set_cons_zero, List.set_cons_succ]
    refine wpAnyH_take (i := 4) (oi := { dst := some 72, op := Op.binOp BinOp.mul 23 (Operand.tmp 70) (Operand.tmp 71) 23, type := 23, pos := _, after := #[{ on := 2, ground := Ground.data }, { on := 3, ground := Ground.data }], guard := none }) (v := ?_) rfl (by kernel_rfl) (by kernel_rfl) (by kernel_rfl) (fun _ _ _ h => h) (Or.inl ⟨by rfl, ?_⟩) (by assumption) ?_
    rotate_left
    · (intro w hSw; (try dsimp only at hSw); go_simp; try with_reducible rfl)
    simp only [Act.put, List.setIfInBounds_toArray, List.set_cons_zero, List.set_cons_succ]
    refine wpAnyH_ready (rs := [6]) (by kernel_rfl) (by simp) ?_
    refine (AllReadyH.cons (o := { dst := some 74, op := Op.call { callee := Callee.value (Operand.func 41), args := #[Operand.tmp 73, Operand.const (Value.int IntKind.i64 23), Operand.const (Value.int IntKind.i64 20)], argTypes := #[98, 3, 3] }, type := 3, pos := _, after := #[{ on := 5, ground := Ground.data }, { on := 3, ground := Ground.chain }], guard := none }) rfl (fun K hK => ?_) AllReadyH.nil)
    go_simp
    (go_at_call 41; refine (H23_20 _).mono ?_; rintro e w3 ⟨rfl, hb⟩; replace HS := hidIn (HS.out.below hb); clear hb)
    refine hK.out _ _ ?_ (fun hHeld => ?_)
    · ((try dsimp only); exact ⟨HS.out.arr, trivial⟩)
    clear hK K
    try simp only [Act.put, List.setIfInBounds_toArray, List.set_cons_zero, List.set_cons_succ]
    refine wpAnyH_take (i := 7) (oi := { dst := some 75, op := Op.convert 3 23 (Operand.tmp 74), type := 23, pos := _, after := #[{ on := 6, ground := Ground.data }], guard := none }) (v := ?_) rfl (by kernel_rfl) (by kernel_rfl) (by kernel_rfl) (fun _ _ _ h => h) (Or.inl ⟨by rfl, ?_⟩) (by assumption) ?_
    rotate_left
    · (intro w hSw; (try dsimp only at hSw); go_simp; try with_reducible rfl)
    simp only [Act.put, List.setIfInBounds_toArray, List.set_cons_zero, List.set_cons_succ]
    refine wpAnyH_ready (rs := [8]) (by kernel_rfl) (by simp) ?_
    refine (AllReadyH.cons (o := { dst := some 76, op := Op.call { callee := Callee.value (Operand.func 42), args := #[Operand.const (Value.int IntKind.i64 32)], argTypes := #[3] }, type := 23, pos := _, after := #[{ on := 6, ground := Ground.chain }], guard := none }) rfl (fun K hK => ?_) AllReadyH.nil)
    go_simp
    (go_at_call 42; refine (hp32 _).mono ?_; rintro e w' ⟨rfl, rfl⟩)
    refine hK.out _ _ ?_ (fun hHeld => ?_)
    · ((try dsimp only); exact ⟨HS.out.arr, trivial⟩)
    clear hK K
    try simp only [Act.put, List.setIfInBounds_toArray, List.set_cons_zero, List.set_cons_succ]
    refine wpAnyH_take (i := 9) (oi := { dst := some 77, op := Op.binOp BinOp.mul 23 (Operand.tmp 75) (Operand.tmp 76) 23, type := 23, pos := _, after := #[{ on := 7, ground := Ground.data }, { on := 8, ground := Ground.data }], guard := none }) (v := ?_) rfl (by kernel_rfl) (by kernel_rfl) (by kernel_rfl) (fun _ _ _ h => h) (Or.inl ⟨by rfl, ?_⟩) (by assumption) ?_
    rotate_left
    · (intro w hSw; (try dsimp only at hSw); go_simp; try with_reducible rfl)
    simp only [Act.put, List.setIfInBounds_toArray, List.set_cons_zero, List.set_cons_succ]
    refine wpAnyH_take (i := 10) (oi := { dst := some 78, op := Op.binOp BinOp.add 23 (Operand.tmp 72) (Operand.tmp 77) 23, type := 23, pos := _, after := #[{ on := 4, ground := Ground.data }, { on := 9, ground := Ground.data }], guard := none }) (v := ?_) rfl (by kernel_rfl) (by kernel_rfl) (by kernel_rfl) (fun _ _ _ h => h) (Or.inl ⟨by rfl, ?_⟩) (by assumption) ?_
    rotate_left
    · (intro w hSw; (try dsimp only at hSw); go_simp; try with_reducible rfl)
    simp only [Act.put, List.setIfInBounds_toArray, List.set_cons_zero, List.set_cons_succ]
    refine wpAnyH_ready (rs := [12]) (by kernel_rfl) (by simp) ?_
    refine (AllReadyH.cons (o := { dst := some 80, op := Op.call { callee := Callee.value (Operand.func 41), args := #[Operand.tmp 79, Operand.const (Value.int IntKind.i64 8), Operand.const (Value.int IntKind.i64 5)], argTypes := #[98, 3, 3] }, type := 3, pos := _, after := #[{ on := 11, ground := Ground.data }, { on := 8, ground := Ground.chain }], guard := none }) rfl (fun K hK => ?_) AllReadyH.nil)
    go_simp
    (go_at_call 41; refine (H8_5 _).mono ?_; rintro e w3 ⟨rfl, hb⟩; replace HS := hidIn (HS.out.below hb); clear hb)
    refine hK.out _ _ ?_ (fun hHeld => ?_)
    · ((try dsimp only); exact ⟨HS.out.arr, trivial⟩)
    clear hK K
    try simp only [Act.put, List.setIfInBounds_toArray, List.set_cons_zero, List.set_cons_succ]
    refine wpAnyH_take (i := 13) (oi := { dst := some 81, op := Op.convert 3 23 (Operand.tmp 80), type := 23, pos := _, after := #[{ on := 12, ground := Ground.data }], guard := none }) (v := ?_) rfl (by kernel_rfl) (by kernel_rfl) (by kernel_rfl) (fun _ _ _ h => h) (Or.inl ⟨by rfl, ?_⟩) (by assumption) ?_
    rotate_left
    · (intro w hSw; (try dsimp only at hSw); go_simp; try with_reducible rfl)
    simp only [Act.put, List.setIfInBounds_toArray, List.set_cons_zero, List.set_cons_succ]
    refine wpAnyH_ready (rs := [14]) (by kernel_rfl) (by simp) ?_
    refine (AllReadyH.cons (o := { dst := some 82, op := Op.call { callee := Callee.value (Operand.func 42), args := #[Operand.const (Value.int IntKind.i64 36)], argTypes := #[3] }, type := 23, pos := _, after := #[{ on := 12, ground := Ground.chain }], guard := none }) rfl (fun K hK => ?_) AllReadyH.nil)
    go_simp
    (go_at_call 42; refine (hp36 _).mono ?_; rintro e w' ⟨rfl, rfl⟩)
    refine hK.out _ _ ?_ (fun hHeld => ?_)
    · ((try dsimp only); exact ⟨HS.out.arr, trivial⟩)
    clear hK K
    try simp only [Act.put, List.setIfInBounds_toArray, List.set_cons_zero, List.set_cons_succ]
    refine wpAnyH_take (i := 15) (oi := { dst := some 83, op := Op.binOp BinOp.mul 23 (Operand.tmp 81) (Operand.tmp 82) 23, type := 23, pos := _, after := #[{ on := 13, ground := Ground.data }, { on := 14, ground := Ground.data }], guard := none }) (v := ?_) rfl (by kernel_rfl) (by kernel_rfl) (by kernel_rfl) (fun _ _ _ h => h) (Or.inl ⟨by rfl, ?_⟩) (by assumption) ?_
    rotate_left
    · (intro w hSw; (try dsimp only at hSw); go_simp; try with_reducible rfl)
    simp only [Act.put, List.setIfInBounds_toArray, List.set_cons_zero, List.set_cons_succ]
    refine wpAnyH_take (i := 16) (oi := { dst := some 84, op := Op.binOp BinOp.add 23 (Operand.tmp 78) (Operand.tmp 83) 23, type := 23, pos := _, after := #[{ on := 10, ground := Ground.data }, { on := 15, ground := Ground.data }], guard := none }) (v := ?_) rfl (by kernel_rfl) (by kernel_rfl) (by kernel_rfl) (fun _ _ _ h => h) (Or.inl ⟨by rfl, ?_⟩) (by assumption) ?_
    rotate_left
    · (intro w hSw; (try dsimp only at hSw); go_simp; try with_reducible rfl)
    simp only [Act.put, List.setIfInBounds_toArray, List.set_cons_zero, List.set_cons_succ]
    refine wpAnyH_take (i := 17) (oi := { dst := some 5, op := Op.assign (Operand.tmp 84), type := 23, pos := _, after := #[{ on := 16, ground := Ground.data }, { on := 14, ground := Ground.chain }, { on := 0, ground := Ground.phase }, { on := 1, ground := Ground.phase }, { on := 2, ground := Ground.phase }, { on := 3, ground := Ground.phase }, { on := 4, ground := Ground.phase }, { on := 5, ground := Ground.phase }, { on := 6, ground := Ground.phase }, { on := 7, ground := Ground.phase }, { on := 8, ground := Ground.phase }, { on := 9, ground := Ground.phase }, { on := 10, ground := Ground.phase }, { on := 11, ground := Ground.phase }, { on := 12, ground := Ground.phase }, { on := 13, ground := Ground.phase }, { on := 14, ground := Ground.phase }, { on := 15, ground := Ground.phase }, { on := 16, ground := Ground.phase }], guard := none }) (v := ?_) rfl (by kernel_rfl) (by kernel_rfl) (by kernel_rfl) (fun _ _ _ h => h) (Or.inl ⟨by rfl, ?_⟩) (by assumption) ?_
    rotate_left
    · (intro w hSw; (try dsimp only at hSw); go_simp; try with_reducible rfl)
    simp only [Act.put, List.setIfInBounds_toArray, List.set_cons_zero, List.set_cons_succ]
    refine wpAnyH_done (by kernel_rfl) ?_ _
    have c19 := HS.out.cell 19 (by decide)
    have hl := HS.out.leaf.cell
    have hd := HS.out.res.cell
    have hf := HS.out.res.frozen
    go_wp2
    refine bodyPost_ret (v := .agg #[.int .i64 3, .int .u64 B, .int .i64 0, .bool (f 19 == 1), .int .i64 p2, .int .u32 t7, .bool (f 17 == 1), .bool (f 4 == 1)]) (by simp [results, Tryd.results20, go_sem, hd]) rfl ⟨rfl, (by (repeat (refine Below.setCell ?_ (by simp) _)); exact HS.out.bel)⟩
end Go.Proofs.YtmodcbdgnmjkoabDoor
