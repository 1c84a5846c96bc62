import Derived.Test.YtmodcbdgnmjkoabDoorMB
namespace Go.Proofs.YtmodcbdgnmjkoabDoor
open Go.RowKit
set_option linter.unusedVariables false
set_option linter.unusedSimpArgs false
set_option maxRecDepth 100000 in
set_option maxHeartbeats 4000000 in
theorem rd2_Z (x : Int) (f : Nat → Int) (a p1 p2 : Int) (W : World)
    (HBI : ∀ w, Calls Tryd.prog 40 #[.int .u32 x] w fun e w' => e = .returned (.agg (encB f).toArray) ∧ Below w.heap.size w w')
    (H5_4 : ∀ w, Calls Tryd.prog 41 #[.agg (encB f).toArray, .int .i64 5, .int .i64 4] w fun e w' => e = .returned (.int .i64 a) ∧ Below w.heap.size w w')
    (H1_0 : ∀ w, Calls Tryd.prog 41 #[.agg (encB f).toArray, .int .i64 1, .int .i64 0] w fun e w' => e = .returned (.int .i64 0) ∧ Below w.heap.size w w')
    (q1 : IntKind.i64.wrap (4 * f 9) = p1) (q2 : IntKind.i64.wrap (p1 + a) = p2)  :
    Calls Tryd.prog 68 #[.int .u32 x] W fun e w' => e = .returned (.agg #[.int .i64 0, .int .u64 0, .int .i64 0, .bool false, .int .i64 0, .int .u32 0, .bool false, .bool false]) ∧ Below W.heap.size W w' := by
  have hz := zeroB
  have hZl : (encB (fun _ => 0)).length = 32 := encB_len _
  generalize encB (fun _ => 0) = Z at *
  go_enter Tryd.func68, Tryd.ntmps68
  go_wp2_with (first | (go_at_call 40; refine (HBI _).mono ?_; rintro e w1 ⟨rfl, hb⟩; have HS : Hid (RS f W w1.heap.size ((w1.alloc (.cells Z.toArray 98)).setRow w1.heap.size (encB f).toArray)) := rs_start Z hb; have HSt : Hid ((Instr.storeAt 98 (Value.pointer (some ⟨w1.heap.size, 0, none⟩)) (.agg (encB f).toArray)).run Tryd.prog (w1.alloc (.cells Z.toArray 98)) = .ok () ((w1.alloc (.cells Z.toArray 98)).setRow w1.heap.size (encB f).toArray)) := storeB _ _ f Z (Bl.new w1 98 Z) hZl; clear hb) | (guard_target =~ wpList _ _ _ (Oper.mk none (Op.store 98 _ _) _ _ _ _ :: _) _ _; refine wpl_storeB _ rfl _ _ rfl (.pointer (some ⟨w1.heap.size, 0, none⟩)) (.agg (encB f).toArray) rfl rfl HSt.out ?_; clear HSt; generalize (w1.alloc (.cells Z.toArray 98)).setRow w1.heap.size (encB f).toArray = w2 at *; generalize w1.heap.size = n at *) | go_in)
  apply via (P := fun c w => Hid (RL f W n [.int .i64 p2, .int .u32 0, .bool (f 11 == 1), .bool false] c w))
  case main =>
    intro key
    refine wp_region_held_drew (S := fun w' => Hid (Bl w' n 98 (encB f)) ∧ w'.cell? ⟨n, 9, none⟩ = some (.int .i64 (f 9)) ∧ w'.cell? ⟨n, 11, none⟩ = some (.int .i64 (f 11))) (by kernel_rfl) (by (try dsimp only); exact ⟨HS.out.drew.arr, HS.out.drew.cell 9 (by decide), HS.out.drew.cell 11 (by decide)⟩) (fun hHeld => ?_)
    replace HS := hidIn HS.out.drew
    generalize World.drew w2 = w3 at *
    refine wpAnyH_take (i := 0) (oi := { dst := some 7, op := Op.indexAddr 98 (Operand.tmp 3) (Operand.const (Value.int IntKind.i64 9)), type := 0, pos := _, after := #[], guard := none }) (v := ?_) rfl (by kernel_rfl) (by kernel_rfl) (by kernel_rfl) (fun _ _ _ h => h) (Or.inl ⟨by rfl, ?_⟩) (by assumption) ?_
    rotate_left
    · (intro w hSw; (try dsimp only at hSw); go_simp; try with_reducible rfl)
    simp only [Act.put, List.setIfInBounds_toArray, List.set_cons_zero, List.set_cons_succ]
    refine wpAnyH_take (i := 1) (oi := { dst := some 8, op := Op.load 3 (Operand.tmp 7), type := 3, pos := _, after := #[{ on := 0, ground := Ground.data }], guard := none }) (v := ?_) rfl (by kernel_rfl) (by kernel_rfl) (by kernel_rfl) (fun _ _ _ h => h) (Or.inl ⟨by rfl, ?_⟩) (by assumption) ?_
    rotate_left
    · (intro w hSw; (try dsimp only at hSw); go_simp; try with_reducible rfl)
    simp only [Act.put, List.setIfInBounds_toArray, List.set_cons_zero, List.set_cons_succ]
    refine wpAnyH_take (i := 2) (oi := { dst := some 9, op := Op.binOp BinOp.mul 3 (Operand.const (Value.int IntKind.i64 4)) (Operand.tmp 8) 3, type := 3, pos := _, after := #[{ on := 1, ground := Ground.data }], guard := none }) (v := ?_) rfl (by kernel_rfl) (by kernel_rfl) (by kernel_rfl) (fun _ _ _ h => h) (Or.inl ⟨by rfl, ?_⟩) (by assumption) ?_
    rotate_left
    · (intro w hSw; (try dsimp only at hSw); go_simp; try with_reducible rfl)
    simp only [Act.put, List.setIfInBounds_toArray, List.set_cons_zero, List.set_cons_succ]
    refine wpAnyH_take (i := 3) (oi := { dst := some 10, op := Op.load 98 (Operand.tmp 3), type := 98, pos := _, after := #[], guard := none }) (v := .agg (encB f).toArray) rfl (by kernel_rfl) (by kernel_rfl) (by kernel_rfl) (fun _ _ _ h => h) (Or.inl ⟨by rfl, fun w hSw => exec54 _ _ _ rfl _ _ rfl w hSw.1.out⟩) (by assumption) ?_
    simp only [Act.put, List.setIfInBounds_toArray, List.set_cons_zero, List.set_cons_succ]
    refine wpAnyH_take (i := 6) (oi := { dst := some 13, op := Op.indexAddr 98 (Operand.tmp 3) (Operand.const (Value.int IntKind.i64 11)), type := 0, pos := _, after := #[], guard := none }) (v := ?_) rfl (by kernel_rfl) (by kernel_rfl) (by kernel_rfl) (fun _ _ _ h => h) (Or.inl ⟨by rfl, ?_⟩) (by assumption) ?_
    rotate_left
    · (intro w hSw; (try dsimp only at hSw); go_simp; try with_reducible rfl)
    simp only [Act.put, List.setIfInBounds_toArray, List.set_cons_zero, List.set_cons_succ]
    refine wpAnyH_take (i := 7) (oi := { dst := some 14, op := Op.load 3 (Operand.tmp 13), type := 3, pos := _, after := #[{ on := 6, ground := Ground.data }], guard := none }) (v := ?_) rfl (by kernel_rfl) (by kernel_rfl) (by kernel_rfl) (fun _ _ _ h => h) (Or.inl ⟨by rfl, ?_⟩) (by assumption) ?_
    rotate_left
    · (intro w hSw; (try dsimp only at hSw); go_simp; try with_reducible rfl)
    simp only [Act.put, List.setIfInBounds_toArray, List.set_cons_zero, List.set_cons_succ]
    refine wpAnyH_take (i := 8) (oi := { dst := some 15, op := Op.binOp BinOp.eql 3 (Operand.tmp 14) (Operand.const (Value.int IntKind.i64 1)) 3, type := 4, pos := _, after := #[{ on := 7, ground := Ground.data }], guard := none }) (v := ?_) rfl (by kernel_rfl) (by kernel_rfl) (by kernel_rfl) (fun _ _ _ h => h) (Or.inl ⟨by rfl, ?_⟩) (by assumption) ?_
    rotate_left
    · (intro w hSw; (try dsimp only at hSw); go_simp; try with_reducible rfl)
    simp only [Act.put, List.setIfInBounds_toArray, List.set_cons_zero, List.set_cons_succ]
    refine wpAnyH_ready (rs := [4, 10]) (by kernel_rfl) (by simp) ?_
    refine (AllReadyH.cons (o := { dst := some 11, op := Op.call { callee := Callee.value (Operand.func 41), args := #[Operand.tmp 10, Operand.const (Value.int IntKind.i64 5), Operand.const (Value.int IntKind.i64 4)], argTypes := #[98, 3, 3] }, type := 3, pos := _, after := #[{ on := 3, ground := Ground.data }], guard := none }) rfl (fun K hK => ?_) (AllReadyH.cons (o := { dst := some 4, op := Op.alloc 47, type := 0, pos := _, after := #[], guard := none }) rfl (fun K hK => ?_) AllReadyH.nil))
    · go_simp
      (go_at_call 41; refine (H5_4 _).mono ?_; rintro e w3 ⟨rfl, hb⟩; replace HS := hidIn (HS.out.below hb); clear hb)
      refine hK.out _ _ ?_ (fun hHeld => ?_)
      · ((try dsimp only); exact ⟨HS.out.arr, HS.out.cell 9 (by decide), HS.out.cell 11 (by decide)⟩)
      clear hK K
      try simp only [Act.put, List.setIfInBounds_toArray, List.set_cons_zero, List.set_cons_succ]
      refine wpAnyH_take (i := 5) (oi := { dst := some 12, op := Op.binOp BinOp.add 3 (Operand.tmp 9) (Operand.tmp 11) 3, type := 3, pos := _, after := #[{ on := 2, ground := Ground.data }, { on := 4, ground := Ground.data }], guard := none }) (v := ?_) rfl (by kernel_rfl) (by kernel_rfl) (by kernel_rfl) (fun _ _ _ h => h) (Or.inl ⟨by rfl, ?_⟩) (by assumption) ?_
      rotate_left
      · (intro w hSw; (try dsimp only at hSw); go_simp; try with_reducible rfl)
      simp only [Act.put, List.setIfInBounds_toArray, List.set_cons_zero, List.set_cons_succ]
      refine wpAnyH_take (i := 9) (oi := { dst := some 16, op := Op.build 47 #[(0, Operand.tmp 12), (2, Operand.tmp 15)], type := 47, pos := _, after := #[{ on := 5, ground := Ground.data }, { on := 8, ground := Ground.data }], guard := none }) (v := ?_) rfl (by kernel_rfl) (by kernel_rfl) (by kernel_rfl) (fun _ _ _ h => h) (Or.inl ⟨by rfl, ?_⟩) (by assumption) ?_
      rotate_left
      · (intro w hSw; (try dsimp only at hSw); go_simp; try with_reducible rfl)
      simp only [Act.put, List.setIfInBounds_toArray, List.set_cons_zero, List.set_cons_succ]
      refine wpAnyH_ready (rs := [10]) (by kernel_rfl) (by simp) ?_
      refine (AllReadyH.cons (o := { dst := some 4, op := Op.alloc 47, type := 0, pos := _, after := #[], guard := none }) rfl (fun K hK => ?_) AllReadyH.nil)
      go_simp
      (replace HS := hidIn (HS.out.alloc [.int .i64 0, .int .u32 0, .bool false, .bool false]))
      refine hK.out _ _ ?_ (fun hHeld => ?_)
      · ((try dsimp only); exact ⟨HS.out.arr, HS.out.cell 9 (by decide), HS.out.cell 11 (by decide)⟩)
      (generalize w3.heap.size = c at *; generalize w3.alloc _ = w3 at *)
      clear hK K
      try simp only [Act.put, List.setIfInBounds_toArray, List.set_cons_zero, List.set_cons_succ]
      refine wpAnyH_ready (rs := [11]) (by kernel_rfl) (by simp) ?_
      refine (AllReadyH.cons (o := { dst := none, op := Op.store 47 (Operand.tmp 4) (Operand.tmp 16), type := 0, pos := _, after := #[{ on := 10, ground := Ground.data }, { on := 9, ground := Ground.data }, { on := 4, ground := Ground.chain }, { on := 0, ground := Ground.phase }, { on := 1, ground := Ground.phase }, { on := 2, ground := Ground.phase }, { on := 3, ground := Ground.phase }, { on := 4, ground := Ground.phase }, { on := 5, ground := Ground.phase }, { on := 6, ground := Ground.phase }, { on := 7, ground := Ground.phase }, { on := 8, ground := Ground.phase }, { on := 9, ground := Ground.phase }, { on := 10, ground := Ground.phase }], guard := none }) rfl (fun K hK => ?_) AllReadyH.nil)
      (have hd := HS.out.leaf.cell; have hf := HS.out.leaf.frozen)
      go_simp
      (replace HS := hidIn (HS.out.store (.int .i64 p2) (.int .u32 0) (.bool (f 11 == 1)) (.bool false)); clear hd hf)
      refine hK.out _ _ ?_ (fun hHeld => ?_)
      · ((try dsimp only); exact ⟨HS.out.arr, HS.out.cell 9 (by decide), HS.out.cell 11 (by decide)⟩)
      (generalize (World.setCell (World.setCell (World.setCell (World.setCell w3 ⟨c, 0, none⟩ (.int .i64 p2)) ⟨c, 1, none⟩ (.int .u32 0)) ⟨c, 2, none⟩ (.bool (f 11 == 1))) ⟨c, 3, none⟩ (.bool false)) = w3 at *)
      clear hK K
      try simp only [Act.put, List.setIfInBounds_toArray, List.set_cons_zero, List.set_cons_succ]
      refine wpAnyH_done (by kernel_rfl) ?_ _
      exact key _ _ HS
    · go_simp
      (replace HS := hidIn (HS.out.alloc [.int .i64 0, .int .u32 0, .bool false, .bool false]))
      refine hK.out _ _ ?_ (fun hHeld => ?_)
      · ((try dsimp only); exact ⟨HS.out.arr, HS.out.cell 9 (by decide), HS.out.cell 11 (by decide)⟩)
      (generalize w3.heap.size = c at *; generalize w3.alloc _ = w3 at *)
      clear hK K
      try simp only [Act.put, List.setIfInBounds_toArray, List.set_cons_zero, List.set_cons_succ]
      refine wpAnyH_ready (rs := [4]) (by kernel_rfl) (by simp) ?_
      refine (AllReadyH.cons (o := { dst := some 11, op := Op.call { callee := Callee.value (Operand.func 41), args := #[Operand.tmp 10, Operand.const (Value.int IntKind.i64 5), Operand.const (Value.int IntKind.i64 4)], argTypes := #[98, 3, 3] }, type := 3, pos := _, after := #[{ on := 3, ground := Ground.data }], guard := none }) rfl (fun K hK => ?_) AllReadyH.nil)
      go_simp
      (go_at_call 41; refine (H5_4 _).mono ?_; rintro e w3 ⟨rfl, hb⟩; replace HS := hidIn (HS.out.below hb); clear hb)
      refine hK.out _ _ ?_ (fun hHeld => ?_)
      · ((try dsimp only); exact ⟨HS.out.arr, HS.out.cell 9 (by decide), HS.out.cell 11 (by decide)⟩)
      clear hK K
      try simp only [Act.put, List.setIfInBounds_toArray, List.set_cons_zero, List.set_cons_succ]
      refine wpAnyH_take (i := 5) (oi := { dst := some 12, op := Op.binOp BinOp.add 3 (Operand.tmp 9) (Operand.tmp 11) 3, type := 3, pos := _, after := #[{ on := 2, ground := Ground.data }, { on := 4, ground := Ground.data }], guard := none }) (v := ?_) rfl (by kernel_rfl) (by kernel_rfl) (by kernel_rfl) (fun _ _ _ h => h) (Or.inl ⟨by rfl, ?_⟩) (by assumption) ?_
      rotate_left
      · (intro w hSw; (try dsimp only at hSw); go_simp; try with_reducible rfl)
      simp only [Act.put, List.setIfInBounds_toArray, List.set_cons_zero, List.set_cons_succ]
      refine wpAnyH_take (i := 9) (oi := { dst := some 16, op := Op.build 47 #[(0, Operand.tmp 12), (2, Operand.tmp 15)], type := 47, pos := _, after := #[{ on := 5, ground := Ground.data }, { on := 8, ground := Ground.data }], guard := none }) (v := ?_) rfl (by kernel_rfl) (by kernel_rfl) (by kernel_rfl) (fun _ _ _ h => h) (Or.inl ⟨by rfl, ?_⟩) (by assumption) ?_
      rotate_left
      · (intro w hSw; (try dsimp only at hSw); go_simp; try with_reducible rfl)
      simp only [Act.put, List.setIfInBounds_toArray, List.set_cons_zero, List.set_cons_succ]
      refine wpAnyH_ready (rs := [11]) (by kernel_rfl) (by simp) ?_
      refine (AllReadyH.cons (o := { dst := none, op := Op.store 47 (Operand.tmp 4) (Operand.tmp 16), type := 0, pos := _, after := #[{ on := 10, ground := Ground.data }, { on := 9, ground := Ground.data }, { on := 4, ground := Ground.chain }, { on := 0, ground := Ground.phase }, { on := 1, ground := Ground.phase }, { on := 2, ground := Ground.phase }, { on := 3, ground := Ground.phase }, { on := 4, ground := Ground.phase }, { on := 5, ground := Ground.phase }, { on := 6, ground := Ground.phase }, { on := 7, ground := Ground.phase }, { on := 8, ground := Ground.phase }, { on := 9, ground := Ground.phase }, { on := 10, ground := Ground.phase }], guard := none }) rfl (fun K hK => ?_) AllReadyH.nil)
      (have hd := HS.out.leaf.cell; have hf := HS.out.leaf.frozen)
      go_simp
      (replace HS := hidIn (HS.out.store (.int .i64 p2) (.int .u32 0) (.bool (f 11 == 1)) (.bool false)); clear hd hf)
      refine hK.out _ _ ?_ (fun hHeld => ?_)
      · ((try dsimp only); exact ⟨HS.out.arr, HS.out.cell 9 (by decide), HS.out.cell 11 (by decide)⟩)
      (generalize (World.setCell (World.setCell (World.setCell (World.setCell w3 ⟨c, 0, none⟩ (.int .i64 p2)) ⟨c, 1, none⟩ (.int .u32 0)) ⟨c, 2, none⟩ (.bool (f 11 == 1))) ⟨c, 3, none⟩ (.bool false)) = w3 at *)
      clear hK K
      try simp only [Act.put, List.setIfInBounds_toArray, List.set_cons_zero, List.set_cons_succ]
      refine wpAnyH_done (by kernel_rfl) ?_ _
      exact key _ _ HS
  case key =>
    intro c w3 HS
    go_wp2_with (first | (guard_target =~ wpList _ _ _ (Oper.mk (some 17) (Op.load 98 _) _ _ _ _ :: _) _ _; refine wpl_loadB _ rfl _ rfl (.pointer (some ⟨n, 0, none⟩)) rfl (loadB _ _ _ HS.out.arr) ?_) | (go_at_call 41; refine (H1_0 _).mono ?_; rintro e w3 ⟨rfl, hb⟩; replace HS := hidIn (HS.out.below hb); clear hb; have hd := HS.out.res.cell; have hf := HS.out.res.frozen) | go_in)
    refine bodyPost_ret (v := .agg #[.int .i64 0, .int .u64 0, .int .i64 0, .bool false, .int .i64 0, .int .u32 0, .bool false, .bool false]) (by simp [results, Tryd.results68, go_sem, hd]) rfl ⟨rfl, (by (repeat (refine Below.setCell ?_ (by simp) _)); exact HS.out.bel)⟩
set_option maxRecDepth 100000 in
set_option maxHeartbeats 4000000 in
theorem rd2_L (x : Int) (f : Nat → Int) (A B a t p1 p2 t1 t2 t3 t4 t5 t6 t7 : Int) (W : World)
    (HBI : ∀ w, Calls Tryd.prog 40 #[.int .u32 x] w fun e w' => e = .returned (.agg (encB f).toArray) ∧ Below w.heap.size w w')
    (H5_4 : ∀ w, Calls Tryd.prog 41 #[.agg (encB f).toArray, .int .i64 5, .int .i64 4] w fun e w' => e = .returned (.int .i64 a) ∧ Below w.heap.size w w')
    (H1_0 : ∀ w, Calls Tryd.prog 41 #[.agg (encB f).toArray, .int .i64 1, .int .i64 0] w fun e w' => e = .returned (.int .i64 1) ∧ Below w.heap.size w w')
    (H14_12 : ∀ w, Calls Tryd.prog 41 #[.agg (encB f).toArray, .int .i64 14, .int .i64 12] w fun e w' => e = .returned (.int .i64 t) ∧ Below w.heap.size w w')
    (H31_16 : ∀ w, Calls Tryd.prog 41 #[.agg (encB f).toArray, .int .i64 31, .int .i64 16] w fun e w' => e = .returned (.int .i64 A) ∧ Below w.heap.size w w')
    (q1 : IntKind.i64.wrap (4 * f 9) = p1) (q2 : IntKind.i64.wrap (p1 + a) = p2) (q3 : IntKind.i64.wrap (8 * t) = t1) (q4 : IntKind.i64.wrap (4 * f 3) = t2) (q5 : IntKind.i64.wrap (t1 + t2) = t3) (q6 : IntKind.i64.wrap (2 * f 2) = t4) (q7 : IntKind.i64.wrap (t3 + t4) = t5) (q8 : IntKind.i64.wrap (t5 + f 10) = t6) (q9 : IntKind.u32.wrap t6 = t7) (r1 : IntKind.u64.wrap A = A) (r2 : IntKind.u64.wrap (A * 65536) = B) :
    Calls Tryd.prog 68 #[.int .u32 x] W fun e w' => e = .returned (.agg #[.int .i64 4, .int .u64 B, .int .i64 0, .bool false, .int .i64 p2, .int .u32 t7, .bool (f 11 == 1), .bool (f 15 == 1)]) ∧ Below W.heap.size W w' := by
  have hp16 := fun w => power_l 16 65536 w (by decide) (by decide) 16 rfl
  have hz := zeroB
  have hZl : (encB (fun _ => 0)).length = 32 := encB_len _
  generalize encB (fun _ => 0) = Z at *
  go_enter Tryd.func68, Tryd.ntmps68
  go_wp2_with (first | (go_at_call 40; refine (HBI _).mono ?_; rintro e w1 ⟨rfl, hb⟩; have HS : Hid (RS f W w1.heap.size ((w1.alloc (.cells Z.toArray 98)).setRow w1.heap.size (encB f).toArray)) := rs_start Z hb; have HSt : Hid ((Instr.storeAt 98 (Value.pointer (some ⟨w1.heap.size, 0, none⟩)) (.agg (encB f).toArray)).run Tryd.prog (w1.alloc (.cells Z.toArray 98)) = .ok () ((w1.alloc (.cells Z.toArray 98)).setRow w1.heap.size (encB f).toArray)) := storeB _ _ f Z (Bl.new w1 98 Z) hZl; clear hb) | (guard_target =~ wpList _ _ _ (Oper.mk none (Op.store 98 _ _) _ _ _ _ :: _) _ _; refine wpl_storeB _ rfl _ _ rfl (.pointer (some ⟨w1.heap.size, 0, none⟩)) (.agg (encB f).toArray) rfl rfl HSt.out ?_; clear HSt; generalize (w1.alloc (.cells Z.toArray 98)).setRow w1.heap.size (encB f).toArray = w2 at *; generalize w1.heap.size = n at *) | go_in)
  apply via (P := fun c w => Hid (RL f W n [.int .i64 p2, .int .u32 0, .bool (f 11 == 1), .bool false] c w))
  case main =>
    intro key
    refine wp_region_held_drew (S := fun w' => Hid (Bl w' n 98 (encB f)) ∧ w'.cell? ⟨n, 9, none⟩ = some (.int .i64 (f 9)) ∧ w'.cell? ⟨n, 11, none⟩ = some (.int .i64 (f 11))) (by kernel_rfl) (by (try dsimp only); exact ⟨HS.out.drew.arr, HS.out.drew.cell 9 (by decide), HS.out.drew.cell 11 (by decide)⟩) (fun hHeld => ?_)
    replace HS := hidIn HS.out.drew
    generalize World.drew w2 = w3 at *
    refine wpAnyH_take (i := 0) (oi := { dst := some 7, op := Op.indexAddr 98 (Operand.tmp 3) (Operand.const (Value.int IntKind.i64 9)), type := 0, pos := _, after := #[], guard := none }) (v := ?_) rfl (by kernel_rfl) (by kernel_rfl) (by kernel_rfl) (fun _ _ _ h => h) (Or.inl ⟨by rfl, ?_⟩) (by assumption) ?_
    rotate_left
    · (intro w hSw; (try dsimp only at hSw); go_simp; try with_reducible rfl)
    simp only [Act.put, List.setIfInBounds_toArray, List.set_cons_zero, List.set_cons_succ]
    refine wpAnyH_take (i := 1) (oi := { dst := some 8, op := Op.load 3 (Operand.tmp 7), type := 3, pos := _, after := #[{ on := 0, ground := Ground.data }], guard := none }) (v := ?_) rfl (by kernel_rfl) (by kernel_rfl) (by kernel_rfl) (fun _ _ _ h => h) (Or.inl ⟨by rfl, ?_⟩) (by assumption) ?_
    rotate_left
    · (intro w hSw; (try dsimp only at hSw); go_simp; try with_reducible rfl)
    simp only [Act.put, List.setIfInBounds_toArray, List.set_cons_zero, List.set_cons_succ]
    refine wpAnyH_take (i := 2) (oi := { dst := some 9, op := Op.binOp BinOp.mul 3 (Operand.const (Value.int IntKind.i64 4)) (Operand.tmp 8) 3, type := 3, pos := _, after := #[{ on := 1, ground := Ground.data }], guard := none }) (v := ?_) rfl (by kernel_rfl) (by kernel_rfl) (by kernel_rfl) (fun _ _ _ h => h) (Or.inl ⟨by rfl, ?_⟩) (by assumption) ?_
    rotate_left
    · (intro w hSw; (try dsimp only at hSw); go_simp; try with_reducible rfl)
    simp only [Act.put, List.setIfInBounds_toArray, List.set_cons_zero, List.set_cons_succ]
    refine wpAnyH_take (i := 3) (oi := { dst := some 10, op := Op.load 98 (Operand.tmp 3), type := 98, pos := _, after := #[], guard := none }) (v := .agg (encB f).toArray) rfl (by kernel_rfl) (by kernel_rfl) (by kernel_rfl) (fun _ _ _ h => h) (Or.inl ⟨by rfl, fun w hSw => exec54 _ _ _ rfl _ _ rfl w hSw.1.out⟩) (by assumption) ?_
    simp only [Act.put, List.setIfInBounds_toArray, List.set_cons_zero, List.set_cons_succ]
    refine wpAnyH_take (i := 6) (oi := { dst := some 13, op := Op.indexAddr 98 (Operand.tmp 3) (Operand.const (Value.int IntKind.i64 11)), type := 0, pos := _, after := #[], guard := none }) (v := ?_) rfl (by kernel_rfl) (by kernel_rfl) (by kernel_rfl) (fun _ _ _ h => h) (Or.inl ⟨by rfl, ?_⟩) (by assumption) ?_
    rotate_left
    · (intro w hSw; (try dsimp only at hSw); go_simp; try with_reducible rfl)
    simp only [Act.put, List.setIfInBounds_toArray, List.set_cons_zero, List.set_cons_succ]
    refine wpAnyH_take (i := 7) (oi := { dst := some 14, op := Op.load 3 (Operand.tmp 13), type := 3, pos := _, after := #[{ on := 6, ground := Ground.data }], guard := none }) (v := ?_) rfl (by kernel_rfl) (by kernel_rfl) (by kernel_rfl) (fun _ _ _ h => h) (Or.inl ⟨by rfl, ?_⟩) (by assumption) ?_
    rotate_left
    · (intro w hSw; (try dsimp only at hSw); go_simp; try with_reducible rfl)
    simp only [Act.put, List.setIfInBounds_toArray, List.set_cons_zero, List.set_cons_succ]
    refine wpAnyH_take (i := 8) (oi := { dst := some 15, op := Op.binOp BinOp.eql 3 (Operand.tmp 14) (Operand.const (Value.int IntKind.i64 1)) 3, type := 4, pos := _, after := #[{ on := 7, ground := Ground.data }], guard := none }) (v := ?_) rfl (by kernel_rfl) (by kernel_rfl) (by kernel_rfl) (fun _ _ _ h => h) (Or.inl ⟨by rfl, ?_⟩) (by assumption) ?_
    rotate_left
    · (intro w hSw; (try dsimp only at hSw); go_simp; try with_reducible rfl)
    simp only [Act.put, List.setIfInBounds_toArray, List.set_cons_zero, List.set_cons_succ]
    refine wpAnyH_ready (rs := [4, 10]) (by kernel_rfl) (by simp) ?_
    refine (AllReadyH.cons (o := { dst := some 11, op := Op.call { callee := Callee.value (Operand.func 41), args := #[Operand.tmp 10, Operand.const (Value.int IntKind.i64 5), Operand.const (Value.int IntKind.i64 4)], argTypes := #[98, 3, 3] }, type := 3, pos := _, after := #[{ on := 3, ground := Ground.data }], guard := none }) rfl (fun K hK => ?_) (AllReadyH.cons (o := { dst := some 4, op := Op.alloc 47, type := 0, pos := _, after := #[], guard := none }) rfl (fun K hK => ?_) AllReadyH.nil))
    · go_simp
      (go_at_call 41; refine (H5_4 _).mono ?_; rintro e w3 ⟨rfl, hb⟩; replace HS := hidIn (HS.out.below hb); clear hb)
      refine hK.out _ _ ?_ (fun hHeld => ?_)
      · ((try dsimp only); exact ⟨HS.out.arr, HS.out.cell 9 (by decide), HS.out.cell 11 (by decide)⟩)
      clear hK K
      try simp only [Act.put, List.setIfInBounds_toArray, List.set_cons_zero, List.set_cons_succ]
      refine wpAnyH_take (i := 5) (oi := { dst := some 12, op := Op.binOp BinOp.add 3 (Operand.tmp 9) (Operand.tmp 11) 3, type := 3, pos := _, after := #[{ on := 2, ground := Ground.data }, { on := 4, ground := Ground.data }], guard := none }) (v := ?_) rfl (by kernel_rfl) (by kernel_rfl) (by kernel_rfl) (fun _ _ _ h => h) (Or.inl ⟨by rfl, ?_⟩) (by assumption) ?_
      rotate_left
      · (intro w hSw; (try dsimp only at hSw); go_simp; try with_reducible rfl)
      simp only [Act.put, List.setIfInBounds_toArray, List.set_cons_zero, List.set_cons_succ]
      refine wpAnyH_take (i := 9) (oi := { dst := some 16, op := Op.build 47 #[(0, Operand.tmp 12), (2, Operand.tmp 15)], type := 47, pos := _, after := #[{ on := 5, ground := Ground.data }, { on := 8, ground := Ground.data }], guard := none }) (v := ?_) rfl (by kernel_rfl) (by kernel_rfl) (by kernel_rfl) (fun _ _ _ h => h) (Or.inl ⟨by rfl, ?_⟩) (by assumption) ?_
      rotate_left
      · (intro w hSw; (try dsimp only at hSw); go_simp; try with_reducible rfl)
      simp only [Act.put, List.setIfInBounds_toArray, List.set_cons_zero, List.set_cons_succ]
      refine wpAnyH_ready (rs := [10]) (by kernel_rfl) (by simp) ?_
      refine (AllReadyH.cons (o := { dst := some 4, op := Op.alloc 47, type := 0, pos := _, after := #[], guard := none }) rfl (fun K hK => ?_) AllReadyH.nil)
      go_simp
      (replace HS := hidIn (HS.out.alloc [.int .i64 0, .int .u32 0, .bool false, .bool false]))
      refine hK.out _ _ ?_ (fun hHeld => ?_)
      · ((try dsimp only); exact ⟨HS.out.arr, HS.out.cell 9 (by decide), HS.out.cell 11 (by decide)⟩)
      (generalize w3.heap.size = c at *; generalize w3.alloc _ = w3 at *)
      clear hK K
      try simp only [Act.put, List.setIfInBounds_toArray, List.set_cons_zero, List.set_cons_succ]
      refine wpAnyH_ready (rs := [11]) (by kernel_rfl) (by simp) ?_
      refine (AllReadyH.cons (o := { dst := none, op := Op.store 47 (Operand.tmp 4) (Operand.tmp 16), type := 0, pos := _, after := #[{ on := 10, ground := Ground.data }, { on := 9, ground := Ground.data }, { on := 4, ground := Ground.chain }, { on := 0, ground := Ground.phase }, { on := 1, ground := Ground.phase }, { on := 2, ground := Ground.phase }, { on := 3, ground := Ground.phase }, { on := 4, ground := Ground.phase }, { on := 5, ground := Ground.phase }, { on := 6, ground := Ground.phase }, { on := 7, ground := Ground.phase }, { on := 8, ground := Ground.phase }, { on := 9, ground := Ground.phase }, { on := 10, ground := Ground.phase }], guard := none }) rfl (fun K hK => ?_) AllReadyH.nil)
      (have hd := HS.out.leaf.cell; have hf := HS.out.leaf.frozen)
      go_simp
      (replace HS := hidIn (HS.out.store (.int .i64 p2) (.int .u32 0) (.bool (f 11 == 1)) (.bool false)); clear hd hf)
      refine hK.out _ _ ?_ (fun hHeld => ?_)
      · ((try dsimp only); exact ⟨HS.out.arr, HS.out.cell 9 (by decide), HS.out.cell 11 (by decide)⟩)
      (generalize (World.setCell (World.setCell (World.setCell (World.setCell w3 ⟨c, 0, none⟩ (.int .i64 p2)) ⟨c, 1, none⟩ (.int .u32 0)) ⟨c, 2, none⟩ (.bool (f 11 == 1))) ⟨c, 3, none⟩ (.bool false)) = w3 at *)
      clear hK K
      try simp only [Act.put, List.setIfInBounds_toArray, List.set_cons_zero, List.set_cons_succ]
      refine wpAnyH_done (by kernel_rfl) ?_ _
      exact key _ _ HS
    · go_simp
      (replace HS := hidIn (HS.out.alloc [.int .i64 0, .int .u32 0, .bool false, .bool false]))
      refine hK.out _ _ ?_ (fun hHeld => ?_)
      · ((try dsimp only); exact ⟨HS.out.arr, HS.out.cell 9 (by decide), HS.out.cell 11 (by decide)⟩)
      (generalize w3.heap.size = c at *; generalize w3.alloc _ = w3 at *)
      clear hK K
      try simp only [Act.put, List.setIfInBounds_toArray, List.set_cons_zero, List.set_cons_succ]
      refine wpAnyH_ready (rs := [4]) (by kernel_rfl) (by simp) ?_
      refine (AllReadyH.cons (o := { dst := some 11, op := Op.call { callee := Callee.value (Operand.func 41), args := #[Operand.tmp 10, Operand.const (Value.int IntKind.i64 5), Operand.const (Value.int IntKind.i64 4)], argTypes := #[98, 3, 3] }, type := 3, pos := _, after := #[{ on := 3, ground := Ground.data }], guard := none }) rfl (fun K hK => ?_) AllReadyH.nil)
      go_simp
      (go_at_call 41; refine (H5_4 _).mono ?_; rintro e w3 ⟨rfl, hb⟩; replace HS := hidIn (HS.out.below hb); clear hb)
      refine hK.out _ _ ?_ (fun hHeld => ?_)
      · ((try dsimp only); exact ⟨HS.out.arr, HS.out.cell 9 (by decide), HS.out.cell 11 (by decide)⟩)
      clear hK K
      try simp only [Act.put, List.setIfInBounds_toArray, List.set_cons_zero, List.set_cons_succ]
      refine wpAnyH_take (i := 5) (oi := { dst := some 12, op := Op.binOp BinOp.add 3 (Operand.tmp 9) (Operand.tmp 11) 3, type := 3, pos := _, after := #[{ on := 2, ground := Ground.data }, { on := 4, ground := Ground.data }], guard := none }) (v := ?_) rfl (by kernel_rfl) (by kernel_rfl) (by kernel_rfl) (fun _ _ _ h => h) (Or.inl ⟨by rfl, ?_⟩) (by assumption) ?_
      rotate_left
      · (intro w hSw; (try dsimp only at hSw); go_simp; try with_reducible rfl)
      simp only [Act.put, List.setIfInBounds_toArray, List.set_cons_zero, List.set_cons_succ]
      refine wpAnyH_take (i := 9) (oi := { dst := some 16, op := Op.build 47 #[(0, Operand.tmp 12), (2, Operand.tmp 15)], type := 47, pos := _, after := #[{ on := 5, ground := Ground.data }, { on := 8, ground := Ground.data }], guard := none }) (v := ?_) rfl (by kernel_rfl) (by kernel_rfl) (by kernel_rfl) (fun _ _ _ h => h) (Or.inl ⟨by rfl, ?_⟩) (by assumption) ?_
      rotate_left
      · (intro w hSw; (try dsimp only at hSw); go_simp; try with_reducible rfl)
      simp only [Act.put, List.setIfInBounds_toArray, List.set_cons_zero, List.set_cons_succ]
      refine wpAnyH_ready (rs := [11]) (by kernel_rfl) (by simp) ?_
      refine (AllReadyH.cons (o := { dst := none, op := Op.store 47 (Operand.tmp 4) (Operand.tmp 16), type := 0, pos := _, after := #[{ on := 10, ground := Ground.data }, { on := 9, ground := Ground.data }, { on := 4, ground := Ground.chain }, { on := 0, ground := Ground.phase }, { on := 1, ground := Ground.phase }, { on := 2, ground := Ground.phase }, { on := 3, ground := Ground.phase }, { on := 4, ground := Ground.phase }, { on := 5, ground := Ground.phase }, { on := 6, ground := Ground.phase }, { on := 7, ground := Ground.phase }, { on := 8, ground := Ground.phase }, { on := 9, ground := Ground.phase }, { on := 10, ground := Ground.phase }], guard := none }) rfl (fun K hK => ?_) AllReadyH.nil)
      (have hd := HS.out.leaf.cell; have hf := HS.out.leaf.frozen)
      go_simp
      (replace HS := hidIn (HS.out.store (.int .i64 p2) (.int .u32 0) (.bool (f 11 == 1)) (.bool false)); clear hd hf)
      refine hK.out _ _ ?_ (fun hHeld => ?_)
      · ((try dsimp only); exact ⟨HS.out.arr, HS.out.cell 9 (by decide), HS.out.cell 11 (by decide)⟩)
      (generalize (World.setCell (World.setCell (World.setCell (World.setCell w3 ⟨c, 0, none⟩ (.int .i64 p2)) ⟨c, 1, none⟩ (.int .u32 0)) ⟨c, 2, none⟩ (.bool (f 11 == 1))) ⟨c, 3, none⟩ (.bool false)) = w3 at *)
      clear hK K
      try simp only [Act.put, List.setIfInBounds_toArray, List.set_cons_zero, List.set_cons_succ]
      refine wpAnyH_done (by kernel_rfl) ?_ _
      exact key _ _ HS
  case key =>
    intro c w3 HS
    go_wp2_with (first | (guard_target =~ wpList _ _ _ (Oper.mk (some 17) (Op.load 98 _) _ _ _ _ :: _) _ _; refine wpl_loadB _ rfl _ rfl (.pointer (some ⟨n, 0, none⟩)) rfl (loadB _ _ _ HS.out.arr) ?_) | (go_at_call 41; refine (H1_0 _).mono ?_; rintro e w3 ⟨rfl, hb⟩; replace HS := hidIn (HS.out.below hb); clear hb) | go_in)
    refine wp_region_held_drew (S := fun w' => Hid (Bl w' n 98 (encB f)) ∧ w'.cell? ⟨n, 3, none⟩ = some (.int .i64 (f 3)) ∧ w'.cell? ⟨n, 2, none⟩ = some (.int .i64 (f 2)) ∧ w'.cell? ⟨n, 10, none⟩ = some (.int .i64 (f 10))) (by kernel_rfl) (by (try dsimp only); exact ⟨HS.out.drew.arr, HS.out.drew.cell 3 (by decide), HS.out.drew.cell 2 (by decide), HS.out.drew.cell 10 (by decide)⟩) (fun hHeld => ?_)
    replace HS := hidIn HS.out.drew
    generalize World.drew w3 = w3 at *
    refine wpAnyH_take (i := 0) (oi := { dst := some 24, op := Op.load 98 (Operand.tmp 3), type := 98, pos := _, after := #[], guard := none }) (v := .agg (encB f).toArray) rfl (by kernel_rfl) (by kernel_rfl) (by kernel_rfl) (fun _ _ _ h => h) (Or.inl ⟨by rfl, fun w hSw => exec54 _ _ _ rfl _ _ rfl w hSw.1.out⟩) (by assumption) ?_
    simp only [Act.put, List.setIfInBounds_toArray, List.set_cons_zero, List.set_cons_succ]
    refine wpAnyH_take (i := 3) (oi := { dst := some 27, op := Op.indexAddr 98 (Operand.tmp 3) (Operand.const (Value.int IntKind.i64 3)), type := 0, pos := _, after := #[], guard := none }) (v := ?_) rfl (by kernel_rfl) (by kernel_rfl) (by kernel_rfl) (fun _ _ _ h => h) (Or.inl ⟨by rfl, ?_⟩) (by assumption) ?_
    rotate_left
    · (intro w hSw; (try dsimp only at hSw); go_simp; try with_reducible rfl)
    simp only [Act.put, List.setIfInBounds_toArray, List.set_cons_zero, List.set_cons_succ]
    refine wpAnyH_take (i := 4) (oi := { dst := some 28, op := Op.load 3 (Operand.tmp 27), type := 3, pos := _, after := #[{ on := 3, ground := Ground.data }], guard := none }) (v := ?_) rfl (by kernel_rfl) (by kernel_rfl) (by kernel_rfl) (fun _ _ _ h => h) (Or.inl ⟨by rfl, ?_⟩) (by assumption) ?_
    rotate_left
    · (intro w hSw; (try dsimp only at hSw); go_simp; try with_reducible rfl)
    simp only [Act.put, List.setIfInBounds_toArray, List.set_cons_zero, List.set_cons_succ]
    refine wpAnyH_take (i := 5) (oi := { dst := some 29, op := Op.binOp BinOp.mul 3 (Operand.const (Value.int IntKind.i64 4)) (Operand.tmp 28) 3, type := 3, pos := _, after := #[{ on := 4, ground := Ground.data }], guard := none }) (v := ?_) rfl (by kernel_rfl) (by kernel_rfl) (by kernel_rfl) (fun _ _ _ h => h) (Or.inl ⟨by rfl, ?_⟩) (by assumption) ?_
    rotate_left
    · (intro w hSw; (try dsimp only at hSw); go_simp; try with_reducible rfl)
    simp only [Act.put, List.setIfInBounds_toArray, List.set_cons_zero, List.set_cons_succ]
    refine wpAnyH_take (i := 7) (oi := { dst := some 31, op := Op.indexAddr 98 (Operand.tmp 3) (Operand.const (Value.int IntKind.i64 2)), type := 0, pos := _, after := #[], guard := none }) (v := ?_) rfl (by kernel_rfl) (by kernel_rfl) (by kernel_rfl) (fun _ _ _ h => h) (Or.inl ⟨by rfl, ?_⟩) (by assumption) ?_
    rotate_left
    · (intro w hSw; (try dsimp only at hSw); go_simp; try with_reducible rfl)
    simp only [Act.put, List.setIfInBounds_toArray, List.set_cons_zero, List.set_cons_succ]
    refine wpAnyH_take (i := 8) (oi := { dst := some 32, op := Op.load 3 (Operand.tmp 31), type := 3, pos := _, after := #[{ on := 7, ground := Ground.data }], guard := none }) (v := ?_) rfl (by kernel_rfl) (by kernel_rfl) (by kernel_rfl) (fun _ _ _ h => h) (Or.inl ⟨by rfl, ?_⟩) (by assumption) ?_
    rotate_left
    · (intro w hSw; (try dsimp only at hSw); go_simp; try with_reducible rfl)
    simp only [Act.put, List.setIfInBounds_toArray, List.set_cons_zero, List.set_cons_succ]
    refine wpAnyH_take (i := 9) (oi := { dst := some 33, op := Op.binOp BinOp.mul 3 (Operand.const (Value.int IntKind.i64 2)) (Operand.tmp 32) 3, type := 3, pos := _, after := #[{ on := 8, ground := Ground.data }], guard := none }) (v := ?_) rfl (by kernel_rfl) (by kernel_rfl) (by kernel_rfl) (fun _ _ _ h => h) (Or.inl ⟨by rfl, ?_⟩) (by assumption) ?_
    rotate_left
    · (intro w hSw; (try dsimp only at hSw); go_simp; try with_reducible rfl)
    simp only [Act.put, List.setIfInBounds_toArray, List.set_cons_zero, List.set_cons_succ]
    refine wpAnyH_take (i := 11) (oi := { dst := some 35, op := Op.indexAddr 98 (Operand.tmp 3) (Operand.const (Value.int IntKind.i64 10)), type := 0, pos := _, after := #[], guard := none }) (v := ?_) rfl (by kernel_rfl) (by kernel_rfl) (by kernel_rfl) (fun _ _ _ h => h) (Or.inl ⟨by rfl, ?_⟩) (by assumption) ?_
    rotate_left
    · (intro w hSw; (try dsimp only at hSw); go_simp; try with_reducible rfl)
    simp only [Act.put, List.setIfInBounds_toArray, List.set_cons_zero, List.set_cons_succ]
    refine wpAnyH_take (i := 12) (oi := { dst := some 36, op := Op.load 3 (Operand.tmp 35), type := 3, pos := _, after := #[{ on := 11, ground := Ground.data }], guard := none }) (v := ?_) rfl (by kernel_rfl) (by kernel_rfl) (by kernel_rfl) (fun _ _ _ h => h) (Or.inl ⟨by rfl, ?_⟩) (by assumption) ?_
    rotate_left
    · (intro w hSw; (try dsimp only at hSw); go_simp; try with_reducible rfl)
    simp only [Act.put, List.setIfInBounds_toArray, List.set_cons_zero, List.set_cons_succ]
    refine wpAnyH_ready (rs := [1]) (by kernel_rfl) (by simp) ?_
    refine (AllReadyH.cons (o := { dst := some 25, op := Op.call { callee := Callee.value (Operand.func 41), args := #[Operand.tmp 24, Operand.const (Value.int IntKind.i64 14), Operand.const (Value.int IntKind.i64 12)], argTypes := #[98, 3, 3] }, type := 3, pos := _, after := #[{ on := 0, ground := Ground.data }], guard := none }) rfl (fun K hK => ?_) AllReadyH.nil)
    go_simp
    (go_at_call 41; refine (H14_12 _).mono ?_; rintro e w3 ⟨rfl, hb⟩; replace HS := hidIn (HS.out.below hb); clear hb)
    refine hK.out _ _ ?_ (fun hHeld => ?_)
    · ((try dsimp only); exact ⟨HS.out.arr, HS.out.cell 3 (by decide), HS.out.cell 2 (by decide), HS.out.cell 10 (by decide)⟩)
    clear hK K
    try simp only [Act.put, List.setIfInBounds_toArray, List.set_cons_zero, List.set_cons_succ]
    refine wpAnyH_take (i := 2) (oi := { dst := some 26, op := Op.binOp BinOp.mul 3 (Operand.const (Value.int IntKind.i64 8)) (Operand.tmp 25) 3, type := 3, pos := _, after := #[{ on := 1, ground := Ground.data }], guard := none }) (v := ?_) rfl (by kernel_rfl) (by kernel_rfl) (by kernel_rfl) (fun _ _ _ h => h) (Or.inl ⟨by rfl, ?_⟩) (by assumption) ?_
    rotate_left
    · (intro w hSw; (try dsimp only at hSw); go_simp; try with_reducible rfl)
    simp only [Act.put, List.setIfInBounds_toArray, List.set_cons_zero, List.set_cons_succ]
    refine wpAnyH_take (i := 6) (oi := { dst := some 30, op := Op.binOp BinOp.add 3 (Operand.tmp 26) (Operand.tmp 29) 3, type := 3, pos := _, after := #[{ on := 2, ground := Ground.data }, { on := 5, ground := Ground.data }], guard := none }) (v := ?_) rfl (by kernel_rfl) (by kernel_rfl) (by kernel_rfl) (fun _ _ _ h => h) (Or.inl ⟨by rfl, ?_⟩) (by assumption) ?_
    rotate_left
    · (intro w hSw; (try dsimp only at hSw); go_simp; try with_reducible rfl)
    simp only [Act.put, List.setIfInBounds_toArray, List.set_cons_zero, List.set_cons_succ]
    refine wpAnyH_take (i := 10) (oi := { dst := some 34, op := Op.binOp BinOp.add 3 (Operand.tmp 30) (Operand.tmp 33) 3, type := 3, pos := _, after := #[{ on := 6, ground := Ground.data }, { on := 9, ground := Ground.data }], guard := none }) (v := ?_) rfl (by kernel_rfl) (by kernel_rfl) (by kernel_rfl) (fun _ _ _ h => h) (Or.inl ⟨by rfl, ?_⟩) (by assumption) ?_
    rotate_left
    · (intro w hSw; (try dsimp only at hSw); go_simp; try with_reducible rfl)
    simp only [Act.put, List.setIfInBounds_toArray, List.set_cons_zero, List.set_cons_succ]
    refine wpAnyH_take (i := 13) (oi := { dst := some 37, op := Op.binOp BinOp.add 3 (Operand.tmp 34) (Operand.tmp 36) 3, type := 3, pos := _, after := #[{ on := 10, ground := Ground.data }, { on := 12, ground := Ground.data }], guard := none }) (v := ?_) rfl (by kernel_rfl) (by kernel_rfl) (by kernel_rfl) (fun _ _ _ h => h) (Or.inl ⟨by rfl, ?_⟩) (by assumption) ?_
    rotate_left
    · (intro w hSw; (try dsimp only at hSw); go_simp; try with_reducible rfl)
    simp only [Act.put, List.setIfInBounds_toArray, List.set_cons_zero, List.set_cons_succ]
    refine wpAnyH_take (i := 14) (oi := { dst := some 38, op := Op.convert 3 24 (Operand.tmp 37), type := 24, pos := _, after := #[{ on := 13, ground := Ground.data }], guard := none }) (v := ?_) rfl (by kernel_rfl) (by kernel_rfl) (by kernel_rfl) (fun _ _ _ h => h) (Or.inl ⟨by rfl, ?_⟩) (by assumption) ?_
    rotate_left
    · (intro w hSw; (try dsimp only at hSw); go_simp; try with_reducible rfl)
    simp only [Act.put, List.setIfInBounds_toArray, List.set_cons_zero, List.set_cons_succ]
    refine wpAnyH_take (i := 15) (oi := { dst := some 39, op := Op.fieldAddr 47 (Operand.tmp 4) 1, type := 0, pos := _, after := #[{ on := 0, ground := Ground.phase }, { on := 1, ground := Ground.phase }, { on := 2, ground := Ground.phase }, { on := 3, ground := Ground.phase }, { on := 4, ground := Ground.phase }, { on := 5, ground := Ground.phase }, { on := 6, ground := Ground.phase }, { on := 7, ground := Ground.phase }, { on := 8, ground := Ground.phase }, { on := 9, ground := Ground.phase }, { on := 10, ground := Ground.phase }, { on := 11, ground := Ground.phase }, { on := 12, ground := Ground.phase }, { on := 13, ground := Ground.phase }, { on := 14, ground := Ground.phase }], guard := none }) (v := ?_) rfl (by kernel_rfl) (by kernel_rfl) (by kernel_rfl) (fun _ _ _ h => h) (Or.inl ⟨by rfl, ?_⟩) (by assumption) ?_
    rotate_left
    · (intro w hSw; (try dsimp only at hSw); go_simp; try with_reducible rfl)
    simp only [Act.put, List.setIfInBounds_toArray, List.set_cons_zero, List.set_cons_succ]
    refine wpAnyH_ready (rs := [16]) (by kernel_rfl) (by simp) ?_
    refine (AllReadyH.cons (o := { dst := none, op := Op.store 24 (Operand.tmp 39) (Operand.tmp 38), type := 0, pos := _, after := #[{ on := 15, ground := Ground.data }, { on := 14, ground := Ground.data }, { on := 1, ground := Ground.chain }, { on := 0, ground := Ground.phase }, { on := 1, ground := Ground.phase }, { on := 2, ground := Ground.phase }, { on := 3, ground := Ground.phase }, { on := 4, ground := Ground.phase }, { on := 5, ground := Ground.phase }, { on := 6, ground := Ground.phase }, { on := 7, ground := Ground.phase }, { on := 8, ground := Ground.phase }, { on := 9, ground := Ground.phase }, { on := 10, ground := Ground.phase }, { on := 11, ground := Ground.phase }, { on := 12, ground := Ground.phase }, { on := 13, ground := Ground.phase }, { on := 14, ground := Ground.phase }], guard := none }) rfl (fun K hK => ?_) AllReadyH.nil)
    (have hd := HS.out.leaf.cell; have hf := HS.out.leaf.frozen)
    go_simp
    (replace HS : Hid (RL f W n [.int .i64 p2, .int .u32 t7, .bool (f 11 == 1), .bool false] c (World.setCell w3 ⟨c, 1, none⟩ (.int .u32 t7))) := HS.out.put 1 _; clear hd hf)
    refine hK.out _ _ ?_ (fun hHeld => ?_)
    · ((try dsimp only); exact ⟨HS.out.arr, HS.out.cell 3 (by decide), HS.out.cell 2 (by decide), HS.out.cell 10 (by decide)⟩)
    (generalize World.setCell w3 ⟨c, 1, none⟩ (.int .u32 t7) = w3 at *)
    clear hK K
    try simp only [Act.put, List.setIfInBounds_toArray, List.set_cons_zero, List.set_cons_succ]
    refine wpAnyH_done (by kernel_rfl) ?_ _
    clear hHeld
    have cx := HS.out.cell 15 (by decide)
    have hd := HS.out.leaf.cell
    have hf := HS.out.leaf.frozen
    go_wp2
    clear cx hd hf
    replace HS : Hid (RL f W n [.int .i64 p2, .int .u32 t7, .bool (f 11 == 1), .bool (f 15 == 1)] c (World.setCell w3 ⟨c, 3, none⟩ (.bool (f 15 == 1)))) := HS.out.put 3 _
    generalize World.setCell w3 ⟨c, 3, none⟩ (.bool (f 15 == 1)) = w3 at *
    refine wp_region_held_drew (S := fun w' => Hid (Bl w' n 98 (encB f)) ∧ w'.cell? ⟨c, 0, none⟩ = some (.int .i64 p2) ∧ w'.cell? ⟨c, 1, none⟩ = some (.int .u32 t7) ∧ w'.cell? ⟨c, 2, none⟩ = some (.bool (f 11 == 1)) ∧ w'.cell? ⟨c, 3, none⟩ = some (.bool (f 15 == 1))) (by kernel_rfl) (by (try dsimp only); exact ⟨HS.out.drew.arr, HS.out.drew.leaf.cell 0, HS.out.drew.leaf.cell 1, HS.out.drew.leaf.cell 2, HS.out.drew.leaf.cell 3⟩) (fun hHeld => ?_)
    replace HS := hidIn HS.out.drew
    generalize World.drew w3 = w3 at *
    refine wpAnyH_take (i := 0) (oi := { dst := some 44, op := Op.load 98 (Operand.tmp 3), type := 98, pos := _, after := #[], guard := none }) (v := .agg (encB f).toArray) rfl (by kernel_rfl) (by kernel_rfl) (by kernel_rfl) (fun _ _ _ h => h) (Or.inl ⟨by rfl, fun w hSw => exec54 _ _ _ rfl _ _ rfl w hSw.1.out⟩) (by assumption) ?_
    simp only [Act.put, List.setIfInBounds_toArray, List.set_cons_zero, List.set_cons_succ]
    refine wpAnyH_take (i := 5) (oi := { dst := some 49, op := Op.load 47 (Operand.tmp 4), type := 47, pos := _, after := #[], guard := none }) (v := ?_) rfl (by kernel_rfl) (by kernel_rfl) (by kernel_rfl) (fun _ _ _ h => h) (Or.inl ⟨by rfl, ?_⟩) (by assumption) ?_
    rotate_left
    · (intro w hSw; (try dsimp only at hSw); go_simp; try with_reducible rfl)
    simp only [Act.put, List.setIfInBounds_toArray, List.set_cons_zero, List.set_cons_succ]
    refine wpAnyH_ready (rs := [1]) (by kernel_rfl) (by simp) ?_
    refine (AllReadyH.cons (o := { dst := some 45, op := Op.call { callee := Callee.value (Operand.func 41), args := #[Operand.tmp 44, Operand.const (Value.int IntKind.i64 31), Operand.const (Value.int IntKind.i64 16)], argTypes := #[98, 3, 3] }, type := 3, pos := _, after := #[{ on := 0, ground := Ground.data }], guard := none }) rfl (fun K hK => ?_) AllReadyH.nil)
    go_simp
    (go_at_call 41; refine (H31_16 _).mono ?_; rintro e w3 ⟨rfl, hb⟩; replace HS := hidIn (HS.out.below hb); clear hb)
    refine hK.out _ _ ?_ (fun hHeld => ?_)
    · ((try dsimp only); exact ⟨HS.out.arr, HS.out.leaf.cell 0, HS.out.leaf.cell 1, HS.out.leaf.cell 2, HS.out.leaf.cell 3⟩)
    clear hK K
    try simp only [Act.put, List.setIfInBounds_toArray, List.set_cons_zero, List.set_cons_succ]
    refine wpAnyH_take (i := 2) (oi := { dst := some 46, op := Op.convert 3 23 (Operand.tmp 45), type := 23, pos := _, after := #[{ on := 1, ground := Ground.data }], guard := none }) (v := ?_) rfl (by kernel_rfl) (by kernel_rfl) (by kernel_rfl) (fun _ _ _ h => h) (Or.inl ⟨by rfl, ?_⟩) (by assumption) ?_
    rotate_left
    · (intro w hSw; (try dsimp only at hSw); go_simp; try with_reducible rfl)
    simp only [Act.put, List.setIfInBounds_toArray, List.set_cons_zero, List.set_cons_succ]
    refine wpAnyH_ready (rs := [3]) (by kernel_rfl) (by simp) ?_
    refine (AllReadyH.cons (o := { dst := some 47, op := Op.call { callee := Callee.value (Operand.func 42), args := #[Operand.const (Value.int IntKind.i64 16)], argTypes := #[3] }, type := 23, pos := _, after := #[{ on := 1, ground := Ground.chain }], guard := none }) rfl (fun K hK => ?_) AllReadyH.nil)
    go_simp
    (go_at_call 42; refine (hp16 _).mono ?_; rintro e w' ⟨rfl, rfl⟩)
    refine hK.out _ _ ?_ (fun hHeld => ?_)
    · ((try dsimp only); exact ⟨HS.out.arr, HS.out.leaf.cell 0, HS.out.leaf.cell 1, HS.out.leaf.cell 2, HS.out.leaf.cell 3⟩)
    clear hK K
    try simp only [Act.put, List.setIfInBounds_toArray, List.set_cons_zero, List.set_cons_succ]
    refine wpAnyH_take (i := 4) (oi := { dst := some 48, op := Op.binOp BinOp.mul 23 (Operand.tmp 46) (Operand.tmp 47) 23, type := 23, pos := _, after := #[{ on := 2, ground := Ground.data }, { on := 3, ground := Ground.data }], guard := none }) (v := ?_) rfl (by kernel_rfl) (by kernel_rfl) (by kernel_rfl) (fun _ _ _ h => h) (Or.inl ⟨by rfl, ?_⟩) (by assumption) ?_
    rotate_left
    · (intro w hSw; (try dsimp only at hSw); go_simp; try with_reducible rfl)
    simp only [Act.put, List.setIfInBounds_toArray, List.set_cons_zero, List.set_cons_succ]
    refine wpAnyH_take (i := 6) (oi := { dst := some 50, op := Op.build 70 #[(0, Operand.const (Value.int IntKind.i64 4)), (1, Operand.tmp 48), (4, Operand.tmp 49)], type := 70, pos := _, after := #[{ on := 4, ground := Ground.data }, { on := 5, ground := Ground.data }], guard := none }) (v := ?_) rfl (by kernel_rfl) (by kernel_rfl) (by kernel_rfl) (fun _ _ _ h => h) (Or.inl ⟨by rfl, ?_⟩) (by assumption) ?_
    rotate_left
    · (intro w hSw; (try dsimp only at hSw); go_simp; try with_reducible rfl)
    simp only [Act.put, List.setIfInBounds_toArray, List.set_cons_zero, List.set_cons_succ]
    refine wpAnyH_ready (rs := [7]) (by kernel_rfl) (by simp) ?_
    refine (AllReadyH.cons (o := { dst := none, op := Op.store 70 (Operand.tmp 2) (Operand.tmp 50), type := 0, pos := _, after := #[{ on := 6, ground := Ground.data }, { on := 3, ground := Ground.chain }, { on := 0, ground := Ground.phase }, { on := 1, ground := Ground.phase }, { on := 2, ground := Ground.phase }, { on := 3, ground := Ground.phase }, { on := 4, ground := Ground.phase }, { on := 5, ground := Ground.phase }, { on := 6, ground := Ground.phase }], guard := none }) rfl (fun K hK => ?_) AllReadyH.nil)
    (have hd := HS.out.res.cell; have hf := HS.out.res.frozen)
    go_simp
    skip
    refine hK.out _ _ ?_ (fun hHeld => ?_)
    · ((try dsimp only); exact ⟨(HS.out.arr.keep8' W.heap.size (by have := HS.out.lt; omega) _ _ _ _ _ _ _ _), (HS.out.leaf.keep8' W.heap.size (by have := HS.out.ltc; omega) _ _ _ _ _ _ _ _).cell 0, (HS.out.leaf.keep8' W.heap.size (by have := HS.out.ltc; omega) _ _ _ _ _ _ _ _).cell 1, (HS.out.leaf.keep8' W.heap.size (by have := HS.out.ltc; omega) _ _ _ _ _ _ _ _).cell 2, (HS.out.leaf.keep8' W.heap.size (by have := HS.out.ltc; omega) _ _ _ _ _ _ _ _).cell 3⟩)
    clear hK K
    try simp only [Act.put, List.setIfInBounds_toArray, List.set_cons_zero, List.set_cons_succ]
    refine wpAnyH_done (by kernel_rfl) ?_ _
    go_wp2
    have hd := HS.out.res.cell
    have hf := HS.out.res.frozen
    refine bodyPost_ret (v := .agg #[.int .i64 4, .int .u64 B, .int .i64 0, .bool false, .int .i64 p2, .int .u32 t7, .bool (f 11 == 1), .bool (f 15 == 1)]) (by simp [results, Tryd.results68, go_sem, hd]) rfl ⟨rfl, (by (repeat (refine Below.setCell ?_ (by simp) _)); exact HS.out.bel)⟩
set_option maxRecDepth 100000 in
set_option maxHeartbeats 4000000 in
theorem rd2_M (x : Int) (f : Nat → Int) (k A B a t p1 p2 t1 t2 t3 t4 t5 t6 t7 : Int) (W : World)
    (HBI : ∀ w, Calls Tryd.prog 40 #[.int .u32 x] w fun e w' => e = .returned (.agg (encB f).toArray) ∧ Below w.heap.size w w')
    (H5_4 : ∀ w, Calls Tryd.prog 41 #[.agg (encB f).toArray, .int .i64 5, .int .i64 4] w fun e w' => e = .returned (.int .i64 a) ∧ Below w.heap.size w w')
    (H1_0 : ∀ w, Calls Tryd.prog 41 #[.agg (encB f).toArray, .int .i64 1, .int .i64 0] w fun e w' => e = .returned (.int .i64 k) ∧ Below w.heap.size w w')
    (H8_6 : ∀ w, Calls Tryd.prog 41 #[.agg (encB f).toArray, .int .i64 8, .int .i64 6] w fun e w' => e = .returned (.int .i64 t) ∧ Below w.heap.size w w')
    (H31_12 : ∀ w, Calls Tryd.prog 41 #[.agg (encB f).toArray, .int .i64 31, .int .i64 12] w fun e w' => e = .returned (.int .i64 A) ∧ Below w.heap.size w w')
    (k0 : (k == 0) = false) (k1 : (k == 1) = false) (q1 : IntKind.i64.wrap (4 * f 9) = p1) (q2 : IntKind.i64.wrap (p1 + a) = p2) (q3 : IntKind.i64.wrap (8 * t) = t1) (q4 : IntKind.i64.wrap (4 * f 3) = t2) (q5 : IntKind.i64.wrap (t1 + t2) = t3) (q6 : IntKind.i64.wrap (2 * f 2) = t4) (q7 : IntKind.i64.wrap (t3 + t4) = t5) (q8 : IntKind.i64.wrap (t5 + f 10) = t6) (q9 : IntKind.u32.wrap t6 = t7) (r1 : IntKind.u64.wrap A = A) (r2 : IntKind.u64.wrap (A * 4096) = B) :
    Calls Tryd.prog 68 #[.int .u32 x] W fun e w' => e = .returned (.agg #[.int .i64 5, .int .u64 B, .int .i64 0, .bool false, .int .i64 p2, .int .u32 t7, .bool (f 11 == 1), .bool (f 0 == 1)]) ∧ Below W.heap.size W w' := by
  have hp12 := fun w => power_l 12 4096 w (by decide) (by decide) 12 rfl
  have hz := zeroB
  have hZl : (encB (fun _ => 0)).length = 32 := encB_len _
  generalize encB (fun _ => 0) = Z at *
  go_enter Tryd.func68, Tryd.ntmps68
  go_wp2_with (first | (go_at_call 40; refine (HBI _).mono ?_; rintro e w1 ⟨rfl, hb⟩; have HS : Hid (RS f W w1.heap.size ((w1.alloc (.cells Z.toArray 98)).setRow w1.heap.size (encB f).toArray)) := rs_start Z hb; have HSt : Hid ((Instr.storeAt 98 (Value.pointer (some ⟨w1.heap.size, 0, none⟩)) (.agg (encB f).toArray)).run Tryd.prog (w1.alloc (.cells Z.toArray 98)) = .ok () ((w1.alloc (.cells Z.toArray 98)).setRow w1.heap.size (encB f).toArray)) := storeB _ _ f Z (Bl.new w1 98 Z) hZl; clear hb) | (guard_target =~ wpList _ _ _ (Oper.mk none (Op.store 98 _ _) _ _ _ _ :: _) _ _; refine wpl_storeB _ rfl _ _ rfl (.pointer (some ⟨w1.heap.size, 0, none⟩)) (.agg (encB f).toArray) rfl rfl HSt.out ?_; clear HSt; generalize (w1.alloc (.cells Z.toArray 98)).setRow w1.heap.size (encB f).toArray = w2 at *; generalize w1.heap.size = n at *) | go_in)
  apply via (P := fun c w => Hid (RL f W n [.int .i64 p2, .int .u32 0, .bool (f 11 == 1), .bool false] c w))
  case main =>
    intro key
    refine wp_region_held_drew (S := fun w' => Hid (Bl w' n 98 (encB f)) ∧ w'.cell? ⟨n, 9, none⟩ = some (.int .i64 (f 9)) ∧ w'.cell? ⟨n, 11, none⟩ = some (.int .i64 (f 11))) (by kernel_rfl) (by (try dsimp only); exact ⟨HS.out.drew.arr, HS.out.drew.cell 9 (by decide), HS.out.drew.cell 11 (by decide)⟩) (fun hHeld => ?_)
    replace HS := hidIn HS.out.drew
    generalize World.drew w2 = w3 at *
    refine wpAnyH_take (i := 0) (oi := { dst := some 7, op := Op.indexAddr 98 (Operand.tmp 3) (Operand.const (Value.int IntKind.i64 9)), type := 0, pos := _, after := #[], guard := none }) (v := ?_) rfl (by kernel_rfl) (by kernel_rfl) (by kernel_rfl) (fun _ _ _ h => h) (Or.inl ⟨by rfl, ?_⟩) (by assumption) ?_
    rotate_left
    · (intro w hSw; (try dsimp only at hSw); go_simp; try with_reducible rfl)
    simp only [Act.put, List.setIfInBounds_toArray, List.set_cons_zero, List.set_cons_succ]
    refine wpAnyH_take (i := 1) (oi := { dst := some 8, op := Op.load 3 (Operand.tmp 7), type := 3, pos := _, after := #[{ on := 0, ground := Ground.data }], guard := none }) (v := ?_) rfl (by kernel_rfl) (by kernel_rfl) (by kernel_rfl) (fun _ _ _ h => h) (Or.inl ⟨by rfl, ?_⟩) (by assumption) ?_
    rotate_left
    · (intro w hSw; (try dsimp only at hSw); go_simp; try with_reducible rfl)
    simp only [Act.put, List.setIfInBounds_toArray, List.set_cons_zero, List.set_cons_succ]
    refine wpAnyH_take (i := 2) (oi := { dst := some 9, op := Op.binOp BinOp.mul 3 (Operand.const (Value.int IntKind.i64 4)) (Operand.tmp 8) 3, type := 3, pos := _, after := #[{ on := 1, ground := Ground.data }], guard := none }) (v := ?_) rfl (by kernel_rfl) (by kernel_rfl) (by kernel_rfl) (fun _ _ _ h => h) (Or.inl ⟨by rfl, ?_⟩) (by assumption) ?_
    rotate_left
    · (intro w hSw; (try dsimp only at hSw); go_simp; try with_reducible rfl)
    simp only [Act.put, List.setIfInBounds_toArray, List.set_cons_zero, List.set_cons_succ]
    refine wpAnyH_take (i := 3) (oi := { dst := some 10, op := Op.load 98 (Operand.tmp 3), type := 98, pos := _, after := #[], guard := none }) (v := .agg (encB f).toArray) rfl (by kernel_rfl) (by kernel_rfl) (by kernel_rfl) (fun _ _ _ h => h) (Or.inl ⟨by rfl, fun w hSw => exec54 _ _ _ rfl _ _ rfl w hSw.1.out⟩) (by assumption) ?_
    simp only [Act.put, List.setIfInBounds_toArray, List.set_cons_zero, List.set_cons_succ]
    refine wpAnyH_take (i := 6) (oi := { dst := some 13, op := Op.indexAddr 98 (Operand.tmp 3) (Operand.const (Value.int IntKind.i64 11)), type := 0, pos := _, after := #[], guard := none }) (v := ?_) rfl (by kernel_rfl) (by kernel_rfl) (by kernel_rfl) (fun _ _ _ h => h) (Or.inl ⟨by rfl, ?_⟩) (by assumption) ?_
    rotate_left
    · (intro w hSw; (try dsimp only at hSw); go_simp; try with_reducible rfl)
    simp only [Act.put, List.setIfInBounds_toArray, List.set_cons_zero, List.set_cons_succ]
    refine wpAnyH_take (i := 7) (oi := { dst := some 14, op := Op.load 3 (Operand.tmp 13), type := 3, pos := _, after := #[{ on := 6, ground := Ground.data }], guard := none }) (v := ?_) rfl (by kernel_rfl) (by kernel_rfl) (by kernel_rfl) (fun _ _ _ h => h) (Or.inl ⟨by rfl, ?_⟩) (by assumption) ?_
    rotate_left
    · (intro w hSw; (try dsimp only at hSw); go_simp; try with_reducible rfl)
    simp only [Act.put, List.setIfInBounds_toArray, List.set_cons_zero, List.set_cons_succ]
    refine wpAnyH_take (i := 8) (oi := { dst := some 15, op := Op.binOp BinOp.eql 3 (Operand.tmp 14) (Operand.const (Value.int IntKind.i64 1)) 3, type := 4, pos := _, after := #[{ on := 7, ground := Ground.data }], guard := none }) (v := ?_) rfl (by kernel_rfl) (by kernel_rfl) (by kernel_rfl) (fun _ _ _ h => h) (Or.inl ⟨by rfl, ?_⟩) (by assumption) ?_
    rotate_left
    · (intro w hSw; (try dsimp only at hSw); go_simp; try with_reducible rfl)
    simp only [Act.put, List.setIfInBounds_toArray, List.set_cons_zero, List.set_cons_succ]
    refine wpAnyH_ready (rs := [4, 10]) (by kernel_rfl) (by simp) ?_
    refine (AllReadyH.cons (o := { dst := some 11, op := Op.call { callee := Callee.value (Operand.func 41), args := #[Operand.tmp 10, Operand.const (Value.int IntKind.i64 5), Operand.const (Value.int IntKind.i64 4)], argTypes := #[98, 3, 3] }, type := 3, pos := _, after := #[{ on := 3, ground := Ground.data }], guard := none }) rfl (fun K hK => ?_) (AllReadyH.cons (o := { dst := some 4, op := Op.alloc 47, type := 0, pos := _, after := #[], guard := none }) rfl (fun K hK => ?_) AllReadyH.nil))
    · go_simp
      (go_at_call 41; refine (H5_4 _).mono ?_; rintro e w3 ⟨rfl, hb⟩; replace HS := hidIn (HS.out.below hb); clear hb)
      refine hK.out _ _ ?_ (fun hHeld => ?_)
      · ((try dsimp only); exact ⟨HS.out.arr, HS.out.cell 9 (by decide), HS.out.cell 11 (by decide)⟩)
      clear hK K
      try simp only [Act.put, List.setIfInBounds_toArray, List.set_cons_zero, List.set_cons_succ]
      refine wpAnyH_take (i := 5) (oi := { dst := some 12, op := Op.binOp BinOp.add 3 (Operand.tmp 9) (Operand.tmp 11) 3, type := 3, pos := _, after := #[{ on := 2, ground := Ground.data }, { on := 4, ground := Ground.data }], guard := none }) (v := ?_) rfl (by kernel_rfl) (by kernel_rfl) (by kernel_rfl) (fun _ _ _ h => h) (Or.inl ⟨by rfl, ?_⟩) (by assumption) ?_
      rotate_left
      · (intro w hSw; (try dsimp only at hSw); go_simp; try with_reducible rfl)
      simp only [Act.put, List.setIfInBounds_toArray, List.set_cons_zero, List.set_cons_succ]
      refine wpAnyH_take (i := 9) (oi := { dst := some 16, op := Op.build 47 #[(0, Operand.tmp 12), (2, Operand.tmp 15)], type := 47, pos := _, after := #[{ on := 5, ground := Ground.data }, { on := 8, ground := Ground.data }], guard := none }) (v := ?_) rfl (by kernel_rfl) (by kernel_rfl) (by kernel_rfl) (fun _ _ _ h => h) (Or.inl ⟨by rfl, ?_⟩) (by assumption) ?_
      rotate_left
      · (intro w hSw; (try dsimp only at hSw); go_simp; try with_reducible rfl)
      simp only [Act.put, List.setIfInBounds_toArray, List.set_cons_zero, List.set_cons_succ]
      refine wpAnyH_ready (rs := [10]) (by kernel_rfl) (by simp) ?_
      refine (AllReadyH.cons (o := { dst := some 4, op := Op.alloc 47, type := 0, pos := _, after := #[], guard := none }) rfl (fun K hK => ?_) AllReadyH.nil)
      go_simp
      (replace HS := hidIn (HS.out.alloc [.int .i64 0, .int .u32 0, .bool false, .bool false]))
      refine hK.out _ _ ?_ (fun hHeld => ?_)
      · ((try dsimp only); exact ⟨HS.out.arr, HS.out.cell 9 (by decide), HS.out.cell 11 (by decide)⟩)
      (generalize w3.heap.size = c at *; generalize w3.alloc _ = w3 at *)
      clear hK K
      try simp only [Act.put, List.setIfInBounds_toArray, List.set_cons_zero, List.set_cons_succ]
      refine wpAnyH_ready (rs := [11]) (by kernel_rfl) (by simp) ?_
      refine (AllReadyH.cons (o := { dst := none, op := Op.store 47 (Operand.tmp 4) (Operand.tmp 16), type := 0, pos := _, after := #[{ on := 10, ground := Ground.data }, { on := 9, ground := Ground.data }, { on := 4, ground := Ground.chain }, { on := 0, ground := Ground.phase }, { on := 1, ground := Ground.phase }, { on := 2, ground := Ground.phase }, { on := 3, ground := Ground.phase }, { on := 4, ground := Ground.phase }, { on := 5, ground := Ground.phase }, { on := 6, ground := Ground.phase }, { on := 7, ground := Ground.phase }, { on := 8, ground := Ground.phase }, { on := 9, ground := Ground.phase }, { on := 10, ground := Ground.phase }], guard := none }) rfl (fun K hK => ?_) AllReadyH.nil)
      (have hd := HS.out.leaf.cell; have hf := HS.out.leaf.frozen)
      go_simp
      (replace HS := hidIn (HS.out.store (.int .i64 p2) (.int .u32 0) (.bool (f 11 == 1)) (.bool false)); clear hd hf)
      refine hK.out _ _ ?_ (fun hHeld => ?_)
      · ((try dsimp only); exact ⟨HS.out.arr, HS.out.cell 9 (by decide), HS.out.cell 11 (by decide)⟩)
      (generalize (World.setCell (World.setCell (World.setCell (World.setCell w3 ⟨c, 0, none⟩ (.int .i64 p2)) ⟨c, 1, none⟩ (.int .u32 0)) ⟨c, 2, none⟩ (.bool (f 11 == 1))) ⟨c, 3, none⟩ (.bool false)) = w3 at *)
      clear hK K
      try simp only [Act.put, List.setIfInBounds_toArray, List.set_cons_zero, List.set_cons_succ]
      refine wpAnyH_done (by kernel_rfl) ?_ _
      exact key _ _ HS
    · go_simp
      (replace HS := hidIn (HS.out.alloc [.int .i64 0, .int .u32 0, .bool false, .bool false]))
      refine hK.out _ _ ?_ (fun hHeld => ?_)
      · ((try dsimp only); exact ⟨HS.out.arr, HS.out.cell 9 (by decide), HS.out.cell 11 (by decide)⟩)
      (generalize w3.heap.size = c at *; generalize w3.alloc _ = w3 at *)
      clear hK K
      try simp only [Act.put, List.setIfInBounds_toArray, List.set_cons_zero, List.set_cons_succ]
      refine wpAnyH_ready (rs := [4]) (by kernel_rfl) (by simp) ?_
      refine (AllReadyH.cons (o := { dst := some 11, op := Op.call { callee := Callee.value (Operand.func 41), args := #[Operand.tmp 10, Operand.const (Value.int IntKind.i64 5), Operand.const (Value.int IntKind.i64 4)], argTypes := #[98, 3, 3] }, type := 3, pos := _, after := #[{ on := 3, ground := Ground.data }], guard := none }) rfl (fun K hK => ?_) AllReadyH.nil)
      go_simp
      (go_at_call 41; refine (H5_4 _).mono ?_; rintro e w3 ⟨rfl, hb⟩; replace HS := hidIn (HS.out.below hb); clear hb)
      refine hK.out _ _ ?_ (fun hHeld => ?_)
      · ((try dsimp only); exact ⟨HS.out.arr, HS.out.cell 9 (by decide), HS.out.cell 11 (by decide)⟩)
      clear hK K
      try simp only [Act.put, List.setIfInBounds_toArray, List.set_cons_zero, List.set_cons_succ]
      refine wpAnyH_take (i := 5) (oi := { dst := some 12, op := Op.binOp BinOp.add 3 (Operand.tmp 9) (Operand.tmp 11) 3, type := 3, pos := _, after := #[{ on := 2, ground := Ground.data }, { on := 4, ground := Ground.data }], guard := none }) (v := ?_) rfl (by kernel_rfl) (by kernel_rfl) (by kernel_rfl) (fun _ _ _ h => h) (Or.inl ⟨by rfl, ?_⟩) (by assumption) ?_
      rotate_left
      · (intro w hSw; (try dsimp only at hSw); go_simp; try with_reducible rfl)
      simp only [Act.put, List.setIfInBounds_toArray, List.set_cons_zero, List.set_cons_succ]
      refine wpAnyH_take (i := 9) (oi := { dst := some 16, op := Op.build 47 #[(0, Operand.tmp 12), (2, Operand.tmp 15)], type := 47, pos := _, after := #[{ on := 5, ground := Ground.data }, { on := 8, ground := Ground.data }], guard := none }) (v := ?_) rfl (by kernel_rfl) (by kernel_rfl) (by kernel_rfl) (fun _ _ _ h => h) (Or.inl ⟨by rfl, ?_⟩) (by assumption) ?_
      rotate_left
      · (intro w hSw; (try dsimp only at hSw); go_simp; try with_reducible rfl)
      simp only [Act.put, List.setIfInBounds_toArray, List.set_cons_zero, List.set_cons_succ]
      refine wpAnyH_ready (rs := [11]) (by kernel_rfl) (by simp) ?_
      refine (AllReadyH.cons (o := { dst := none, op := Op.store 47 (Operand.tmp 4) (Operand.tmp 16), type := 0, pos := _, after := #[{ on := 10, ground := Ground.data }, { on := 9, ground := Ground.data }, { on := 4, ground := Ground.chain }, { on := 0, ground := Ground.phase }, { on := 1, ground := Ground.phase }, { on := 2, ground := Ground.phase }, { on := 3, ground := Ground.phase }, { on := 4, ground := Ground.phase }, { on := 5, ground := Ground.phase }, { on := 6, ground := Ground.phase }, { on := 7, ground := Ground.phase }, { on := 8, ground := Ground.phase }, { on := 9, ground := Ground.phase }, { on := 10, ground := Ground.phase }], guard := none }) rfl (fun K hK => ?_) AllReadyH.nil)
      (have hd := HS.out.leaf.cell; have hf := HS.out.leaf.frozen)
      go_simp
      (replace HS := hidIn (HS.out.store (.int .i64 p2) (.int .u32 0) (.bool (f 11 == 1)) (.bool false)); clear hd hf)
      refine hK.out _ _ ?_ (fun hHeld => ?_)
      · ((try dsimp only); exact ⟨HS.out.arr, HS.out.cell 9 (by decide), HS.out.cell 11 (by decide)⟩)
      (generalize (World.setCell (World.setCell (World.setCell (World.setCell w3 ⟨c, 0, none⟩ (.int .i64 p2)) ⟨c, 1, none⟩ (.int .u32 0)) ⟨c, 2, none⟩ (.bool (f 11 == 1))) ⟨c, 3, none⟩ (.bool false)) = w3 at *)
      clear hK K
      try simp only [Act.put, List.setIfInBounds_toArray, List.set_cons_zero, List.set_cons_succ]
      refine wpAnyH_done (by kernel_rfl) ?_ _
      exact key _ _ HS
  case key =>
    intro c w3 HS
    go_wp2_with (first | (guard_target =~ wpList _ _ _ (Oper.mk (some 17) (Op.load 98 _) _ _ _ _ :: _) _ _; refine wpl_loadB _ rfl _ rfl (.pointer (some ⟨n, 0, none⟩)) rfl (loadB _ _ _ HS.out.arr) ?_) | (go_at_call 41; refine (H1_0 _).mono ?_; rintro e w3 ⟨rfl, hb⟩; replace HS := hidIn (HS.out.below hb); clear hb) | go_in)
    refine wp_region_held_drew (S := fun w' => Hid (Bl w' n 98 (encB f)) ∧ w'.cell? ⟨n, 3, none⟩ = some (.int .i64 (f 3)) ∧ w'.cell? ⟨n, 2, none⟩ = some (.int .i64 (f 2)) ∧ w'.cell? ⟨n, 10, none⟩ = some (.int .i64 (f 10))) (by kernel_rfl) (by (try dsimp only); exact ⟨HS.out.drew.arr, HS.out.drew.cell 3 (by decide), HS.out.drew.cell 2 (by decide), HS.out.drew.cell 10 (by decide)⟩) (fun hHeld => ?_)
    replace HS := hidIn HS.out.drew
    generalize World.drew w3 = w3 at *
    refine wpAnyH_take (i := 0) (oi := { dst := some 51, op := Op.load 98 (Operand.tmp 3), type := 98, pos := _, after := #[], guard := none }) (v := .agg (encB f).toArray) rfl (by kernel_rfl) (by kernel_rfl) (by kernel_rfl) (fun _ _ _ h => h) (Or.inl ⟨by rfl, fun w hSw => exec54 _ _ _ rfl _ _ rfl w hSw.1.out⟩) (by assumption) ?_
    simp only [Act.put, List.setIfInBounds_toArray, List.set_cons_zero, List.set_cons_succ]
    refine wpAnyH_take (i := 3) (oi := { dst := some 54, op := Op.indexAddr 98 (Operand.tmp 3) (Operand.const (Value.int IntKind.i64 3)), type := 0, pos := _, after := #[], guard := none }) (v := ?_) rfl (by kernel_rfl) (by kernel_rfl) (by kernel_rfl) (fun _ _ _ h => h) (Or.inl ⟨by rfl, ?_⟩) (by assumption) ?_
    rotate_left
    · (intro w hSw; (try dsimp only at hSw); go_simp; try with_reducible rfl)
    simp only [Act.put, List.setIfInBounds_toArray, List.set_cons_zero, List.set_cons_succ]
    refine wpAnyH_take (i := 4) (oi := { dst := some 55, op := Op.load 3 (Operand.tmp 54), type := 3, pos := _, after := #[{ on := 3, ground := Ground.data }], guard := none }) (v := ?_) rfl (by kernel_rfl) (by kernel_rfl) (by kernel_rfl) (fun _ _ _ h => h) (Or.inl ⟨by rfl, ?_⟩) (by assumption) ?_
    rotate_left
    · (intro w hSw; (try dsimp only at hSw); go_simp; try with_reducible rfl)
    simp only [Act.put, List.setIfInBounds_toArray, List.set_cons_zero, List.set_cons_succ]
    refine wpAnyH_take (i := 5) (oi := { dst := some 56, op := Op.binOp BinOp.mul 3 (Operand.const (Value.int IntKind.i64 4)) (Operand.tmp 55) 3, type := 3, pos := _, after := #[{ on := 4, ground := Ground.data }], guard := none }) (v := ?_) rfl (by kernel_rfl) (by kernel_rfl) (by kernel_rfl) (fun _ _ _ h => h) (Or.inl ⟨by rfl, ?_⟩) (by assumption) ?_
    rotate_left
    · (intro w hSw; (try dsimp only at hSw); go_simp; try with_reducible rfl)
    simp only [Act.put, List.setIfInBounds_toArray, List.set_cons_zero, List.set_cons_succ]
    refine wpAnyH_take (i := 7) (oi := { dst := some 58, op := Op.indexAddr 98 (Operand.tmp 3) (Operand.const (Value.int IntKind.i64 2)), type := 0, pos := _, after := #[], guard := none }) (v := ?_) rfl (by kernel_rfl) (by kernel_rfl) (by kernel_rfl) (fun _ _ _ h => h) (Or.inl ⟨by rfl, ?_⟩) (by assumption) ?_
    rotate_left
    · (intro w hSw; (try dsimp only at hSw); go_simp; try with_reducible rfl)
    simp only [Act.put, List.setIfInBounds_toArray, List.set_cons_zero, List.set_cons_succ]
    refine wpAnyH_take (i := 8) (oi := { dst := some 59, op := Op.load 3 (Operand.tmp 58), type := 3, pos := _, after := #[{ on := 7, ground := Ground.data }], guard := none }) (v := ?_) rfl (by kernel_rfl) (by kernel_rfl) (by kernel_rfl) (fun _ _ _ h => h) (Or.inl ⟨by rfl, ?_⟩) (by assumption) ?_
    rotate_left
    · (intro w hSw; (try dsimp only at hSw); go_simp; try with_reducible rfl)
    simp only [Act.put, List.setIfInBounds_toArray, List.set_cons_zero, List.set_cons_succ]
    refine wpAnyH_take (i := 9) (oi := { dst := some 60, op := Op.binOp BinOp.mul 3 (Operand.const (Value.int IntKind.i64 2)) (Operand.tmp 59) 3, type := 3, pos := _, after := #[{ on := 8, ground := Ground.data }], guard := none }) (v := ?_) rfl (by kernel_rfl) (by kernel_rfl) (by kernel_rfl) (fun _ _ _ h => h) (Or.inl ⟨by rfl, ?_⟩) (by assumption) ?_
    rotate_left
    · (intro w hSw; (try dsimp only at hSw); go_simp; try with_reducible rfl)
    simp only [Act.put, List.setIfInBounds_toArray, List.set_cons_zero, List.set_cons_succ]
    refine wpAnyH_take (i := 11) (oi := { dst := some 62, op := Op.indexAddr 98 (Operand.tmp 3) (Operand.const (Value.int IntKind.i64 10)), type := 0, pos := _, after := #[], guard := none }) (v := ?_) rfl (by kernel_rfl) (by kernel_rfl) (by kernel_rfl) (fun _ _ _ h => h) (Or.inl ⟨by rfl, ?_⟩) (by assumption) ?_
    rotate_left
    · (intro w hSw; (try dsimp only at hSw); go_simp; try with_reducible rfl)
    simp only [Act.put, List.setIfInBounds_toArray, List.set_cons_zero, List.set_cons_succ]
    refine wpAnyH_take (i := 12) (oi := { dst := some 63, op := Op.load 3 (Operand.tmp 62), type := 3, pos := _, after := #[{ on := 11, ground := Ground.data }], guard := none }) (v := ?_) rfl (by kernel_rfl) (by kernel_rfl) (by kernel_rfl) (fun _ _ _ h => h) (Or.inl ⟨by rfl, ?_⟩) (by assumption) ?_
    rotate_left
    · (intro w hSw; (try dsimp only at hSw); go_simp; try with_reducible rfl)
    simp only [Act.put, List.setIfInBounds_toArray, List.set_cons_zero, List.set_cons_succ]
    refine wpAnyH_ready (rs := [1]) (by kernel_rfl) (by simp) ?_
    refine (AllReadyH.cons (o := { dst := some 52, op := Op.call { callee := Callee.value (Operand.func 41), args := #[Operand.tmp 51, Operand.const (Value.int IntKind.i64 8), Operand.const (Value.int IntKind.i64 6)], argTypes := #[98, 3, 3] }, type := 3, pos := _, after := #[{ on := 0, ground := Ground.data }], guard := none }) rfl (fun K hK => ?_) AllReadyH.nil)
    go_simp
    (go_at_call 41; refine (H8_6 _).mono ?_; rintro e w3 ⟨rfl, hb⟩; replace HS := hidIn (HS.out.below hb); clear hb)
    refine hK.out _ _ ?_ (fun hHeld => ?_)
    · ((try dsimp only); exact ⟨HS.out.arr, HS.out.cell 3 (by decide), HS.out.cell 2 (by decide), HS.out.cell 10 (by decide)⟩)
    clear hK K
    try simp only [Act.put, List.setIfInBounds_toArray, List.set_cons_zero, List.set_cons_succ]
    refine wpAnyH_take (i := 2) (oi := { dst := some 53, op := Op.binOp BinOp.mul 3 (Operand.const (Value.int IntKind.i64 8)) (Operand.tmp 52) 3, type := 3, pos := _, after := #[{ on := 1, ground := Ground.data }], guard := none }) (v := ?_) rfl (by kernel_rfl) (by kernel_rfl) (by kernel_rfl) (fun _ _ _ h => h) (Or.inl ⟨by rfl, ?_⟩) (by assumption) ?_
    rotate_left
    · (intro w hSw; (try dsimp only at hSw); go_simp; try with_reducible rfl)
    simp only [Act.put, List.setIfInBounds_toArray, List.set_cons_zero, List.set_cons_succ]
    refine wpAnyH_take (i := 6) (oi := { dst := some 57, op := Op.binOp BinOp.add 3 (Operand.tmp 53) (Operand.tmp 56) 3, type := 3, pos := _, after := #[{ on := 2, ground := Ground.data }, { on := 5, ground := Ground.data }], guard := none }) (v := ?_) rfl (by kernel_rfl) (by kernel_rfl) (by kernel_rfl) (fun _ _ _ h => h) (Or.inl ⟨by rfl, ?_⟩) (by assumption) ?_
    rotate_left
    · (intro w hSw; (try dsimp only at hSw); go_simp; try with_reducible rfl)
    simp only [Act.put, List.setIfInBounds_toArray, List.set_cons_zero, List.set_cons_succ]
    refine wpAnyH_take (i := 10) (oi := { dst := some 61, op := Op.binOp BinOp.add 3 (Operand.tmp 57) (Operand.tmp 60) 3, type := 3, pos := _, after := #[{ on := 6, ground := Ground.data }, { on := 9, ground := Ground.data }], guard := none }) (v := ?_) rfl (by kernel_rfl) (by kernel_rfl) (by kernel_rfl) (fun _ _ _ h => h) (Or.inl ⟨by rfl, ?_⟩) (by assumption) ?_
    rotate_left
    · (intro w hSw; (try dsimp only at hSw); go_simp; try with_reducible rfl)
    simp only [Act.put, List.setIfInBounds_toArray, List.set_cons_zero, List.set_cons_succ]
    refine wpAnyH_take (i := 13) (oi := { dst := some 64, op := Op.binOp BinOp.add 3 (Operand.tmp 61) (Operand.tmp 63) 3, type := 3, pos := _, after := #[{ on := 10, ground := Ground.data }, { on := 12, ground := Ground.data }], guard := none }) (v := ?_) rfl (by kernel_rfl) (by kernel_rfl) (by kernel_rfl) (fun _ _ _ h => h) (Or.inl ⟨by rfl, ?_⟩) (by assumption) ?_
    rotate_left
    · (intro w hSw; (try dsimp only at hSw); go_simp; try with_reducible rfl)
    simp only [Act.put, List.setIfInBounds_toArray, List.set_cons_zero, List.set_cons_succ]
    refine wpAnyH_take (i := 14) (oi := { dst := some 65, op := Op.convert 3 24 (Operand.tmp 64), type := 24, pos := _, after := #[{ on := 13, ground := Ground.data }], guard := none }) (v := ?_) rfl (by kernel_rfl) (by kernel_rfl) (by kernel_rfl) (fun _ _ _ h => h) (Or.inl ⟨by rfl, ?_⟩) (by assumption) ?_
    rotate_left
    · (intro w hSw; (try dsimp only at hSw); go_simp; try with_reducible rfl)
    simp only [Act.put, List.setIfInBounds_toArray, List.set_cons_zero, List.set_cons_succ]
    refine wpAnyH_take (i := 15) (oi := { dst := some 66, op := Op.fieldAddr 47 (Operand.tmp 4) 1, type := 0, pos := _, after := #[{ on := 0, ground := Ground.phase }, { on := 1, ground := Ground.phase }, { on := 2, ground := Ground.phase }, { on := 3, ground := Ground.phase }, { on := 4, ground := Ground.phase }, { on := 5, ground := Ground.phase }, { on := 6, ground := Ground.phase }, { on := 7, ground := Ground.phase }, { on := 8, ground := Ground.phase }, { on := 9, ground := Ground.phase }, { on := 10, ground := Ground.phase }, { on := 11, ground := Ground.phase }, { on := 12, ground := Ground.phase }, { on := 13, ground := Ground.phase }, { on := 14, ground := Ground.phase }], guard := none }) (v := ?_) rfl (by kernel_rfl) (by kernel_rfl) (by kernel_rfl) (fun _ _ _ h => h) (Or.inl ⟨by rfl, ?_⟩) (by assumption) ?_
    rotate_left
    · (intro w hSw; (try dsimp only at hSw); go_simp; try with_reducible rfl)
    simp only [Act.put, List.setIfInBounds_toArray, List.set_cons_zero, List.set_cons_succ]
    refine wpAnyH_ready (rs := [16]) (by kernel_rfl) (by simp) ?_
    refine (AllReadyH.cons (o := { dst := none, op := Op.store 24 (Operand.tmp 66) (Operand.tmp 65), type := 0, pos := _, after := #[{ on := 15, ground := Ground.data }, { on := 14, ground := Ground.data }, { on := 1, ground := Ground.chain }, { on := 0, ground := Ground.phase }, { on := 1, ground := Ground.phase }, { on := 2, ground := Ground.phase }, { on := 3, ground := Ground.phase }, { on := 4, ground := Ground.phase }, { on := 5, ground := Ground.phase }, { on := 6, ground := Ground.phase }, { on := 7, ground := Ground.phase }, { on := 8, ground := Ground.phase }, { on := 9, ground := Ground.phase }, { on := 10, ground := Ground.phase }, { on := 11, ground := Ground.phase }, { on := 12, ground := Ground.phase }, { on := 13, ground := Ground.phase }, { on := 14, ground := Ground.phase }], guard := none }) rfl (fun K hK => ?_) AllReadyH.nil)
    (have hd := HS.out.leaf.cell; have hf := HS.out.leaf.frozen)
    go_simp
    (replace HS : Hid (RL f W n [.int .i64 p2, .int .u32 t7, .bool (f 11 == 1), .bool false] c (World.setCell w3 ⟨c, 1, none⟩ (.int .u32 t7))) := HS.out.put 1 _; clear hd hf)
    refine hK.out _ _ ?_ (fun hHeld => ?_)
    · ((try dsimp only); exact ⟨HS.out.arr, HS.out.cell 3 (by decide), HS.out.cell 2 (by decide), HS.out.cell 10 (by decide)⟩)
    (generalize World.setCell w3 ⟨c, 1, none⟩ (.int .u32 t7) = w3 at *)
    clear hK K
    try simp only [Act.put, List.setIfInBounds_toArray, List.set_cons_zero, List.set_cons_succ]
    refine wpAnyH_done (by kernel_rfl) ?_ _
    clear hHeld
    have cx := HS.out.cell 0 (by decide)
    have hd := HS.out.leaf.cell
    have hf := HS.out.leaf.frozen
    go_wp2
    clear cx hd hf
    replace HS : Hid (RL f W n [.int .i64 p2, .int .u32 t7, .bool (f 11 == 1), .bool (f 0 == 1)] c (World.setCell w3 ⟨c, 3, none⟩ (.bool (f 0 == 1)))) := HS.out.put 3 _
    generalize World.setCell w3 ⟨c, 3, none⟩ (.bool (f 0 == 1)) = w3 at *
    refine wp_region_held_drew (S := fun w' => Hid (Bl w' n 98 (encB f)) ∧ w'.cell? ⟨c, 0, none⟩ = some (.int .i64 p2) ∧ w'.cell? ⟨c, 1, none⟩ = some (.int .u32 t7) ∧ w'.cell? ⟨c, 2, none⟩ = some (.bool (f 11 == 1)) ∧ w'.cell? ⟨c, 3, none⟩ = some (.bool (f 0 == 1))) (by kernel_rfl) (by (try dsimp only); exact ⟨HS.out.drew.arr, HS.out.drew.leaf.cell 0, HS.out.drew.leaf.cell 1, HS.out.drew.leaf.cell 2, HS.out.drew.leaf.cell 3⟩) (fun hHeld => ?_)
    replace HS := hidIn HS.out.drew
    generalize World.drew w3 = w3 at *
    refine wpAnyH_take (i := 0) (oi := { dst := some 71, op := Op.load 98 (Operand.tmp 3), type := 98, pos := _, after := #[], guard := none }) (v := .agg (encB f).toArray) rfl (by kernel_rfl) (by kernel_rfl) (by kernel_rfl) (fun _ _ _ h => h) (Or.inl ⟨by rfl, fun w hSw => exec54 _ _ _ rfl _ _ rfl w hSw.1.out⟩) (by assumption) ?_
    simp only [Act.put, List.setIfInBounds_toArray, List.set_cons_zero, List.set_cons_succ]
    refine wpAnyH_take (i := 5) (oi := { dst := some 76, op := Op.load 47 (Operand.tmp 4), type := 47, pos := _, after := #[], guard := none }) (v := ?_) rfl (by kernel_rfl) (by kernel_rfl) (by kernel_rfl) (fun _ _ _ h => h) (Or.inl ⟨by rfl, ?_⟩) (by assumption) ?_
    rotate_left
    · (intro w hSw; (try dsimp only at hSw); go_simp; try with_reducible rfl)
    simp only [Act.put, List.setIfInBounds_toArray, List.set_cons_zero, List.set_cons_succ]
    refine wpAnyH_ready (rs := [1]) (by kernel_rfl) (by simp) ?_
    refine (AllReadyH.cons (o := { dst := some 72, op := Op.call { callee := Callee.value (Operand.func 41), args := #[Operand.tmp 71, Operand.const (Value.int IntKind.i64 31), Operand.const (Value.int IntKind.i64 12)], argTypes := #[98, 3, 3] }, type := 3, pos := _, after := #[{ on := 0, ground := Ground.data }], guard := none }) rfl (fun K hK => ?_) AllReadyH.nil)
    go_simp
    (go_at_call 41; refine (H31_12 _).mono ?_; rintro e w3 ⟨rfl, hb⟩; replace HS := hidIn (HS.out.below hb); clear hb)
    refine hK.out _ _ ?_ (fun hHeld => ?_)
    · ((try dsimp only); exact ⟨HS.out.arr, HS.out.leaf.cell 0, HS.out.leaf.cell 1, HS.out.leaf.cell 2, HS.out.leaf.cell 3⟩)
    clear hK K
    try simp only [Act.put, List.setIfInBounds_toArray, List.set_cons_zero, List.set_cons_succ]
    refine wpAnyH_take (i := 2) (oi := { dst := some 73, op := Op.convert 3 23 (Operand.tmp 72), type := 23, pos := _, after := #[{ on := 1, ground := Ground.data }], guard := none }) (v := ?_) rfl (by kernel_rfl) (by kernel_rfl) (by kernel_rfl) (fun _ _ _ h => h) (Or.inl ⟨by rfl, ?_⟩) (by assumption) ?_
    rotate_left
    · (intro w hSw; (try dsimp only at hSw); go_simp; try with_reducible rfl)
    simp only [Act.put, List.setIfInBounds_toArray, List.set_cons_zero, List.set_cons_succ]
    refine wpAnyH_ready (rs := [3]) (by kernel_rfl) (by simp) ?_
    refine (AllReadyH.cons (o := { dst := some 74, op := Op.call { callee := Callee.value (Operand.func 42), args := #[Operand.const (Value.int IntKind.i64 12)], argTypes := #[3] }, type := 23, pos := _, after := #[{ on := 1, ground := Ground.chain }], guard := none }) rfl (fun K hK => ?_) AllReadyH.nil)
    go_simp
    (go_at_call 42; refine (hp12 _).mono ?_; rintro e w' ⟨rfl, rfl⟩)
    refine hK.out _ _ ?_ (fun hHeld => ?_)
    · ((try dsimp only); exact ⟨HS.out.arr, HS.out.leaf.cell 0, HS.out.leaf.cell 1, HS.out.leaf.cell 2, HS.out.leaf.cell 3⟩)
    clear hK K
    try simp only [Act.put, List.setIfInBounds_toArray, List.set_cons_zero, List.set_cons_succ]
    refine wpAnyH_take (i := 4) (oi := { dst := some 75, op := Op.binOp BinOp.mul 23 (Operand.tmp 73) (Operand.tmp 74) 23, type := 23, pos := _, after := #[{ on := 2, ground := Ground.data }, { on := 3, ground := Ground.data }], guard := none }) (v := ?_) rfl (by kernel_rfl) (by kernel_rfl) (by kernel_rfl) (fun _ _ _ h => h) (Or.inl ⟨by rfl, ?_⟩) (by assumption) ?_
    rotate_left
    · (intro w hSw; (try dsimp only at hSw); go_simp; try with_reducible rfl)
    simp only [Act.put, List.setIfInBounds_toArray, List.set_cons_zero, List.set_cons_succ]
    refine wpAnyH_take (i := 6) (oi := { dst := some 77, op := Op.build 70 #[(0, Operand.const (Value.int IntKind.i64 5)), (1, Operand.tmp 75), (4, Operand.tmp 76)], type := 70, pos := _, after := #[{ on := 4, ground := Ground.data }, { on := 5, ground := Ground.data }], guard := none }) (v := ?_) rfl (by kernel_rfl) (by kernel_rfl) (by kernel_rfl) (fun _ _ _ h => h) (Or.inl ⟨by rfl, ?_⟩) (by assumption) ?_
    rotate_left
    · (intro w hSw; (try dsimp only at hSw); go_simp; try with_reducible rfl)
    simp only [Act.put, List.setIfInBounds_toArray, List.set_cons_zero, List.set_cons_succ]
    refine wpAnyH_ready (rs := [7]) (by kernel_rfl) (by simp) ?_
    refine (AllReadyH.cons (o := { dst := none, op := Op.store 70 (Operand.tmp 2) (Operand.tmp 77), type := 0, pos := _, after := #[{ on := 6, ground := Ground.data }, { on := 3, ground := Ground.chain }, { on := 0, ground := Ground.phase }, { on := 1, ground := Ground.phase }, { on := 2, ground := Ground.phase }, { on := 3, ground := Ground.phase }, { on := 4, ground := Ground.phase }, { on := 5, ground := Ground.phase }, { on := 6, ground := Ground.phase }], guard := none }) rfl (fun K hK => ?_) AllReadyH.nil)
    (have hd := HS.out.res.cell; have hf := HS.out.res.frozen)
    go_simp
    skip
    refine hK.out _ _ ?_ (fun hHeld => ?_)
    · ((try dsimp only); exact ⟨(HS.out.arr.keep8' W.heap.size (by have := HS.out.lt; omega) _ _ _ _ _ _ _ _), (HS.out.leaf.keep8' W.heap.size (by have := HS.out.ltc; omega) _ _ _ _ _ _ _ _).cell 0, (HS.out.leaf.keep8' W.heap.size (by have := HS.out.ltc; omega) _ _ _ _ _ _ _ _).cell 1, (HS.out.leaf.keep8' W.heap.size (by have := HS.out.ltc; omega) _ _ _ _ _ _ _ _).cell 2, (HS.out.leaf.keep8' W.heap.size (by have := HS.out.ltc; omega) _ _ _ _ _ _ _ _).cell 3⟩)
    clear hK K
    try simp only [Act.put, List.setIfInBounds_toArray, List.set_cons_zero, List.set_cons_succ]
    refine wpAnyH_done (by kernel_rfl) ?_ _
    go_wp2
    have hd := HS.out.res.cell
    have hf := HS.out.res.frozen
    refine bodyPost_ret (v := .agg #[.int .i64 5, .int .u64 B, .int .i64 0, .bool false, .int .i64 p2, .int .u32 t7, .bool (f 11 == 1), .bool (f 0 == 1)]) (by simp [results, Tryd.results68, go_sem, hd]) rfl ⟨rfl, (by (repeat (refine Below.setCell ?_ (by simp) _)); exact HS.out.bel)⟩
end Go.Proofs.YtmodcbdgnmjkoabDoor
