import Derived.Test.YtilhceajhlaojaaGreatDoorAGq
namespace Go.Proofs.YtilhceajhlaojaaGreatDoor.Al
open Go.RowKit
set_option linter.unusedVariables false
set_option linter.unusedSimpArgs false
theorem opsA_size (x y : Nat) : (opsA x y).size = 17 := rfl
set_option maxRecDepth 100000 in
set_option maxHeartbeats 1000000 in
theorem idx_1 (x1 x3 : Nat) (w : World) : (Instr.index 163 (.agg (opsA x1 x3)) (.int .i64 1)).run Tryz.prog w = .ok (.func (.func 118) #[] #[.pointer (some ⟨x3, 0, none⟩)]) w := by
  kernel_rfl
set_option maxRecDepth 100000 in
set_option maxHeartbeats 1000000 in
theorem idx_2 (x1 x3 : Nat) (w : World) : (Instr.index 163 (.agg (opsA x1 x3)) (.int .i64 2)).run Tryz.prog w = .ok (.func (.func 119) #[] #[.pointer (some ⟨x3, 0, none⟩)]) w := by
  kernel_rfl
set_option maxRecDepth 100000 in
set_option maxHeartbeats 1000000 in
theorem idx_3 (x1 x3 : Nat) (w : World) : (Instr.index 163 (.agg (opsA x1 x3)) (.int .i64 3)).run Tryz.prog w = .ok (.func (.func 122) #[] #[]) w := by
  kernel_rfl
set_option maxRecDepth 100000 in
set_option maxHeartbeats 1000000 in
theorem idx_4 (x1 x3 : Nat) (w : World) : (Instr.index 163 (.agg (opsA x1 x3)) (.int .i64 4)).run Tryz.prog w = .ok (.func (.func 123) #[] #[]) w := by
  kernel_rfl
set_option maxRecDepth 100000 in
set_option maxHeartbeats 1000000 in
theorem idx_5 (x1 x3 : Nat) (w : World) : (Instr.index 163 (.agg (opsA x1 x3)) (.int .i64 5)).run Tryz.prog w = .ok (.func (.func 120) #[] #[]) w := by
  kernel_rfl
set_option maxRecDepth 100000 in
set_option maxHeartbeats 1000000 in
theorem idx_6 (x1 x3 : Nat) (w : World) : (Instr.index 163 (.agg (opsA x1 x3)) (.int .i64 6)).run Tryz.prog w = .ok (.func (.func 124) #[] #[.pointer (some ⟨x1, 0, none⟩)]) w := by
  kernel_rfl
set_option maxRecDepth 100000 in
set_option maxHeartbeats 1000000 in
theorem idx_7 (x1 x3 : Nat) (w : World) : (Instr.index 163 (.agg (opsA x1 x3)) (.int .i64 7)).run Tryz.prog w = .ok (.func (.func 125) #[] #[.pointer (some ⟨x1, 0, none⟩)]) w := by
  kernel_rfl
set_option maxRecDepth 100000 in
set_option maxHeartbeats 1000000 in
theorem idx_8 (x1 x3 : Nat) (w : World) : (Instr.index 163 (.agg (opsA x1 x3)) (.int .i64 8)).run Tryz.prog w = .ok (.func (.func 126) #[] #[.pointer (some ⟨x1, 0, none⟩)]) w := by
  kernel_rfl
set_option maxRecDepth 100000 in
set_option maxHeartbeats 1000000 in
theorem idx_9 (x1 x3 : Nat) (w : World) : (Instr.index 163 (.agg (opsA x1 x3)) (.int .i64 9)).run Tryz.prog w = .ok (.func (.func 118) #[] #[.pointer (some ⟨x3, 0, none⟩)]) w := by
  kernel_rfl
set_option maxRecDepth 100000 in
set_option maxHeartbeats 1000000 in
theorem idx_10 (x1 x3 : Nat) (w : World) : (Instr.index 163 (.agg (opsA x1 x3)) (.int .i64 10)).run Tryz.prog w = .ok (.func (.func 119) #[] #[.pointer (some ⟨x3, 0, none⟩)]) w := by
  kernel_rfl
set_option maxRecDepth 100000 in
set_option maxHeartbeats 1000000 in
theorem idx_11 (x1 x3 : Nat) (w : World) : (Instr.index 163 (.agg (opsA x1 x3)) (.int .i64 11)).run Tryz.prog w = .ok (.func (.func 122) #[] #[]) w := by
  kernel_rfl
set_option maxRecDepth 100000 in
set_option maxHeartbeats 1000000 in
theorem idx_12 (x1 x3 : Nat) (w : World) : (Instr.index 163 (.agg (opsA x1 x3)) (.int .i64 12)).run Tryz.prog w = .ok (.func (.func 120) #[] #[]) w := by
  kernel_rfl
set_option maxRecDepth 100000 in
set_option maxHeartbeats 1000000 in
theorem idx_13 (x1 x3 : Nat) (w : World) : (Instr.index 163 (.agg (opsA x1 x3)) (.int .i64 13)).run Tryz.prog w = .ok (.func (.func 127) #[] #[.pointer (some ⟨x3, 0, none⟩)]) w := by
  kernel_rfl
set_option maxRecDepth 100000 in
set_option maxHeartbeats 1000000 in
theorem idx_14 (x1 x3 : Nat) (w : World) : (Instr.index 163 (.agg (opsA x1 x3)) (.int .i64 14)).run Tryz.prog w = .ok (.func (.func 128) #[] #[.pointer (some ⟨x3, 0, none⟩)]) w := by
  kernel_rfl
set_option maxRecDepth 100000 in
set_option maxHeartbeats 1000000 in
theorem idx_15 (x1 x3 : Nat) (w : World) : (Instr.index 163 (.agg (opsA x1 x3)) (.int .i64 15)).run Tryz.prog w = .ok (.func (.func 129) #[] #[.pointer (some ⟨x3, 0, none⟩)]) w := by
  kernel_rfl
set_option maxRecDepth 100000 in
set_option maxHeartbeats 1000000 in
theorem idx_16 (x1 x3 : Nat) (w : World) : (Instr.index 163 (.agg (opsA x1 x3)) (.int .i64 16)).run Tryz.prog w = .ok (.func (.func 130) #[] #[.pointer (some ⟨x3, 0, none⟩)]) w := by
  kernel_rfl
set_option maxRecDepth 100000 in
set_option maxHeartbeats 1000000 in
theorem gdo_1 (a b : Int) (sh fn fz fc fv : Bool) (w : World) (a0 : 0 ≤ a) (a1 : a < 4294967296) (b0 : 0 ≤ b) (b1 : b < 4294967296) :
    Calls Tryz.prog 82 #[.int .i64 1, .int .u32 a, .int .u32 b, .bool sh, .agg #[.bool fn, .bool fz, .bool fc, .bool fv]] w fun e w' => e = .returned (.tuple #[.int .u32 (bits .and .u32 a b), .bool true, .agg #[.bool (lgF (bits .and .u32 a b) sh fv).n, .bool (lgF (bits .and .u32 a b) sh fv).z, .bool (lgF (bits .and .u32 a b) sh fv).c, .bool (lgF (bits .and .u32 a b) sh fv).v]]) ∧ Below w.heap.size w w' := by
  have HO : Hid (∀ w, Calls Tryz.prog 103 #[.bool sh, .agg #[.bool fn, .bool fz, .bool fc, .bool fv]] w fun e w' => e = .returned (.agg (opsA (w.heap.size + 1) (w.heap.size + 1 + 1 + 1))) ∧ OpS w' w.heap.size (w.heap.size + 1) (w.heap.size + 1 + 1 + 1) sh fn fz fc fv ∧ Below w.heap.size w w') := fun w => gops_any sh fn fz fc fv w
  have HC : Hid (∀ w x0 x1 x3, OpS w x0 x1 x3 sh fn fz fc fv → Calls Tryz.prog 118 #[.int .u32 a, .int .u32 b, .pointer (some ⟨x3, 0, none⟩)] w fun e w' => e = .returned (.tuple #[.int .u32 (bits .and .u32 a b), .agg #[.bool (lgF (bits .and .u32 a b) sh fv).n, .bool (lgF (bits .and .u32 a b) sh fv).z, .bool (lgF (bits .and .u32 a b) sh fv).c, .bool (lgF (bits .and .u32 a b) sh fv).v]]) ∧ Below w.heap.size w w') := fun w x0 x1 x3 h => gcl_2 a b x0 x1 x3 sh fn fz fc fv w a0 a1 b0 b1 h
  generalize lgF (bits .and .u32 a b) sh fv = F at *
  generalize hW : bits .and .u32 a b = W at *
  obtain ⟨gn, gz, gc, gv⟩ := F
  try simp only at *
  clear a0 a1 b0 b1 hW
  go_enter Tryz.func82, Tryz.ntmps82
  go_wp2_with (go_at_call 103; refine Hid.out ?_)
  show Calls _ _ _ _ _
  refine (HO.out _).mono ?_
  rintro e w1 ⟨rfl, hS, hb⟩
  have R1 := (Bl.new _ _ _).below hb
  simp at R1
  have HW : Hid (Below w.heap.size w w1) := Below.step (Below.step (below_new _ _) (below_new _ _)) hb
  generalize ((w.alloc _).alloc _).heap.size = x0 at hS ⊢
  have hS : Hid (OpS _ _ _ _ _ _ _ _ _) := hS
  have hI := idx_1 (x0 + 1) (x0 + 1 + 1 + 1)
  generalize opsA (x0 + 1) (x0 + 1 + 1 + 1) = A at hI ⊢
  generalize x0 + 1 + 1 + 1 = x3 at hI hS
  generalize x0 + 1 = x1 at hI hS
  clear hb HO
  have R1 : Hid (Bl _ _ _ _) := R1
  go_wp2_with (go_at_call 118; refine Hid.out ?_)
  show Calls _ _ _ _ _
  refine (HC.out _ _ _ _ hS.out).mono ?_
  rintro e w' ⟨rfl, hb2⟩
  have R2 : Hid (Bl _ _ _ _) := (R1.out.below hb2).alloc (.cells #[.bool gn, .bool gz, .bool gc, .bool gv] 40)
  have N2 : Hid (Bl _ _ _ _) := Bl.new w' 40 [.bool gn, .bool gz, .bool gc, .bool gv]
  have HW2 : Hid (Below w.heap.size w (w'.alloc (.cells #[.bool gn, .bool gz, .bool gc, .bool gv] 40))) := Below.step (Below.step HW.out hb2) (below_new _ _)
  have hne : ¬ w'.heap.size = w.heap.size + 1 := by
    have := (R1.out.below hb2).lt
    omega
  clear R1 hS HW hb2 HC hI
  go_wp2_with fail
  generalize (w'.alloc _) = w2 at R2 N2 HW2 ⊢
  generalize w'.heap.size = nb at N2 hne ⊢
  obtain ⟨T1, T2, T0⟩ := put4 R2.out N2.out hne (.bool gn) (.bool gz) (.bool gc) (.bool gv)
  have T3 : Hid (Below _ _ _) := T0 w.heap.size w (by omega) HW2.out
  have T2 : Hid (Bl _ _ _ _) := T2.drew
  clear T0 T1
  obtain ⟨⟨c0, c1, c2, c3⟩, d0, d1, d2, d3⟩ := R2.out.four
  obtain ⟨⟨k0, k1, k2, k3⟩, l0, l1, l2, l3⟩ := N2.out.drew.four
  refine wp_region_held_drew (S := fun w' => w'.cell? ⟨nb, 0, none⟩ = some (.bool gn) ∧ w'.cell? ⟨nb, 1, none⟩ = some (.bool gz) ∧ w'.cell? ⟨nb, 2, none⟩ = some (.bool gc) ∧ w'.cell? ⟨nb, 3, none⟩ = some (.bool gv)) (by kernel_rfl) ⟨k0, k1, k2, k3⟩ (fun hHeld => ?_)
  refine wpAnyH_take (i := 0) (oi := { dst := some 33, op := Op.move (Operand.tmp 13), type := 22, pos := _, after := #[], guard := none }) (v := ?_) rfl (by kernel_rfl) (by kernel_rfl) (by kernel_rfl) (fun _ _ _ h => h) (Or.inl ⟨by rfl, ?_⟩) (by assumption) ?_
  rotate_left
  · (intro w hSw; (try dsimp only at hSw); go_simp; try with_reducible rfl)
  simp only [Act.put, List.setIfInBounds_toArray, List.set_cons_zero, List.set_cons_succ]
  refine wpAnyH_take (i := 1) (oi := { dst := some 34, op := Op.move (Operand.tmp 0), type := 3, pos := _, after := #[], guard := none }) (v := ?_) rfl (by kernel_rfl) (by kernel_rfl) (by kernel_rfl) (fun _ _ _ h => h) (Or.inl ⟨by rfl, ?_⟩) (by assumption) ?_
  rotate_left
  · (intro w hSw; (try dsimp only at hSw); go_simp; try with_reducible rfl)
  simp only [Act.put, List.setIfInBounds_toArray, List.set_cons_zero, List.set_cons_succ]
  refine wpAnyH_take (i := 2) (oi := { dst := some 35, op := Op.binOp BinOp.lss 3 (Operand.tmp 34) (Operand.const (Value.int IntKind.i64 9)) 3, type := 4, pos := _, after := #[{ on := 1, ground := Ground.data }], guard := none }) (v := ?_) rfl (by kernel_rfl) (by kernel_rfl) (by kernel_rfl) (fun _ _ _ h => h) (Or.inl ⟨by rfl, ?_⟩) (by assumption) ?_
  rotate_left
  · (intro w hSw; (try dsimp only at hSw); go_simp; try with_reducible rfl)
  simp only [Act.put, List.setIfInBounds_toArray, List.set_cons_zero, List.set_cons_succ]
  refine wpAnyH_take (i := 3) (oi := { dst := some 36, op := Op.move (Operand.tmp 35), type := 4, pos := _, after := #[{ on := 2, ground := Ground.data }], guard := none }) (v := ?_) rfl (by kernel_rfl) (by kernel_rfl) (by kernel_rfl) (fun _ _ _ h => h) (Or.inl ⟨by rfl, ?_⟩) (by assumption) ?_
  rotate_left
  · (intro w hSw; (try dsimp only at hSw); go_simp; try with_reducible rfl)
  simp only [Act.put, List.setIfInBounds_toArray, List.set_cons_zero, List.set_cons_succ]
  refine wpAnyH_take (i := 4) (oi := { dst := some 37, op := Op.move (Operand.tmp 0), type := 3, pos := _, after := #[{ on := 3, ground := Ground.guard }, { on := 8, ground := Ground.gcOnly Departure.lateStores }], guard := some (3, false) }) (v := undef) rfl (by kernel_rfl) (by kernel_rfl) (by kernel_rfl) (fun _ _ _ h => h) (Or.inr ⟨by rfl, rfl⟩) (by assumption) ?_
  simp only [Act.put, List.setIfInBounds_toArray, List.set_cons_zero, List.set_cons_succ]
  refine wpAnyH_take (i := 5) (oi := { dst := some 38, op := Op.binOp BinOp.gtr 3 (Operand.tmp 37) (Operand.const (Value.int IntKind.i64 12)) 3, type := 4, pos := _, after := #[{ on := 4, ground := Ground.data }, { on := 3, ground := Ground.guard }, { on := 8, ground := Ground.gcOnly Departure.lateStores }], guard := some (3, false) }) (v := undef) rfl (by kernel_rfl) (by kernel_rfl) (by kernel_rfl) (fun _ _ _ h => h) (Or.inr ⟨by rfl, rfl⟩) (by assumption) ?_
  simp only [Act.put, List.setIfInBounds_toArray, List.set_cons_zero, List.set_cons_succ]
  refine wpAnyH_take (i := 6) (oi := { dst := some 39, op := Op.pick (Operand.tmp 36) (Operand.const (Value.bool true)) (Operand.tmp 38), type := 4, pos := _, after := #[{ on := 3, ground := Ground.data }, { on := 5, ground := Ground.data }, { on := 8, ground := Ground.gcOnly Departure.lateStores }], guard := none }) (v := ?_) rfl (by kernel_rfl) (by kernel_rfl) (by kernel_rfl) (fun _ _ _ h => h) (Or.inl ⟨by rfl, ?_⟩) (by assumption) ?_
  rotate_left
  · (intro w hSw; (try dsimp only at hSw); go_simp; try with_reducible rfl)
  simp only [Act.put, List.setIfInBounds_toArray, List.set_cons_zero, List.set_cons_succ]
  refine wpAnyH_take (i := 7) (oi := { dst := some 40, op := Op.load 40 (Operand.tmp 14), type := 40, pos := _, after := #[{ on := 9, ground := Ground.gcOnly Departure.lateStores }], guard := none }) (v := ?_) rfl (by kernel_rfl) (by kernel_rfl) (by kernel_rfl) (fun _ _ _ h => h) (Or.inl ⟨by rfl, ?_⟩) (by assumption) ?_
  rotate_left
  · (intro w hSw; (try dsimp only at hSw); go_simp; try with_reducible rfl)
  simp only [Act.put, List.setIfInBounds_toArray, List.set_cons_zero, List.set_cons_succ]
  refine wpAnyH_take (i := 8) (oi := { dst := some 10, op := Op.assign (Operand.tmp 33), type := 22, pos := _, after := #[{ on := 0, ground := Ground.data }, { on := 3, ground := Ground.chain }, { on := 0, ground := Ground.phase }, { on := 1, ground := Ground.textOnly Departure.lateStores }, { on := 2, ground := Ground.textOnly Departure.lateStores }, { on := 3, ground := Ground.textOnly Departure.lateStores }, { on := 4, ground := Ground.textOnly Departure.lateStores }, { on := 5, ground := Ground.textOnly Departure.lateStores }, { on := 6, ground := Ground.textOnly Departure.lateStores }, { on := 7, ground := Ground.textOnly Departure.lateStores }], guard := none }) (v := ?_) rfl (by kernel_rfl) (by kernel_rfl) (by kernel_rfl) (fun _ _ _ h => h) (Or.inl ⟨by rfl, ?_⟩) (by assumption) ?_
  rotate_left
  · (intro w hSw; (try dsimp only at hSw); go_simp; try with_reducible rfl)
  simp only [Act.put, List.setIfInBounds_toArray, List.set_cons_zero, List.set_cons_succ]
  refine wpAnyH_take (i := 9) (oi := { dst := some 11, op := Op.assign (Operand.tmp 39), type := 4, pos := _, after := #[{ on := 6, ground := Ground.data }, { on := 8, ground := Ground.chain }, { on := 0, ground := Ground.phase }, { on := 1, ground := Ground.phase }, { on := 2, ground := Ground.phase }, { on := 3, ground := Ground.phase }, { on := 4, ground := Ground.phase }, { on := 5, ground := Ground.phase }, { on := 6, ground := Ground.phase }, { on := 7, ground := Ground.textOnly Departure.lateStores }, { on := 8, ground := Ground.phase }], guard := none }) (v := ?_) rfl (by kernel_rfl) (by kernel_rfl) (by kernel_rfl) (fun _ _ _ h => h) (Or.inl ⟨by rfl, ?_⟩) (by assumption) ?_
  rotate_left
  · (intro w hSw; (try dsimp only at hSw); go_simp; try with_reducible rfl)
  simp only [Act.put, List.setIfInBounds_toArray, List.set_cons_zero, List.set_cons_succ]
  refine wpAnyH_ready (rs := [10]) (by kernel_rfl) (by simp) ?_
  refine AllReadyH.cons (o := { dst := none, op := Op.store 40 (Operand.tmp 12) (Operand.tmp 40), type := 0, pos := _, after := #[{ on := 7, ground := Ground.data }, { on := 9, ground := Ground.chain }, { on := 0, ground := Ground.phase }, { on := 1, ground := Ground.phase }, { on := 2, ground := Ground.phase }, { on := 3, ground := Ground.phase }, { on := 4, ground := Ground.phase }, { on := 5, ground := Ground.phase }, { on := 6, ground := Ground.phase }, { on := 7, ground := Ground.phase }, { on := 8, ground := Ground.phase }, { on := 9, ground := Ground.phase }], guard := none }) rfl (fun K hK => ?_) AllReadyH.nil
  go_simp
  skip
  refine hK.out _ _ ?_ (fun hHeld => ?_)
  · ((try dsimp only); with_reducible exact T2.out.four.1)
  clear hK K
  try simp only [Act.put, List.setIfInBounds_toArray, List.set_cons_zero, List.set_cons_succ]
  refine wpAnyH_done (by kernel_rfl) ?_ _
  go_wp2_with fail
  exact bodyPost_ret (v := .tuple #[.int .u32 W, .bool true, .agg #[.bool gn, .bool gz, .bool gc, .bool gv]]) (by simp [results, Tryz.results82, go_sem, c0, c1, c2, c3]) rfl ⟨rfl, below_drew T3.out⟩
set_option maxRecDepth 100000 in
set_option maxHeartbeats 1000000 in
theorem gdo_2 (a b : Int) (sh fn fz fc fv : Bool) (w : World) (a0 : 0 ≤ a) (a1 : a < 4294967296) (b0 : 0 ≤ b) (b1 : b < 4294967296) :
    Calls Tryz.prog 82 #[.int .i64 2, .int .u32 a, .int .u32 b, .bool sh, .agg #[.bool fn, .bool fz, .bool fc, .bool fv]] w fun e w' => e = .returned (.tuple #[.int .u32 (bits .xor .u32 a b), .bool true, .agg #[.bool (lgF (bits .xor .u32 a b) sh fv).n, .bool (lgF (bits .xor .u32 a b) sh fv).z, .bool (lgF (bits .xor .u32 a b) sh fv).c, .bool (lgF (bits .xor .u32 a b) sh fv).v]]) ∧ Below w.heap.size w w' := by
  have HO : Hid (∀ w, Calls Tryz.prog 103 #[.bool sh, .agg #[.bool fn, .bool fz, .bool fc, .bool fv]] w fun e w' => e = .returned (.agg (opsA (w.heap.size + 1) (w.heap.size + 1 + 1 + 1))) ∧ OpS w' w.heap.size (w.heap.size + 1) (w.heap.size + 1 + 1 + 1) sh fn fz fc fv ∧ Below w.heap.size w w') := fun w => gops_any sh fn fz fc fv w
  have HC : Hid (∀ w x0 x1 x3, OpS w x0 x1 x3 sh fn fz fc fv → Calls Tryz.prog 119 #[.int .u32 a, .int .u32 b, .pointer (some ⟨x3, 0, none⟩)] w fun e w' => e = .returned (.tuple #[.int .u32 (bits .xor .u32 a b), .agg #[.bool (lgF (bits .xor .u32 a b) sh fv).n, .bool (lgF (bits .xor .u32 a b) sh fv).z, .bool (lgF (bits .xor .u32 a b) sh fv).c, .bool (lgF (bits .xor .u32 a b) sh fv).v]]) ∧ Below w.heap.size w w') := fun w x0 x1 x3 h => gcl_3 a b x0 x1 x3 sh fn fz fc fv w a0 a1 b0 b1 h
  generalize lgF (bits .xor .u32 a b) sh fv = F at *
  generalize hW : bits .xor .u32 a b = W at *
  obtain ⟨gn, gz, gc, gv⟩ := F
  try simp only at *
  clear a0 a1 b0 b1 hW
  go_enter Tryz.func82, Tryz.ntmps82
  go_wp2_with (go_at_call 103; refine Hid.out ?_)
  show Calls _ _ _ _ _
  refine (HO.out _).mono ?_
  rintro e w1 ⟨rfl, hS, hb⟩
  have R1 := (Bl.new _ _ _).below hb
  simp at R1
  have HW : Hid (Below w.heap.size w w1) := Below.step (Below.step (below_new _ _) (below_new _ _)) hb
  generalize ((w.alloc _).alloc _).heap.size = x0 at hS ⊢
  have hS : Hid (OpS _ _ _ _ _ _ _ _ _) := hS
  have hI := idx_2 (x0 + 1) (x0 + 1 + 1 + 1)
  generalize opsA (x0 + 1) (x0 + 1 + 1 + 1) = A at hI ⊢
  generalize x0 + 1 + 1 + 1 = x3 at hI hS
  generalize x0 + 1 = x1 at hI hS
  clear hb HO
  have R1 : Hid (Bl _ _ _ _) := R1
  go_wp2_with (go_at_call 119; refine Hid.out ?_)
  show Calls _ _ _ _ _
  refine (HC.out _ _ _ _ hS.out).mono ?_
  rintro e w' ⟨rfl, hb2⟩
  have R2 : Hid (Bl _ _ _ _) := (R1.out.below hb2).alloc (.cells #[.bool gn, .bool gz, .bool gc, .bool gv] 40)
  have N2 : Hid (Bl _ _ _ _) := Bl.new w' 40 [.bool gn, .bool gz, .bool gc, .bool gv]
  have HW2 : Hid (Below w.heap.size w (w'.alloc (.cells #[.bool gn, .bool gz, .bool gc, .bool gv] 40))) := Below.step (Below.step HW.out hb2) (below_new _ _)
  have hne : ¬ w'.heap.size = w.heap.size + 1 := by
    have := (R1.out.below hb2).lt
    omega
  clear R1 hS HW hb2 HC hI
  go_wp2_with fail
  generalize (w'.alloc _) = w2 at R2 N2 HW2 ⊢
  generalize w'.heap.size = nb at N2 hne ⊢
  obtain ⟨T1, T2, T0⟩ := put4 R2.out N2.out hne (.bool gn) (.bool gz) (.bool gc) (.bool gv)
  have T3 : Hid (Below _ _ _) := T0 w.heap.size w (by omega) HW2.out
  have T2 : Hid (Bl _ _ _ _) := T2.drew
  clear T0 T1
  obtain ⟨⟨c0, c1, c2, c3⟩, d0, d1, d2, d3⟩ := R2.out.four
  obtain ⟨⟨k0, k1, k2, k3⟩, l0, l1, l2, l3⟩ := N2.out.drew.four
  refine wp_region_held_drew (S := fun w' => w'.cell? ⟨nb, 0, none⟩ = some (.bool gn) ∧ w'.cell? ⟨nb, 1, none⟩ = some (.bool gz) ∧ w'.cell? ⟨nb, 2, none⟩ = some (.bool gc) ∧ w'.cell? ⟨nb, 3, none⟩ = some (.bool gv)) (by kernel_rfl) ⟨k0, k1, k2, k3⟩ (fun hHeld => ?_)
  refine wpAnyH_take (i := 0) (oi := { dst := some 33, op := Op.move (Operand.tmp 13), type := 22, pos := _, after := #[], guard := none }) (v := ?_) rfl (by kernel_rfl) (by kernel_rfl) (by kernel_rfl) (fun _ _ _ h => h) (Or.inl ⟨by rfl, ?_⟩) (by assumption) ?_
  rotate_left
  · (intro w hSw; (try dsimp only at hSw); go_simp; try with_reducible rfl)
  simp only [Act.put, List.setIfInBounds_toArray, List.set_cons_zero, List.set_cons_succ]
  refine wpAnyH_take (i := 1) (oi := { dst := some 34, op := Op.move (Operand.tmp 0), type := 3, pos := _, after := #[], guard := none }) (v := ?_) rfl (by kernel_rfl) (by kernel_rfl) (by kernel_rfl) (fun _ _ _ h => h) (Or.inl ⟨by rfl, ?_⟩) (by assumption) ?_
  rotate_left
  · (intro w hSw; (try dsimp only at hSw); go_simp; try with_reducible rfl)
  simp only [Act.put, List.setIfInBounds_toArray, List.set_cons_zero, List.set_cons_succ]
  refine wpAnyH_take (i := 2) (oi := { dst := some 35, op := Op.binOp BinOp.lss 3 (Operand.tmp 34) (Operand.const (Value.int IntKind.i64 9)) 3, type := 4, pos := _, after := #[{ on := 1, ground := Ground.data }], guard := none }) (v := ?_) rfl (by kernel_rfl) (by kernel_rfl) (by kernel_rfl) (fun _ _ _ h => h) (Or.inl ⟨by rfl, ?_⟩) (by assumption) ?_
  rotate_left
  · (intro w hSw; (try dsimp only at hSw); go_simp; try with_reducible rfl)
  simp only [Act.put, List.setIfInBounds_toArray, List.set_cons_zero, List.set_cons_succ]
  refine wpAnyH_take (i := 3) (oi := { dst := some 36, op := Op.move (Operand.tmp 35), type := 4, pos := _, after := #[{ on := 2, ground := Ground.data }], guard := none }) (v := ?_) rfl (by kernel_rfl) (by kernel_rfl) (by kernel_rfl) (fun _ _ _ h => h) (Or.inl ⟨by rfl, ?_⟩) (by assumption) ?_
  rotate_left
  · (intro w hSw; (try dsimp only at hSw); go_simp; try with_reducible rfl)
  simp only [Act.put, List.setIfInBounds_toArray, List.set_cons_zero, List.set_cons_succ]
  refine wpAnyH_take (i := 4) (oi := { dst := some 37, op := Op.move (Operand.tmp 0), type := 3, pos := _, after := #[{ on := 3, ground := Ground.guard }, { on := 8, ground := Ground.gcOnly Departure.lateStores }], guard := some (3, false) }) (v := undef) rfl (by kernel_rfl) (by kernel_rfl) (by kernel_rfl) (fun _ _ _ h => h) (Or.inr ⟨by rfl, rfl⟩) (by assumption) ?_
  simp only [Act.put, List.setIfInBounds_toArray, List.set_cons_zero, List.set_cons_succ]
  refine wpAnyH_take (i := 5) (oi := { dst := some 38, op := Op.binOp BinOp.gtr 3 (Operand.tmp 37) (Operand.const (Value.int IntKind.i64 12)) 3, type := 4, pos := _, after := #[{ on := 4, ground := Ground.data }, { on := 3, ground := Ground.guard }, { on := 8, ground := Ground.gcOnly Departure.lateStores }], guard := some (3, false) }) (v := undef) rfl (by kernel_rfl) (by kernel_rfl) (by kernel_rfl) (fun _ _ _ h => h) (Or.inr ⟨by rfl, rfl⟩) (by assumption) ?_
  simp only [Act.put, List.setIfInBounds_toArray, List.set_cons_zero, List.set_cons_succ]
  refine wpAnyH_take (i := 6) (oi := { dst := some 39, op := Op.pick (Operand.tmp 36) (Operand.const (Value.bool true)) (Operand.tmp 38), type := 4, pos := _, after := #[{ on := 3, ground := Ground.data }, { on := 5, ground := Ground.data }, { on := 8, ground := Ground.gcOnly Departure.lateStores }], guard := none }) (v := ?_) rfl (by kernel_rfl) (by kernel_rfl) (by kernel_rfl) (fun _ _ _ h => h) (Or.inl ⟨by rfl, ?_⟩) (by assumption) ?_
  rotate_left
  · (intro w hSw; (try dsimp only at hSw); go_simp; try with_reducible rfl)
  simp only [Act.put, List.setIfInBounds_toArray, List.set_cons_zero, List.set_cons_succ]
  refine wpAnyH_take (i := 7) (oi := { dst := some 40, op := Op.load 40 (Operand.tmp 14), type := 40, pos := _, after := #[{ on := 9, ground := Ground.gcOnly Departure.lateStores }], guard := none }) (v := ?_) rfl (by kernel_rfl) (by kernel_rfl) (by kernel_rfl) (fun _ _ _ h => h) (Or.inl ⟨by rfl, ?_⟩) (by assumption) ?_
  rotate_left
  · (intro w hSw; (try dsimp only at hSw); go_simp; try with_reducible rfl)
  simp only [Act.put, List.setIfInBounds_toArray, List.set_cons_zero, List.set_cons_succ]
  refine wpAnyH_take (i := 8) (oi := { dst := some 10, op := Op.assign (Operand.tmp 33), type := 22, pos := _, after := #[{ on := 0, ground := Ground.data }, { on := 3, ground := Ground.chain }, { on := 0, ground := Ground.phase }, { on := 1, ground := Ground.textOnly Departure.lateStores }, { on := 2, ground := Ground.textOnly Departure.lateStores }, { on := 3, ground := Ground.textOnly Departure.lateStores }, { on := 4, ground := Ground.textOnly Departure.lateStores }, { on := 5, ground := Ground.textOnly Departure.lateStores }, { on := 6, ground := Ground.textOnly Departure.lateStores }, { on := 7, ground := Ground.textOnly Departure.lateStores }], guard := none }) (v := ?_) rfl (by kernel_rfl) (by kernel_rfl) (by kernel_rfl) (fun _ _ _ h => h) (Or.inl ⟨by rfl, ?_⟩) (by assumption) ?_
  rotate_left
  · (intro w hSw; (try dsimp only at hSw); go_simp; try with_reducible rfl)
  simp only [Act.put, List.setIfInBounds_toArray, List.set_cons_zero, List.set_cons_succ]
  refine wpAnyH_take (i := 9) (oi := { dst := some 11, op := Op.assign (Operand.tmp 39), type := 4, pos := _, after := #[{ on := 6, ground := Ground.data }, { on := 8, ground := Ground.chain }, { on := 0, ground := Ground.phase }, { on := 1, ground := Ground.phase }, { on := 2, ground := Ground.phase }, { on := 3, ground := Ground.phase }, { on := 4, ground := Ground.phase }, { on := 5, ground := Ground.phase }, { on := 6, ground := Ground.phase }, { on := 7, ground := Ground.textOnly Departure.lateStores }, { on := 8, ground := Ground.phase }], guard := none }) (v := ?_) rfl (by kernel_rfl) (by kernel_rfl) (by kernel_rfl) (fun _ _ _ h => h) (Or.inl ⟨by rfl, ?_⟩) (by assumption) ?_
  rotate_left
  · (intro w hSw; (try dsimp only at hSw); go_simp; try with_reducible rfl)
  simp only [Act.put, List.setIfInBounds_toArray, List.set_cons_zero, List.set_cons_succ]
  refine wpAnyH_ready (rs := [10]) (by kernel_rfl) (by simp) ?_
  refine AllReadyH.cons (o := { dst := none, op := Op.store 40 (Operand.tmp 12) (Operand.tmp 40), type := 0, pos := _, after := #[{ on := 7, ground := Ground.data }, { on := 9, ground := Ground.chain }, { on := 0, ground := Ground.phase }, { on := 1, ground := Ground.phase }, { on := 2, ground := Ground.phase }, { on := 3, ground := Ground.phase }, { on := 4, ground := Ground.phase }, { on := 5, ground := Ground.phase }, { on := 6, ground := Ground.phase }, { on := 7, ground := Ground.phase }, { on := 8, ground := Ground.phase }, { on := 9, ground := Ground.phase }], guard := none }) rfl (fun K hK => ?_) AllReadyH.nil
  go_simp
  skip
  refine hK.out _ _ ?_ (fun hHeld => ?_)
  · ((try dsimp only); with_reducible exact T2.out.four.1)
  clear hK K
  try simp only [Act.put, List.setIfInBounds_toArray, List.set_cons_zero, List.set_cons_succ]
  refine wpAnyH_done (by kernel_rfl) ?_ _
  go_wp2_with fail
  exact bodyPost_ret (v := .tuple #[.int .u32 W, .bool true, .agg #[.bool gn, .bool gz, .bool gc, .bool gv]]) (by simp [results, Tryz.results82, go_sem, c0, c1, c2, c3]) rfl ⟨rfl, below_drew T3.out⟩
set_option maxRecDepth 100000 in
set_option maxHeartbeats 1000000 in
theorem gdo_3 (a b : Int) (sh fn fz fc fv : Bool) (w : World) (a0 : 0 ≤ a) (a1 : a < 4294967296) (b0 : 0 ≤ b) (b1 : b < 4294967296) :
    Calls Tryz.prog 82 #[.int .i64 3, .int .u32 a, .int .u32 b, .bool sh, .agg #[.bool fn, .bool fz, .bool fc, .bool fv]] w fun e w' => e = .returned (.tuple #[.int .u32 (suW a (nt b) true), .bool true, .agg #[.bool (suF a (nt b) true).n, .bool (suF a (nt b) true).z, .bool (suF a (nt b) true).c, .bool (suF a (nt b) true).v]]) ∧ Below w.heap.size w w' := by
  have HO : Hid (∀ w, Calls Tryz.prog 103 #[.bool sh, .agg #[.bool fn, .bool fz, .bool fc, .bool fv]] w fun e w' => e = .returned (.agg (opsA (w.heap.size + 1) (w.heap.size + 1 + 1 + 1))) ∧ OpS w' w.heap.size (w.heap.size + 1) (w.heap.size + 1 + 1 + 1) sh fn fz fc fv ∧ Below w.heap.size w w') := fun w => gops_any sh fn fz fc fv w
  have HC : Hid (∀ w x0 x1 x3, OpS w x0 x1 x3 sh fn fz fc fv → Calls Tryz.prog 122 #[.int .u32 a, .int .u32 b] w fun e w' => e = .returned (.tuple #[.int .u32 (suW a (nt b) true), .agg #[.bool (suF a (nt b) true).n, .bool (suF a (nt b) true).z, .bool (suF a (nt b) true).c, .bool (suF a (nt b) true).v]]) ∧ Below w.heap.size w w') := fun w x0 x1 x3 h => gcl_5 a b w a0 a1 b0 b1
  generalize suF a (nt b) true = F at *
  generalize hW : suW a (nt b) true = W at *
  obtain ⟨gn, gz, gc, gv⟩ := F
  try simp only at *
  clear a0 a1 b0 b1 hW
  go_enter Tryz.func82, Tryz.ntmps82
  go_wp2_with (go_at_call 103; refine Hid.out ?_)
  show Calls _ _ _ _ _
  refine (HO.out _).mono ?_
  rintro e w1 ⟨rfl, hS, hb⟩
  have R1 := (Bl.new _ _ _).below hb
  simp at R1
  have HW : Hid (Below w.heap.size w w1) := Below.step (Below.step (below_new _ _) (below_new _ _)) hb
  generalize ((w.alloc _).alloc _).heap.size = x0 at hS ⊢
  have hS : Hid (OpS _ _ _ _ _ _ _ _ _) := hS
  have hI := idx_3 (x0 + 1) (x0 + 1 + 1 + 1)
  generalize opsA (x0 + 1) (x0 + 1 + 1 + 1) = A at hI ⊢
  generalize x0 + 1 + 1 + 1 = x3 at hI hS
  generalize x0 + 1 = x1 at hI hS
  clear hb HO
  have R1 : Hid (Bl _ _ _ _) := R1
  go_wp2_with (go_at_call 122; refine Hid.out ?_)
  show Calls _ _ _ _ _
  refine (HC.out _ _ _ _ hS.out).mono ?_
  rintro e w' ⟨rfl, hb2⟩
  have R2 : Hid (Bl _ _ _ _) := (R1.out.below hb2).alloc (.cells #[.bool gn, .bool gz, .bool gc, .bool gv] 40)
  have N2 : Hid (Bl _ _ _ _) := Bl.new w' 40 [.bool gn, .bool gz, .bool gc, .bool gv]
  have HW2 : Hid (Below w.heap.size w (w'.alloc (.cells #[.bool gn, .bool gz, .bool gc, .bool gv] 40))) := Below.step (Below.step HW.out hb2) (below_new _ _)
  have hne : ¬ w'.heap.size = w.heap.size + 1 := by
    have := (R1.out.below hb2).lt
    omega
  clear R1 hS HW hb2 HC hI
  go_wp2_with fail
  generalize (w'.alloc _) = w2 at R2 N2 HW2 ⊢
  generalize w'.heap.size = nb at N2 hne ⊢
  obtain ⟨T1, T2, T0⟩ := put4 R2.out N2.out hne (.bool gn) (.bool gz) (.bool gc) (.bool gv)
  have T3 : Hid (Below _ _ _) := T0 w.heap.size w (by omega) HW2.out
  have T2 : Hid (Bl _ _ _ _) := T2.drew
  clear T0 T1
  obtain ⟨⟨c0, c1, c2, c3⟩, d0, d1, d2, d3⟩ := R2.out.four
  obtain ⟨⟨k0, k1, k2, k3⟩, l0, l1, l2, l3⟩ := N2.out.drew.four
  refine wp_region_held_drew (S := fun w' => w'.cell? ⟨nb, 0, none⟩ = some (.bool gn) ∧ w'.cell? ⟨nb, 1, none⟩ = some (.bool gz) ∧ w'.cell? ⟨nb, 2, none⟩ = some (.bool gc) ∧ w'.cell? ⟨nb, 3, none⟩ = some (.bool gv)) (by kernel_rfl) ⟨k0, k1, k2, k3⟩ (fun hHeld => ?_)
  refine wpAnyH_take (i := 0) (oi := { dst := some 33, op := Op.move (Operand.tmp 13), type := 22, pos := _, after := #[], guard := none }) (v := ?_) rfl (by kernel_rfl) (by kernel_rfl) (by kernel_rfl) (fun _ _ _ h => h) (Or.inl ⟨by rfl, ?_⟩) (by assumption) ?_
  rotate_left
  · (intro w hSw; (try dsimp only at hSw); go_simp; try with_reducible rfl)
  simp only [Act.put, List.setIfInBounds_toArray, List.set_cons_zero, List.set_cons_succ]
  refine wpAnyH_take (i := 1) (oi := { dst := some 34, op := Op.move (Operand.tmp 0), type := 3, pos := _, after := #[], guard := none }) (v := ?_) rfl (by kernel_rfl) (by kernel_rfl) (by kernel_rfl) (fun _ _ _ h => h) (Or.inl ⟨by rfl, ?_⟩) (by assumption) ?_
  rotate_left
  · (intro w hSw; (try dsimp only at hSw); go_simp; try with_reducible rfl)
  simp only [Act.put, List.setIfInBounds_toArray, List.set_cons_zero, List.set_cons_succ]
  refine wpAnyH_take (i := 2) (oi := { dst := some 35, op := Op.binOp BinOp.lss 3 (Operand.tmp 34) (Operand.const (Value.int IntKind.i64 9)) 3, type := 4, pos := _, after := #[{ on := 1, ground := Ground.data }], guard := none }) (v := ?_) rfl (by kernel_rfl) (by kernel_rfl) (by kernel_rfl) (fun _ _ _ h => h) (Or.inl ⟨by rfl, ?_⟩) (by assumption) ?_
  rotate_left
  · (intro w hSw; (try dsimp only at hSw); go_simp; try with_reducible rfl)
  simp only [Act.put, List.setIfInBounds_toArray, List.set_cons_zero, List.set_cons_succ]
  refine wpAnyH_take (i := 3) (oi := { dst := some 36, op := Op.move (Operand.tmp 35), type := 4, pos := _, after := #[{ on := 2, ground := Ground.data }], guard := none }) (v := ?_) rfl (by kernel_rfl) (by kernel_rfl) (by kernel_rfl) (fun _ _ _ h => h) (Or.inl ⟨by rfl, ?_⟩) (by assumption) ?_
  rotate_left
  · (intro w hSw; (try dsimp only at hSw); go_simp; try with_reducible rfl)
  simp only [Act.put, List.setIfInBounds_toArray, List.set_cons_zero, List.set_cons_succ]
  refine wpAnyH_take (i := 4) (oi := { dst := some 37, op := Op.move (Operand.tmp 0), type := 3, pos := _, after := #[{ on := 3, ground := Ground.guard }, { on := 8, ground := Ground.gcOnly Departure.lateStores }], guard := some (3, false) }) (v := undef) rfl (by kernel_rfl) (by kernel_rfl) (by kernel_rfl) (fun _ _ _ h => h) (Or.inr ⟨by rfl, rfl⟩) (by assumption) ?_
  simp only [Act.put, List.setIfInBounds_toArray, List.set_cons_zero, List.set_cons_succ]
  refine wpAnyH_take (i := 5) (oi := { dst := some 38, op := Op.binOp BinOp.gtr 3 (Operand.tmp 37) (Operand.const (Value.int IntKind.i64 12)) 3, type := 4, pos := _, after := #[{ on := 4, ground := Ground.data }, { on := 3, ground := Ground.guard }, { on := 8, ground := Ground.gcOnly Departure.lateStores }], guard := some (3, false) }) (v := undef) rfl (by kernel_rfl) (by kernel_rfl) (by kernel_rfl) (fun _ _ _ h => h) (Or.inr ⟨by rfl, rfl⟩) (by assumption) ?_
  simp only [Act.put, List.setIfInBounds_toArray, List.set_cons_zero, List.set_cons_succ]
  refine wpAnyH_take (i := 6) (oi := { dst := some 39, op := Op.pick (Operand.tmp 36) (Operand.const (Value.bool true)) (Operand.tmp 38), type := 4, pos := _, after := #[{ on := 3, ground := Ground.data }, { on := 5, ground := Ground.data }, { on := 8, ground := Ground.gcOnly Departure.lateStores }], guard := none }) (v := ?_) rfl (by kernel_rfl) (by kernel_rfl) (by kernel_rfl) (fun _ _ _ h => h) (Or.inl ⟨by rfl, ?_⟩) (by assumption) ?_
  rotate_left
  · (intro w hSw; (try dsimp only at hSw); go_simp; try with_reducible rfl)
  simp only [Act.put, List.setIfInBounds_toArray, List.set_cons_zero, List.set_cons_succ]
  refine wpAnyH_take (i := 7) (oi := { dst := some 40, op := Op.load 40 (Operand.tmp 14), type := 40, pos := _, after := #[{ on := 9, ground := Ground.gcOnly Departure.lateStores }], guard := none }) (v := ?_) rfl (by kernel_rfl) (by kernel_rfl) (by kernel_rfl) (fun _ _ _ h => h) (Or.inl ⟨by rfl, ?_⟩) (by assumption) ?_
  rotate_left
  · (intro w hSw; (try dsimp only at hSw); go_simp; try with_reducible rfl)
  simp only [Act.put, List.setIfInBounds_toArray, List.set_cons_zero, List.set_cons_succ]
  refine wpAnyH_take (i := 8) (oi := { dst := some 10, op := Op.assign (Operand.tmp 33), type := 22, pos := _, after := #[{ on := 0, ground := Ground.data }, { on := 3, ground := Ground.chain }, { on := 0, ground := Ground.phase }, { on := 1, ground := Ground.textOnly Departure.lateStores }, { on := 2, ground := Ground.textOnly Departure.lateStores }, { on := 3, ground := Ground.textOnly Departure.lateStores }, { on := 4, ground := Ground.textOnly Departure.lateStores }, { on := 5, ground := Ground.textOnly Departure.lateStores }, { on := 6, ground := Ground.textOnly Departure.lateStores }, { on := 7, ground := Ground.textOnly Departure.lateStores }], guard := none }) (v := ?_) rfl (by kernel_rfl) (by kernel_rfl) (by kernel_rfl) (fun _ _ _ h => h) (Or.inl ⟨by rfl, ?_⟩) (by assumption) ?_
  rotate_left
  · (intro w hSw; (try dsimp only at hSw); go_simp; try with_reducible rfl)
  simp only [Act.put, List.setIfInBounds_toArray, List.set_cons_zero, List.set_cons_succ]
  refine wpAnyH_take (i := 9) (oi := { dst := some 11, op := Op.assign (Operand.tmp 39), type := 4, pos := _, after := #[{ on := 6, ground := Ground.data }, { on := 8, ground := Ground.chain }, { on := 0, ground := Ground.phase }, { on := 1, ground := Ground.phase }, { on := 2, ground := Ground.phase }, { on := 3, ground := Ground.phase }, { on := 4, ground := Ground.phase }, { on := 5, ground := Ground.phase }, { on := 6, ground := Ground.phase }, { on := 7, ground := Ground.textOnly Departure.lateStores }, { on := 8, ground := Ground.phase }], guard := none }) (v := ?_) rfl (by kernel_rfl) (by kernel_rfl) (by kernel_rfl) (fun _ _ _ h => h) (Or.inl ⟨by rfl, ?_⟩) (by assumption) ?_
  rotate_left
  · (intro w hSw; (try dsimp only at hSw); go_simp; try with_reducible rfl)
  simp only [Act.put, List.setIfInBounds_toArray, List.set_cons_zero, List.set_cons_succ]
  refine wpAnyH_ready (rs := [10]) (by kernel_rfl) (by simp) ?_
  refine AllReadyH.cons (o := { dst := none, op := Op.store 40 (Operand.tmp 12) (Operand.tmp 40), type := 0, pos := _, after := #[{ on := 7, ground := Ground.data }, { on := 9, ground := Ground.chain }, { on := 0, ground := Ground.phase }, { on := 1, ground := Ground.phase }, { on := 2, ground := Ground.phase }, { on := 3, ground := Ground.phase }, { on := 4, ground := Ground.phase }, { on := 5, ground := Ground.phase }, { on := 6, ground := Ground.phase }, { on := 7, ground := Ground.phase }, { on := 8, ground := Ground.phase }, { on := 9, ground := Ground.phase }], guard := none }) rfl (fun K hK => ?_) AllReadyH.nil
  go_simp
  skip
  refine hK.out _ _ ?_ (fun hHeld => ?_)
  · ((try dsimp only); with_reducible exact T2.out.four.1)
  clear hK K
  try simp only [Act.put, List.setIfInBounds_toArray, List.set_cons_zero, List.set_cons_succ]
  refine wpAnyH_done (by kernel_rfl) ?_ _
  go_wp2_with fail
  exact bodyPost_ret (v := .tuple #[.int .u32 W, .bool true, .agg #[.bool gn, .bool gz, .bool gc, .bool gv]]) (by simp [results, Tryz.results82, go_sem, c0, c1, c2, c3]) rfl ⟨rfl, below_drew T3.out⟩
set_option maxRecDepth 100000 in
set_option maxHeartbeats 1000000 in
theorem gdo_4 (a b : Int) (sh fn fz fc fv : Bool) (w : World) (a0 : 0 ≤ a) (a1 : a < 4294967296) (b0 : 0 ≤ b) (b1 : b < 4294967296) :
    Calls Tryz.prog 82 #[.int .i64 4, .int .u32 a, .int .u32 b, .bool sh, .agg #[.bool fn, .bool fz, .bool fc, .bool fv]] w fun e w' => e = .returned (.tuple #[.int .u32 (suW (nt a) b true), .bool true, .agg #[.bool (suF (nt a) b true).n, .bool (suF (nt a) b true).z, .bool (suF (nt a) b true).c, .bool (suF (nt a) b true).v]]) ∧ Below w.heap.size w w' := by
  have HO : Hid (∀ w, Calls Tryz.prog 103 #[.bool sh, .agg #[.bool fn, .bool fz, .bool fc, .bool fv]] w fun e w' => e = .returned (.agg (opsA (w.heap.size + 1) (w.heap.size + 1 + 1 + 1))) ∧ OpS w' w.heap.size (w.heap.size + 1) (w.heap.size + 1 + 1 + 1) sh fn fz fc fv ∧ Below w.heap.size w w') := fun w => gops_any sh fn fz fc fv w
  have HC : Hid (∀ w x0 x1 x3, OpS w x0 x1 x3 sh fn fz fc fv → Calls Tryz.prog 123 #[.int .u32 a, .int .u32 b] w fun e w' => e = .returned (.tuple #[.int .u32 (suW (nt a) b true), .agg #[.bool (suF (nt a) b true).n, .bool (suF (nt a) b true).z, .bool (suF (nt a) b true).c, .bool (suF (nt a) b true).v]]) ∧ Below w.heap.size w w') := fun w x0 x1 x3 h => gcl_6 a b w a0 a1 b0 b1
  generalize suF (nt a) b true = F at *
  generalize hW : suW (nt a) b true = W at *
  obtain ⟨gn, gz, gc, gv⟩ := F
  try simp only at *
  clear a0 a1 b0 b1 hW
  go_enter Tryz.func82, Tryz.ntmps82
  go_wp2_with (go_at_call 103; refine Hid.out ?_)
  show Calls _ _ _ _ _
  refine (HO.out _).mono ?_
  rintro e w1 ⟨rfl, hS, hb⟩
  have R1 := (Bl.new _ _ _).below hb
  simp at R1
  have HW : Hid (Below w.heap.size w w1) := Below.step (Below.step (below_new _ _) (below_new _ _)) hb
  generalize ((w.alloc _).alloc _).heap.size = x0 at hS ⊢
  have hS : Hid (OpS _ _ _ _ _ _ _ _ _) := hS
  have hI := idx_4 (x0 + 1) (x0 + 1 + 1 + 1)
  generalize opsA (x0 + 1) (x0 + 1 + 1 + 1) = A at hI ⊢
  generalize x0 + 1 + 1 + 1 = x3 at hI hS
  generalize x0 + 1 = x1 at hI hS
  clear hb HO
  have R1 : Hid (Bl _ _ _ _) := R1
  go_wp2_with (go_at_call 123; refine Hid.out ?_)
  show Calls _ _ _ _ _
  refine (HC.out _ _ _ _ hS.out).mono ?_
  rintro e w' ⟨rfl, hb2⟩
  have R2 : Hid (Bl _ _ _ _) := (R1.out.below hb2).alloc (.cells #[.bool gn, .bool gz, .bool gc, .bool gv] 40)
  have N2 : Hid (Bl _ _ _ _) := Bl.new w' 40 [.bool gn, .bool gz, .bool gc, .bool gv]
  have HW2 : Hid (Below w.heap.size w (w'.alloc (.cells #[.bool gn, .bool gz, .bool gc, .bool gv] 40))) := Below.step (Below.step HW.out hb2) (below_new _ _)
  have hne : ¬ w'.heap.size = w.heap.size + 1 := by
    have := (R1.out.below hb2).lt
    omega
  clear R1 hS HW hb2 HC hI
  go_wp2_with fail
  generalize (w'.alloc _) = w2 at R2 N2 HW2 ⊢
  generalize w'.heap.size = nb at N2 hne ⊢
  obtain ⟨T1, T2, T0⟩ := put4 R2.out N2.out hne (.bool gn) (.bool gz) (.bool gc) (.bool gv)
  have T3 : Hid (Below _ _ _) := T0 w.heap.size w (by omega) HW2.out
  have T2 : Hid (Bl _ _ _ _) := T2.drew
  clear T0 T1
  obtain ⟨⟨c0, c1, c2, c3⟩, d0, d1, d2, d3⟩ := R2.out.four
  obtain ⟨⟨k0, k1, k2, k3⟩, l0, l1, l2, l3⟩ := N2.out.drew.four
  refine wp_region_held_drew (S := fun w' => w'.cell? ⟨nb, 0, none⟩ = some (.bool gn) ∧ w'.cell? ⟨nb, 1, none⟩ = some (.bool gz) ∧ w'.cell? ⟨nb, 2, none⟩ = some (.bool gc) ∧ w'.cell? ⟨nb, 3, none⟩ = some (.bool gv)) (by kernel_rfl) ⟨k0, k1, k2, k3⟩ (fun hHeld => ?_)
  refine wpAnyH_take (i := 0) (oi := { dst := some 33, op := Op.move (Operand.tmp 13), type := 22, pos := _, after := #[], guard := none }) (v := ?_) rfl (by kernel_rfl) (by kernel_rfl) (by kernel_rfl) (fun _ _ _ h => h) (Or.inl ⟨by rfl, ?_⟩) (by assumption) ?_
  rotate_left
  · (intro w hSw; (try dsimp only at hSw); go_simp; try with_reducible rfl)
  simp only [Act.put, List.setIfInBounds_toArray, List.set_cons_zero, List.set_cons_succ]
  refine wpAnyH_take (i := 1) (oi := { dst := some 34, op := Op.move (Operand.tmp 0), type := 3, pos := _, after := #[], guard := none }) (v := ?_) rfl (by kernel_rfl) (by kernel_rfl) (by kernel_rfl) (fun _ _ _ h => h) (Or.inl ⟨by rfl, ?_⟩) (by assumption) ?_
  rotate_left
  · (intro w hSw; (try dsimp only at hSw); go_simp; try with_reducible rfl)
  simp only [Act.put, List.setIfInBounds_toArray, List.set_cons_zero, List.set_cons_succ]
  refine wpAnyH_take (i := 2) (oi := { dst := some 35, op := Op.binOp BinOp.lss 3 (Operand.tmp 34) (Operand.const (Value.int IntKind.i64 9)) 3, type := 4, pos := _, after := #[{ on := 1, ground := Ground.data }], guard := none }) (v := ?_) rfl (by kernel_rfl) (by kernel_rfl) (by kernel_rfl) (fun _ _ _ h => h) (Or.inl ⟨by rfl, ?_⟩) (by assumption) ?_
  rotate_left
  · (intro w hSw; (try dsimp only at hSw); go_simp; try with_reducible rfl)
  simp only [Act.put, List.setIfInBounds_toArray, List.set_cons_zero, List.set_cons_succ]
  refine wpAnyH_take (i := 3) (oi := { dst := some 36, op := Op.move (Operand.tmp 35), type := 4, pos := _, after := #[{ on := 2, ground := Ground.data }], guard := none }) (v := ?_) rfl (by kernel_rfl) (by kernel_rfl) (by kernel_rfl) (fun _ _ _ h => h) (Or.inl ⟨by rfl, ?_⟩) (by assumption) ?_
  rotate_left
  · (intro w hSw; (try dsimp only at hSw); go_simp; try with_reducible rfl)
  simp only [Act.put, List.setIfInBounds_toArray, List.set_cons_zero, List.set_cons_succ]
  refine wpAnyH_take (i := 4) (oi := { dst := some 37, op := Op.move (Operand.tmp 0), type := 3, pos := _, after := #[{ on := 3, ground := Ground.guard }, { on := 8, ground := Ground.gcOnly Departure.lateStores }], guard := some (3, false) }) (v := undef) rfl (by kernel_rfl) (by kernel_rfl) (by kernel_rfl) (fun _ _ _ h => h) (Or.inr ⟨by rfl, rfl⟩) (by assumption) ?_
  simp only [Act.put, List.setIfInBounds_toArray, List.set_cons_zero, List.set_cons_succ]
  refine wpAnyH_take (i := 5) (oi := { dst := some 38, op := Op.binOp BinOp.gtr 3 (Operand.tmp 37) (Operand.const (Value.int IntKind.i64 12)) 3, type := 4, pos := _, after := #[{ on := 4, ground := Ground.data }, { on := 3, ground := Ground.guard }, { on := 8, ground := Ground.gcOnly Departure.lateStores }], guard := some (3, false) }) (v := undef) rfl (by kernel_rfl) (by kernel_rfl) (by kernel_rfl) (fun _ _ _ h => h) (Or.inr ⟨by rfl, rfl⟩) (by assumption) ?_
  simp only [Act.put, List.setIfInBounds_toArray, List.set_cons_zero, List.set_cons_succ]
  refine wpAnyH_take (i := 6) (oi := { dst := some 39, op := Op.pick (Operand.tmp 36) (Operand.const (Value.bool true)) (Operand.tmp 38), type := 4, pos := _, after := #[{ on := 3, ground := Ground.data }, { on := 5, ground := Ground.data }, { on := 8, ground := Ground.gcOnly Departure.lateStores }], guard := none }) (v := ?_) rfl (by kernel_rfl) (by kernel_rfl) (by kernel_rfl) (fun _ _ _ h => h) (Or.inl ⟨by rfl, ?_⟩) (by assumption) ?_
  rotate_left
  · (intro w hSw; (try dsimp only at hSw); go_simp; try with_reducible rfl)
  simp only [Act.put, List.setIfInBounds_toArray, List.set_cons_zero, List.set_cons_succ]
  refine wpAnyH_take (i := 7) (oi := { dst := some 40, op := Op.load 40 (Operand.tmp 14), type := 40, pos := _, after := #[{ on := 9, ground := Ground.gcOnly Departure.lateStores }], guard := none }) (v := ?_) rfl (by kernel_rfl) (by kernel_rfl) (by kernel_rfl) (fun _ _ _ h => h) (Or.inl ⟨by rfl, ?_⟩) (by assumption) ?_
  rotate_left
  · (intro w hSw; (try dsimp only at hSw); go_simp; try with_reducible rfl)
  simp only [Act.put, List.setIfInBounds_toArray, List.set_cons_zero, List.set_cons_succ]
  refine wpAnyH_take (i := 8) (oi := { dst := some 10, op := Op.assign (Operand.tmp 33), type := 22, pos := _, after := #[{ on := 0, ground := Ground.data }, { on := 3, ground := Ground.chain }, { on := 0, ground := Ground.phase }, { on := 1, ground := Ground.textOnly Departure.lateStores }, { on := 2, ground := Ground.textOnly Departure.lateStores }, { on := 3, ground := Ground.textOnly Departure.lateStores }, { on := 4, ground := Ground.textOnly Departure.lateStores }, { on := 5, ground := Ground.textOnly Departure.lateStores }, { on := 6, ground := Ground.textOnly Departure.lateStores }, { on := 7, ground := Ground.textOnly Departure.lateStores }], guard := none }) (v := ?_) rfl (by kernel_rfl) (by kernel_rfl) (by kernel_rfl) (fun _ _ _ h => h) (Or.inl ⟨by rfl, ?_⟩) (by assumption) ?_
  rotate_left
  · (intro w hSw; (try dsimp only at hSw); go_simp; try with_reducible rfl)
  simp only [Act.put, List.setIfInBounds_toArray, List.set_cons_zero, List.set_cons_succ]
  refine wpAnyH_take (i := 9) (oi := { dst := some 11, op := Op.assign (Operand.tmp 39), type := 4, pos := _, after := #[{ on := 6, ground := Ground.data }, { on := 8, ground := Ground.chain }, { on := 0, ground := Ground.phase }, { on := 1, ground := Ground.phase }, { on := 2, ground := Ground.phase }, { on := 3, ground := Ground.phase }, { on := 4, ground := Ground.phase }, { on := 5, ground := Ground.phase }, { on := 6, ground := Ground.phase }, { on := 7, ground := Ground.textOnly Departure.lateStores }, { on := 8, ground := Ground.phase }], guard := none }) (v := ?_) rfl (by kernel_rfl) (by kernel_rfl) (by kernel_rfl) (fun _ _ _ h => h) (Or.inl ⟨by rfl, ?_⟩) (by assumption) ?_
  rotate_left
  · (intro w hSw; (try dsimp only at hSw); go_simp; try with_reducible rfl)
  simp only [Act.put, List.setIfInBounds_toArray, List.set_cons_zero, List.set_cons_succ]
  refine wpAnyH_ready (rs := [10]) (by kernel_rfl) (by simp) ?_
  refine AllReadyH.cons (o := { dst := none, op := Op.store 40 (Operand.tmp 12) (Operand.tmp 40), type := 0, pos := _, after := #[{ on := 7, ground := Ground.data }, { on := 9, ground := Ground.chain }, { on := 0, ground := Ground.phase }, { on := 1, ground := Ground.phase }, { on := 2, ground := Ground.phase }, { on := 3, ground := Ground.phase }, { on := 4, ground := Ground.phase }, { on := 5, ground := Ground.phase }, { on := 6, ground := Ground.phase }, { on := 7, ground := Ground.phase }, { on := 8, ground := Ground.phase }, { on := 9, ground := Ground.phase }], guard := none }) rfl (fun K hK => ?_) AllReadyH.nil
  go_simp
  skip
  refine hK.out _ _ ?_ (fun hHeld => ?_)
  · ((try dsimp only); with_reducible exact T2.out.four.1)
  clear hK K
  try simp only [Act.put, List.setIfInBounds_toArray, List.set_cons_zero, List.set_cons_succ]
  refine wpAnyH_done (by kernel_rfl) ?_ _
  go_wp2_with fail
  exact bodyPost_ret (v := .tuple #[.int .u32 W, .bool true, .agg #[.bool gn, .bool gz, .bool gc, .bool gv]]) (by simp [results, Tryz.results82, go_sem, c0, c1, c2, c3]) rfl ⟨rfl, below_drew T3.out⟩
set_option maxRecDepth 100000 in
set_option maxHeartbeats 1000000 in
theorem gdo_5 (a b : Int) (sh fn fz fc fv : Bool) (w : World) (a0 : 0 ≤ a) (a1 : a < 4294967296) (b0 : 0 ≤ b) (b1 : b < 4294967296) :
    Calls Tryz.prog 82 #[.int .i64 5, .int .u32 a, .int .u32 b, .bool sh, .agg #[.bool fn, .bool fz, .bool fc, .bool fv]] w fun e w' => e = .returned (.tuple #[.int .u32 (suW a b false), .bool true, .agg #[.bool (suF a b false).n, .bool (suF a b false).z, .bool (suF a b false).c, .bool (suF a b false).v]]) ∧ Below w.heap.size w w' := by
  have HO : Hid (∀ w, Calls Tryz.prog 103 #[.bool sh, .agg #[.bool fn, .bool fz, .bool fc, .bool fv]] w fun e w' => e = .returned (.agg (opsA (w.heap.size + 1) (w.heap.size + 1 + 1 + 1))) ∧ OpS w' w.heap.size (w.heap.size + 1) (w.heap.size + 1 + 1 + 1) sh fn fz fc fv ∧ Below w.heap.size w w') := fun w => gops_any sh fn fz fc fv w
  have HC : Hid (∀ w x0 x1 x3, OpS w x0 x1 x3 sh fn fz fc fv → Calls Tryz.prog 120 #[.int .u32 a, .int .u32 b] w fun e w' => e = .returned (.tuple #[.int .u32 (suW a b false), .agg #[.bool (suF a b false).n, .bool (suF a b false).z, .bool (suF a b false).c, .bool (suF a b false).v]]) ∧ Below w.heap.size w w') := fun w x0 x1 x3 h => gcl_4 a b w a0 a1 b0 b1
  generalize suF a b false = F at *
  generalize hW : suW a b false = W at *
  obtain ⟨gn, gz, gc, gv⟩ := F
  try simp only at *
  clear a0 a1 b0 b1 hW
  go_enter Tryz.func82, Tryz.ntmps82
  go_wp2_with (go_at_call 103; refine Hid.out ?_)
  show Calls _ _ _ _ _
  refine (HO.out _).mono ?_
  rintro e w1 ⟨rfl, hS, hb⟩
  have R1 := (Bl.new _ _ _).below hb
  simp at R1
  have HW : Hid (Below w.heap.size w w1) := Below.step (Below.step (below_new _ _) (below_new _ _)) hb
  generalize ((w.alloc _).alloc _).heap.size = x0 at hS ⊢
  have hS : Hid (OpS _ _ _ _ _ _ _ _ _) := hS
  have hI := idx_5 (x0 + 1) (x0 + 1 + 1 + 1)
  generalize opsA (x0 + 1) (x0 + 1 + 1 + 1) = A at hI ⊢
  generalize x0 + 1 + 1 + 1 = x3 at hI hS
  generalize x0 + 1 = x1 at hI hS
  clear hb HO
  have R1 : Hid (Bl _ _ _ _) := R1
  go_wp2_with (go_at_call 120; refine Hid.out ?_)
  show Calls _ _ _ _ _
  refine (HC.out _ _ _ _ hS.out).mono ?_
  rintro e w' ⟨rfl, hb2⟩
  have R2 : Hid (Bl _ _ _ _) := (R1.out.below hb2).alloc (.cells #[.bool gn, .bool gz, .bool gc, .bool gv] 40)
  have N2 : Hid (Bl _ _ _ _) := Bl.new w' 40 [.bool gn, .bool gz, .bool gc, .bool gv]
  have HW2 : Hid (Below w.heap.size w (w'.alloc (.cells #[.bool gn, .bool gz, .bool gc, .bool gv] 40))) := Below.step (Below.step HW.out hb2) (below_new _ _)
  have hne : ¬ w'.heap.size = w.heap.size + 1 := by
    have := (R1.out.below hb2).lt
    omega
  clear R1 hS HW hb2 HC hI
  go_wp2_with fail
  generalize (w'.alloc _) = w2 at R2 N2 HW2 ⊢
  generalize w'.heap.size = nb at N2 hne ⊢
  obtain ⟨T1, T2, T0⟩ := put4 R2.out N2.out hne (.bool gn) (.bool gz) (.bool gc) (.bool gv)
  have T3 : Hid (Below _ _ _) := T0 w.heap.size w (by omega) HW2.out
  have T2 : Hid (Bl _ _ _ _) := T2.drew
  clear T0 T1
  obtain ⟨⟨c0, c1, c2, c3⟩, d0, d1, d2, d3⟩ := R2.out.four
  obtain ⟨⟨k0, k1, k2, k3⟩, l0, l1, l2, l3⟩ := N2.out.drew.four
  refine wp_region_held_drew (S := fun w' => w'.cell? ⟨nb, 0, none⟩ = some (.bool gn) ∧ w'.cell? ⟨nb, 1, none⟩ = some (.bool gz) ∧ w'.cell? ⟨nb, 2, none⟩ = some (.bool gc) ∧ w'.cell? ⟨nb, 3, none⟩ = some (.bool gv)) (by kernel_rfl) ⟨k0, k1, k2, k3⟩ (fun hHeld => ?_)
  refine wpAnyH_take (i := 0) (oi := { dst := some 33, op := Op.move (Operand.tmp 13), type := 22, pos := _, after := #[], guard := none }) (v := ?_) rfl (by kernel_rfl) (by kernel_rfl) (by kernel_rfl) (fun _ _ _ h => h) (Or.inl ⟨by rfl, ?_⟩) (by assumption) ?_
  rotate_left
  · (intro w hSw; (try dsimp only at hSw); go_simp; try with_reducible rfl)
  simp only [Act.put, List.setIfInBounds_toArray, List.set_cons_zero, List.set_cons_succ]
  refine wpAnyH_take (i := 1) (oi := { dst := some 34, op := Op.move (Operand.tmp 0), type := 3, pos := _, after := #[], guard := none }) (v := ?_) rfl (by kernel_rfl) (by kernel_rfl) (by kernel_rfl) (fun _ _ _ h => h) (Or.inl ⟨by rfl, ?_⟩) (by assumption) ?_
  rotate_left
  · (intro w hSw; (try dsimp only at hSw); go_simp; try with_reducible rfl)
  simp only [Act.put, List.setIfInBounds_toArray, List.set_cons_zero, List.set_cons_succ]
  refine wpAnyH_take (i := 2) (oi := { dst := some 35, op := Op.binOp BinOp.lss 3 (Operand.tmp 34) (Operand.const (Value.int IntKind.i64 9)) 3, type := 4, pos := _, after := #[{ on := 1, ground := Ground.data }], guard := none }) (v := ?_) rfl (by kernel_rfl) (by kernel_rfl) (by kernel_rfl) (fun _ _ _ h => h) (Or.inl ⟨by rfl, ?_⟩) (by assumption) ?_
  rotate_left
  · (intro w hSw; (try dsimp only at hSw); go_simp; try with_reducible rfl)
  simp only [Act.put, List.setIfInBounds_toArray, List.set_cons_zero, List.set_cons_succ]
  refine wpAnyH_take (i := 3) (oi := { dst := some 36, op := Op.move (Operand.tmp 35), type := 4, pos := _, after := #[{ on := 2, ground := Ground.data }], guard := none }) (v := ?_) rfl (by kernel_rfl) (by kernel_rfl) (by kernel_rfl) (fun _ _ _ h => h) (Or.inl ⟨by rfl, ?_⟩) (by assumption) ?_
  rotate_left
  · (intro w hSw; (try dsimp only at hSw); go_simp; try with_reducible rfl)
  simp only [Act.put, List.setIfInBounds_toArray, List.set_cons_zero, List.set_cons_succ]
  refine wpAnyH_take (i := 4) (oi := { dst := some 37, op := Op.move (Operand.tmp 0), type := 3, pos := _, after := #[{ on := 3, ground := Ground.guard }, { on := 8, ground := Ground.gcOnly Departure.lateStores }], guard := some (3, false) }) (v := undef) rfl (by kernel_rfl) (by kernel_rfl) (by kernel_rfl) (fun _ _ _ h => h) (Or.inr ⟨by rfl, rfl⟩) (by assumption) ?_
  simp only [Act.put, List.setIfInBounds_toArray, List.set_cons_zero, List.set_cons_succ]
  refine wpAnyH_take (i := 5) (oi := { dst := some 38, op := Op.binOp BinOp.gtr 3 (Operand.tmp 37) (Operand.const (Value.int IntKind.i64 12)) 3, type := 4, pos := _, after := #[{ on := 4, ground := Ground.data }, { on := 3, ground := Ground.guard }, { on := 8, ground := Ground.gcOnly Departure.lateStores }], guard := some (3, false) }) (v := undef) rfl (by kernel_rfl) (by kernel_rfl) (by kernel_rfl) (fun _ _ _ h => h) (Or.inr ⟨by rfl, rfl⟩) (by assumption) ?_
  simp only [Act.put, List.setIfInBounds_toArray, List.set_cons_zero, List.set_cons_succ]
  refine wpAnyH_take (i := 6) (oi := { dst := some 39, op := Op.pick (Operand.tmp 36) (Operand.const (Value.bool true)) (Operand.tmp 38), type := 4, pos := _, after := #[{ on := 3, ground := Ground.data }, { on := 5, ground := Ground.data }, { on := 8, ground := Ground.gcOnly Departure.lateStores }], guard := none }) (v := ?_) rfl (by kernel_rfl) (by kernel_rfl) (by kernel_rfl) (fun _ _ _ h => h) (Or.inl ⟨by rfl, ?_⟩) (by assumption) ?_
  rotate_left
  · (intro w hSw; (try dsimp only at hSw); go_simp; try with_reducible rfl)
  simp only [Act.put, List.setIfInBounds_toArray, List.set_cons_zero, List.set_cons_succ]
  refine wpAnyH_take (i := 7) (oi := { dst := some 40, op := Op.load 40 (Operand.tmp 14), type := 40, pos := _, after := #[{ on := 9, ground := Ground.gcOnly Departure.lateStores }], guard := none }) (v := ?_) rfl (by kernel_rfl) (by kernel_rfl) (by kernel_rfl) (fun _ _ _ h => h) (Or.inl ⟨by rfl, ?_⟩) (by assumption) ?_
  rotate_left
  · (intro w hSw; (try dsimp only at hSw); go_simp; try with_reducible rfl)
  simp only [Act.put, List.setIfInBounds_toArray, List.set_cons_zero, List.set_cons_succ]
  refine wpAnyH_take (i := 8) (oi := { dst := some 10, op := Op.assign (Operand.tmp 33), type := 22, pos := _, after := #[{ on := 0, ground := Ground.data }, { on := 3, ground := Ground.chain }, { on := 0, ground := Ground.phase }, { on := 1, ground := Ground.textOnly Departure.lateStores }, { on := 2, ground := Ground.textOnly Departure.lateStores }, { on := 3, ground := Ground.textOnly Departure.lateStores }, { on := 4, ground := Ground.textOnly Departure.lateStores }, { on := 5, ground := Ground.textOnly Departure.lateStores }, { on := 6, ground := Ground.textOnly Departure.lateStores }, { on := 7, ground := Ground.textOnly Departure.lateStores }], guard := none }) (v := ?_) rfl (by kernel_rfl) (by kernel_rfl) (by kernel_rfl) (fun _ _ _ h => h) (Or.inl ⟨by rfl, ?_⟩) (by assumption) ?_
  rotate_left
  · (intro w hSw; (try dsimp only at hSw); go_simp; try with_reducible rfl)
  simp only [Act.put, List.setIfInBounds_toArray, List.set_cons_zero, List.set_cons_succ]
  refine wpAnyH_take (i := 9) (oi := { dst := some 11, op := Op.assign (Operand.tmp 39), type := 4, pos := _, after := #[{ on := 6, ground := Ground.data }, { on := 8, ground := Ground.chain }, { on := 0, ground := Ground.phase }, { on := 1, ground := Ground.phase }, { on := 2, ground := Ground.phase }, { on := 3, ground := Ground.phase }, { on := 4, ground := Ground.phase }, { on := 5, ground := Ground.phase }, { on := 6, ground := Ground.phase }, { on := 7, ground := Ground.textOnly Departure.lateStores }, { on := 8, ground := Ground.phase }], guard := none }) (v := ?_) rfl (by kernel_rfl) (by kernel_rfl) (by kernel_rfl) (fun _ _ _ h => h) (Or.inl ⟨by rfl, ?_⟩) (by assumption) ?_
  rotate_left
  · (intro w hSw; (try dsimp only at hSw); go_simp; try with_reducible rfl)
  simp only [Act.put, List.setIfInBounds_toArray, List.set_cons_zero, List.set_cons_succ]
  refine wpAnyH_ready (rs := [10]) (by kernel_rfl) (by simp) ?_
  refine AllReadyH.cons (o := { dst := none, op := Op.store 40 (Operand.tmp 12) (Operand.tmp 40), type := 0, pos := _, after := #[{ on := 7, ground := Ground.data }, { on := 9, ground := Ground.chain }, { on := 0, ground := Ground.phase }, { on := 1, ground := Ground.phase }, { on := 2, ground := Ground.phase }, { on := 3, ground := Ground.phase }, { on := 4, ground := Ground.phase }, { on := 5, ground := Ground.phase }, { on := 6, ground := Ground.phase }, { on := 7, ground := Ground.phase }, { on := 8, ground := Ground.phase }, { on := 9, ground := Ground.phase }], guard := none }) rfl (fun K hK => ?_) AllReadyH.nil
  go_simp
  skip
  refine hK.out _ _ ?_ (fun hHeld => ?_)
  · ((try dsimp only); with_reducible exact T2.out.four.1)
  clear hK K
  try simp only [Act.put, List.setIfInBounds_toArray, List.set_cons_zero, List.set_cons_succ]
  refine wpAnyH_done (by kernel_rfl) ?_ _
  go_wp2_with fail
  exact bodyPost_ret (v := .tuple #[.int .u32 W, .bool true, .agg #[.bool gn, .bool gz, .bool gc, .bool gv]]) (by simp [results, Tryz.results82, go_sem, c0, c1, c2, c3]) rfl ⟨rfl, below_drew T3.out⟩
set_option maxRecDepth 100000 in
set_option maxHeartbeats 1000000 in
theorem gdo_6 (a b : Int) (sh fn fz fc fv : Bool) (w : World) (a0 : 0 ≤ a) (a1 : a < 4294967296) (b0 : 0 ≤ b) (b1 : b < 4294967296) :
    Calls Tryz.prog 82 #[.int .i64 6, .int .u32 a, .int .u32 b, .bool sh, .agg #[.bool fn, .bool fz, .bool fc, .bool fv]] w fun e w' => e = .returned (.tuple #[.int .u32 (suW a b fc), .bool true, .agg #[.bool (suF a b fc).n, .bool (suF a b fc).z, .bool (suF a b fc).c, .bool (suF a b fc).v]]) ∧ Below w.heap.size w w' := by
  have HO : Hid (∀ w, Calls Tryz.prog 103 #[.bool sh, .agg #[.bool fn, .bool fz, .bool fc, .bool fv]] w fun e w' => e = .returned (.agg (opsA (w.heap.size + 1) (w.heap.size + 1 + 1 + 1))) ∧ OpS w' w.heap.size (w.heap.size + 1) (w.heap.size + 1 + 1 + 1) sh fn fz fc fv ∧ Below w.heap.size w w') := fun w => gops_any sh fn fz fc fv w
  have HC : Hid (∀ w x0 x1 x3, OpS w x0 x1 x3 sh fn fz fc fv → Calls Tryz.prog 124 #[.int .u32 a, .int .u32 b, .pointer (some ⟨x1, 0, none⟩)] w fun e w' => e = .returned (.tuple #[.int .u32 (suW a b fc), .agg #[.bool (suF a b fc).n, .bool (suF a b fc).z, .bool (suF a b fc).c, .bool (suF a b fc).v]]) ∧ Below w.heap.size w w') := fun w x0 x1 x3 h => gcl_7 a b x0 x1 x3 sh fn fz fc fv w a0 a1 b0 b1 h
  generalize suF a b fc = F at *
  generalize hW : suW a b fc = W at *
  obtain ⟨gn, gz, gc, gv⟩ := F
  try simp only at *
  clear a0 a1 b0 b1 hW
  go_enter Tryz.func82, Tryz.ntmps82
  go_wp2_with (go_at_call 103; refine Hid.out ?_)
  show Calls _ _ _ _ _
  refine (HO.out _).mono ?_
  rintro e w1 ⟨rfl, hS, hb⟩
  have R1 := (Bl.new _ _ _).below hb
  simp at R1
  have HW : Hid (Below w.heap.size w w1) := Below.step (Below.step (below_new _ _) (below_new _ _)) hb
  generalize ((w.alloc _).alloc _).heap.size = x0 at hS ⊢
  have hS : Hid (OpS _ _ _ _ _ _ _ _ _) := hS
  have hI := idx_6 (x0 + 1) (x0 + 1 + 1 + 1)
  generalize opsA (x0 + 1) (x0 + 1 + 1 + 1) = A at hI ⊢
  generalize x0 + 1 + 1 + 1 = x3 at hI hS
  generalize x0 + 1 = x1 at hI hS
  clear hb HO
  have R1 : Hid (Bl _ _ _ _) := R1
  go_wp2_with (go_at_call 124; refine Hid.out ?_)
  show Calls _ _ _ _ _
  refine (HC.out _ _ _ _ hS.out).mono ?_
  rintro e w' ⟨rfl, hb2⟩
  have R2 : Hid (Bl _ _ _ _) := (R1.out.below hb2).alloc (.cells #[.bool gn, .bool gz, .bool gc, .bool gv] 40)
  have N2 : Hid (Bl _ _ _ _) := Bl.new w' 40 [.bool gn, .bool gz, .bool gc, .bool gv]
  have HW2 : Hid (Below w.heap.size w (w'.alloc (.cells #[.bool gn, .bool gz, .bool gc, .bool gv] 40))) := Below.step (Below.step HW.out hb2) (below_new _ _)
  have hne : ¬ w'.heap.size = w.heap.size + 1 := by
    have := (R1.out.below hb2).lt
    omega
  clear R1 hS HW hb2 HC hI
  go_wp2_with fail
  generalize (w'.alloc _) = w2 at R2 N2 HW2 ⊢
  generalize w'.heap.size = nb at N2 hne ⊢
  obtain ⟨T1, T2, T0⟩ := put4 R2.out N2.out hne (.bool gn) (.bool gz) (.bool gc) (.bool gv)
  have T3 : Hid (Below _ _ _) := T0 w.heap.size w (by omega) HW2.out
  have T2 : Hid (Bl _ _ _ _) := T2.drew
  clear T0 T1
  obtain ⟨⟨c0, c1, c2, c3⟩, d0, d1, d2, d3⟩ := R2.out.four
  obtain ⟨⟨k0, k1, k2, k3⟩, l0, l1, l2, l3⟩ := N2.out.drew.four
  refine wp_region_held_drew (S := fun w' => w'.cell? ⟨nb, 0, none⟩ = some (.bool gn) ∧ w'.cell? ⟨nb, 1, none⟩ = some (.bool gz) ∧ w'.cell? ⟨nb, 2, none⟩ = some (.bool gc) ∧ w'.cell? ⟨nb, 3, none⟩ = some (.bool gv)) (by kernel_rfl) ⟨k0, k1, k2, k3⟩ (fun hHeld => ?_)
  refine wpAnyH_take (i := 0) (oi := { dst := some 33, op := Op.move (Operand.tmp 13), type := 22, pos := _, after := #[], guard := none }) (v := ?_) rfl (by kernel_rfl) (by kernel_rfl) (by kernel_rfl) (fun _ _ _ h => h) (Or.inl ⟨by rfl, ?_⟩) (by assumption) ?_
  rotate_left
  · (intro w hSw; (try dsimp only at hSw); go_simp; try with_reducible rfl)
  simp only [Act.put, List.setIfInBounds_toArray, List.set_cons_zero, List.set_cons_succ]
  refine wpAnyH_take (i := 1) (oi := { dst := some 34, op := Op.move (Operand.tmp 0), type := 3, pos := _, after := #[], guard := none }) (v := ?_) rfl (by kernel_rfl) (by kernel_rfl) (by kernel_rfl) (fun _ _ _ h => h) (Or.inl ⟨by rfl, ?_⟩) (by assumption) ?_
  rotate_left
  · (intro w hSw; (try dsimp only at hSw); go_simp; try with_reducible rfl)
  simp only [Act.put, List.setIfInBounds_toArray, List.set_cons_zero, List.set_cons_succ]
  refine wpAnyH_take (i := 2) (oi := { dst := some 35, op := Op.binOp BinOp.lss 3 (Operand.tmp 34) (Operand.const (Value.int IntKind.i64 9)) 3, type := 4, pos := _, after := #[{ on := 1, ground := Ground.data }], guard := none }) (v := ?_) rfl (by kernel_rfl) (by kernel_rfl) (by kernel_rfl) (fun _ _ _ h => h) (Or.inl ⟨by rfl, ?_⟩) (by assumption) ?_
  rotate_left
  · (intro w hSw; (try dsimp only at hSw); go_simp; try with_reducible rfl)
  simp only [Act.put, List.setIfInBounds_toArray, List.set_cons_zero, List.set_cons_succ]
  refine wpAnyH_take (i := 3) (oi := { dst := some 36, op := Op.move (Operand.tmp 35), type := 4, pos := _, after := #[{ on := 2, ground := Ground.data }], guard := none }) (v := ?_) rfl (by kernel_rfl) (by kernel_rfl) (by kernel_rfl) (fun _ _ _ h => h) (Or.inl ⟨by rfl, ?_⟩) (by assumption) ?_
  rotate_left
  · (intro w hSw; (try dsimp only at hSw); go_simp; try with_reducible rfl)
  simp only [Act.put, List.setIfInBounds_toArray, List.set_cons_zero, List.set_cons_succ]
  refine wpAnyH_take (i := 4) (oi := { dst := some 37, op := Op.move (Operand.tmp 0), type := 3, pos := _, after := #[{ on := 3, ground := Ground.guard }, { on := 8, ground := Ground.gcOnly Departure.lateStores }], guard := some (3, false) }) (v := undef) rfl (by kernel_rfl) (by kernel_rfl) (by kernel_rfl) (fun _ _ _ h => h) (Or.inr ⟨by rfl, rfl⟩) (by assumption) ?_
  simp only [Act.put, List.setIfInBounds_toArray, List.set_cons_zero, List.set_cons_succ]
  refine wpAnyH_take (i := 5) (oi := { dst := some 38, op := Op.binOp BinOp.gtr 3 (Operand.tmp 37) (Operand.const (Value.int IntKind.i64 12)) 3, type := 4, pos := _, after := #[{ on := 4, ground := Ground.data }, { on := 3, ground := Ground.guard }, { on := 8, ground := Ground.gcOnly Departure.lateStores }], guard := some (3, false) }) (v := undef) rfl (by kernel_rfl) (by kernel_rfl) (by kernel_rfl) (fun _ _ _ h => h) (Or.inr ⟨by rfl, rfl⟩) (by assumption) ?_
  simp only [Act.put, List.setIfInBounds_toArray, List.set_cons_zero, List.set_cons_succ]
  refine wpAnyH_take (i := 6) (oi := { dst := some 39, op := Op.pick (Operand.tmp 36) (Operand.const (Value.bool true)) (Operand.tmp 38), type := 4, pos := _, after := #[{ on := 3, ground := Ground.data }, { on := 5, ground := Ground.data }, { on := 8, ground := Ground.gcOnly Departure.lateStores }], guard := none }) (v := ?_) rfl (by kernel_rfl) (by kernel_rfl) (by kernel_rfl) (fun _ _ _ h => h) (Or.inl ⟨by rfl, ?_⟩) (by assumption) ?_
  rotate_left
  · (intro w hSw; (try dsimp only at hSw); go_simp; try with_reducible rfl)
  simp only [Act.put, List.setIfInBounds_toArray, List.set_cons_zero, List.set_cons_succ]
  refine wpAnyH_take (i := 7) (oi := { dst := some 40, op := Op.load 40 (Operand.tmp 14), type := 40, pos := _, after := #[{ on := 9, ground := Ground.gcOnly Departure.lateStores }], guard := none }) (v := ?_) rfl (by kernel_rfl) (by kernel_rfl) (by kernel_rfl) (fun _ _ _ h => h) (Or.inl ⟨by rfl, ?_⟩) (by assumption) ?_
  rotate_left
  · (intro w hSw; (try dsimp only at hSw); go_simp; try with_reducible rfl)
  simp only [Act.put, List.setIfInBounds_toArray, List.set_cons_zero, List.set_cons_succ]
  refine wpAnyH_take (i := 8) (oi := { dst := some 10, op := Op.assign (Operand.tmp 33), type := 22, pos := _, after := #[{ on := 0, ground := Ground.data }, { on := 3, ground := Ground.chain }, { on := 0, ground := Ground.phase }, { on := 1, ground := Ground.textOnly Departure.lateStores }, { on := 2, ground := Ground.textOnly Departure.lateStores }, { on := 3, ground := Ground.textOnly Departure.lateStores }, { on := 4, ground := Ground.textOnly Departure.lateStores }, { on := 5, ground := Ground.textOnly Departure.lateStores }, { on := 6, ground := Ground.textOnly Departure.lateStores }, { on := 7, ground := Ground.textOnly Departure.lateStores }], guard := none }) (v := ?_) rfl (by kernel_rfl) (by kernel_rfl) (by kernel_rfl) (fun _ _ _ h => h) (Or.inl ⟨by rfl, ?_⟩) (by assumption) ?_
  rotate_left
  · (intro w hSw; (try dsimp only at hSw); go_simp; try with_reducible rfl)
  simp only [Act.put, List.setIfInBounds_toArray, List.set_cons_zero, List.set_cons_succ]
  refine wpAnyH_take (i := 9) (oi := { dst := some 11, op := Op.assign (Operand.tmp 39), type := 4, pos := _, after := #[{ on := 6, ground := Ground.data }, { on := 8, ground := Ground.chain }, { on := 0, ground := Ground.phase }, { on := 1, ground := Ground.phase }, { on := 2, ground := Ground.phase }, { on := 3, ground := Ground.phase }, { on := 4, ground := Ground.phase }, { on := 5, ground := Ground.phase }, { on := 6, ground := Ground.phase }, { on := 7, ground := Ground.textOnly Departure.lateStores }, { on := 8, ground := Ground.phase }], guard := none }) (v := ?_) rfl (by kernel_rfl) (by kernel_rfl) (by kernel_rfl) (fun _ _ _ h => h) (Or.inl ⟨by rfl, ?_⟩) (by assumption) ?_
  rotate_left
  · (intro w hSw; (try dsimp only at hSw); go_simp; try with_reducible rfl)
  simp only [Act.put, List.setIfInBounds_toArray, List.set_cons_zero, List.set_cons_succ]
  refine wpAnyH_ready (rs := [10]) (by kernel_rfl) (by simp) ?_
  refine AllReadyH.cons (o := { dst := none, op := Op.store 40 (Operand.tmp 12) (Operand.tmp 40), type := 0, pos := _, after := #[{ on := 7, ground := Ground.data }, { on := 9, ground := Ground.chain }, { on := 0, ground := Ground.phase }, { on := 1, ground := Ground.phase }, { on := 2, ground := Ground.phase }, { on := 3, ground := Ground.phase }, { on := 4, ground := Ground.phase }, { on := 5, ground := Ground.phase }, { on := 6, ground := Ground.phase }, { on := 7, ground := Ground.phase }, { on := 8, ground := Ground.phase }, { on := 9, ground := Ground.phase }], guard := none }) rfl (fun K hK => ?_) AllReadyH.nil
  go_simp
  skip
  refine hK.out _ _ ?_ (fun hHeld => ?_)
  · ((try dsimp only); with_reducible exact T2.out.four.1)
  clear hK K
  try simp only [Act.put, List.setIfInBounds_toArray, List.set_cons_zero, List.set_cons_succ]
  refine wpAnyH_done (by kernel_rfl) ?_ _
  go_wp2_with fail
  exact bodyPost_ret (v := .tuple #[.int .u32 W, .bool true, .agg #[.bool gn, .bool gz, .bool gc, .bool gv]]) (by simp [results, Tryz.results82, go_sem, c0, c1, c2, c3]) rfl ⟨rfl, below_drew T3.out⟩
set_option maxRecDepth 100000 in
set_option maxHeartbeats 1000000 in
theorem gdo_7 (a b : Int) (sh fn fz fc fv : Bool) (w : World) (a0 : 0 ≤ a) (a1 : a < 4294967296) (b0 : 0 ≤ b) (b1 : b < 4294967296) :
    Calls Tryz.prog 82 #[.int .i64 7, .int .u32 a, .int .u32 b, .bool sh, .agg #[.bool fn, .bool fz, .bool fc, .bool fv]] w fun e w' => e = .returned (.tuple #[.int .u32 (suW a (nt b) fc), .bool true, .agg #[.bool (suF a (nt b) fc).n, .bool (suF a (nt b) fc).z, .bool (suF a (nt b) fc).c, .bool (suF a (nt b) fc).v]]) ∧ Below w.heap.size w w' := by
  have HO : Hid (∀ w, Calls Tryz.prog 103 #[.bool sh, .agg #[.bool fn, .bool fz, .bool fc, .bool fv]] w fun e w' => e = .returned (.agg (opsA (w.heap.size + 1) (w.heap.size + 1 + 1 + 1))) ∧ OpS w' w.heap.size (w.heap.size + 1) (w.heap.size + 1 + 1 + 1) sh fn fz fc fv ∧ Below w.heap.size w w') := fun w => gops_any sh fn fz fc fv w
  have HC : Hid (∀ w x0 x1 x3, OpS w x0 x1 x3 sh fn fz fc fv → Calls Tryz.prog 125 #[.int .u32 a, .int .u32 b, .pointer (some ⟨x1, 0, none⟩)] w fun e w' => e = .returned (.tuple #[.int .u32 (suW a (nt b) fc), .agg #[.bool (suF a (nt b) fc).n, .bool (suF a (nt b) fc).z, .bool (suF a (nt b) fc).c, .bool (suF a (nt b) fc).v]]) ∧ Below w.heap.size w w') := fun w x0 x1 x3 h => gcl_8 a b x0 x1 x3 sh fn fz fc fv w a0 a1 b0 b1 h
  generalize suF a (nt b) fc = F at *
  generalize hW : suW a (nt b) fc = W at *
  obtain ⟨gn, gz, gc, gv⟩ := F
  try simp only at *
  clear a0 a1 b0 b1 hW
  go_enter Tryz.func82, Tryz.ntmps82
  go_wp2_with (go_at_call 103; refine Hid.out ?_)
  show Calls _ _ _ _ _
  refine (HO.out _).mono ?_
  rintro e w1 ⟨rfl, hS, hb⟩
  have R1 := (Bl.new _ _ _).below hb
  simp at R1
  have HW : Hid (Below w.heap.size w w1) := Below.step (Below.step (below_new _ _) (below_new _ _)) hb
  generalize ((w.alloc _).alloc _).heap.size = x0 at hS ⊢
  have hS : Hid (OpS _ _ _ _ _ _ _ _ _) := hS
  have hI := idx_7 (x0 + 1) (x0 + 1 + 1 + 1)
  generalize opsA (x0 + 1) (x0 + 1 + 1 + 1) = A at hI ⊢
  generalize x0 + 1 + 1 + 1 = x3 at hI hS
  generalize x0 + 1 = x1 at hI hS
  clear hb HO
  have R1 : Hid (Bl _ _ _ _) := R1
  go_wp2_with (go_at_call 125; refine Hid.out ?_)
  show Calls _ _ _ _ _
  refine (HC.out _ _ _ _ hS.out).mono ?_
  rintro e w' ⟨rfl, hb2⟩
  have R2 : Hid (Bl _ _ _ _) := (R1.out.below hb2).alloc (.cells #[.bool gn, .bool gz, .bool gc, .bool gv] 40)
  have N2 : Hid (Bl _ _ _ _) := Bl.new w' 40 [.bool gn, .bool gz, .bool gc, .bool gv]
  have HW2 : Hid (Below w.heap.size w (w'.alloc (.cells #[.bool gn, .bool gz, .bool gc, .bool gv] 40))) := Below.step (Below.step HW.out hb2) (below_new _ _)
  have hne : ¬ w'.heap.size = w.heap.size + 1 := by
    have := (R1.out.below hb2).lt
    omega
  clear R1 hS HW hb2 HC hI
  go_wp2_with fail
  generalize (w'.alloc _) = w2 at R2 N2 HW2 ⊢
  generalize w'.heap.size = nb at N2 hne ⊢
  obtain ⟨T1, T2, T0⟩ := put4 R2.out N2.out hne (.bool gn) (.bool gz) (.bool gc) (.bool gv)
  have T3 : Hid (Below _ _ _) := T0 w.heap.size w (by omega) HW2.out
  have T2 : Hid (Bl _ _ _ _) := T2.drew
  clear T0 T1
  obtain ⟨⟨c0, c1, c2, c3⟩, d0, d1, d2, d3⟩ := R2.out.four
  obtain ⟨⟨k0, k1, k2, k3⟩, l0, l1, l2, l3⟩ := N2.out.drew.four
  refine wp_region_held_drew (S := fun w' => w'.cell? ⟨nb, 0, none⟩ = some (.bool gn) ∧ w'.cell? ⟨nb, 1, none⟩ = some (.bool gz) ∧ w'.cell? ⟨nb, 2, none⟩ = some (.bool gc) ∧ w'.cell? ⟨nb, 3, none⟩ = some (.bool gv)) (by kernel_rfl) ⟨k0, k1, k2, k3⟩ (fun hHeld => ?_)
  refine wpAnyH_take (i := 0) (oi := { dst := some 33, op := Op.move (Operand.tmp 13), type := 22, pos := _, after := #[], guard := none }) (v := ?_) rfl (by kernel_rfl) (by kernel_rfl) (by kernel_rfl) (fun _ _ _ h => h) (Or.inl ⟨by rfl, ?_⟩) (by assumption) ?_
  rotate_left
  · (intro w hSw; (try dsimp only at hSw); go_simp; try with_reducible rfl)
  simp only [Act.put, List.setIfInBounds_toArray, List.set_cons_zero, List.set_cons_succ]
  refine wpAnyH_take (i := 1) (oi := { dst := some 34, op := Op.move (Operand.tmp 0), type := 3, pos := _, after := #[], guard := none }) (v := ?_) rfl (by kernel_rfl) (by kernel_rfl) (by kernel_rfl) (fun _ _ _ h => h) (Or.inl ⟨by rfl, ?_⟩) (by assumption) ?_
  rotate_left
  · (intro w hSw; (try dsimp only at hSw); go_simp; try with_reducible rfl)
  simp only [Act.put, List.setIfInBounds_toArray, List.set_cons_zero, List.set_cons_succ]
  refine wpAnyH_take (i := 2) (oi := { dst := some 35, op := Op.binOp BinOp.lss 3 (Operand.tmp 34) (Operand.const (Value.int IntKind.i64 9)) 3, type := 4, pos := _, after := #[{ on := 1, ground := Ground.data }], guard := none }) (v := ?_) rfl (by kernel_rfl) (by kernel_rfl) (by kernel_rfl) (fun _ _ _ h => h) (Or.inl ⟨by rfl, ?_⟩) (by assumption) ?_
  rotate_left
  · (intro w hSw; (try dsimp only at hSw); go_simp; try with_reducible rfl)
  simp only [Act.put, List.setIfInBounds_toArray, List.set_cons_zero, List.set_cons_succ]
  refine wpAnyH_take (i := 3) (oi := { dst := some 36, op := Op.move (Operand.tmp 35), type := 4, pos := _, after := #[{ on := 2, ground := Ground.data }], guard := none }) (v := ?_) rfl (by kernel_rfl) (by kernel_rfl) (by kernel_rfl) (fun _ _ _ h => h) (Or.inl ⟨by rfl, ?_⟩) (by assumption) ?_
  rotate_left
  · (intro w hSw; (try dsimp only at hSw); go_simp; try with_reducible rfl)
  simp only [Act.put, List.setIfInBounds_toArray, List.set_cons_zero, List.set_cons_succ]
  refine wpAnyH_take (i := 4) (oi := { dst := some 37, op := Op.move (Operand.tmp 0), type := 3, pos := _, after := #[{ on := 3, ground := Ground.guard }, { on := 8, ground := Ground.gcOnly Departure.lateStores }], guard := some (3, false) }) (v := undef) rfl (by kernel_rfl) (by kernel_rfl) (by kernel_rfl) (fun _ _ _ h => h) (Or.inr ⟨by rfl, rfl⟩) (by assumption) ?_
  simp only [Act.put, List.setIfInBounds_toArray, List.set_cons_zero, List.set_cons_succ]
  refine wpAnyH_take (i := 5) (oi := { dst := some 38, op := Op.binOp BinOp.gtr 3 (Operand.tmp 37) (Operand.const (Value.int IntKind.i64 12)) 3, type := 4, pos := _, after := #[{ on := 4, ground := Ground.data }, { on := 3, ground := Ground.guard }, { on := 8, ground := Ground.gcOnly Departure.lateStores }], guard := some (3, false) }) (v := undef) rfl (by kernel_rfl) (by kernel_rfl) (by kernel_rfl) (fun _ _ _ h => h) (Or.inr ⟨by rfl, rfl⟩) (by assumption) ?_
  simp only [Act.put, List.setIfInBounds_toArray, List.set_cons_zero, List.set_cons_succ]
  refine wpAnyH_take (i := 6) (oi := { dst := some 39, op := Op.pick (Operand.tmp 36) (Operand.const (Value.bool true)) (Operand.tmp 38), type := 4, pos := _, after := #[{ on := 3, ground := Ground.data }, { on := 5, ground := Ground.data }, { on := 8, ground := Ground.gcOnly Departure.lateStores }], guard := none }) (v := ?_) rfl (by kernel_rfl) (by kernel_rfl) (by kernel_rfl) (fun _ _ _ h => h) (Or.inl ⟨by rfl, ?_⟩) (by assumption) ?_
  rotate_left
  · (intro w hSw; (try dsimp only at hSw); go_simp; try with_reducible rfl)
  simp only [Act.put, List.setIfInBounds_toArray, List.set_cons_zero, List.set_cons_succ]
  refine wpAnyH_take (i := 7) (oi := { dst := some 40, op := Op.load 40 (Operand.tmp 14), type := 40, pos := _, after := #[{ on := 9, ground := Ground.gcOnly Departure.lateStores }], guard := none }) (v := ?_) rfl (by kernel_rfl) (by kernel_rfl) (by kernel_rfl) (fun _ _ _ h => h) (Or.inl ⟨by rfl, ?_⟩) (by assumption) ?_
  rotate_left
  · (intro w hSw; (try dsimp only at hSw); go_simp; try with_reducible rfl)
  simp only [Act.put, List.setIfInBounds_toArray, List.set_cons_zero, List.set_cons_succ]
  refine wpAnyH_take (i := 8) (oi := { dst := some 10, op := Op.assign (Operand.tmp 33), type := 22, pos := _, after := #[{ on := 0, ground := Ground.data }, { on := 3, ground := Ground.chain }, { on := 0, ground := Ground.phase }, { on := 1, ground := Ground.textOnly Departure.lateStores }, { on := 2, ground := Ground.textOnly Departure.lateStores }, { on := 3, ground := Ground.textOnly Departure.lateStores }, { on := 4, ground := Ground.textOnly Departure.lateStores }, { on := 5, ground := Ground.textOnly Departure.lateStores }, { on := 6, ground := Ground.textOnly Departure.lateStores }, { on := 7, ground := Ground.textOnly Departure.lateStores }], guard := none }) (v := ?_) rfl (by kernel_rfl) (by kernel_rfl) (by kernel_rfl) (fun _ _ _ h => h) (Or.inl ⟨by rfl, ?_⟩) (by assumption) ?_
  rotate_left
  · (intro w hSw; (try dsimp only at hSw); go_simp; try with_reducible rfl)
  simp only [Act.put, List.setIfInBounds_toArray, List.set_cons_zero, List.set_cons_succ]
  refine wpAnyH_take (i := 9) (oi := { dst := some 11, op := Op.assign (Operand.tmp 39), type := 4, pos := _, after := #[{ on := 6, ground := Ground.data }, { on := 8, ground := Ground.chain }, { on := 0, ground := Ground.phase }, { on := 1, ground := Ground.phase }, { on := 2, ground := Ground.phase }, { on := 3, ground := Ground.phase }, { on := 4, ground := Ground.phase }, { on := 5, ground := Ground.phase }, { on := 6, ground := Ground.phase }, { on := 7, ground := Ground.textOnly Departure.lateStores }, { on := 8, ground := Ground.phase }], guard := none }) (v := ?_) rfl (by kernel_rfl) (by kernel_rfl) (by kernel_rfl) (fun _ _ _ h => h) (Or.inl ⟨by rfl, ?_⟩) (by assumption) ?_
  rotate_left
  · (intro w hSw; (try dsimp only at hSw); go_simp; try with_reducible rfl)
  simp only [Act.put, List.setIfInBounds_toArray, List.set_cons_zero, List.set_cons_succ]
  refine wpAnyH_ready (rs := [10]) (by kernel_rfl) (by simp) ?_
  refine AllReadyH.cons (o := { dst := none, op := Op.store 40 (Operand.tmp 12) (Operand.tmp 40), type := 0, pos := _, after := #[{ on := 7, ground := Ground.data }, { on := 9, ground := Ground.chain }, { on := 0, ground := Ground.phase }, { on := 1, ground := Ground.phase }, { on := 2, ground := Ground.phase }, { on := 3, ground := Ground.phase }, { on := 4, ground := Ground.phase }, { on := 5, ground := Ground.phase }, { on := 6, ground := Ground.phase }, { on := 7, ground := Ground.phase }, { on := 8, ground := Ground.phase }, { on := 9, ground := Ground.phase }], guard := none }) rfl (fun K hK => ?_) AllReadyH.nil
  go_simp
  skip
  refine hK.out _ _ ?_ (fun hHeld => ?_)
  · ((try dsimp only); with_reducible exact T2.out.four.1)
  clear hK K
  try simp only [Act.put, List.setIfInBounds_toArray, List.set_cons_zero, List.set_cons_succ]
  refine wpAnyH_done (by kernel_rfl) ?_ _
  go_wp2_with fail
  exact bodyPost_ret (v := .tuple #[.int .u32 W, .bool true, .agg #[.bool gn, .bool gz, .bool gc, .bool gv]]) (by simp [results, Tryz.results82, go_sem, c0, c1, c2, c3]) rfl ⟨rfl, below_drew T3.out⟩
set_option maxRecDepth 100000 in
set_option maxHeartbeats 1000000 in
theorem gdo_8 (a b : Int) (sh fn fz fc fv : Bool) (w : World) (a0 : 0 ≤ a) (a1 : a < 4294967296) (b0 : 0 ≤ b) (b1 : b < 4294967296) :
    Calls Tryz.prog 82 #[.int .i64 8, .int .u32 a, .int .u32 b, .bool sh, .agg #[.bool fn, .bool fz, .bool fc, .bool fv]] w fun e w' => e = .returned (.tuple #[.int .u32 (suW (nt a) b fc), .bool true, .agg #[.bool (suF (nt a) b fc).n, .bool (suF (nt a) b fc).z, .bool (suF (nt a) b fc).c, .bool (suF (nt a) b fc).v]]) ∧ Below w.heap.size w w' := by
  have HO : Hid (∀ w, Calls Tryz.prog 103 #[.bool sh, .agg #[.bool fn, .bool fz, .bool fc, .bool fv]] w fun e w' => e = .returned (.agg (opsA (w.heap.size + 1) (w.heap.size + 1 + 1 + 1))) ∧ OpS w' w.heap.size (w.heap.size + 1) (w.heap.size + 1 + 1 + 1) sh fn fz fc fv ∧ Below w.heap.size w w') := fun w => gops_any sh fn fz fc fv w
  have HC : Hid (∀ w x0 x1 x3, OpS w x0 x1 x3 sh fn fz fc fv → Calls Tryz.prog 126 #[.int .u32 a, .int .u32 b, .pointer (some ⟨x1, 0, none⟩)] w fun e w' => e = .returned (.tuple #[.int .u32 (suW (nt a) b fc), .agg #[.bool (suF (nt a) b fc).n, .bool (suF (nt a) b fc).z, .bool (suF (nt a) b fc).c, .bool (suF (nt a) b fc).v]]) ∧ Below w.heap.size w w') := fun w x0 x1 x3 h => gcl_9 a b x0 x1 x3 sh fn fz fc fv w a0 a1 b0 b1 h
  generalize suF (nt a) b fc = F at *
  generalize hW : suW (nt a) b fc = W at *
  obtain ⟨gn, gz, gc, gv⟩ := F
  try simp only at *
  clear a0 a1 b0 b1 hW
  go_enter Tryz.func82, Tryz.ntmps82
  go_wp2_with (go_at_call 103; refine Hid.out ?_)
  show Calls _ _ _ _ _
  refine (HO.out _).mono ?_
  rintro e w1 ⟨rfl, hS, hb⟩
  have R1 := (Bl.new _ _ _).below hb
  simp at R1
  have HW : Hid (Below w.heap.size w w1) := Below.step (Below.step (below_new _ _) (below_new _ _)) hb
  generalize ((w.alloc _).alloc _).heap.size = x0 at hS ⊢
  have hS : Hid (OpS _ _ _ _ _ _ _ _ _) := hS
  have hI := idx_8 (x0 + 1) (x0 + 1 + 1 + 1)
  generalize opsA (x0 + 1) (x0 + 1 + 1 + 1) = A at hI ⊢
  generalize x0 + 1 + 1 + 1 = x3 at hI hS
  generalize x0 + 1 = x1 at hI hS
  clear hb HO
  have R1 : Hid (Bl _ _ _ _) := R1
  go_wp2_with (go_at_call 126; refine Hid.out ?_)
  show Calls _ _ _ _ _
  refine (HC.out _ _ _ _ hS.out).mono ?_
  rintro e w' ⟨rfl, hb2⟩
  have R2 : Hid (Bl _ _ _ _) := (R1.out.below hb2).alloc (.cells #[.bool gn, .bool gz, .bool gc, .bool gv] 40)
  have N2 : Hid (Bl _ _ _ _) := Bl.new w' 40 [.bool gn, .bool gz, .bool gc, .bool gv]
  have HW2 : Hid (Below w.heap.size w (w'.alloc (.cells #[.bool gn, .bool gz, .bool gc, .bool gv] 40))) := Below.step (Below.step HW.out hb2) (below_new _ _)
  have hne : ¬ w'.heap.size = w.heap.size + 1 := by
    have := (R1.out.below hb2).lt
    omega
  clear R1 hS HW hb2 HC hI
  go_wp2_with fail
  generalize (w'.alloc _) = w2 at R2 N2 HW2 ⊢
  generalize w'.heap.size = nb at N2 hne ⊢
  obtain ⟨T1, T2, T0⟩ := put4 R2.out N2.out hne (.bool gn) (.bool gz) (.bool gc) (.bool gv)
  have T3 : Hid (Below _ _ _) := T0 w.heap.size w (by omega) HW2.out
  have T2 : Hid (Bl _ _ _ _) := T2.drew
  clear T0 T1
  obtain ⟨⟨c0, c1, c2, c3⟩, d0, d1, d2, d3⟩ := R2.out.four
  obtain ⟨⟨k0, k1, k2, k3⟩, l0, l1, l2, l3⟩ := N2.out.drew.four
  refine wp_region_held_drew (S := fun w' => w'.cell? ⟨nb, 0, none⟩ = some (.bool gn) ∧ w'.cell? ⟨nb, 1, none⟩ = some (.bool gz) ∧ w'.cell? ⟨nb, 2, none⟩ = some (.bool gc) ∧ w'.cell? ⟨nb, 3, none⟩ = some (.bool gv)) (by kernel_rfl) ⟨k0, k1, k2, k3⟩ (fun hHeld => ?_)
  refine wpAnyH_take (i := 0) (oi := { dst := some 33, op := Op.move (Operand.tmp 13), type := 22, pos := _, after := #[], guard := none }) (v := ?_) rfl (by kernel_rfl) (by kernel_rfl) (by kernel_rfl) (fun _ _ _ h => h) (Or.inl ⟨by rfl, ?_⟩) (by assumption) ?_
  rotate_left
  · (intro w hSw; (try dsimp only at hSw); go_simp; try with_reducible rfl)
  simp only [Act.put, List.setIfInBounds_toArray, List.set_cons_zero, List.set_cons_succ]
  refine wpAnyH_take (i := 1) (oi := { dst := some 34, op := Op.move (Operand.tmp 0), type := 3, pos := _, after := #[], guard := none }) (v := ?_) rfl (by kernel_rfl) (by kernel_rfl) (by kernel_rfl) (fun _ _ _ h => h) (Or.inl ⟨by rfl, ?_⟩) (by assumption) ?_
  rotate_left
  · (intro w hSw; (try dsimp only at hSw); go_simp; try with_reducible rfl)
  simp only [Act.put, List.setIfInBounds_toArray, List.set_cons_zero, List.set_cons_succ]
  refine wpAnyH_take (i := 2) (oi := { dst := some 35, op := Op.binOp BinOp.lss 3 (Operand.tmp 34) (Operand.const (Value.int IntKind.i64 9)) 3, type := 4, pos := _, after := #[{ on := 1, ground := Ground.data }], guard := none }) (v := ?_) rfl (by kernel_rfl) (by kernel_rfl) (by kernel_rfl) (fun _ _ _ h => h) (Or.inl ⟨by rfl, ?_⟩) (by assumption) ?_
  rotate_left
  · (intro w hSw; (try dsimp only at hSw); go_simp; try with_reducible rfl)
  simp only [Act.put, List.setIfInBounds_toArray, List.set_cons_zero, List.set_cons_succ]
  refine wpAnyH_take (i := 3) (oi := { dst := some 36, op := Op.move (Operand.tmp 35), type := 4, pos := _, after := #[{ on := 2, ground := Ground.data }], guard := none }) (v := ?_) rfl (by kernel_rfl) (by kernel_rfl) (by kernel_rfl) (fun _ _ _ h => h) (Or.inl ⟨by rfl, ?_⟩) (by assumption) ?_
  rotate_left
  · (intro w hSw; (try dsimp only at hSw); go_simp; try with_reducible rfl)
  simp only [Act.put, List.setIfInBounds_toArray, List.set_cons_zero, List.set_cons_succ]
  refine wpAnyH_take (i := 4) (oi := { dst := some 37, op := Op.move (Operand.tmp 0), type := 3, pos := _, after := #[{ on := 3, ground := Ground.guard }, { on := 8, ground := Ground.gcOnly Departure.lateStores }], guard := some (3, false) }) (v := undef) rfl (by kernel_rfl) (by kernel_rfl) (by kernel_rfl) (fun _ _ _ h => h) (Or.inr ⟨by rfl, rfl⟩) (by assumption) ?_
  simp only [Act.put, List.setIfInBounds_toArray, List.set_cons_zero, List.set_cons_succ]
  refine wpAnyH_take (i := 5) (oi := { dst := some 38, op := Op.binOp BinOp.gtr 3 (Operand.tmp 37) (Operand.const (Value.int IntKind.i64 12)) 3, type := 4, pos := _, after := #[{ on := 4, ground := Ground.data }, { on := 3, ground := Ground.guard }, { on := 8, ground := Ground.gcOnly Departure.lateStores }], guard := some (3, false) }) (v := undef) rfl (by kernel_rfl) (by kernel_rfl) (by kernel_rfl) (fun _ _ _ h => h) (Or.inr ⟨by rfl, rfl⟩) (by assumption) ?_
  simp only [Act.put, List.setIfInBounds_toArray, List.set_cons_zero, List.set_cons_succ]
  refine wpAnyH_take (i := 6) (oi := { dst := some 39, op := Op.pick (Operand.tmp 36) (Operand.const (Value.bool true)) (Operand.tmp 38), type := 4, pos := _, after := #[{ on := 3, ground := Ground.data }, { on := 5, ground := Ground.data }, { on := 8, ground := Ground.gcOnly Departure.lateStores }], guard := none }) (v := ?_) rfl (by kernel_rfl) (by kernel_rfl) (by kernel_rfl) (fun _ _ _ h => h) (Or.inl ⟨by rfl, ?_⟩) (by assumption) ?_
  rotate_left
  · (intro w hSw; (try dsimp only at hSw); go_simp; try with_reducible rfl)
  simp only [Act.put, List.setIfInBounds_toArray, List.set_cons_zero, List.set_cons_succ]
  refine wpAnyH_take (i := 7) (oi := { dst := some 40, op := Op.load 40 (Operand.tmp 14), type := 40, pos := _, after := #[{ on := 9, ground := Ground.gcOnly Departure.lateStores }], guard := none }) (v := ?_) rfl (by kernel_rfl) (by kernel_rfl) (by kernel_rfl) (fun _ _ _ h => h) (Or.inl ⟨by rfl, ?_⟩) (by assumption) ?_
  rotate_left
  · (intro w hSw; (try dsimp only at hSw); go_simp; try with_reducible rfl)
  simp only [Act.put, List.setIfInBounds_toArray, List.set_cons_zero, List.set_cons_succ]
  refine wpAnyH_take (i := 8) (oi := { dst := some 10, op := Op.assign (Operand.tmp 33), type := 22, pos := _, after := #[{ on := 0, ground := Ground.data }, { on := 3, ground := Ground.chain }, { on := 0, ground := Ground.phase }, { on := 1, ground := Ground.textOnly Departure.lateStores }, { on := 2, ground := Ground.textOnly Departure.lateStores }, { on := 3, ground := Ground.textOnly Departure.lateStores }, { on := 4, ground := Ground.textOnly Departure.lateStores }, { on := 5, ground := Ground.textOnly Departure.lateStores }, { on := 6, ground := Ground.textOnly Departure.lateStores }, { on := 7, ground := Ground.textOnly Departure.lateStores }], guard := none }) (v := ?_) rfl (by kernel_rfl) (by kernel_rfl) (by kernel_rfl) (fun _ _ _ h => h) (Or.inl ⟨by rfl, ?_⟩) (by assumption) ?_
  rotate_left
  · (intro w hSw; (try dsimp only at hSw); go_simp; try with_reducible rfl)
  simp only [Act.put, List.setIfInBounds_toArray, List.set_cons_zero, List.set_cons_succ]
  refine wpAnyH_take (i := 9) (oi := { dst := some 11, op := Op.assign (Operand.tmp 39), type := 4, pos := _, after := #[{ on := 6, ground := Ground.data }, { on := 8, ground := Ground.chain }, { on := 0, ground := Ground.phase }, { on := 1, ground := Ground.phase }, { on := 2, ground := Ground.phase }, { on := 3, ground := Ground.phase }, { on := 4, ground := Ground.phase }, { on := 5, ground := Ground.phase }, { on := 6, ground := Ground.phase }, { on := 7, ground := Ground.textOnly Departure.lateStores }, { on := 8, ground := Ground.phase }], guard := none }) (v := ?_) rfl (by kernel_rfl) (by kernel_rfl) (by kernel_rfl) (fun _ _ _ h => h) (Or.inl ⟨by rfl, ?_⟩) (by assumption) ?_
  rotate_left
  · (intro w hSw; (try dsimp only at hSw); go_simp; try with_reducible rfl)
  simp only [Act.put, List.setIfInBounds_toArray, List.set_cons_zero, List.set_cons_succ]
  refine wpAnyH_ready (rs := [10]) (by kernel_rfl) (by simp) ?_
  refine AllReadyH.cons (o := { dst := none, op := Op.store 40 (Operand.tmp 12) (Operand.tmp 40), type := 0, pos := _, after := #[{ on := 7, ground := Ground.data }, { on := 9, ground := Ground.chain }, { on := 0, ground := Ground.phase }, { on := 1, ground := Ground.phase }, { on := 2, ground := Ground.phase }, { on := 3, ground := Ground.phase }, { on := 4, ground := Ground.phase }, { on := 5, ground := Ground.phase }, { on := 6, ground := Ground.phase }, { on := 7, ground := Ground.phase }, { on := 8, ground := Ground.phase }, { on := 9, ground := Ground.phase }], guard := none }) rfl (fun K hK => ?_) AllReadyH.nil
  go_simp
  skip
  refine hK.out _ _ ?_ (fun hHeld => ?_)
  · ((try dsimp only); with_reducible exact T2.out.four.1)
  clear hK K
  try simp only [Act.put, List.setIfInBounds_toArray, List.set_cons_zero, List.set_cons_succ]
  refine wpAnyH_done (by kernel_rfl) ?_ _
  go_wp2_with fail
  exact bodyPost_ret (v := .tuple #[.int .u32 W, .bool true, .agg #[.bool gn, .bool gz, .bool gc, .bool gv]]) (by simp [results, Tryz.results82, go_sem, c0, c1, c2, c3]) rfl ⟨rfl, below_drew T3.out⟩
set_option maxRecDepth 100000 in
set_option maxHeartbeats 1000000 in
theorem gdo_9 (a b : Int) (sh fn fz fc fv : Bool) (w : World) (a0 : 0 ≤ a) (a1 : a < 4294967296) (b0 : 0 ≤ b) (b1 : b < 4294967296) :
    Calls Tryz.prog 82 #[.int .i64 9, .int .u32 a, .int .u32 b, .bool sh, .agg #[.bool fn, .bool fz, .bool fc, .bool fv]] w fun e w' => e = .returned (.tuple #[.int .u32 (bits .and .u32 a b), .bool false, .agg #[.bool (lgF (bits .and .u32 a b) sh fv).n, .bool (lgF (bits .and .u32 a b) sh fv).z, .bool (lgF (bits .and .u32 a b) sh fv).c, .bool (lgF (bits .and .u32 a b) sh fv).v]]) ∧ Below w.heap.size w w' := by
  have HO : Hid (∀ w, Calls Tryz.prog 103 #[.bool sh, .agg #[.bool fn, .bool fz, .bool fc, .bool fv]] w fun e w' => e = .returned (.agg (opsA (w.heap.size + 1) (w.heap.size + 1 + 1 + 1))) ∧ OpS w' w.heap.size (w.heap.size + 1) (w.heap.size + 1 + 1 + 1) sh fn fz fc fv ∧ Below w.heap.size w w') := fun w => gops_any sh fn fz fc fv w
  have HC : Hid (∀ w x0 x1 x3, OpS w x0 x1 x3 sh fn fz fc fv → Calls Tryz.prog 118 #[.int .u32 a, .int .u32 b, .pointer (some ⟨x3, 0, none⟩)] w fun e w' => e = .returned (.tuple #[.int .u32 (bits .and .u32 a b), .agg #[.bool (lgF (bits .and .u32 a b) sh fv).n, .bool (lgF (bits .and .u32 a b) sh fv).z, .bool (lgF (bits .and .u32 a b) sh fv).c, .bool (lgF (bits .and .u32 a b) sh fv).v]]) ∧ Below w.heap.size w w') := fun w x0 x1 x3 h => gcl_2 a b x0 x1 x3 sh fn fz fc fv w a0 a1 b0 b1 h
  generalize lgF (bits .and .u32 a b) sh fv = F at *
  generalize hW : bits .and .u32 a b = W at *
  obtain ⟨gn, gz, gc, gv⟩ := F
  try simp only at *
  clear a0 a1 b0 b1 hW
  go_enter Tryz.func82, Tryz.ntmps82
  go_wp2_with (go_at_call 103; refine Hid.out ?_)
  show Calls _ _ _ _ _
  refine (HO.out _).mono ?_
  rintro e w1 ⟨rfl, hS, hb⟩
  have R1 := (Bl.new _ _ _).below hb
  simp at R1
  have HW : Hid (Below w.heap.size w w1) := Below.step (Below.step (below_new _ _) (below_new _ _)) hb
  generalize ((w.alloc _).alloc _).heap.size = x0 at hS ⊢
  have hS : Hid (OpS _ _ _ _ _ _ _ _ _) := hS
  have hI := idx_9 (x0 + 1) (x0 + 1 + 1 + 1)
  generalize opsA (x0 + 1) (x0 + 1 + 1 + 1) = A at hI ⊢
  generalize x0 + 1 + 1 + 1 = x3 at hI hS
  generalize x0 + 1 = x1 at hI hS
  clear hb HO
  have R1 : Hid (Bl _ _ _ _) := R1
  go_wp2_with (go_at_call 118; refine Hid.out ?_)
  show Calls _ _ _ _ _
  refine (HC.out _ _ _ _ hS.out).mono ?_
  rintro e w' ⟨rfl, hb2⟩
  have R2 : Hid (Bl _ _ _ _) := (R1.out.below hb2).alloc (.cells #[.bool gn, .bool gz, .bool gc, .bool gv] 40)
  have N2 : Hid (Bl _ _ _ _) := Bl.new w' 40 [.bool gn, .bool gz, .bool gc, .bool gv]
  have HW2 : Hid (Below w.heap.size w (w'.alloc (.cells #[.bool gn, .bool gz, .bool gc, .bool gv] 40))) := Below.step (Below.step HW.out hb2) (below_new _ _)
  have hne : ¬ w'.heap.size = w.heap.size + 1 := by
    have := (R1.out.below hb2).lt
    omega
  clear R1 hS HW hb2 HC hI
  go_wp2_with fail
  generalize (w'.alloc _) = w2 at R2 N2 HW2 ⊢
  generalize w'.heap.size = nb at N2 hne ⊢
  obtain ⟨T1, T2, T0⟩ := put4 R2.out N2.out hne (.bool gn) (.bool gz) (.bool gc) (.bool gv)
  have T3 : Hid (Below _ _ _) := T0 w.heap.size w (by omega) HW2.out
  have T2 : Hid (Bl _ _ _ _) := T2.drew
  clear T0 T1
  obtain ⟨⟨c0, c1, c2, c3⟩, d0, d1, d2, d3⟩ := R2.out.four
  obtain ⟨⟨k0, k1, k2, k3⟩, l0, l1, l2, l3⟩ := N2.out.drew.four
  refine wp_region_held_drew (S := fun w' => w'.cell? ⟨nb, 0, none⟩ = some (.bool gn) ∧ w'.cell? ⟨nb, 1, none⟩ = some (.bool gz) ∧ w'.cell? ⟨nb, 2, none⟩ = some (.bool gc) ∧ w'.cell? ⟨nb, 3, none⟩ = some (.bool gv)) (by kernel_rfl) ⟨k0, k1, k2, k3⟩ (fun hHeld => ?_)
  refine wpAnyH_take (i := 0) (oi := { dst := some 33, op := Op.move (Operand.tmp 13), type := 22, pos := _, after := #[], guard := none }) (v := ?_) rfl (by kernel_rfl) (by kernel_rfl) (by kernel_rfl) (fun _ _ _ h => h) (Or.inl ⟨by rfl, ?_⟩) (by assumption) ?_
  rotate_left
  · (intro w hSw; (try dsimp only at hSw); go_simp; try with_reducible rfl)
  simp only [Act.put, List.setIfInBounds_toArray, List.set_cons_zero, List.set_cons_succ]
  refine wpAnyH_take (i := 1) (oi := { dst := some 34, op := Op.move (Operand.tmp 0), type := 3, pos := _, after := #[], guard := none }) (v := ?_) rfl (by kernel_rfl) (by kernel_rfl) (by kernel_rfl) (fun _ _ _ h => h) (Or.inl ⟨by rfl, ?_⟩) (by assumption) ?_
  rotate_left
  · (intro w hSw; (try dsimp only at hSw); go_simp; try with_reducible rfl)
  simp only [Act.put, List.setIfInBounds_toArray, List.set_cons_zero, List.set_cons_succ]
  refine wpAnyH_take (i := 2) (oi := { dst := some 35, op := Op.binOp BinOp.lss 3 (Operand.tmp 34) (Operand.const (Value.int IntKind.i64 9)) 3, type := 4, pos := _, after := #[{ on := 1, ground := Ground.data }], guard := none }) (v := ?_) rfl (by kernel_rfl) (by kernel_rfl) (by kernel_rfl) (fun _ _ _ h => h) (Or.inl ⟨by rfl, ?_⟩) (by assumption) ?_
  rotate_left
  · (intro w hSw; (try dsimp only at hSw); go_simp; try with_reducible rfl)
  simp only [Act.put, List.setIfInBounds_toArray, List.set_cons_zero, List.set_cons_succ]
  refine wpAnyH_take (i := 3) (oi := { dst := some 36, op := Op.move (Operand.tmp 35), type := 4, pos := _, after := #[{ on := 2, ground := Ground.data }], guard := none }) (v := ?_) rfl (by kernel_rfl) (by kernel_rfl) (by kernel_rfl) (fun _ _ _ h => h) (Or.inl ⟨by rfl, ?_⟩) (by assumption) ?_
  rotate_left
  · (intro w hSw; (try dsimp only at hSw); go_simp; try with_reducible rfl)
  simp only [Act.put, List.setIfInBounds_toArray, List.set_cons_zero, List.set_cons_succ]
  refine wpAnyH_take (i := 4) (oi := { dst := some 37, op := Op.move (Operand.tmp 0), type := 3, pos := _, after := #[{ on := 3, ground := Ground.guard }, { on := 8, ground := Ground.gcOnly Departure.lateStores }], guard := some (3, false) }) (v := ?_) rfl (by kernel_rfl) (by kernel_rfl) (by kernel_rfl) (fun _ _ _ h => h) (Or.inl ⟨by rfl, ?_⟩) (by assumption) ?_
  rotate_left
  · (intro w hSw; (try dsimp only at hSw); go_simp; try with_reducible rfl)
  simp only [Act.put, List.setIfInBounds_toArray, List.set_cons_zero, List.set_cons_succ]
  refine wpAnyH_take (i := 5) (oi := { dst := some 38, op := Op.binOp BinOp.gtr 3 (Operand.tmp 37) (Operand.const (Value.int IntKind.i64 12)) 3, type := 4, pos := _, after := #[{ on := 4, ground := Ground.data }, { on := 3, ground := Ground.guard }, { on := 8, ground := Ground.gcOnly Departure.lateStores }], guard := some (3, false) }) (v := ?_) rfl (by kernel_rfl) (by kernel_rfl) (by kernel_rfl) (fun _ _ _ h => h) (Or.inl ⟨by rfl, ?_⟩) (by assumption) ?_
  rotate_left
  · (intro w hSw; (try dsimp only at hSw); go_simp; try with_reducible rfl)
  simp only [Act.put, List.setIfInBounds_toArray, List.set_cons_zero, List.set_cons_succ]
  refine wpAnyH_take (i := 6) (oi := { dst := some 39, op := Op.pick (Operand.tmp 36) (Operand.const (Value.bool true)) (Operand.tmp 38), type := 4, pos := _, after := #[{ on := 3, ground := Ground.data }, { on := 5, ground := Ground.data }, { on := 8, ground := Ground.gcOnly Departure.lateStores }], guard := none }) (v := ?_) rfl (by kernel_rfl) (by kernel_rfl) (by kernel_rfl) (fun _ _ _ h => h) (Or.inl ⟨by rfl, ?_⟩) (by assumption) ?_
  rotate_left
  · (intro w hSw; (try dsimp only at hSw); go_simp; try with_reducible rfl)
  simp only [Act.put, List.setIfInBounds_toArray, List.set_cons_zero, List.set_cons_succ]
  refine wpAnyH_take (i := 7) (oi := { dst := some 40, op := Op.load 40 (Operand.tmp 14), type := 40, pos := _, after := #[{ on := 9, ground := Ground.gcOnly Departure.lateStores }], guard := none }) (v := ?_) rfl (by kernel_rfl) (by kernel_rfl) (by kernel_rfl) (fun _ _ _ h => h) (Or.inl ⟨by rfl, ?_⟩) (by assumption) ?_
  rotate_left
  · (intro w hSw; (try dsimp only at hSw); go_simp; try with_reducible rfl)
  simp only [Act.put, List.setIfInBounds_toArray, List.set_cons_zero, List.set_cons_succ]
  refine wpAnyH_take (i := 8) (oi := { dst := some 10, op := Op.assign (Operand.tmp 33), type := 22, pos := _, after := #[{ on := 0, ground := Ground.data }, { on := 3, ground := Ground.chain }, { on := 0, ground := Ground.phase }, { on := 1, ground := Ground.textOnly Departure.lateStores }, { on := 2, ground := Ground.textOnly Departure.lateStores }, { on := 3, ground := Ground.textOnly Departure.lateStores }, { on := 4, ground := Ground.textOnly Departure.lateStores }, { on := 5, ground := Ground.textOnly Departure.lateStores }, { on := 6, ground := Ground.textOnly Departure.lateStores }, { on := 7, ground := Ground.textOnly Departure.lateStores }], guard := none }) (v := ?_) rfl (by kernel_rfl) (by kernel_rfl) (by kernel_rfl) (fun _ _ _ h => h) (Or.inl ⟨by rfl, ?_⟩) (by assumption) ?_
  rotate_left
  · (intro w hSw; (try dsimp only at hSw); go_simp; try with_reducible rfl)
  simp only [Act.put, List.setIfInBounds_toArray, List.set_cons_zero, List.set_cons_succ]
  refine wpAnyH_take (i := 9) (oi := { dst := some 11, op := Op.assign (Operand.tmp 39), type := 4, pos := _, after := #[{ on := 6, ground := Ground.data }, { on := 8, ground := Ground.chain }, { on := 0, ground := Ground.phase }, { on := 1, ground := Ground.phase }, { on := 2, ground := Ground.phase }, { on := 3, ground := Ground.phase }, { on := 4, ground := Ground.phase }, { on := 5, ground := Ground.phase }, { on := 6, ground := Ground.phase }, { on := 7, ground := Ground.textOnly Departure.lateStores }, { on := 8, ground := Ground.phase }], guard := none }) (v := ?_) rfl (by kernel_rfl) (by kernel_rfl) (by kernel_rfl) (fun _ _ _ h => h) (Or.inl ⟨by rfl, ?_⟩) (by assumption) ?_
  rotate_left
  · (intro w hSw; (try dsimp only at hSw); go_simp; try with_reducible rfl)
  simp only [Act.put, List.setIfInBounds_toArray, List.set_cons_zero, List.set_cons_succ]
  refine wpAnyH_ready (rs := [10]) (by kernel_rfl) (by simp) ?_
  refine AllReadyH.cons (o := { dst := none, op := Op.store 40 (Operand.tmp 12) (Operand.tmp 40), type := 0, pos := _, after := #[{ on := 7, ground := Ground.data }, { on := 9, ground := Ground.chain }, { on := 0, ground := Ground.phase }, { on := 1, ground := Ground.phase }, { on := 2, ground := Ground.phase }, { on := 3, ground := Ground.phase }, { on := 4, ground := Ground.phase }, { on := 5, ground := Ground.phase }, { on := 6, ground := Ground.phase }, { on := 7, ground := Ground.phase }, { on := 8, ground := Ground.phase }, { on := 9, ground := Ground.phase }], guard := none }) rfl (fun K hK => ?_) AllReadyH.nil
  go_simp
  skip
  refine hK.out _ _ ?_ (fun hHeld => ?_)
  · ((try dsimp only); with_reducible exact T2.out.four.1)
  clear hK K
  try simp only [Act.put, List.setIfInBounds_toArray, List.set_cons_zero, List.set_cons_succ]
  refine wpAnyH_done (by kernel_rfl) ?_ _
  go_wp2_with fail
  exact bodyPost_ret (v := .tuple #[.int .u32 W, .bool false, .agg #[.bool gn, .bool gz, .bool gc, .bool gv]]) (by simp [results, Tryz.results82, go_sem, c0, c1, c2, c3]) rfl ⟨rfl, below_drew T3.out⟩
set_option maxRecDepth 100000 in
set_option maxHeartbeats 1000000 in
theorem gdo_10 (a b : Int) (sh fn fz fc fv : Bool) (w : World) (a0 : 0 ≤ a) (a1 : a < 4294967296) (b0 : 0 ≤ b) (b1 : b < 4294967296) :
    Calls Tryz.prog 82 #[.int .i64 10, .int .u32 a, .int .u32 b, .bool sh, .agg #[.bool fn, .bool fz, .bool fc, .bool fv]] w fun e w' => e = .returned (.tuple #[.int .u32 (bits .xor .u32 a b), .bool false, .agg #[.bool (lgF (bits .xor .u32 a b) sh fv).n, .bool (lgF (bits .xor .u32 a b) sh fv).z, .bool (lgF (bits .xor .u32 a b) sh fv).c, .bool (lgF (bits .xor .u32 a b) sh fv).v]]) ∧ Below w.heap.size w w' := by
  have HO : Hid (∀ w, Calls Tryz.prog 103 #[.bool sh, .agg #[.bool fn, .bool fz, .bool fc, .bool fv]] w fun e w' => e = .returned (.agg (opsA (w.heap.size + 1) (w.heap.size + 1 + 1 + 1))) ∧ OpS w' w.heap.size (w.heap.size + 1) (w.heap.size + 1 + 1 + 1) sh fn fz fc fv ∧ Below w.heap.size w w') := fun w => gops_any sh fn fz fc fv w
  have HC : Hid (∀ w x0 x1 x3, OpS w x0 x1 x3 sh fn fz fc fv → Calls Tryz.prog 119 #[.int .u32 a, .int .u32 b, .pointer (some ⟨x3, 0, none⟩)] w fun e w' => e = .returned (.tuple #[.int .u32 (bits .xor .u32 a b), .agg #[.bool (lgF (bits .xor .u32 a b) sh fv).n, .bool (lgF (bits .xor .u32 a b) sh fv).z, .bool (lgF (bits .xor .u32 a b) sh fv).c, .bool (lgF (bits .xor .u32 a b) sh fv).v]]) ∧ Below w.heap.size w w') := fun w x0 x1 x3 h => gcl_3 a b x0 x1 x3 sh fn fz fc fv w a0 a1 b0 b1 h
  generalize lgF (bits .xor .u32 a b) sh fv = F at *
  generalize hW : bits .xor .u32 a b = W at *
  obtain ⟨gn, gz, gc, gv⟩ := F
  try simp only at *
  clear a0 a1 b0 b1 hW
  go_enter Tryz.func82, Tryz.ntmps82
  go_wp2_with (go_at_call 103; refine Hid.out ?_)
  show Calls _ _ _ _ _
  refine (HO.out _).mono ?_
  rintro e w1 ⟨rfl, hS, hb⟩
  have R1 := (Bl.new _ _ _).below hb
  simp at R1
  have HW : Hid (Below w.heap.size w w1) := Below.step (Below.step (below_new _ _) (below_new _ _)) hb
  generalize ((w.alloc _).alloc _).heap.size = x0 at hS ⊢
  have hS : Hid (OpS _ _ _ _ _ _ _ _ _) := hS
  have hI := idx_10 (x0 + 1) (x0 + 1 + 1 + 1)
  generalize opsA (x0 + 1) (x0 + 1 + 1 + 1) = A at hI ⊢
  generalize x0 + 1 + 1 + 1 = x3 at hI hS
  generalize x0 + 1 = x1 at hI hS
  clear hb HO
  have R1 : Hid (Bl _ _ _ _) := R1
  go_wp2_with (go_at_call 119; refine Hid.out ?_)
  show Calls _ _ _ _ _
  refine (HC.out _ _ _ _ hS.out).mono ?_
  rintro e w' ⟨rfl, hb2⟩
  have R2 : Hid (Bl _ _ _ _) := (R1.out.below hb2).alloc (.cells #[.bool gn, .bool gz, .bool gc, .bool gv] 40)
  have N2 : Hid (Bl _ _ _ _) := Bl.new w' 40 [.bool gn, .bool gz, .bool gc, .bool gv]
  have HW2 : Hid (Below w.heap.size w (w'.alloc (.cells #[.bool gn, .bool gz, .bool gc, .bool gv] 40))) := Below.step (Below.step HW.out hb2) (below_new _ _)
  have hne : ¬ w'.heap.size = w.heap.size + 1 := by
    have := (R1.out.below hb2).lt
    omega
  clear R1 hS HW hb2 HC hI
  go_wp2_with fail
  generalize (w'.alloc _) = w2 at R2 N2 HW2 ⊢
  generalize w'.heap.size = nb at N2 hne ⊢
  obtain ⟨T1, T2, T0⟩ := put4 R2.out N2.out hne (.bool gn) (.bool gz) (.bool gc) (.bool gv)
  have T3 : Hid (Below _ _ _) := T0 w.heap.size w (by omega) HW2.out
  have T2 : Hid (Bl _ _ _ _) := T2.drew
  clear T0 T1
  obtain ⟨⟨c0, c1, c2, c3⟩, d0, d1, d2, d3⟩ := R2.out.four
  obtain ⟨⟨k0, k1, k2, k3⟩, l0, l1, l2, l3⟩ := N2.out.drew.four
  refine wp_region_held_drew (S := fun w' => w'.cell? ⟨nb, 0, none⟩ = some (.bool gn) ∧ w'.cell? ⟨nb, 1, none⟩ = some (.bool gz) ∧ w'.cell? ⟨nb, 2, none⟩ = some (.bool gc) ∧ w'.cell? ⟨nb, 3, none⟩ = some (.bool gv)) (by kernel_rfl) ⟨k0, k1, k2, k3⟩ (fun hHeld => ?_)
  refine wpAnyH_take (i := 0) (oi := { dst := some 33, op := Op.move (Operand.tmp 13), type := 22, pos := _, after := #[], guard := none }) (v := ?_) rfl (by kernel_rfl) (by kernel_rfl) (by kernel_rfl) (fun _ _ _ h => h) (Or.inl ⟨by rfl, ?_⟩) (by assumption) ?_
  rotate_left
  · (intro w hSw; (try dsimp only at hSw); go_simp; try with_reducible rfl)
  simp only [Act.put, List.setIfInBounds_toArray, List.set_cons_zero, List.set_cons_succ]
  refine wpAnyH_take (i := 1) (oi := { dst := some 34, op := Op.move (Operand.tmp 0), type := 3, pos := _, after := #[], guard := none }) (v := ?_) rfl (by kernel_rfl) (by kernel_rfl) (by kernel_rfl) (fun _ _ _ h => h) (Or.inl ⟨by rfl, ?_⟩) (by assumption) ?_
  rotate_left
  · (intro w hSw; (try dsimp only at hSw); go_simp; try with_reducible rfl)
  simp only [Act.put, List.setIfInBounds_toArray, List.set_cons_zero, List.set_cons_succ]
  refine wpAnyH_take (i := 2) (oi := { dst := some 35, op := Op.binOp BinOp.lss 3 (Operand.tmp 34) (Operand.const (Value.int IntKind.i64 9)) 3, type := 4, pos := _, after := #[{ on := 1, ground := Ground.data }], guard := none }) (v := ?_) rfl (by kernel_rfl) (by kernel_rfl) (by kernel_rfl) (fun _ _ _ h => h) (Or.inl ⟨by rfl, ?_⟩) (by assumption) ?_
  rotate_left
  · (intro w hSw; (try dsimp only at hSw); go_simp; try with_reducible rfl)
  simp only [Act.put, List.setIfInBounds_toArray, List.set_cons_zero, List.set_cons_succ]
  refine wpAnyH_take (i := 3) (oi := { dst := some 36, op := Op.move (Operand.tmp 35), type := 4, pos := _, after := #[{ on := 2, ground := Ground.data }], guard := none }) (v := ?_) rfl (by kernel_rfl) (by kernel_rfl) (by kernel_rfl) (fun _ _ _ h => h) (Or.inl ⟨by rfl, ?_⟩) (by assumption) ?_
  rotate_left
  · (intro w hSw; (try dsimp only at hSw); go_simp; try with_reducible rfl)
  simp only [Act.put, List.setIfInBounds_toArray, List.set_cons_zero, List.set_cons_succ]
  refine wpAnyH_take (i := 4) (oi := { dst := some 37, op := Op.move (Operand.tmp 0), type := 3, pos := _, after := #[{ on := 3, ground := Ground.guard }, { on := 8, ground := Ground.gcOnly Departure.lateStores }], guard := some (3, false) }) (v := ?_) rfl (by kernel_rfl) (by kernel_rfl) (by kernel_rfl) (fun _ _ _ h => h) (Or.inl ⟨by rfl, ?_⟩) (by assumption) ?_
  rotate_left
  · (intro w hSw; (try dsimp only at hSw); go_simp; try with_reducible rfl)
  simp only [Act.put, List.setIfInBounds_toArray, List.set_cons_zero, List.set_cons_succ]
  refine wpAnyH_take (i := 5) (oi := { dst := some 38, op := Op.binOp BinOp.gtr 3 (Operand.tmp 37) (Operand.const (Value.int IntKind.i64 12)) 3, type := 4, pos := _, after := #[{ on := 4, ground := Ground.data }, { on := 3, ground := Ground.guard }, { on := 8, ground := Ground.gcOnly Departure.lateStores }], guard := some (3, false) }) (v := ?_) rfl (by kernel_rfl) (by kernel_rfl) (by kernel_rfl) (fun _ _ _ h => h) (Or.inl ⟨by rfl, ?_⟩) (by assumption) ?_
  rotate_left
  · (intro w hSw; (try dsimp only at hSw); go_simp; try with_reducible rfl)
  simp only [Act.put, List.setIfInBounds_toArray, List.set_cons_zero, List.set_cons_succ]
  refine wpAnyH_take (i := 6) (oi := { dst := some 39, op := Op.pick (Operand.tmp 36) (Operand.const (Value.bool true)) (Operand.tmp 38), type := 4, pos := _, after := #[{ on := 3, ground := Ground.data }, { on := 5, ground := Ground.data }, { on := 8, ground := Ground.gcOnly Departure.lateStores }], guard := none }) (v := ?_) rfl (by kernel_rfl) (by kernel_rfl) (by kernel_rfl) (fun _ _ _ h => h) (Or.inl ⟨by rfl, ?_⟩) (by assumption) ?_
  rotate_left
  · (intro w hSw; (try dsimp only at hSw); go_simp; try with_reducible rfl)
  simp only [Act.put, List.setIfInBounds_toArray, List.set_cons_zero, List.set_cons_succ]
  refine wpAnyH_take (i := 7) (oi := { dst := some 40, op := Op.load 40 (Operand.tmp 14), type := 40, pos := _, after := #[{ on := 9, ground := Ground.gcOnly Departure.lateStores }], guard := none }) (v := ?_) rfl (by kernel_rfl) (by kernel_rfl) (by kernel_rfl) (fun _ _ _ h => h) (Or.inl ⟨by rfl, ?_⟩) (by assumption) ?_
  rotate_left
  · (intro w hSw; (try dsimp only at hSw); go_simp; try with_reducible rfl)
  simp only [Act.put, List.setIfInBounds_toArray, List.set_cons_zero, List.set_cons_succ]
  refine wpAnyH_take (i := 8) (oi := { dst := some 10, op := Op.assign (Operand.tmp 33), type := 22, pos := _, after := #[{ on := 0, ground := Ground.data }, { on := 3, ground := Ground.chain }, { on := 0, ground := Ground.phase }, { on := 1, ground := Ground.textOnly Departure.lateStores }, { on := 2, ground := Ground.textOnly Departure.lateStores }, { on := 3, ground := Ground.textOnly Departure.lateStores }, { on := 4, ground := Ground.textOnly Departure.lateStores }, { on := 5, ground := Ground.textOnly Departure.lateStores }, { on := 6, ground := Ground.textOnly Departure.lateStores }, { on := 7, ground := Ground.textOnly Departure.lateStores }], guard := none }) (v := ?_) rfl (by kernel_rfl) (by kernel_rfl) (by kernel_rfl) (fun _ _ _ h => h) (Or.inl ⟨by rfl, ?_⟩) (by assumption) ?_
  rotate_left
  · (intro w hSw; (try dsimp only at hSw); go_simp; try with_reducible rfl)
  simp only [Act.put, List.setIfInBounds_toArray, List.set_cons_zero, List.set_cons_succ]
  refine wpAnyH_take (i := 9) (oi := { dst := some 11, op := Op.assign (Operand.tmp 39), type := 4, pos := _, after := #[{ on := 6, ground := Ground.data }, { on := 8, ground := Ground.chain }, { on := 0, ground := Ground.phase }, { on := 1, ground := Ground.phase }, { on := 2, ground := Ground.phase }, { on := 3, ground := Ground.phase }, { on := 4, ground := Ground.phase }, { on := 5, ground := Ground.phase }, { on := 6, ground := Ground.phase }, { on := 7, ground := Ground.textOnly Departure.lateStores }, { on := 8, ground := Ground.phase }], guard := none }) (v := ?_) rfl (by kernel_rfl) (by kernel_rfl) (by kernel_rfl) (fun _ _ _ h => h) (Or.inl ⟨by rfl, ?_⟩) (by assumption) ?_
  rotate_left
  · (intro w hSw; (try dsimp only at hSw); go_simp; try with_reducible rfl)
  simp only [Act.put, List.setIfInBounds_toArray, List.set_cons_zero, List.set_cons_succ]
  refine wpAnyH_ready (rs := [10]) (by kernel_rfl) (by simp) ?_
  refine AllReadyH.cons (o := { dst := none, op := Op.store 40 (Operand.tmp 12) (Operand.tmp 40), type := 0, pos := _, after := #[{ on := 7, ground := Ground.data }, { on := 9, ground := Ground.chain }, { on := 0, ground := Ground.phase }, { on := 1, ground := Ground.phase }, { on := 2, ground := Ground.phase }, { on := 3, ground := Ground.phase }, { on := 4, ground := Ground.phase }, { on := 5, ground := Ground.phase }, { on := 6, ground := Ground.phase }, { on := 7, ground := Ground.phase }, { on := 8, ground := Ground.phase }, { on := 9, ground := Ground.phase }], guard := none }) rfl (fun K hK => ?_) AllReadyH.nil
  go_simp
  skip
  refine hK.out _ _ ?_ (fun hHeld => ?_)
  · ((try dsimp only); with_reducible exact T2.out.four.1)
  clear hK K
  try simp only [Act.put, List.setIfInBounds_toArray, List.set_cons_zero, List.set_cons_succ]
  refine wpAnyH_done (by kernel_rfl) ?_ _
  go_wp2_with fail
  exact bodyPost_ret (v := .tuple #[.int .u32 W, .bool false, .agg #[.bool gn, .bool gz, .bool gc, .bool gv]]) (by simp [results, Tryz.results82, go_sem, c0, c1, c2, c3]) rfl ⟨rfl, below_drew T3.out⟩
set_option maxRecDepth 100000 in
set_option maxHeartbeats 1000000 in
theorem gdo_11 (a b : Int) (sh fn fz fc fv : Bool) (w : World) (a0 : 0 ≤ a) (a1 : a < 4294967296) (b0 : 0 ≤ b) (b1 : b < 4294967296) :
    Calls Tryz.prog 82 #[.int .i64 11, .int .u32 a, .int .u32 b, .bool sh, .agg #[.bool fn, .bool fz, .bool fc, .bool fv]] w fun e w' => e = .returned (.tuple #[.int .u32 (suW a (nt b) true), .bool false, .agg #[.bool (suF a (nt b) true).n, .bool (suF a (nt b) true).z, .bool (suF a (nt b) true).c, .bool (suF a (nt b) true).v]]) ∧ Below w.heap.size w w' := by
  have HO : Hid (∀ w, Calls Tryz.prog 103 #[.bool sh, .agg #[.bool fn, .bool fz, .bool fc, .bool fv]] w fun e w' => e = .returned (.agg (opsA (w.heap.size + 1) (w.heap.size + 1 + 1 + 1))) ∧ OpS w' w.heap.size (w.heap.size + 1) (w.heap.size + 1 + 1 + 1) sh fn fz fc fv ∧ Below w.heap.size w w') := fun w => gops_any sh fn fz fc fv w
  have HC : Hid (∀ w x0 x1 x3, OpS w x0 x1 x3 sh fn fz fc fv → Calls Tryz.prog 122 #[.int .u32 a, .int .u32 b] w fun e w' => e = .returned (.tuple #[.int .u32 (suW a (nt b) true), .agg #[.bool (suF a (nt b) true).n, .bool (suF a (nt b) true).z, .bool (suF a (nt b) true).c, .bool (suF a (nt b) true).v]]) ∧ Below w.heap.size w w') := fun w x0 x1 x3 h => gcl_5 a b w a0 a1 b0 b1
  generalize suF a (nt b) true = F at *
  generalize hW : suW a (nt b) true = W at *
  obtain ⟨gn, gz, gc, gv⟩ := F
  try simp only at *
  clear a0 a1 b0 b1 hW
  go_enter Tryz.func82, Tryz.ntmps82
  go_wp2_with (go_at_call 103; refine Hid.out ?_)
  show Calls _ _ _ _ _
  refine (HO.out _).mono ?_
  rintro e w1 ⟨rfl, hS, hb⟩
  have R1 := (Bl.new _ _ _).below hb
  simp at R1
  have HW : Hid (Below w.heap.size w w1) := Below.step (Below.step (below_new _ _) (below_new _ _)) hb
  generalize ((w.alloc _).alloc _).heap.size = x0 at hS ⊢
  have hS : Hid (OpS _ _ _ _ _ _ _ _ _) := hS
  have hI := idx_11 (x0 + 1) (x0 + 1 + 1 + 1)
  generalize opsA (x0 + 1) (x0 + 1 + 1 + 1) = A at hI ⊢
  generalize x0 + 1 + 1 + 1 = x3 at hI hS
  generalize x0 + 1 = x1 at hI hS
  clear hb HO
  have R1 : Hid (Bl _ _ _ _) := R1
  go_wp2_with (go_at_call 122; refine Hid.out ?_)
  show Calls _ _ _ _ _
  refine (HC.out _ _ _ _ hS.out).mono ?_
  rintro e w' ⟨rfl, hb2⟩
  have R2 : Hid (Bl _ _ _ _) := (R1.out.below hb2).alloc (.cells #[.bool gn, .bool gz, .bool gc, .bool gv] 40)
  have N2 : Hid (Bl _ _ _ _) := Bl.new w' 40 [.bool gn, .bool gz, .bool gc, .bool gv]
  have HW2 : Hid (Below w.heap.size w (w'.alloc (.cells #[.bool gn, .bool gz, .bool gc, .bool gv] 40))) := Below.step (Below.step HW.out hb2) (below_new _ _)
  have hne : ¬ w'.heap.size = w.heap.size + 1 := by
    have := (R1.out.below hb2).lt
    omega
  clear R1 hS HW hb2 HC hI
  go_wp2_with fail
  generalize (w'.alloc _) = w2 at R2 N2 HW2 ⊢
  generalize w'.heap.size = nb at N2 hne ⊢
  obtain ⟨T1, T2, T0⟩ := put4 R2.out N2.out hne (.bool gn) (.bool gz) (.bool gc) (.bool gv)
  have T3 : Hid (Below _ _ _) := T0 w.heap.size w (by omega) HW2.out
  have T2 : Hid (Bl _ _ _ _) := T2.drew
  clear T0 T1
  obtain ⟨⟨c0, c1, c2, c3⟩, d0, d1, d2, d3⟩ := R2.out.four
  obtain ⟨⟨k0, k1, k2, k3⟩, l0, l1, l2, l3⟩ := N2.out.drew.four
  refine wp_region_held_drew (S := fun w' => w'.cell? ⟨nb, 0, none⟩ = some (.bool gn) ∧ w'.cell? ⟨nb, 1, none⟩ = some (.bool gz) ∧ w'.cell? ⟨nb, 2, none⟩ = some (.bool gc) ∧ w'.cell? ⟨nb, 3, none⟩ = some (.bool gv)) (by kernel_rfl) ⟨k0, k1, k2, k3⟩ (fun hHeld => ?_)
  refine wpAnyH_take (i := 0) (oi := { dst := some 33, op := Op.move (Operand.tmp 13), type := 22, pos := _, after := #[], guard := none }) (v := ?_) rfl (by kernel_rfl) (by kernel_rfl) (by kernel_rfl) (fun _ _ _ h => h) (Or.inl ⟨by rfl, ?_⟩) (by assumption) ?_
  rotate_left
  · (intro w hSw; (try dsimp only at hSw); go_simp; try with_reducible rfl)
  simp only [Act.put, List.setIfInBounds_toArray, List.set_cons_zero, List.set_cons_succ]
  refine wpAnyH_take (i := 1) (oi := { dst := some 34, op := Op.move (Operand.tmp 0), type := 3, pos := _, after := #[], guard := none }) (v := ?_) rfl (by kernel_rfl) (by kernel_rfl) (by kernel_rfl) (fun _ _ _ h => h) (Or.inl ⟨by rfl, ?_⟩) (by assumption) ?_
  rotate_left
  · (intro w hSw; (try dsimp only at hSw); go_simp; try with_reducible rfl)
  simp only [Act.put, List.setIfInBounds_toArray, List.set_cons_zero, List.set_cons_succ]
  refine wpAnyH_take (i := 2) (oi := { dst := some 35, op := Op.binOp BinOp.lss 3 (Operand.tmp 34) (Operand.const (Value.int IntKind.i64 9)) 3, type := 4, pos := _, after := #[{ on := 1, ground := Ground.data }], guard := none }) (v := ?_) rfl (by kernel_rfl) (by kernel_rfl) (by kernel_rfl) (fun _ _ _ h => h) (Or.inl ⟨by rfl, ?_⟩) (by assumption) ?_
  rotate_left
  · (intro w hSw; (try dsimp only at hSw); go_simp; try with_reducible rfl)
  simp only [Act.put, List.setIfInBounds_toArray, List.set_cons_zero, List.set_cons_succ]
  refine wpAnyH_take (i := 3) (oi := { dst := some 36, op := Op.move (Operand.tmp 35), type := 4, pos := _, after := #[{ on := 2, ground := Ground.data }], guard := none }) (v := ?_) rfl (by kernel_rfl) (by kernel_rfl) (by kernel_rfl) (fun _ _ _ h => h) (Or.inl ⟨by rfl, ?_⟩) (by assumption) ?_
  rotate_left
  · (intro w hSw; (try dsimp only at hSw); go_simp; try with_reducible rfl)
  simp only [Act.put, List.setIfInBounds_toArray, List.set_cons_zero, List.set_cons_succ]
  refine wpAnyH_take (i := 4) (oi := { dst := some 37, op := Op.move (Operand.tmp 0), type := 3, pos := _, after := #[{ on := 3, ground := Ground.guard }, { on := 8, ground := Ground.gcOnly Departure.lateStores }], guard := some (3, false) }) (v := ?_) rfl (by kernel_rfl) (by kernel_rfl) (by kernel_rfl) (fun _ _ _ h => h) (Or.inl ⟨by rfl, ?_⟩) (by assumption) ?_
  rotate_left
  · (intro w hSw; (try dsimp only at hSw); go_simp; try with_reducible rfl)
  simp only [Act.put, List.setIfInBounds_toArray, List.set_cons_zero, List.set_cons_succ]
  refine wpAnyH_take (i := 5) (oi := { dst := some 38, op := Op.binOp BinOp.gtr 3 (Operand.tmp 37) (Operand.const (Value.int IntKind.i64 12)) 3, type := 4, pos := _, after := #[{ on := 4, ground := Ground.data }, { on := 3, ground := Ground.guard }, { on := 8, ground := Ground.gcOnly Departure.lateStores }], guard := some (3, false) }) (v := ?_) rfl (by kernel_rfl) (by kernel_rfl) (by kernel_rfl) (fun _ _ _ h => h) (Or.inl ⟨by rfl, ?_⟩) (by assumption) ?_
  rotate_left
  · (intro w hSw; (try dsimp only at hSw); go_simp; try with_reducible rfl)
  simp only [Act.put, List.setIfInBounds_toArray, List.set_cons_zero, List.set_cons_succ]
  refine wpAnyH_take (i := 6) (oi := { dst := some 39, op := Op.pick (Operand.tmp 36) (Operand.const (Value.bool true)) (Operand.tmp 38), type := 4, pos := _, after := #[{ on := 3, ground := Ground.data }, { on := 5, ground := Ground.data }, { on := 8, ground := Ground.gcOnly Departure.lateStores }], guard := none }) (v := ?_) rfl (by kernel_rfl) (by kernel_rfl) (by kernel_rfl) (fun _ _ _ h => h) (Or.inl ⟨by rfl, ?_⟩) (by assumption) ?_
  rotate_left
  · (intro w hSw; (try dsimp only at hSw); go_simp; try with_reducible rfl)
  simp only [Act.put, List.setIfInBounds_toArray, List.set_cons_zero, List.set_cons_succ]
  refine wpAnyH_take (i := 7) (oi := { dst := some 40, op := Op.load 40 (Operand.tmp 14), type := 40, pos := _, after := #[{ on := 9, ground := Ground.gcOnly Departure.lateStores }], guard := none }) (v := ?_) rfl (by kernel_rfl) (by kernel_rfl) (by kernel_rfl) (fun _ _ _ h => h) (Or.inl ⟨by rfl, ?_⟩) (by assumption) ?_
  rotate_left
  · (intro w hSw; (try dsimp only at hSw); go_simp; try with_reducible rfl)
  simp only [Act.put, List.setIfInBounds_toArray, List.set_cons_zero, List.set_cons_succ]
  refine wpAnyH_take (i := 8) (oi := { dst := some 10, op := Op.assign (Operand.tmp 33), type := 22, pos := _, after := #[{ on := 0, ground := Ground.data }, { on := 3, ground := Ground.chain }, { on := 0, ground := Ground.phase }, { on := 1, ground := Ground.textOnly Departure.lateStores }, { on := 2, ground := Ground.textOnly Departure.lateStores }, { on := 3, ground := Ground.textOnly Departure.lateStores }, { on := 4, ground := Ground.textOnly Departure.lateStores }, { on := 5, ground := Ground.textOnly Departure.lateStores }, { on := 6, ground := Ground.textOnly Departure.lateStores }, { on := 7, ground := Ground.textOnly Departure.lateStores }], guard := none }) (v := ?_) rfl (by kernel_rfl) (by kernel_rfl) (by kernel_rfl) (fun _ _ _ h => h) (Or.inl ⟨by rfl, ?_⟩) (by assumption) ?_
  rotate_left
  · (intro w hSw; (try dsimp only at hSw); go_simp; try with_reducible rfl)
  simp only [Act.put, List.setIfInBounds_toArray, List.set_cons_zero, List.set_cons_succ]
  refine wpAnyH_take (i := 9) (oi := { dst := some 11, op := Op.assign (Operand.tmp 39), type := 4, pos := _, after := #[{ on := 6, ground := Ground.data }, { on := 8, ground := Ground.chain }, { on := 0, ground := Ground.phase }, { on := 1, ground := Ground.phase }, { on := 2, ground := Ground.phase }, { on := 3, ground := Ground.phase }, { on := 4, ground := Ground.phase }, { on := 5, ground := Ground.phase }, { on := 6, ground := Ground.phase }, { on := 7, ground := Ground.textOnly Departure.lateStores }, { on := 8, ground := Ground.phase }], guard := none }) (v := ?_) rfl (by kernel_rfl) (by kernel_rfl) (by kernel_rfl) (fun _ _ _ h => h) (Or.inl ⟨by rfl, ?_⟩) (by assumption) ?_
  rotate_left
  · (intro w hSw; (try dsimp only at hSw); go_simp; try with_reducible rfl)
  simp only [Act.put, List.setIfInBounds_toArray, List.set_cons_zero, List.set_cons_succ]
  refine wpAnyH_ready (rs := [10]) (by kernel_rfl) (by simp) ?_
  refine AllReadyH.cons (o := { dst := none, op := Op.store 40 (Operand.tmp 12) (Operand.tmp 40), type := 0, pos := _, after := #[{ on := 7, ground := Ground.data }, { on := 9, ground := Ground.chain }, { on := 0, ground := Ground.phase }, { on := 1, ground := Ground.phase }, { on := 2, ground := Ground.phase }, { on := 3, ground := Ground.phase }, { on := 4, ground := Ground.phase }, { on := 5, ground := Ground.phase }, { on := 6, ground := Ground.phase }, { on := 7, ground := Ground.phase }, { on := 8, ground := Ground.phase }, { on := 9, ground := Ground.phase }], guard := none }) rfl (fun K hK => ?_) AllReadyH.nil
  go_simp
  skip
  refine hK.out _ _ ?_ (fun hHeld => ?_)
  · ((try dsimp only); with_reducible exact T2.out.four.1)
  clear hK K
  try simp only [Act.put, List.setIfInBounds_toArray, List.set_cons_zero, List.set_cons_succ]
  refine wpAnyH_done (by kernel_rfl) ?_ _
  go_wp2_with fail
  exact bodyPost_ret (v := .tuple #[.int .u32 W, .bool false, .agg #[.bool gn, .bool gz, .bool gc, .bool gv]]) (by simp [results, Tryz.results82, go_sem, c0, c1, c2, c3]) rfl ⟨rfl, below_drew T3.out⟩
set_option maxRecDepth 100000 in
set_option maxHeartbeats 1000000 in
theorem gdo_12 (a b : Int) (sh fn fz fc fv : Bool) (w : World) (a0 : 0 ≤ a) (a1 : a < 4294967296) (b0 : 0 ≤ b) (b1 : b < 4294967296) :
    Calls Tryz.prog 82 #[.int .i64 12, .int .u32 a, .int .u32 b, .bool sh, .agg #[.bool fn, .bool fz, .bool fc, .bool fv]] w fun e w' => e = .returned (.tuple #[.int .u32 (suW a b false), .bool false, .agg #[.bool (suF a b false).n, .bool (suF a b false).z, .bool (suF a b false).c, .bool (suF a b false).v]]) ∧ Below w.heap.size w w' := by
  have HO : Hid (∀ w, Calls Tryz.prog 103 #[.bool sh, .agg #[.bool fn, .bool fz, .bool fc, .bool fv]] w fun e w' => e = .returned (.agg (opsA (w.heap.size + 1) (w.heap.size + 1 + 1 + 1))) ∧ OpS w' w.heap.size (w.heap.size + 1) (w.heap.size + 1 + 1 + 1) sh fn fz fc fv ∧ Below w.heap.size w w') := fun w => gops_any sh fn fz fc fv w
  have HC : Hid (∀ w x0 x1 x3, OpS w x0 x1 x3 sh fn fz fc fv → Calls Tryz.prog 120 #[.int .u32 a, .int .u32 b] w fun e w' => e = .returned (.tuple #[.int .u32 (suW a b false), .agg #[.bool (suF a b false).n, .bool (suF a b false).z, .bool (suF a b false).c, .bool (suF a b false).v]]) ∧ Below w.heap.size w w') := fun w x0 x1 x3 h => gcl_4 a b w a0 a1 b0 b1
  generalize suF a b false = F at *
  generalize hW : suW a b false = W at *
  obtain ⟨gn, gz, gc, gv⟩ := F
  try simp only at *
  clear a0 a1 b0 b1 hW
  go_enter Tryz.func82, Tryz.ntmps82
  go_wp2_with (go_at_call 103; refine Hid.out ?_)
  show Calls _ _ _ _ _
  refine (HO.out _).mono ?_
  rintro e w1 ⟨rfl, hS, hb⟩
  have R1 := (Bl.new _ _ _).below hb
  simp at R1
  have HW : Hid (Below w.heap.size w w1) := Below.step (Below.step (below_new _ _) (below_new _ _)) hb
  generalize ((w.alloc _).alloc _).heap.size = x0 at hS ⊢
  have hS : Hid (OpS _ _ _ _ _ _ _ _ _) := hS
  have hI := idx_12 (x0 + 1) (x0 + 1 + 1 + 1)
  generalize opsA (x0 + 1) (x0 + 1 + 1 + 1) = A at hI ⊢
  generalize x0 + 1 + 1 + 1 = x3 at hI hS
  generalize x0 + 1 = x1 at hI hS
  clear hb HO
  have R1 : Hid (Bl _ _ _ _) := R1
  go_wp2_with (go_at_call 120; refine Hid.out ?_)
  show Calls _ _ _ _ _
  refine (HC.out _ _ _ _ hS.out).mono ?_
  rintro e w' ⟨rfl, hb2⟩
  have R2 : Hid (Bl _ _ _ _) := (R1.out.below hb2).alloc (.cells #[.bool gn, .bool gz, .bool gc, .bool gv] 40)
  have N2 : Hid (Bl _ _ _ _) := Bl.new w' 40 [.bool gn, .bool gz, .bool gc, .bool gv]
  have HW2 : Hid (Below w.heap.size w (w'.alloc (.cells #[.bool gn, .bool gz, .bool gc, .bool gv] 40))) := Below.step (Below.step HW.out hb2) (below_new _ _)
  have hne : ¬ w'.heap.size = w.heap.size + 1 := by
    have := (R1.out.below hb2).lt
    omega
  clear R1 hS HW hb2 HC hI
  go_wp2_with fail
  generalize (w'.alloc _) = w2 at R2 N2 HW2 ⊢
  generalize w'.heap.size = nb at N2 hne ⊢
  obtain ⟨T1, T2, T0⟩ := put4 R2.out N2.out hne (.bool gn) (.bool gz) (.bool gc) (.bool gv)
  have T3 : Hid (Below _ _ _) := T0 w.heap.size w (by omega) HW2.out
  have T2 : Hid (Bl _ _ _ _) := T2.drew
  clear T0 T1
  obtain ⟨⟨c0, c1, c2, c3⟩, d0, d1, d2, d3⟩ := R2.out.four
  obtain ⟨⟨k0, k1, k2, k3⟩, l0, l1, l2, l3⟩ := N2.out.drew.four
  refine wp_region_held_drew (S := fun w' => w'.cell? ⟨nb, 0, none⟩ = some (.bool gn) ∧ w'.cell? ⟨nb, 1, none⟩ = some (.bool gz) ∧ w'.cell? ⟨nb, 2, none⟩ = some (.bool gc) ∧ w'.cell? ⟨nb, 3, none⟩ = some (.bool gv)) (by kernel_rfl) ⟨k0, k1, k2, k3⟩ (fun hHeld => ?_)
  refine wpAnyH_take (i := 0) (oi := { dst := some 33, op := Op.move (Operand.tmp 13), type := 22, pos := _, after := #[], guard := none }) (v := ?_) rfl (by kernel_rfl) (by kernel_rfl) (by kernel_rfl) (fun _ _ _ h => h) (Or.inl ⟨by rfl, ?_⟩) (by assumption) ?_
  rotate_left
  · (intro w hSw; (try dsimp only at hSw); go_simp; try with_reducible rfl)
  simp only [Act.put, List.setIfInBounds_toArray, List.set_cons_zero, List.set_cons_succ]
  refine wpAnyH_take (i := 1) (oi := { dst := some 34, op := Op.move (Operand.tmp 0), type := 3, pos := _, after := #[], guard := none }) (v := ?_) rfl (by kernel_rfl) (by kernel_rfl) (by kernel_rfl) (fun _ _ _ h => h) (Or.inl ⟨by rfl, ?_⟩) (by assumption) ?_
  rotate_left
  · (intro w hSw; (try dsimp only at hSw); go_simp; try with_reducible rfl)
  simp only [Act.put, List.setIfInBounds_toArray, List.set_cons_zero, List.set_cons_succ]
  refine wpAnyH_take (i := 2) (oi := { dst := some 35, op := Op.binOp BinOp.lss 3 (Operand.tmp 34) (Operand.const (Value.int IntKind.i64 9)) 3, type := 4, pos := _, after := #[{ on := 1, ground := Ground.data }], guard := none }) (v := ?_) rfl (by kernel_rfl) (by kernel_rfl) (by kernel_rfl) (fun _ _ _ h => h) (Or.inl ⟨by rfl, ?_⟩) (by assumption) ?_
  rotate_left
  · (intro w hSw; (try dsimp only at hSw); go_simp; try with_reducible rfl)
  simp only [Act.put, List.setIfInBounds_toArray, List.set_cons_zero, List.set_cons_succ]
  refine wpAnyH_take (i := 3) (oi := { dst := some 36, op := Op.move (Operand.tmp 35), type := 4, pos := _, after := #[{ on := 2, ground := Ground.data }], guard := none }) (v := ?_) rfl (by kernel_rfl) (by kernel_rfl) (by kernel_rfl) (fun _ _ _ h => h) (Or.inl ⟨by rfl, ?_⟩) (by assumption) ?_
  rotate_left
  · (intro w hSw; (try dsimp only at hSw); go_simp; try with_reducible rfl)
  simp only [Act.put, List.setIfInBounds_toArray, List.set_cons_zero, List.set_cons_succ]
  refine wpAnyH_take (i := 4) (oi := { dst := some 37, op := Op.move (Operand.tmp 0), type := 3, pos := _, after := #[{ on := 3, ground := Ground.guard }, { on := 8, ground := Ground.gcOnly Departure.lateStores }], guard := some (3, false) }) (v := ?_) rfl (by kernel_rfl) (by kernel_rfl) (by kernel_rfl) (fun _ _ _ h => h) (Or.inl ⟨by rfl, ?_⟩) (by assumption) ?_
  rotate_left
  · (intro w hSw; (try dsimp only at hSw); go_simp; try with_reducible rfl)
  simp only [Act.put, List.setIfInBounds_toArray, List.set_cons_zero, List.set_cons_succ]
  refine wpAnyH_take (i := 5) (oi := { dst := some 38, op := Op.binOp BinOp.gtr 3 (Operand.tmp 37) (Operand.const (Value.int IntKind.i64 12)) 3, type := 4, pos := _, after := #[{ on := 4, ground := Ground.data }, { on := 3, ground := Ground.guard }, { on := 8, ground := Ground.gcOnly Departure.lateStores }], guard := some (3, false) }) (v := ?_) rfl (by kernel_rfl) (by kernel_rfl) (by kernel_rfl) (fun _ _ _ h => h) (Or.inl ⟨by rfl, ?_⟩) (by assumption) ?_
  rotate_left
  · (intro w hSw; (try dsimp only at hSw); go_simp; try with_reducible rfl)
  simp only [Act.put, List.setIfInBounds_toArray, List.set_cons_zero, List.set_cons_succ]
  refine wpAnyH_take (i := 6) (oi := { dst := some 39, op := Op.pick (Operand.tmp 36) (Operand.const (Value.bool true)) (Operand.tmp 38), type := 4, pos := _, after := #[{ on := 3, ground := Ground.data }, { on := 5, ground := Ground.data }, { on := 8, ground := Ground.gcOnly Departure.lateStores }], guard := none }) (v := ?_) rfl (by kernel_rfl) (by kernel_rfl) (by kernel_rfl) (fun _ _ _ h => h) (Or.inl ⟨by rfl, ?_⟩) (by assumption) ?_
  rotate_left
  · (intro w hSw; (try dsimp only at hSw); go_simp; try with_reducible rfl)
  simp only [Act.put, List.setIfInBounds_toArray, List.set_cons_zero, List.set_cons_succ]
  refine wpAnyH_take (i := 7) (oi := { dst := some 40, op := Op.load 40 (Operand.tmp 14), type := 40, pos := _, after := #[{ on := 9, ground := Ground.gcOnly Departure.lateStores }], guard := none }) (v := ?_) rfl (by kernel_rfl) (by kernel_rfl) (by kernel_rfl) (fun _ _ _ h => h) (Or.inl ⟨by rfl, ?_⟩) (by assumption) ?_
  rotate_left
  · (intro w hSw; (try dsimp only at hSw); go_simp; try with_reducible rfl)
  simp only [Act.put, List.setIfInBounds_toArray, List.set_cons_zero, List.set_cons_succ]
  refine wpAnyH_take (i := 8) (oi := { dst := some 10, op := Op.assign (Operand.tmp 33), type := 22, pos := _, after := #[{ on := 0, ground := Ground.data }, { on := 3, ground := Ground.chain }, { on := 0, ground := Ground.phase }, { on := 1, ground := Ground.textOnly Departure.lateStores }, { on := 2, ground := Ground.textOnly Departure.lateStores }, { on := 3, ground := Ground.textOnly Departure.lateStores }, { on := 4, ground := Ground.textOnly Departure.lateStores }, { on := 5, ground := Ground.textOnly Departure.lateStores }, { on := 6, ground := Ground.textOnly Departure.lateStores }, { on := 7, ground := Ground.textOnly Departure.lateStores }], guard := none }) (v := ?_) rfl (by kernel_rfl) (by kernel_rfl) (by kernel_rfl) (fun _ _ _ h => h) (Or.inl ⟨by rfl, ?_⟩) (by assumption) ?_
  rotate_left
  · (intro w hSw; (try dsimp only at hSw); go_simp; try with_reducible rfl)
  simp only [Act.put, List.setIfInBounds_toArray, List.set_cons_zero, List.set_cons_succ]
  refine wpAnyH_take (i := 9) (oi := { dst := some 11, op := Op.assign (Operand.tmp 39), type := 4, pos := _, after := #[{ on := 6, ground := Ground.data }, { on := 8, ground := Ground.chain }, { on := 0, ground := Ground.phase }, { on := 1, ground := Ground.phase }, { on := 2, ground := Ground.phase }, { on := 3, ground := Ground.phase }, { on := 4, ground := Ground.phase }, { on := 5, ground := Ground.phase }, { on := 6, ground := Ground.phase }, { on := 7, ground := Ground.textOnly Departure.lateStores }, { on := 8, ground := Ground.phase }], guard := none }) (v := ?_) rfl (by kernel_rfl) (by kernel_rfl) (by kernel_rfl) (fun _ _ _ h => h) (Or.inl ⟨by rfl, ?_⟩) (by assumption) ?_
  rotate_left
  · (intro w hSw; (try dsimp only at hSw); go_simp; try with_reducible rfl)
  simp only [Act.put, List.setIfInBounds_toArray, List.set_cons_zero, List.set_cons_succ]
  refine wpAnyH_ready (rs := [10]) (by kernel_rfl) (by simp) ?_
  refine AllReadyH.cons (o := { dst := none, op := Op.store 40 (Operand.tmp 12) (Operand.tmp 40), type := 0, pos := _, after := #[{ on := 7, ground := Ground.data }, { on := 9, ground := Ground.chain }, { on := 0, ground := Ground.phase }, { on := 1, ground := Ground.phase }, { on := 2, ground := Ground.phase }, { on := 3, ground := Ground.phase }, { on := 4, ground := Ground.phase }, { on := 5, ground := Ground.phase }, { on := 6, ground := Ground.phase }, { on := 7, ground := Ground.phase }, { on := 8, ground := Ground.phase }, { on := 9, ground := Ground.phase }], guard := none }) rfl (fun K hK => ?_) AllReadyH.nil
  go_simp
  skip
  refine hK.out _ _ ?_ (fun hHeld => ?_)
  · ((try dsimp only); with_reducible exact T2.out.four.1)
  clear hK K
  try simp only [Act.put, List.setIfInBounds_toArray, List.set_cons_zero, List.set_cons_succ]
  refine wpAnyH_done (by kernel_rfl) ?_ _
  go_wp2_with fail
  exact bodyPost_ret (v := .tuple #[.int .u32 W, .bool false, .agg #[.bool gn, .bool gz, .bool gc, .bool gv]]) (by simp [results, Tryz.results82, go_sem, c0, c1, c2, c3]) rfl ⟨rfl, below_drew T3.out⟩
set_option maxRecDepth 100000 in
set_option maxHeartbeats 1000000 in
theorem gdo_13 (a b : Int) (sh fn fz fc fv : Bool) (w : World) (a0 : 0 ≤ a) (a1 : a < 4294967296) (b0 : 0 ≤ b) (b1 : b < 4294967296) :
    Calls Tryz.prog 82 #[.int .i64 13, .int .u32 a, .int .u32 b, .bool sh, .agg #[.bool fn, .bool fz, .bool fc, .bool fv]] w fun e w' => e = .returned (.tuple #[.int .u32 (bits .or .u32 a b), .bool true, .agg #[.bool (lgF (bits .or .u32 a b) sh fv).n, .bool (lgF (bits .or .u32 a b) sh fv).z, .bool (lgF (bits .or .u32 a b) sh fv).c, .bool (lgF (bits .or .u32 a b) sh fv).v]]) ∧ Below w.heap.size w w' := by
  have HO : Hid (∀ w, Calls Tryz.prog 103 #[.bool sh, .agg #[.bool fn, .bool fz, .bool fc, .bool fv]] w fun e w' => e = .returned (.agg (opsA (w.heap.size + 1) (w.heap.size + 1 + 1 + 1))) ∧ OpS w' w.heap.size (w.heap.size + 1) (w.heap.size + 1 + 1 + 1) sh fn fz fc fv ∧ Below w.heap.size w w') := fun w => gops_any sh fn fz fc fv w
  have HC : Hid (∀ w x0 x1 x3, OpS w x0 x1 x3 sh fn fz fc fv → Calls Tryz.prog 127 #[.int .u32 a, .int .u32 b, .pointer (some ⟨x3, 0, none⟩)] w fun e w' => e = .returned (.tuple #[.int .u32 (bits .or .u32 a b), .agg #[.bool (lgF (bits .or .u32 a b) sh fv).n, .bool (lgF (bits .or .u32 a b) sh fv).z, .bool (lgF (bits .or .u32 a b) sh fv).c, .bool (lgF (bits .or .u32 a b) sh fv).v]]) ∧ Below w.heap.size w w') := fun w x0 x1 x3 h => gcl_10 a b x0 x1 x3 sh fn fz fc fv w a0 a1 b0 b1 h
  generalize lgF (bits .or .u32 a b) sh fv = F at *
  generalize hW : bits .or .u32 a b = W at *
  obtain ⟨gn, gz, gc, gv⟩ := F
  try simp only at *
  clear a0 a1 b0 b1 hW
  go_enter Tryz.func82, Tryz.ntmps82
  go_wp2_with (go_at_call 103; refine Hid.out ?_)
  show Calls _ _ _ _ _
  refine (HO.out _).mono ?_
  rintro e w1 ⟨rfl, hS, hb⟩
  have R1 := (Bl.new _ _ _).below hb
  simp at R1
  have HW : Hid (Below w.heap.size w w1) := Below.step (Below.step (below_new _ _) (below_new _ _)) hb
  generalize ((w.alloc _).alloc _).heap.size = x0 at hS ⊢
  have hS : Hid (OpS _ _ _ _ _ _ _ _ _) := hS
  have hI := idx_13 (x0 + 1) (x0 + 1 + 1 + 1)
  generalize opsA (x0 + 1) (x0 + 1 + 1 + 1) = A at hI ⊢
  generalize x0 + 1 + 1 + 1 = x3 at hI hS
  generalize x0 + 1 = x1 at hI hS
  clear hb HO
  have R1 : Hid (Bl _ _ _ _) := R1
  go_wp2_with (go_at_call 127; refine Hid.out ?_)
  show Calls _ _ _ _ _
  refine (HC.out _ _ _ _ hS.out).mono ?_
  rintro e w' ⟨rfl, hb2⟩
  have R2 : Hid (Bl _ _ _ _) := (R1.out.below hb2).alloc (.cells #[.bool gn, .bool gz, .bool gc, .bool gv] 40)
  have N2 : Hid (Bl _ _ _ _) := Bl.new w' 40 [.bool gn, .bool gz, .bool gc, .bool gv]
  have HW2 : Hid (Below w.heap.size w (w'.alloc (.cells #[.bool gn, .bool gz, .bool gc, .bool gv] 40))) := Below.step (Below.step HW.out hb2) (below_new _ _)
  have hne : ¬ w'.heap.size = w.heap.size + 1 := by
    have := (R1.out.below hb2).lt
    omega
  clear R1 hS HW hb2 HC hI
  go_wp2_with fail
  generalize (w'.alloc _) = w2 at R2 N2 HW2 ⊢
  generalize w'.heap.size = nb at N2 hne ⊢
  obtain ⟨T1, T2, T0⟩ := put4 R2.out N2.out hne (.bool gn) (.bool gz) (.bool gc) (.bool gv)
  have T3 : Hid (Below _ _ _) := T0 w.heap.size w (by omega) HW2.out
  have T2 : Hid (Bl _ _ _ _) := T2.drew
  clear T0 T1
  obtain ⟨⟨c0, c1, c2, c3⟩, d0, d1, d2, d3⟩ := R2.out.four
  obtain ⟨⟨k0, k1, k2, k3⟩, l0, l1, l2, l3⟩ := N2.out.drew.four
  refine wp_region_held_drew (S := fun w' => w'.cell? ⟨nb, 0, none⟩ = some (.bool gn) ∧ w'.cell? ⟨nb, 1, none⟩ = some (.bool gz) ∧ w'.cell? ⟨nb, 2, none⟩ = some (.bool gc) ∧ w'.cell? ⟨nb, 3, none⟩ = some (.bool gv)) (by kernel_rfl) ⟨k0, k1, k2, k3⟩ (fun hHeld => ?_)
  refine wpAnyH_take (i := 0) (oi := { dst := some 33, op := Op.move (Operand.tmp 13), type := 22, pos := _, after := #[], guard := none }) (v := ?_) rfl (by kernel_rfl) (by kernel_rfl) (by kernel_rfl) (fun _ _ _ h => h) (Or.inl ⟨by rfl, ?_⟩) (by assumption) ?_
  rotate_left
  · (intro w hSw; (try dsimp only at hSw); go_simp; try with_reducible rfl)
  simp only [Act.put, List.setIfInBounds_toArray, List.set_cons_zero, List.set_cons_succ]
  refine wpAnyH_take (i := 1) (oi := { dst := some 34, op := Op.move (Operand.tmp 0), type := 3, pos := _, after := #[], guard := none }) (v := ?_) rfl (by kernel_rfl) (by kernel_rfl) (by kernel_rfl) (fun _ _ _ h => h) (Or.inl ⟨by rfl, ?_⟩) (by assumption) ?_
  rotate_left
  · (intro w hSw; (try dsimp only at hSw); go_simp; try with_reducible rfl)
  simp only [Act.put, List.setIfInBounds_toArray, List.set_cons_zero, List.set_cons_succ]
  refine wpAnyH_take (i := 2) (oi := { dst := some 35, op := Op.binOp BinOp.lss 3 (Operand.tmp 34) (Operand.const (Value.int IntKind.i64 9)) 3, type := 4, pos := _, after := #[{ on := 1, ground := Ground.data }], guard := none }) (v := ?_) rfl (by kernel_rfl) (by kernel_rfl) (by kernel_rfl) (fun _ _ _ h => h) (Or.inl ⟨by rfl, ?_⟩) (by assumption) ?_
  rotate_left
  · (intro w hSw; (try dsimp only at hSw); go_simp; try with_reducible rfl)
  simp only [Act.put, List.setIfInBounds_toArray, List.set_cons_zero, List.set_cons_succ]
  refine wpAnyH_take (i := 3) (oi := { dst := some 36, op := Op.move (Operand.tmp 35), type := 4, pos := _, after := #[{ on := 2, ground := Ground.data }], guard := none }) (v := ?_) rfl (by kernel_rfl) (by kernel_rfl) (by kernel_rfl) (fun _ _ _ h => h) (Or.inl ⟨by rfl, ?_⟩) (by assumption) ?_
  rotate_left
  · (intro w hSw; (try dsimp only at hSw); go_simp; try with_reducible rfl)
  simp only [Act.put, List.setIfInBounds_toArray, List.set_cons_zero, List.set_cons_succ]
  refine wpAnyH_take (i := 4) (oi := { dst := some 37, op := Op.move (Operand.tmp 0), type := 3, pos := _, after := #[{ on := 3, ground := Ground.guard }, { on := 8, ground := Ground.gcOnly Departure.lateStores }], guard := some (3, false) }) (v := ?_) rfl (by kernel_rfl) (by kernel_rfl) (by kernel_rfl) (fun _ _ _ h => h) (Or.inl ⟨by rfl, ?_⟩) (by assumption) ?_
  rotate_left
  · (intro w hSw; (try dsimp only at hSw); go_simp; try with_reducible rfl)
  simp only [Act.put, List.setIfInBounds_toArray, List.set_cons_zero, List.set_cons_succ]
  refine wpAnyH_take (i := 5) (oi := { dst := some 38, op := Op.binOp BinOp.gtr 3 (Operand.tmp 37) (Operand.const (Value.int IntKind.i64 12)) 3, type := 4, pos := _, after := #[{ on := 4, ground := Ground.data }, { on := 3, ground := Ground.guard }, { on := 8, ground := Ground.gcOnly Departure.lateStores }], guard := some (3, false) }) (v := ?_) rfl (by kernel_rfl) (by kernel_rfl) (by kernel_rfl) (fun _ _ _ h => h) (Or.inl ⟨by rfl, ?_⟩) (by assumption) ?_
  rotate_left
  · (intro w hSw; (try dsimp only at hSw); go_simp; try with_reducible rfl)
  simp only [Act.put, List.setIfInBounds_toArray, List.set_cons_zero, List.set_cons_succ]
  refine wpAnyH_take (i := 6) (oi := { dst := some 39, op := Op.pick (Operand.tmp 36) (Operand.const (Value.bool true)) (Operand.tmp 38), type := 4, pos := _, after := #[{ on := 3, ground := Ground.data }, { on := 5, ground := Ground.data }, { on := 8, ground := Ground.gcOnly Departure.lateStores }], guard := none }) (v := ?_) rfl (by kernel_rfl) (by kernel_rfl) (by kernel_rfl) (fun _ _ _ h => h) (Or.inl ⟨by rfl, ?_⟩) (by assumption) ?_
  rotate_left
  · (intro w hSw; (try dsimp only at hSw); go_simp; try with_reducible rfl)
  simp only [Act.put, List.setIfInBounds_toArray, List.set_cons_zero, List.set_cons_succ]
  refine wpAnyH_take (i := 7) (oi := { dst := some 40, op := Op.load 40 (Operand.tmp 14), type := 40, pos := _, after := #[{ on := 9, ground := Ground.gcOnly Departure.lateStores }], guard := none }) (v := ?_) rfl (by kernel_rfl) (by kernel_rfl) (by kernel_rfl) (fun _ _ _ h => h) (Or.inl ⟨by rfl, ?_⟩) (by assumption) ?_
  rotate_left
  · (intro w hSw; (try dsimp only at hSw); go_simp; try with_reducible rfl)
  simp only [Act.put, List.setIfInBounds_toArray, List.set_cons_zero, List.set_cons_succ]
  refine wpAnyH_take (i := 8) (oi := { dst := some 10, op := Op.assign (Operand.tmp 33), type := 22, pos := _, after := #[{ on := 0, ground := Ground.data }, { on := 3, ground := Ground.chain }, { on := 0, ground := Ground.phase }, { on := 1, ground := Ground.textOnly Departure.lateStores }, { on := 2, ground := Ground.textOnly Departure.lateStores }, { on := 3, ground := Ground.textOnly Departure.lateStores }, { on := 4, ground := Ground.textOnly Departure.lateStores }, { on := 5, ground := Ground.textOnly Departure.lateStores }, { on := 6, ground := Ground.textOnly Departure.lateStores }, { on := 7, ground := Ground.textOnly Departure.lateStores }], guard := none }) (v := ?_) rfl (by kernel_rfl) (by kernel_rfl) (by kernel_rfl) (fun _ _ _ h => h) (Or.inl ⟨by rfl, ?_⟩) (by assumption) ?_
  rotate_left
  · (intro w hSw; (try dsimp only at hSw); go_simp; try with_reducible rfl)
  simp only [Act.put, List.setIfInBounds_toArray, List.set_cons_zero, List.set_cons_succ]
  refine wpAnyH_take (i := 9) (oi := { dst := some 11, op := Op.assign (Operand.tmp 39), type := 4, pos := _, after := #[{ on := 6, ground := Ground.data }, { on := 8, ground := Ground.chain }, { on := 0, ground := Ground.phase }, { on := 1, ground := Ground.phase }, { on := 2, ground := Ground.phase }, { on := 3, ground := Ground.phase }, { on := 4, ground := Ground.phase }, { on := 5, ground := Ground.phase }, { on := 6, ground := Ground.phase }, { on := 7, ground := Ground.textOnly Departure.lateStores }, { on := 8, ground := Ground.phase }], guard := none }) (v := ?_) rfl (by kernel_rfl) (by kernel_rfl) (by kernel_rfl) (fun _ _ _ h => h) (Or.inl ⟨by rfl, ?_⟩) (by assumption) ?_
  rotate_left
  · (intro w hSw; (try dsimp only at hSw); go_simp; try with_reducible rfl)
  simp only [Act.put, List.setIfInBounds_toArray, List.set_cons_zero, List.set_cons_succ]
  refine wpAnyH_ready (rs := [10]) (by kernel_rfl) (by simp) ?_
  refine AllReadyH.cons (o := { dst := none, op := Op.store 40 (Operand.tmp 12) (Operand.tmp 40), type := 0, pos := _, after := #[{ on := 7, ground := Ground.data }, { on := 9, ground := Ground.chain }, { on := 0, ground := Ground.phase }, { on := 1, ground := Ground.phase }, { on := 2, ground := Ground.phase }, { on := 3, ground := Ground.phase }, { on := 4, ground := Ground.phase }, { on := 5, ground := Ground.phase }, { on := 6, ground := Ground.phase }, { on := 7, ground := Ground.phase }, { on := 8, ground := Ground.phase }, { on := 9, ground := Ground.phase }], guard := none }) rfl (fun K hK => ?_) AllReadyH.nil
  go_simp
  skip
  refine hK.out _ _ ?_ (fun hHeld => ?_)
  · ((try dsimp only); with_reducible exact T2.out.four.1)
  clear hK K
  try simp only [Act.put, List.setIfInBounds_toArray, List.set_cons_zero, List.set_cons_succ]
  refine wpAnyH_done (by kernel_rfl) ?_ _
  go_wp2_with fail
  exact bodyPost_ret (v := .tuple #[.int .u32 W, .bool true, .agg #[.bool gn, .bool gz, .bool gc, .bool gv]]) (by simp [results, Tryz.results82, go_sem, c0, c1, c2, c3]) rfl ⟨rfl, below_drew T3.out⟩
set_option maxRecDepth 100000 in
set_option maxHeartbeats 1000000 in
theorem gdo_14 (a b : Int) (sh fn fz fc fv : Bool) (w : World) (a0 : 0 ≤ a) (a1 : a < 4294967296) (b0 : 0 ≤ b) (b1 : b < 4294967296) :
    Calls Tryz.prog 82 #[.int .i64 14, .int .u32 a, .int .u32 b, .bool sh, .agg #[.bool fn, .bool fz, .bool fc, .bool fv]] w fun e w' => e = .returned (.tuple #[.int .u32 (b), .bool true, .agg #[.bool (lgF (b) sh fv).n, .bool (lgF (b) sh fv).z, .bool (lgF (b) sh fv).c, .bool (lgF (b) sh fv).v]]) ∧ Below w.heap.size w w' := by
  have HO : Hid (∀ w, Calls Tryz.prog 103 #[.bool sh, .agg #[.bool fn, .bool fz, .bool fc, .bool fv]] w fun e w' => e = .returned (.agg (opsA (w.heap.size + 1) (w.heap.size + 1 + 1 + 1))) ∧ OpS w' w.heap.size (w.heap.size + 1) (w.heap.size + 1 + 1 + 1) sh fn fz fc fv ∧ Below w.heap.size w w') := fun w => gops_any sh fn fz fc fv w
  have HC : Hid (∀ w x0 x1 x3, OpS w x0 x1 x3 sh fn fz fc fv → Calls Tryz.prog 128 #[.int .u32 a, .int .u32 b, .pointer (some ⟨x3, 0, none⟩)] w fun e w' => e = .returned (.tuple #[.int .u32 (b), .agg #[.bool (lgF (b) sh fv).n, .bool (lgF (b) sh fv).z, .bool (lgF (b) sh fv).c, .bool (lgF (b) sh fv).v]]) ∧ Below w.heap.size w w') := fun w x0 x1 x3 h => gcl_11 a b x0 x1 x3 sh fn fz fc fv w a0 a1 b0 b1 h
  generalize lgF (b) sh fv = F at *
  have hW : True := trivial
  obtain ⟨gn, gz, gc, gv⟩ := F
  try simp only at *
  clear a0 a1 b0 b1 hW
  go_enter Tryz.func82, Tryz.ntmps82
  go_wp2_with (go_at_call 103; refine Hid.out ?_)
  show Calls _ _ _ _ _
  refine (HO.out _).mono ?_
  rintro e w1 ⟨rfl, hS, hb⟩
  have R1 := (Bl.new _ _ _).below hb
  simp at R1
  have HW : Hid (Below w.heap.size w w1) := Below.step (Below.step (below_new _ _) (below_new _ _)) hb
  generalize ((w.alloc _).alloc _).heap.size = x0 at hS ⊢
  have hS : Hid (OpS _ _ _ _ _ _ _ _ _) := hS
  have hI := idx_14 (x0 + 1) (x0 + 1 + 1 + 1)
  generalize opsA (x0 + 1) (x0 + 1 + 1 + 1) = A at hI ⊢
  generalize x0 + 1 + 1 + 1 = x3 at hI hS
  generalize x0 + 1 = x1 at hI hS
  clear hb HO
  have R1 : Hid (Bl _ _ _ _) := R1
  go_wp2_with (go_at_call 128; refine Hid.out ?_)
  show Calls _ _ _ _ _
  refine (HC.out _ _ _ _ hS.out).mono ?_
  rintro e w' ⟨rfl, hb2⟩
  have R2 : Hid (Bl _ _ _ _) := (R1.out.below hb2).alloc (.cells #[.bool gn, .bool gz, .bool gc, .bool gv] 40)
  have N2 : Hid (Bl _ _ _ _) := Bl.new w' 40 [.bool gn, .bool gz, .bool gc, .bool gv]
  have HW2 : Hid (Below w.heap.size w (w'.alloc (.cells #[.bool gn, .bool gz, .bool gc, .bool gv] 40))) := Below.step (Below.step HW.out hb2) (below_new _ _)
  have hne : ¬ w'.heap.size = w.heap.size + 1 := by
    have := (R1.out.below hb2).lt
    omega
  clear R1 hS HW hb2 HC hI
  go_wp2_with fail
  generalize (w'.alloc _) = w2 at R2 N2 HW2 ⊢
  generalize w'.heap.size = nb at N2 hne ⊢
  obtain ⟨T1, T2, T0⟩ := put4 R2.out N2.out hne (.bool gn) (.bool gz) (.bool gc) (.bool gv)
  have T3 : Hid (Below _ _ _) := T0 w.heap.size w (by omega) HW2.out
  have T2 : Hid (Bl _ _ _ _) := T2.drew
  clear T0 T1
  obtain ⟨⟨c0, c1, c2, c3⟩, d0, d1, d2, d3⟩ := R2.out.four
  obtain ⟨⟨k0, k1, k2, k3⟩, l0, l1, l2, l3⟩ := N2.out.drew.four
  refine wp_region_held_drew (S := fun w' => w'.cell? ⟨nb, 0, none⟩ = some (.bool gn) ∧ w'.cell? ⟨nb, 1, none⟩ = some (.bool gz) ∧ w'.cell? ⟨nb, 2, none⟩ = some (.bool gc) ∧ w'.cell? ⟨nb, 3, none⟩ = some (.bool gv)) (by kernel_rfl) ⟨k0, k1, k2, k3⟩ (fun hHeld => ?_)
  refine wpAnyH_take (i := 0) (oi := { dst := some 33, op := Op.move (Operand.tmp 13), type := 22, pos := _, after := #[], guard := none }) (v := ?_) rfl (by kernel_rfl) (by kernel_rfl) (by kernel_rfl) (fun _ _ _ h => h) (Or.inl ⟨by rfl, ?_⟩) (by assumption) ?_
  rotate_left
  · (intro w hSw; (try dsimp only at hSw); go_simp; try with_reducible rfl)
  simp only [Act.put, List.setIfInBounds_toArray, List.set_cons_zero, List.set_cons_succ]
  refine wpAnyH_take (i := 1) (oi := { dst := some 34, op := Op.move (Operand.tmp 0), type := 3, pos := _, after := #[], guard := none }) (v := ?_) rfl (by kernel_rfl) (by kernel_rfl) (by kernel_rfl) (fun _ _ _ h => h) (Or.inl ⟨by rfl, ?_⟩) (by assumption) ?_
  rotate_left
  · (intro w hSw; (try dsimp only at hSw); go_simp; try with_reducible rfl)
  simp only [Act.put, List.setIfInBounds_toArray, List.set_cons_zero, List.set_cons_succ]
  refine wpAnyH_take (i := 2) (oi := { dst := some 35, op := Op.binOp BinOp.lss 3 (Operand.tmp 34) (Operand.const (Value.int IntKind.i64 9)) 3, type := 4, pos := _, after := #[{ on := 1, ground := Ground.data }], guard := none }) (v := ?_) rfl (by kernel_rfl) (by kernel_rfl) (by kernel_rfl) (fun _ _ _ h => h) (Or.inl ⟨by rfl, ?_⟩) (by assumption) ?_
  rotate_left
  · (intro w hSw; (try dsimp only at hSw); go_simp; try with_reducible rfl)
  simp only [Act.put, List.setIfInBounds_toArray, List.set_cons_zero, List.set_cons_succ]
  refine wpAnyH_take (i := 3) (oi := { dst := some 36, op := Op.move (Operand.tmp 35), type := 4, pos := _, after := #[{ on := 2, ground := Ground.data }], guard := none }) (v := ?_) rfl (by kernel_rfl) (by kernel_rfl) (by kernel_rfl) (fun _ _ _ h => h) (Or.inl ⟨by rfl, ?_⟩) (by assumption) ?_
  rotate_left
  · (intro w hSw; (try dsimp only at hSw); go_simp; try with_reducible rfl)
  simp only [Act.put, List.setIfInBounds_toArray, List.set_cons_zero, List.set_cons_succ]
  refine wpAnyH_take (i := 4) (oi := { dst := some 37, op := Op.move (Operand.tmp 0), type := 3, pos := _, after := #[{ on := 3, ground := Ground.guard }, { on := 8, ground := Ground.gcOnly Departure.lateStores }], guard := some (3, false) }) (v := ?_) rfl (by kernel_rfl) (by kernel_rfl) (by kernel_rfl) (fun _ _ _ h => h) (Or.inl ⟨by rfl, ?_⟩) (by assumption) ?_
  rotate_left
  · (intro w hSw; (try dsimp only at hSw); go_simp; try with_reducible rfl)
  simp only [Act.put, List.setIfInBounds_toArray, List.set_cons_zero, List.set_cons_succ]
  refine wpAnyH_take (i := 5) (oi := { dst := some 38, op := Op.binOp BinOp.gtr 3 (Operand.tmp 37) (Operand.const (Value.int IntKind.i64 12)) 3, type := 4, pos := _, after := #[{ on := 4, ground := Ground.data }, { on := 3, ground := Ground.guard }, { on := 8, ground := Ground.gcOnly Departure.lateStores }], guard := some (3, false) }) (v := ?_) rfl (by kernel_rfl) (by kernel_rfl) (by kernel_rfl) (fun _ _ _ h => h) (Or.inl ⟨by rfl, ?_⟩) (by assumption) ?_
  rotate_left
  · (intro w hSw; (try dsimp only at hSw); go_simp; try with_reducible rfl)
  simp only [Act.put, List.setIfInBounds_toArray, List.set_cons_zero, List.set_cons_succ]
  refine wpAnyH_take (i := 6) (oi := { dst := some 39, op := Op.pick (Operand.tmp 36) (Operand.const (Value.bool true)) (Operand.tmp 38), type := 4, pos := _, after := #[{ on := 3, ground := Ground.data }, { on := 5, ground := Ground.data }, { on := 8, ground := Ground.gcOnly Departure.lateStores }], guard := none }) (v := ?_) rfl (by kernel_rfl) (by kernel_rfl) (by kernel_rfl) (fun _ _ _ h => h) (Or.inl ⟨by rfl, ?_⟩) (by assumption) ?_
  rotate_left
  · (intro w hSw; (try dsimp only at hSw); go_simp; try with_reducible rfl)
  simp only [Act.put, List.setIfInBounds_toArray, List.set_cons_zero, List.set_cons_succ]
  refine wpAnyH_take (i := 7) (oi := { dst := some 40, op := Op.load 40 (Operand.tmp 14), type := 40, pos := _, after := #[{ on := 9, ground := Ground.gcOnly Departure.lateStores }], guard := none }) (v := ?_) rfl (by kernel_rfl) (by kernel_rfl) (by kernel_rfl) (fun _ _ _ h => h) (Or.inl ⟨by rfl, ?_⟩) (by assumption) ?_
  rotate_left
  · (intro w hSw; (try dsimp only at hSw); go_simp; try with_reducible rfl)
  simp only [Act.put, List.setIfInBounds_toArray, List.set_cons_zero, List.set_cons_succ]
  refine wpAnyH_take (i := 8) (oi := { dst := some 10, op := Op.assign (Operand.tmp 33), type := 22, pos := _, after := #[{ on := 0, ground := Ground.data }, { on := 3, ground := Ground.chain }, { on := 0, ground := Ground.phase }, { on := 1, ground := Ground.textOnly Departure.lateStores }, { on := 2, ground := Ground.textOnly Departure.lateStores }, { on := 3, ground := Ground.textOnly Departure.lateStores }, { on := 4, ground := Ground.textOnly Departure.lateStores }, { on := 5, ground := Ground.textOnly Departure.lateStores }, { on := 6, ground := Ground.textOnly Departure.lateStores }, { on := 7, ground := Ground.textOnly Departure.lateStores }], guard := none }) (v := ?_) rfl (by kernel_rfl) (by kernel_rfl) (by kernel_rfl) (fun _ _ _ h => h) (Or.inl ⟨by rfl, ?_⟩) (by assumption) ?_
  rotate_left
  · (intro w hSw; (try dsimp only at hSw); go_simp; try with_reducible rfl)
  simp only [Act.put, List.setIfInBounds_toArray, List.set_cons_zero, List.set_cons_succ]
  refine wpAnyH_take (i := 9) (oi := { dst := some 11, op := Op.assign (Operand.tmp 39), type := 4, pos := _, after := #[{ on := 6, ground := Ground.data }, { on := 8, ground := Ground.chain }, { on := 0, ground := Ground.phase }, { on := 1, ground := Ground.phase }, { on := 2, ground := Ground.phase }, { on := 3, ground := Ground.phase }, { on := 4, ground := Ground.phase }, { on := 5, ground := Ground.phase }, { on := 6, ground := Ground.phase }, { on := 7, ground := Ground.textOnly Departure.lateStores }, { on := 8, ground := Ground.phase }], guard := none }) (v := ?_) rfl (by kernel_rfl) (by kernel_rfl) (by kernel_rfl) (fun _ _ _ h => h) (Or.inl ⟨by rfl, ?_⟩) (by assumption) ?_
  rotate_left
  · (intro w hSw; (try dsimp only at hSw); go_simp; try with_reducible rfl)
  simp only [Act.put, List.setIfInBounds_toArray, List.set_cons_zero, List.set_cons_succ]
  refine wpAnyH_ready (rs := [10]) (by kernel_rfl) (by simp) ?_
  refine AllReadyH.cons (o := { dst := none, op := Op.store 40 (Operand.tmp 12) (Operand.tmp 40), type := 0, pos := _, after := #[{ on := 7, ground := Ground.data }, { on := 9, ground := Ground.chain }, { on := 0, ground := Ground.phase }, { on := 1, ground := Ground.phase }, { on := 2, ground := Ground.phase }, { on := 3, ground := Ground.phase }, { on := 4, ground := Ground.phase }, { on := 5, ground := Ground.phase }, { on := 6, ground := Ground.phase }, { on := 7, ground := Ground.phase }, { on := 8, ground := Ground.phase }, { on := 9, ground := Ground.phase }], guard := none }) rfl (fun K hK => ?_) AllReadyH.nil
  go_simp
  skip
  refine hK.out _ _ ?_ (fun hHeld => ?_)
  · ((try dsimp only); with_reducible exact T2.out.four.1)
  clear hK K
  try simp only [Act.put, List.setIfInBounds_toArray, List.set_cons_zero, List.set_cons_succ]
  refine wpAnyH_done (by kernel_rfl) ?_ _
  go_wp2_with fail
  exact bodyPost_ret (v := .tuple #[.int .u32 b, .bool true, .agg #[.bool gn, .bool gz, .bool gc, .bool gv]]) (by simp [results, Tryz.results82, go_sem, c0, c1, c2, c3]) rfl ⟨rfl, below_drew T3.out⟩
set_option maxRecDepth 100000 in
set_option maxHeartbeats 1000000 in
theorem gdo_15 (a b : Int) (sh fn fz fc fv : Bool) (w : World) (a0 : 0 ≤ a) (a1 : a < 4294967296) (b0 : 0 ≤ b) (b1 : b < 4294967296) :
    Calls Tryz.prog 82 #[.int .i64 15, .int .u32 a, .int .u32 b, .bool sh, .agg #[.bool fn, .bool fz, .bool fc, .bool fv]] w fun e w' => e = .returned (.tuple #[.int .u32 (bits .andNot .u32 a b), .bool true, .agg #[.bool (lgF (bits .andNot .u32 a b) sh fv).n, .bool (lgF (bits .andNot .u32 a b) sh fv).z, .bool (lgF (bits .andNot .u32 a b) sh fv).c, .bool (lgF (bits .andNot .u32 a b) sh fv).v]]) ∧ Below w.heap.size w w' := by
  have HO : Hid (∀ w, Calls Tryz.prog 103 #[.bool sh, .agg #[.bool fn, .bool fz, .bool fc, .bool fv]] w fun e w' => e = .returned (.agg (opsA (w.heap.size + 1) (w.heap.size + 1 + 1 + 1))) ∧ OpS w' w.heap.size (w.heap.size + 1) (w.heap.size + 1 + 1 + 1) sh fn fz fc fv ∧ Below w.heap.size w w') := fun w => gops_any sh fn fz fc fv w
  have HC : Hid (∀ w x0 x1 x3, OpS w x0 x1 x3 sh fn fz fc fv → Calls Tryz.prog 129 #[.int .u32 a, .int .u32 b, .pointer (some ⟨x3, 0, none⟩)] w fun e w' => e = .returned (.tuple #[.int .u32 (bits .andNot .u32 a b), .agg #[.bool (lgF (bits .andNot .u32 a b) sh fv).n, .bool (lgF (bits .andNot .u32 a b) sh fv).z, .bool (lgF (bits .andNot .u32 a b) sh fv).c, .bool (lgF (bits .andNot .u32 a b) sh fv).v]]) ∧ Below w.heap.size w w') := fun w x0 x1 x3 h => gcl_12 a b x0 x1 x3 sh fn fz fc fv w a0 a1 b0 b1 h
  generalize lgF (bits .andNot .u32 a b) sh fv = F at *
  generalize hW : bits .andNot .u32 a b = W at *
  obtain ⟨gn, gz, gc, gv⟩ := F
  try simp only at *
  clear a0 a1 b0 b1 hW
  go_enter Tryz.func82, Tryz.ntmps82
  go_wp2_with (go_at_call 103; refine Hid.out ?_)
  show Calls _ _ _ _ _
  refine (HO.out _).mono ?_
  rintro e w1 ⟨rfl, hS, hb⟩
  have R1 := (Bl.new _ _ _).below hb
  simp at R1
  have HW : Hid (Below w.heap.size w w1) := Below.step (Below.step (below_new _ _) (below_new _ _)) hb
  generalize ((w.alloc _).alloc _).heap.size = x0 at hS ⊢
  have hS : Hid (OpS _ _ _ _ _ _ _ _ _) := hS
  have hI := idx_15 (x0 + 1) (x0 + 1 + 1 + 1)
  generalize opsA (x0 + 1) (x0 + 1 + 1 + 1) = A at hI ⊢
  generalize x0 + 1 + 1 + 1 = x3 at hI hS
  generalize x0 + 1 = x1 at hI hS
  clear hb HO
  have R1 : Hid (Bl _ _ _ _) := R1
  go_wp2_with (go_at_call 129; refine Hid.out ?_)
  show Calls _ _ _ _ _
  refine (HC.out _ _ _ _ hS.out).mono ?_
  rintro e w' ⟨rfl, hb2⟩
  have R2 : Hid (Bl _ _ _ _) := (R1.out.below hb2).alloc (.cells #[.bool gn, .bool gz, .bool gc, .bool gv] 40)
  have N2 : Hid (Bl _ _ _ _) := Bl.new w' 40 [.bool gn, .bool gz, .bool gc, .bool gv]
  have HW2 : Hid (Below w.heap.size w (w'.alloc (.cells #[.bool gn, .bool gz, .bool gc, .bool gv] 40))) := Below.step (Below.step HW.out hb2) (below_new _ _)
  have hne : ¬ w'.heap.size = w.heap.size + 1 := by
    have := (R1.out.below hb2).lt
    omega
  clear R1 hS HW hb2 HC hI
  go_wp2_with fail
  generalize (w'.alloc _) = w2 at R2 N2 HW2 ⊢
  generalize w'.heap.size = nb at N2 hne ⊢
  obtain ⟨T1, T2, T0⟩ := put4 R2.out N2.out hne (.bool gn) (.bool gz) (.bool gc) (.bool gv)
  have T3 : Hid (Below _ _ _) := T0 w.heap.size w (by omega) HW2.out
  have T2 : Hid (Bl _ _ _ _) := T2.drew
  clear T0 T1
  obtain ⟨⟨c0, c1, c2, c3⟩, d0, d1, d2, d3⟩ := R2.out.four
  obtain ⟨⟨k0, k1, k2, k3⟩, l0, l1, l2, l3⟩ := N2.out.drew.four
  refine wp_region_held_drew (S := fun w' => w'.cell? ⟨nb, 0, none⟩ = some (.bool gn) ∧ w'.cell? ⟨nb, 1, none⟩ = some (.bool gz) ∧ w'.cell? ⟨nb, 2, none⟩ = some (.bool gc) ∧ w'.cell? ⟨nb, 3, none⟩ = some (.bool gv)) (by kernel_rfl) ⟨k0, k1, k2, k3⟩ (fun hHeld => ?_)
  refine wpAnyH_take (i := 0) (oi := { dst := some 33, op := Op.move (Operand.tmp 13), type := 22, pos := _, after := #[], guard := none }) (v := ?_) rfl (by kernel_rfl) (by kernel_rfl) (by kernel_rfl) (fun _ _ _ h => h) (Or.inl ⟨by rfl, ?_⟩) (by assumption) ?_
  rotate_left
  · (intro w hSw; (try dsimp only at hSw); go_simp; try with_reducible rfl)
  simp only [Act.put, List.setIfInBounds_toArray, List.set_cons_zero, List.set_cons_succ]
  refine wpAnyH_take (i := 1) (oi := { dst := some 34, op := Op.move (Operand.tmp 0), type := 3, pos := _, after := #[], guard := none }) (v := ?_) rfl (by kernel_rfl) (by kernel_rfl) (by kernel_rfl) (fun _ _ _ h => h) (Or.inl ⟨by rfl, ?_⟩) (by assumption) ?_
  rotate_left
  · (intro w hSw; (try dsimp only at hSw); go_simp; try with_reducible rfl)
  simp only [Act.put, List.setIfInBounds_toArray, List.set_cons_zero, List.set_cons_succ]
  refine wpAnyH_take (i := 2) (oi := { dst := some 35, op := Op.binOp BinOp.lss 3 (Operand.tmp 34) (Operand.const (Value.int IntKind.i64 9)) 3, type := 4, pos := _, after := #[{ on := 1, ground := Ground.data }], guard := none }) (v := ?_) rfl (by kernel_rfl) (by kernel_rfl) (by kernel_rfl) (fun _ _ _ h => h) (Or.inl ⟨by rfl, ?_⟩) (by assumption) ?_
  rotate_left
  · (intro w hSw; (try dsimp only at hSw); go_simp; try with_reducible rfl)
  simp only [Act.put, List.setIfInBounds_toArray, List.set_cons_zero, List.set_cons_succ]
  refine wpAnyH_take (i := 3) (oi := { dst := some 36, op := Op.move (Operand.tmp 35), type := 4, pos := _, after := #[{ on := 2, ground := Ground.data }], guard := none }) (v := ?_) rfl (by kernel_rfl) (by kernel_rfl) (by kernel_rfl) (fun _ _ _ h => h) (Or.inl ⟨by rfl, ?_⟩) (by assumption) ?_
  rotate_left
  · (intro w hSw; (try dsimp only at hSw); go_simp; try with_reducible rfl)
  simp only [Act.put, List.setIfInBounds_toArray, List.set_cons_zero, List.set_cons_succ]
  refine wpAnyH_take (i := 4) (oi := { dst := some 37, op := Op.move (Operand.tmp 0), type := 3, pos := _, after := #[{ on := 3, ground := Ground.guard }, { on := 8, ground := Ground.gcOnly Departure.lateStores }], guard := some (3, false) }) (v := ?_) rfl (by kernel_rfl) (by kernel_rfl) (by kernel_rfl) (fun _ _ _ h => h) (Or.inl ⟨by rfl, ?_⟩) (by assumption) ?_
  rotate_left
  · (intro w hSw; (try dsimp only at hSw); go_simp; try with_reducible rfl)
  simp only [Act.put, List.setIfInBounds_toArray, List.set_cons_zero, List.set_cons_succ]
  refine wpAnyH_take (i := 5) (oi := { dst := some 38, op := Op.binOp BinOp.gtr 3 (Operand.tmp 37) (Operand.const (Value.int IntKind.i64 12)) 3, type := 4, pos := _, after := #[{ on := 4, ground := Ground.data }, { on := 3, ground := Ground.guard }, { on := 8, ground := Ground.gcOnly Departure.lateStores }], guard := some (3, false) }) (v := ?_) rfl (by kernel_rfl) (by kernel_rfl) (by kernel_rfl) (fun _ _ _ h => h) (Or.inl ⟨by rfl, ?_⟩) (by assumption) ?_
  rotate_left
  · (intro w hSw; (try dsimp only at hSw); go_simp; try with_reducible rfl)
  simp only [Act.put, List.setIfInBounds_toArray, List.set_cons_zero, List.set_cons_succ]
  refine wpAnyH_take (i := 6) (oi := { dst := some 39, op := Op.pick (Operand.tmp 36) (Operand.const (Value.bool true)) (Operand.tmp 38), type := 4, pos := _, after := #[{ on := 3, ground := Ground.data }, { on := 5, ground := Ground.data }, { on := 8, ground := Ground.gcOnly Departure.lateStores }], guard := none }) (v := ?_) rfl (by kernel_rfl) (by kernel_rfl) (by kernel_rfl) (fun _ _ _ h => h) (Or.inl ⟨by rfl, ?_⟩) (by assumption) ?_
  rotate_left
  · (intro w hSw; (try dsimp only at hSw); go_simp; try with_reducible rfl)
  simp only [Act.put, List.setIfInBounds_toArray, List.set_cons_zero, List.set_cons_succ]
  refine wpAnyH_take (i := 7) (oi := { dst := some 40, op := Op.load 40 (Operand.tmp 14), type := 40, pos := _, after := #[{ on := 9, ground := Ground.gcOnly Departure.lateStores }], guard := none }) (v := ?_) rfl (by kernel_rfl) (by kernel_rfl) (by kernel_rfl) (fun _ _ _ h => h) (Or.inl ⟨by rfl, ?_⟩) (by assumption) ?_
  rotate_left
  · (intro w hSw; (try dsimp only at hSw); go_simp; try with_reducible rfl)
  simp only [Act.put, List.setIfInBounds_toArray, List.set_cons_zero, List.set_cons_succ]
  refine wpAnyH_take (i := 8) (oi := { dst := some 10, op := Op.assign (Operand.tmp 33), type := 22, pos := _, after := #[{ on := 0, ground := Ground.data }, { on := 3, ground := Ground.chain }, { on := 0, ground := Ground.phase }, { on := 1, ground := Ground.textOnly Departure.lateStores }, { on := 2, ground := Ground.textOnly Departure.lateStores }, { on := 3, ground := Ground.textOnly Departure.lateStores }, { on := 4, ground := Ground.textOnly Departure.lateStores }, { on := 5, ground := Ground.textOnly Departure.lateStores }, { on := 6, ground := Ground.textOnly Departure.lateStores }, { on := 7, ground := Ground.textOnly Departure.lateStores }], guard := none }) (v := ?_) rfl (by kernel_rfl) (by kernel_rfl) (by kernel_rfl) (fun _ _ _ h => h) (Or.inl ⟨by rfl, ?_⟩) (by assumption) ?_
  rotate_left
  · (intro w hSw; (try dsimp only at hSw); go_simp; try with_reducible rfl)
  simp only [Act.put, List.setIfInBounds_toArray, List.set_cons_zero, List.set_cons_succ]
  refine wpAnyH_take (i := 9) (oi := { dst := some 11, op := Op.assign (Operand.tmp 39), type := 4, pos := _, after := #[{ on := 6, ground := Ground.data }, { on := 8, ground := Ground.chain }, { on := 0, ground := Ground.phase }, { on := 1, ground := Ground.phase }, { on := 2, ground := Ground.phase }, { on := 3, ground := Ground.phase }, { on := 4, ground := Ground.phase }, { on := 5, ground := Ground.phase }, { on := 6, ground := Ground.phase }, { on := 7, ground := Ground.textOnly Departure.lateStores }, { on := 8, ground := Ground.phase }], guard := none }) (v := ?_) rfl (by kernel_rfl) (by kernel_rfl) (by kernel_rfl) (fun _ _ _ h => h) (Or.inl ⟨by rfl, ?_⟩) (by assumption) ?_
  rotate_left
  · (intro w hSw; (try dsimp only at hSw); go_simp; try with_reducible rfl)
  simp only [Act.put, List.setIfInBounds_toArray, List.set_cons_zero, List.set_cons_succ]
  refine wpAnyH_ready (rs := [10]) (by kernel_rfl) (by simp) ?_
  refine AllReadyH.cons (o := { dst := none, op := Op.store 40 (Operand.tmp 12) (Operand.tmp 40), type := 0, pos := _, after := #[{ on := 7, ground := Ground.data }, { on := 9, ground := Ground.chain }, { on := 0, ground := Ground.phase }, { on := 1, ground := Ground.phase }, { on := 2, ground := Ground.phase }, { on := 3, ground := Ground.phase }, { on := 4, ground := Ground.phase }, { on := 5, ground := Ground.phase }, { on := 6, ground := Ground.phase }, { on := 7, ground := Ground.phase }, { on := 8, ground := Ground.phase }, { on := 9, ground := Ground.phase }], guard := none }) rfl (fun K hK => ?_) AllReadyH.nil
  go_simp
  skip
  refine hK.out _ _ ?_ (fun hHeld => ?_)
  · ((try dsimp only); with_reducible exact T2.out.four.1)
  clear hK K
  try simp only [Act.put, List.setIfInBounds_toArray, List.set_cons_zero, List.set_cons_succ]
  refine wpAnyH_done (by kernel_rfl) ?_ _
  go_wp2_with fail
  exact bodyPost_ret (v := .tuple #[.int .u32 W, .bool true, .agg #[.bool gn, .bool gz, .bool gc, .bool gv]]) (by simp [results, Tryz.results82, go_sem, c0, c1, c2, c3]) rfl ⟨rfl, below_drew T3.out⟩
set_option maxRecDepth 100000 in
set_option maxHeartbeats 1000000 in
theorem gdo_16 (a b : Int) (sh fn fz fc fv : Bool) (w : World) (a0 : 0 ≤ a) (a1 : a < 4294967296) (b0 : 0 ≤ b) (b1 : b < 4294967296) :
    Calls Tryz.prog 82 #[.int .i64 16, .int .u32 a, .int .u32 b, .bool sh, .agg #[.bool fn, .bool fz, .bool fc, .bool fv]] w fun e w' => e = .returned (.tuple #[.int .u32 (nt b), .bool true, .agg #[.bool (lgF (nt b) sh fv).n, .bool (lgF (nt b) sh fv).z, .bool (lgF (nt b) sh fv).c, .bool (lgF (nt b) sh fv).v]]) ∧ Below w.heap.size w w' := by
  have HO : Hid (∀ w, Calls Tryz.prog 103 #[.bool sh, .agg #[.bool fn, .bool fz, .bool fc, .bool fv]] w fun e w' => e = .returned (.agg (opsA (w.heap.size + 1) (w.heap.size + 1 + 1 + 1))) ∧ OpS w' w.heap.size (w.heap.size + 1) (w.heap.size + 1 + 1 + 1) sh fn fz fc fv ∧ Below w.heap.size w w') := fun w => gops_any sh fn fz fc fv w
  have HC : Hid (∀ w x0 x1 x3, OpS w x0 x1 x3 sh fn fz fc fv → Calls Tryz.prog 130 #[.int .u32 a, .int .u32 b, .pointer (some ⟨x3, 0, none⟩)] w fun e w' => e = .returned (.tuple #[.int .u32 (nt b), .agg #[.bool (lgF (nt b) sh fv).n, .bool (lgF (nt b) sh fv).z, .bool (lgF (nt b) sh fv).c, .bool (lgF (nt b) sh fv).v]]) ∧ Below w.heap.size w w') := fun w x0 x1 x3 h => gcl_13 a b x0 x1 x3 sh fn fz fc fv w a0 a1 b0 b1 h
  generalize lgF (nt b) sh fv = F at *
  generalize hW : nt b = W at *
  obtain ⟨gn, gz, gc, gv⟩ := F
  try simp only at *
  clear a0 a1 b0 b1 hW
  go_enter Tryz.func82, Tryz.ntmps82
  go_wp2_with (go_at_call 103; refine Hid.out ?_)
  show Calls _ _ _ _ _
  refine (HO.out _).mono ?_
  rintro e w1 ⟨rfl, hS, hb⟩
  have R1 := (Bl.new _ _ _).below hb
  simp at R1
  have HW : Hid (Below w.heap.size w w1) := Below.step (Below.step (below_new _ _) (below_new _ _)) hb
  generalize ((w.alloc _).alloc _).heap.size = x0 at hS ⊢
  have hS : Hid (OpS _ _ _ _ _ _ _ _ _) := hS
  have hI := idx_16 (x0 + 1) (x0 + 1 + 1 + 1)
  generalize opsA (x0 + 1) (x0 + 1 + 1 + 1) = A at hI ⊢
  generalize x0 + 1 + 1 + 1 = x3 at hI hS
  generalize x0 + 1 = x1 at hI hS
  clear hb HO
  have R1 : Hid (Bl _ _ _ _) := R1
  go_wp2_with (go_at_call 130; refine Hid.out ?_)
  show Calls _ _ _ _ _
  refine (HC.out _ _ _ _ hS.out).mono ?_
  rintro e w' ⟨rfl, hb2⟩
  have R2 : Hid (Bl _ _ _ _) := (R1.out.below hb2).alloc (.cells #[.bool gn, .bool gz, .bool gc, .bool gv] 40)
  have N2 : Hid (Bl _ _ _ _) := Bl.new w' 40 [.bool gn, .bool gz, .bool gc, .bool gv]
  have HW2 : Hid (Below w.heap.size w (w'.alloc (.cells #[.bool gn, .bool gz, .bool gc, .bool gv] 40))) := Below.step (Below.step HW.out hb2) (below_new _ _)
  have hne : ¬ w'.heap.size = w.heap.size + 1 := by
    have := (R1.out.below hb2).lt
    omega
  clear R1 hS HW hb2 HC hI
  go_wp2_with fail
  generalize (w'.alloc _) = w2 at R2 N2 HW2 ⊢
  generalize w'.heap.size = nb at N2 hne ⊢
  obtain ⟨T1, T2, T0⟩ := put4 R2.out N2.out hne (.bool gn) (.bool gz) (.bool gc) (.bool gv)
  have T3 : Hid (Below _ _ _) := T0 w.heap.size w (by omega) HW2.out
  have T2 : Hid (Bl _ _ _ _) := T2.drew
  clear T0 T1
  obtain ⟨⟨c0, c1, c2, c3⟩, d0, d1, d2, d3⟩ := R2.out.four
  obtain ⟨⟨k0, k1, k2, k3⟩, l0, l1, l2, l3⟩ := N2.out.drew.four
  refine wp_region_held_drew (S := fun w' => w'.cell? ⟨nb, 0, none⟩ = some (.bool gn) ∧ w'.cell? ⟨nb, 1, none⟩ = some (.bool gz) ∧ w'.cell? ⟨nb, 2, none⟩ = some (.bool gc) ∧ w'.cell? ⟨nb, 3, none⟩ = some (.bool gv)) (by kernel_rfl) ⟨k0, k1, k2, k3⟩ (fun hHeld => ?_)
  refine wpAnyH_take (i := 0) (oi := { dst := some 33, op := Op.move (Operand.tmp 13), type := 22, pos := _, after := #[], guard := none }) (v := ?_) rfl (by kernel_rfl) (by kernel_rfl) (by kernel_rfl) (fun _ _ _ h => h) (Or.inl ⟨by rfl, ?_⟩) (by assumption) ?_
  rotate_left
  · (intro w hSw; (try dsimp only at hSw); go_simp; try with_reducible rfl)
  simp only [Act.put, List.setIfInBounds_toArray, List.set_cons_zero, List.set_cons_succ]
  refine wpAnyH_take (i := 1) (oi := { dst := some 34, op := Op.move (Operand.tmp 0), type := 3, pos := _, after := #[], guard := none }) (v := ?_) rfl (by kernel_rfl) (by kernel_rfl) (by kernel_rfl) (fun _ _ _ h => h) (Or.inl ⟨by rfl, ?_⟩) (by assumption) ?_
  rotate_left
  · (intro w hSw; (try dsimp only at hSw); go_simp; try with_reducible rfl)
  simp only [Act.put, List.setIfInBounds_toArray, List.set_cons_zero, List.set_cons_succ]
  refine wpAnyH_take (i := 2) (oi := { dst := some 35, op := Op.binOp BinOp.lss 3 (Operand.tmp 34) (Operand.const (Value.int IntKind.i64 9)) 3, type := 4, pos := _, after := #[{ on := 1, ground := Ground.data }], guard := none }) (v := ?_) rfl (by kernel_rfl) (by kernel_rfl) (by kernel_rfl) (fun _ _ _ h => h) (Or.inl ⟨by rfl, ?_⟩) (by assumption) ?_
  rotate_left
  · (intro w hSw; (try dsimp only at hSw); go_simp; try with_reducible rfl)
  simp only [Act.put, List.setIfInBounds_toArray, List.set_cons_zero, List.set_cons_succ]
  refine wpAnyH_take (i := 3) (oi := { dst := some 36, op := Op.move (Operand.tmp 35), type := 4, pos := _, after := #[{ on := 2, ground := Ground.data }], guard := none }) (v := ?_) rfl (by kernel_rfl) (by kernel_rfl) (by kernel_rfl) (fun _ _ _ h => h) (Or.inl ⟨by rfl, ?_⟩) (by assumption) ?_
  rotate_left
  · (intro w hSw; (try dsimp only at hSw); go_simp; try with_reducible rfl)
  simp only [Act.put, List.setIfInBounds_toArray, List.set_cons_zero, List.set_cons_succ]
  refine wpAnyH_take (i := 4) (oi := { dst := some 37, op := Op.move (Operand.tmp 0), type := 3, pos := _, after := #[{ on := 3, ground := Ground.guard }, { on := 8, ground := Ground.gcOnly Departure.lateStores }], guard := some (3, false) }) (v := ?_) rfl (by kernel_rfl) (by kernel_rfl) (by kernel_rfl) (fun _ _ _ h => h) (Or.inl ⟨by rfl, ?_⟩) (by assumption) ?_
  rotate_left
  · (intro w hSw; (try dsimp only at hSw); go_simp; try with_reducible rfl)
  simp only [Act.put, List.setIfInBounds_toArray, List.set_cons_zero, List.set_cons_succ]
  refine wpAnyH_take (i := 5) (oi := { dst := some 38, op := Op.binOp BinOp.gtr 3 (Operand.tmp 37) (Operand.const (Value.int IntKind.i64 12)) 3, type := 4, pos := _, after := #[{ on := 4, ground := Ground.data }, { on := 3, ground := Ground.guard }, { on := 8, ground := Ground.gcOnly Departure.lateStores }], guard := some (3, false) }) (v := ?_) rfl (by kernel_rfl) (by kernel_rfl) (by kernel_rfl) (fun _ _ _ h => h) (Or.inl ⟨by rfl, ?_⟩) (by assumption) ?_
  rotate_left
  · (intro w hSw; (try dsimp only at hSw); go_simp; try with_reducible rfl)
  simp only [Act.put, List.setIfInBounds_toArray, List.set_cons_zero, List.set_cons_succ]
  refine wpAnyH_take (i := 6) (oi := { dst := some 39, op := Op.pick (Operand.tmp 36) (Operand.const (Value.bool true)) (Operand.tmp 38), type := 4, pos := _, after := #[{ on := 3, ground := Ground.data }, { on := 5, ground := Ground.data }, { on := 8, ground := Ground.gcOnly Departure.lateStores }], guard := none }) (v := ?_) rfl (by kernel_rfl) (by kernel_rfl) (by kernel_rfl) (fun _ _ _ h => h) (Or.inl ⟨by rfl, ?_⟩) (by assumption) ?_
  rotate_left
  · (intro w hSw; (try dsimp only at hSw); go_simp; try with_reducible rfl)
  simp only [Act.put, List.setIfInBounds_toArray, List.set_cons_zero, List.set_cons_succ]
  refine wpAnyH_take (i := 7) (oi := { dst := some 40, op := Op.load 40 (Operand.tmp 14), type := 40, pos := _, after := #[{ on := 9, ground := Ground.gcOnly Departure.lateStores }], guard := none }) (v := ?_) rfl (by kernel_rfl) (by kernel_rfl) (by kernel_rfl) (fun _ _ _ h => h) (Or.inl ⟨by rfl, ?_⟩) (by assumption) ?_
  rotate_left
  · (intro w hSw; (try dsimp only at hSw); go_simp; try with_reducible rfl)
  simp only [Act.put, List.setIfInBounds_toArray, List.set_cons_zero, List.set_cons_succ]
  refine wpAnyH_take (i := 8) (oi := { dst := some 10, op := Op.assign (Operand.tmp 33), type := 22, pos := _, after := #[{ on := 0, ground := Ground.data }, { on := 3, ground := Ground.chain }, { on := 0, ground := Ground.phase }, { on := 1, ground := Ground.textOnly Departure.lateStores }, { on := 2, ground := Ground.textOnly Departure.lateStores }, { on := 3, ground := Ground.textOnly Departure.lateStores }, { on := 4, ground := Ground.textOnly Departure.lateStores }, { on := 5, ground := Ground.textOnly Departure.lateStores }, { on := 6, ground := Ground.textOnly Departure.lateStores }, { on := 7, ground := Ground.textOnly Departure.lateStores }], guard := none }) (v := ?_) rfl (by kernel_rfl) (by kernel_rfl) (by kernel_rfl) (fun _ _ _ h => h) (Or.inl ⟨by rfl, ?_⟩) (by assumption) ?_
  rotate_left
  · (intro w hSw; (try dsimp only at hSw); go_simp; try with_reducible rfl)
  simp only [Act.put, List.setIfInBounds_toArray, List.set_cons_zero, List.set_cons_succ]
  refine wpAnyH_take (i := 9) (oi := { dst := some 11, op := Op.assign (Operand.tmp 39), type := 4, pos := _, after := #[{ on := 6, ground := Ground.data }, { on := 8, ground := Ground.chain }, { on := 0, ground := Ground.phase }, { on := 1, ground := Ground.phase }, { on := 2, ground := Ground.phase }, { on := 3, ground := Ground.phase }, { on := 4, ground := Ground.phase }, { on := 5, ground := Ground.phase }, { on := 6, ground := Ground.phase }, { on := 7, ground := Ground.textOnly Departure.lateStores }, { on := 8, ground := Ground.phase }], guard := none }) (v := ?_) rfl (by kernel_rfl) (by kernel_rfl) (by kernel_rfl) (fun _ _ _ h => h) (Or.inl ⟨by rfl, ?_⟩) (by assumption) ?_
  rotate_left
  · (intro w hSw; (try dsimp only at hSw); go_simp; try with_reducible rfl)
  simp only [Act.put, List.setIfInBounds_toArray, List.set_cons_zero, List.set_cons_succ]
  refine wpAnyH_ready (rs := [10]) (by kernel_rfl) (by simp) ?_
  refine AllReadyH.cons (o := { dst := none, op := Op.store 40 (Operand.tmp 12) (Operand.tmp 40), type := 0, pos := _, after := #[{ on := 7, ground := Ground.data }, { on := 9, ground := Ground.chain }, { on := 0, ground := Ground.phase }, { on := 1, ground := Ground.phase }, { on := 2, ground := Ground.phase }, { on := 3, ground := Ground.phase }, { on := 4, ground := Ground.phase }, { on := 5, ground := Ground.phase }, { on := 6, ground := Ground.phase }, { on := 7, ground := Ground.phase }, { on := 8, ground := Ground.phase }, { on := 9, ground := Ground.phase }], guard := none }) rfl (fun K hK => ?_) AllReadyH.nil
  go_simp
  skip
  refine hK.out _ _ ?_ (fun hHeld => ?_)
  · ((try dsimp only); with_reducible exact T2.out.four.1)
  clear hK K
  try simp only [Act.put, List.setIfInBounds_toArray, List.set_cons_zero, List.set_cons_succ]
  refine wpAnyH_done (by kernel_rfl) ?_ _
  go_wp2_with fail
  exact bodyPost_ret (v := .tuple #[.int .u32 W, .bool true, .agg #[.bool gn, .bool gz, .bool gc, .bool gv]]) (by simp [results, Tryz.results82, go_sem, c0, c1, c2, c3]) rfl ⟨rfl, below_drew T3.out⟩
end Go.Proofs.YtilhceajhlaojaaGreatDoor.Al
