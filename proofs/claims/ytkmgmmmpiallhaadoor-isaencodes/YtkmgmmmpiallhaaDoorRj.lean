import Derived.Test.YtkmgmmmpiallhaaDoorRh
namespace Go.Proofs.YtkmgmmmpiallhaaDoor
open Go.RowKit
set_option linter.unusedVariables false
set_option linter.unusedSimpArgs false
set_option maxRecDepth 100000 in
set_option maxHeartbeats 1000000 in
theorem say_t3 (b : Nat) (o0 fm : Int) (ol : List Int) (s : ByteArray) (x : Nat) (w : World) (FV CN : Int → Int)
    (HN : Hid (∀ (K : Int) w', 0 ≤ K → K < 256 → K ≠ 32 → Calls Tryd.prog 59 #[.string s, .int .u8 K, .int .u32 (x : Int)] w' fun e w'' => e = .returned (.int .i64 (FV K)) ∧ w'' = w'))
    (HF : Hid (∀ (K : Int) w', 0 ≤ K → K < 256 → K ≠ 32 → Calls Tryd.prog 57 #[.string s, .int .u8 K, .int .u32 (x : Int)] w' fun e w'' => e = .returned (.tuple #[.int .u32 (FV K), .int .i64 (CN K)]) ∧ w'' = w'))
    (hs : Sl w b (o0 :: ol)) (LEN : Nat) (hLN : 0 < LEN) (hO1 : decide (0 < CN 111) = true) (hS : (FV 115 == 1) = false) (h111 : FV 111 ≤ 15) (p111 : 0 ≤ FV 111) (h41 : (FV 111 + 1 == 41) = false) (h42 : (FV 111 + 1 == 42) = false) :
    Calls Tryd.prog 51 #[.agg #[.slice (some ⟨b, 0, none⟩) LEN LEN, .int .i64 fm, .string s], .int .u32 (x : Int)] w fun e w' => e = .returned (.agg #[.int .i64 (FV 99), .int .i64 (FV 111 + 1), .bool (decide (FV 111 + 1 = 9) || (decide (FV 111 + 1 = 10) || (decide (FV 111 + 1 = 11) || decide (FV 111 + 1 = 12)))), .int .i64 fm, .int .i64 (FV 100), .int .i64 (FV 110), .int .i64 (FV 109), .int .i64 (FV 114), .int .i64 (FV 97), .int .u32 (FV 105), .int .i64 (FV 116), .int .i64 (FV 107), .bool (FV 112 == 1), .bool (FV 117 == 1), .bool (FV 119 == 1), .int .u16 (IntKind.u16.wrap (FV 108)), .int .i64 (FV 120), .int .i64 (FV 121), .int .i64 (FV 122), .int .i64 (FV 118)]) ∧ Below w.heap.size w w' := by
  have HX0 := hidW (SW.first [.slice (some ⟨b, 0, none⟩) LEN LEN, .int .i64 fm, .string s] [.int .i64 0, .int .i64 0, .bool false, .int .i64 0, .int .i64 0, .int .i64 0, .int .i64 0, .int .i64 0, .int .i64 0, .int .u32 0, .int .i64 0, .int .i64 0, .bool false, .bool false, .bool false, .int .u16 0, .int .i64 0, .int .i64 0, .int .i64 0, .int .i64 0] hs)
  clear hs
  go_enter Tryd.func51, Tryd.ntmps51
  go_wp2
  have HD := hidW HX0.out.drew
  have K1 := HD.out.held
  refine wp_region_held_drew (S := fun w' => w'.cell? ⟨w.heap.size, 0, none⟩ = some (.slice (some ⟨b, 0, none⟩) LEN LEN) ∧ w'.cell? ⟨w.heap.size, 1, none⟩ = some (.int .i64 fm) ∧ w'.cell? ⟨b, 0, none⟩ = some (.int .i64 (o0))) (by kernel_rfl) K1 (fun hHeld => ?_)
  clear hHeld HX0
  generalize World.drew _ = wd at HD K1 ⊢
  have K2 := hidW K1
  clear K1
  have hsz := HD.out.size
  refine wpAnyH_take (i := 0) (oi := { dst := some 11, op := Op.move (Operand.tmp 5), type := 9, pos := _, after := #[], guard := none }) (v := ?_) rfl (by kernel_rfl) (by kernel_rfl) (by kernel_rfl) (fun _ _ _ h => h) (Or.inl ⟨by rfl, ?_⟩) (by assumption) ?_
  rotate_left
  · (intro w hSw; (try dsimp only at hSw); go_simp; try with_reducible rfl)
  simp only [Act.put, List.setIfInBounds_toArray, List.set_cons_zero, List.set_cons_succ]
  refine wpAnyH_take (i := 1) (oi := { dst := some 12, op := Op.move (Operand.tmp 1), type := 22, pos := _, after := #[], guard := none }) (v := ?_) rfl (by kernel_rfl) (by kernel_rfl) (by kernel_rfl) (fun _ _ _ h => h) (Or.inl ⟨by rfl, ?_⟩) (by assumption) ?_
  rotate_left
  · (intro w hSw; (try dsimp only at hSw); go_simp; try with_reducible rfl)
  simp only [Act.put, List.setIfInBounds_toArray, List.set_cons_zero, List.set_cons_succ]
  refine wpAnyH_take (i := 3) (oi := { dst := some 14, op := Op.fieldAddr 50 (Operand.tmp 2) 0, type := 0, pos := _, after := #[], guard := none }) (v := ?_) rfl (by kernel_rfl) (by kernel_rfl) (by kernel_rfl) (fun _ _ _ h => h) (Or.inl ⟨by rfl, ?_⟩) (by assumption) ?_
  rotate_left
  · (intro w hSw; (try dsimp only at hSw); go_simp; try with_reducible rfl)
  simp only [Act.put, List.setIfInBounds_toArray, List.set_cons_zero, List.set_cons_succ]
  refine wpAnyH_take (i := 4) (oi := { dst := some 15, op := Op.load 48 (Operand.tmp 14), type := 48, pos := _, after := #[{ on := 3, ground := Ground.data }], guard := none }) (v := ?_) rfl (by kernel_rfl) (by kernel_rfl) (by kernel_rfl) (fun _ _ _ h => h) (Or.inl ⟨by rfl, ?_⟩) (by assumption) ?_
  rotate_left
  · (intro w hSw; (try dsimp only at hSw); go_simp; try with_reducible rfl)
  simp only [Act.put, List.setIfInBounds_toArray, List.set_cons_zero, List.set_cons_succ]
  refine wpAnyH_take (i := 5) (oi := { dst := some 16, op := Op.indexAddr 48 (Operand.tmp 15) (Operand.const (Value.int IntKind.i64 0)), type := 0, pos := _, after := #[{ on := 4, ground := Ground.data }], guard := none }) (v := ?_) rfl (by kernel_rfl) (by kernel_rfl) (by kernel_rfl) (fun _ _ _ h => h) (Or.inl ⟨by rfl, ?_⟩) (by assumption) ?_
  rotate_left
  · (intro w hSw; (try dsimp only at hSw); go_simp; try with_reducible rfl)
  simp only [Act.put, List.setIfInBounds_toArray, List.set_cons_zero, List.set_cons_succ]
  refine wpAnyH_take (i := 6) (oi := { dst := some 17, op := Op.load 3 (Operand.tmp 16), type := 3, pos := _, after := #[{ on := 5, ground := Ground.data }], guard := none }) (v := ?_) rfl (by kernel_rfl) (by kernel_rfl) (by kernel_rfl) (fun _ _ _ h => h) (Or.inl ⟨by rfl, ?_⟩) (by assumption) ?_
  rotate_left
  · (intro w hSw; (try dsimp only at hSw); go_simp; try with_reducible rfl)
  simp only [Act.put, List.setIfInBounds_toArray, List.set_cons_zero, List.set_cons_succ]
  refine wpAnyH_take (i := 7) (oi := { dst := some 18, op := Op.fieldAddr 50 (Operand.tmp 2) 1, type := 0, pos := _, after := #[], guard := none }) (v := ?_) rfl (by kernel_rfl) (by kernel_rfl) (by kernel_rfl) (fun _ _ _ h => h) (Or.inl ⟨by rfl, ?_⟩) (by assumption) ?_
  rotate_left
  · (intro w hSw; (try dsimp only at hSw); go_simp; try with_reducible rfl)
  simp only [Act.put, List.setIfInBounds_toArray, List.set_cons_zero, List.set_cons_succ]
  refine wpAnyH_take (i := 8) (oi := { dst := some 19, op := Op.load 3 (Operand.tmp 18), type := 3, pos := _, after := #[{ on := 7, ground := Ground.data }], guard := none }) (v := ?_) rfl (by kernel_rfl) (by kernel_rfl) (by kernel_rfl) (fun _ _ _ h => h) (Or.inl ⟨by rfl, ?_⟩) (by assumption) ?_
  rotate_left
  · (intro w hSw; (try dsimp only at hSw); go_simp; try with_reducible rfl)
  simp only [Act.put, List.setIfInBounds_toArray, List.set_cons_zero, List.set_cons_succ]
  refine wpAnyH_ready (rs := [2, 10]) (by kernel_rfl) (by simp) ?_
  refine (AllReadyH.cons (o := { dst := some 13, op := Op.call { callee := Callee.value (Operand.func 59), args := #[Operand.tmp 11, Operand.const (Value.int IntKind.u8 99), Operand.tmp 12], argTypes := #[9, 5, 22] }, type := 3, pos := _, after := #[{ on := 0, ground := Ground.data }, { on := 1, ground := Ground.data }], guard := none }) rfl (fun K hK => ?_) (AllReadyH.cons (o := { dst := some 6, op := Op.alloc 28, type := 0, pos := _, after := #[], guard := none }) rfl (fun K hK => ?_) AllReadyH.nil))
  · go_simp
    go_at_call 59; refine (HN.out _ _ (by decide) (by decide) (by decide)).mono ?_; rintro e wx ⟨rfl, rfl⟩
    refine hK.out _ _ ?_ (fun hHeld => ?_)
    · (first | with_reducible exact K2.out | exact HX.out.held)
    clear hK K
    try simp only [Act.put, List.setIfInBounds_toArray, List.set_cons_zero, List.set_cons_succ]
    refine wpAnyH_take (i := 9) (oi := { dst := some 20, op := Op.build 28 #[(0, Operand.tmp 13), (1, Operand.tmp 17), (3, Operand.tmp 19)], type := 28, pos := _, after := #[{ on := 2, ground := Ground.data }, { on := 6, ground := Ground.data }, { on := 8, ground := Ground.data }], guard := none }) (v := ?_) rfl (by kernel_rfl) (by kernel_rfl) (by kernel_rfl) (fun _ _ _ h => h) (Or.inl ⟨by rfl, ?_⟩) (by assumption) ?_
    rotate_left
    · (intro w hSw; (try dsimp only at hSw); go_simp; try with_reducible rfl)
    simp only [Act.put, List.setIfInBounds_toArray, List.set_cons_zero, List.set_cons_succ]
    refine wpAnyH_ready (rs := [10]) (by kernel_rfl) (by simp) ?_
    refine (AllReadyH.cons (o := { dst := some 6, op := Op.alloc 28, type := 0, pos := _, after := #[], guard := none }) rfl (fun K hK => ?_) AllReadyH.nil)
    go_simp
    (refine hK.out _ _ (HD.out.box _).held (fun hHeld => ?_); clear hHeld; have HX := hidW (HD.out.box [.int .i64 0, .int .i64 0, .bool false, .int .i64 0, .int .i64 0, .int .i64 0, .int .i64 0, .int .i64 0, .int .i64 0, .int .u32 0, .int .i64 0, .int .i64 0, .bool false, .bool false, .bool false, .int .u16 0, .int .i64 0, .int .i64 0, .int .i64 0, .int .i64 0]); generalize World.alloc _ _ = wz at HX ⊢)
    clear hK K
    try simp only [Act.put, List.setIfInBounds_toArray, List.set_cons_zero, List.set_cons_succ]
    refine wpAnyH_ready (rs := [11]) (by kernel_rfl) (by simp) ?_
    refine (AllReadyH.cons (o := { dst := none, op := Op.store 28 (Operand.tmp 6) (Operand.tmp 20), type := 0, pos := _, after := #[{ on := 10, ground := Ground.data }, { on := 9, ground := Ground.data }, { on := 2, ground := Ground.chain }, { on := 0, ground := Ground.phase }, { on := 1, ground := Ground.phase }, { on := 2, ground := Ground.phase }, { on := 3, ground := Ground.phase }, { on := 4, ground := Ground.phase }, { on := 5, ground := Ground.phase }, { on := 6, ground := Ground.phase }, { on := 7, ground := Ground.phase }, { on := 8, ground := Ground.phase }, { on := 9, ground := Ground.phase }, { on := 10, ground := Ground.phase }], guard := none }) rfl (fun K hK => ?_) AllReadyH.nil)
    (rw [if_pos (by kernel_rfl)]; refine wp_store_mid _ _ _ rfl (w.heap.size + 2) 0 _ rfl rfl (HX.out.ins.there 20 rfl) ins_size (by kernel_rfl) ?_; have HX := hidW (HX.out.sets [.int .i64 (FV 99), .int .i64 (o0), .bool false, .int .i64 fm, .int .i64 0, .int .i64 0, .int .i64 0, .int .i64 0, .int .i64 0, .int .u32 0, .int .i64 0, .int .i64 0, .bool false, .bool false, .bool false, .int .u16 0, .int .i64 0, .int .i64 0, .int .i64 0, .int .i64 0] rfl); generalize World.setCells _ _ _ _ = wq at HX ⊢; refine hK.out _ _ HX.out.held (fun hHeld => ?_); clear hHeld)
    clear hK K
    try simp only [Act.put, List.setIfInBounds_toArray, List.set_cons_zero, List.set_cons_succ]
    refine wpAnyH_done (by kernel_rfl) ?_ _
    clear K2 HD hsz
    obtain ⟨k1, k9⟩ := HX.out.cells
    go_wp2_with (first
      | (go_at_call 59; refine (HN.out _ _ (by decide) (by decide) (by decide)).mono ?_; rintro e wx ⟨rfl, rfl⟩)
      | (go_at_call 57; refine (HF.out _ _ (by decide) (by decide) (by decide)).mono ?_; rintro e wx ⟨rfl, rfl⟩)
      | (guard_target =~ wpList _ _ _ (Oper.mk (some 39) _ _ _ _ _ :: _) _ _; refine wpList_ints_want intsU intI intZ (by rfl) 4 _ rfl [9, 10, 11, 12] (some 39) rfl rfl (by decide) (by decide) rfl ?_; intro b1 wx h1 hb1; have S1 := hidW h1; have HX := hidW (HX.out.step hb1); clear h1 hb1 k1 k9; obtain ⟨k1, k9⟩ := HX.out.cells)
      | (go_at_call 36; refine (jin_any _ [9, 10, 11, 12] _ _ S1.out).mono ?_; rintro e wx ⟨rfl, rfl⟩; clear S1)
      | (guard_target =~ wpList _ _ _ (Oper.mk none (Op.store 26 _ _) _ _ _ _ :: _) _ _; refine Hid.out ?_)
      | (guard_target =~ wpList _ _ _ (Oper.mk none (Op.store _ _ _) _ _ _ _ :: _) _ _; refine wpList_put1 rfl _ _ _ rfl rfl _ _ _ _ _ _ _ rfl rfl HX.out (by kernel_rfl) rfl (by simp) ?_; intro wx hx; simp only [List.set, Act.eval, Array.getD_eq_getD_getElem?, List.getElem?_toArray, List.getElem?_cons_succ, List.getElem?_cons_zero, Option.getD_some] at hx; have HX := hidW hx; clear hx k1 k9; obtain ⟨k1, k9⟩ := HX.out.cells))
    refine hidW (hidW ?_)
    refine wpList_store_mid rfl _ _ _ rfl (w.heap.size + 2) 16 #[.int .i64 (FV 120), .int .i64 (FV 121), .int .i64 (FV 122), .int .i64 (FV 118)] rfl rfl (bl_there HX.out.ins 16 4 (by simp)) tupI (by kernel_rfl) ?_
    have HX := hidW (HX.out.tup (.int .i64 (FV 120)) (.int .i64 (FV 121)) (.int .i64 (FV 122)) (.int .i64 (FV 118)))
    generalize World.setCells _ _ _ _ = wy at HX ⊢
    clear k1 k9
    go_wp2_with (first
      | (guard_target =~ wpList _ _ _ (Oper.mk (some 133) _ _ _ _ _ :: _) _ _; refine wpList_load_mid rfl _ _ rfl (w.heap.size + 2) 0 rfl _ _ HX.out.ins.range Tryd.underlying28 rfl ins_size ?_)
      | (guard_target =~ wpList _ _ _ (Oper.mk none (Op.store 28 _ _) _ _ _ _ :: _) _ _; refine wpList_ret rfl _ _ rfl rfl _ _ _ _ _ rfl HX.out rfl rfl rfl (by kernel_rfl) ?_; intro wz hz; have HR := hidW hz; clear hz HX))
    have hl := ins_load HR.out.2 rfl
    exact bodyPost_ret (by simp [results, Tryd.results51, asAddr, hl, Act.put]) rfl ⟨rfl, HR.out.1⟩
  · go_simp
    (refine hK.out _ _ (HD.out.box _).held (fun hHeld => ?_); clear hHeld; have HX := hidW (HD.out.box [.int .i64 0, .int .i64 0, .bool false, .int .i64 0, .int .i64 0, .int .i64 0, .int .i64 0, .int .i64 0, .int .i64 0, .int .u32 0, .int .i64 0, .int .i64 0, .bool false, .bool false, .bool false, .int .u16 0, .int .i64 0, .int .i64 0, .int .i64 0, .int .i64 0]); generalize World.alloc _ _ = wz at HX ⊢)
    clear hK K
    try simp only [Act.put, List.setIfInBounds_toArray, List.set_cons_zero, List.set_cons_succ]
    refine wpAnyH_ready (rs := [2]) (by kernel_rfl) (by simp) ?_
    refine (AllReadyH.cons (o := { dst := some 13, op := Op.call { callee := Callee.value (Operand.func 59), args := #[Operand.tmp 11, Operand.const (Value.int IntKind.u8 99), Operand.tmp 12], argTypes := #[9, 5, 22] }, type := 3, pos := _, after := #[{ on := 0, ground := Ground.data }, { on := 1, ground := Ground.data }], guard := none }) rfl (fun K hK => ?_) AllReadyH.nil)
    go_simp
    go_at_call 59; refine (HN.out _ _ (by decide) (by decide) (by decide)).mono ?_; rintro e wx ⟨rfl, rfl⟩
    refine hK.out _ _ ?_ (fun hHeld => ?_)
    · (first | with_reducible exact K2.out | exact HX.out.held)
    clear hK K
    try simp only [Act.put, List.setIfInBounds_toArray, List.set_cons_zero, List.set_cons_succ]
    refine wpAnyH_take (i := 9) (oi := { dst := some 20, op := Op.build 28 #[(0, Operand.tmp 13), (1, Operand.tmp 17), (3, Operand.tmp 19)], type := 28, pos := _, after := #[{ on := 2, ground := Ground.data }, { on := 6, ground := Ground.data }, { on := 8, ground := Ground.data }], guard := none }) (v := ?_) rfl (by kernel_rfl) (by kernel_rfl) (by kernel_rfl) (fun _ _ _ h => h) (Or.inl ⟨by rfl, ?_⟩) (by assumption) ?_
    rotate_left
    · (intro w hSw; (try dsimp only at hSw); go_simp; try with_reducible rfl)
    simp only [Act.put, List.setIfInBounds_toArray, List.set_cons_zero, List.set_cons_succ]
    refine wpAnyH_ready (rs := [11]) (by kernel_rfl) (by simp) ?_
    refine (AllReadyH.cons (o := { dst := none, op := Op.store 28 (Operand.tmp 6) (Operand.tmp 20), type := 0, pos := _, after := #[{ on := 10, ground := Ground.data }, { on := 9, ground := Ground.data }, { on := 2, ground := Ground.chain }, { on := 0, ground := Ground.phase }, { on := 1, ground := Ground.phase }, { on := 2, ground := Ground.phase }, { on := 3, ground := Ground.phase }, { on := 4, ground := Ground.phase }, { on := 5, ground := Ground.phase }, { on := 6, ground := Ground.phase }, { on := 7, ground := Ground.phase }, { on := 8, ground := Ground.phase }, { on := 9, ground := Ground.phase }, { on := 10, ground := Ground.phase }], guard := none }) rfl (fun K hK => ?_) AllReadyH.nil)
    (rw [if_pos (by kernel_rfl)]; refine wp_store_mid _ _ _ rfl (w.heap.size + 2) 0 _ rfl rfl (HX.out.ins.there 20 rfl) ins_size (by kernel_rfl) ?_; have HX := hidW (HX.out.sets [.int .i64 (FV 99), .int .i64 (o0), .bool false, .int .i64 fm, .int .i64 0, .int .i64 0, .int .i64 0, .int .i64 0, .int .i64 0, .int .u32 0, .int .i64 0, .int .i64 0, .bool false, .bool false, .bool false, .int .u16 0, .int .i64 0, .int .i64 0, .int .i64 0, .int .i64 0] rfl); generalize World.setCells _ _ _ _ = wq at HX ⊢; refine hK.out _ _ HX.out.held (fun hHeld => ?_); clear hHeld)
    clear hK K
    try simp only [Act.put, List.setIfInBounds_toArray, List.set_cons_zero, List.set_cons_succ]
    refine wpAnyH_done (by kernel_rfl) ?_ _
    clear K2 HD hsz
    obtain ⟨k1, k9⟩ := HX.out.cells
    go_wp2_with (first
      | (go_at_call 59; refine (HN.out _ _ (by decide) (by decide) (by decide)).mono ?_; rintro e wx ⟨rfl, rfl⟩)
      | (go_at_call 57; refine (HF.out _ _ (by decide) (by decide) (by decide)).mono ?_; rintro e wx ⟨rfl, rfl⟩)
      | (guard_target =~ wpList _ _ _ (Oper.mk (some 39) _ _ _ _ _ :: _) _ _; refine wpList_ints_want intsU intI intZ (by rfl) 4 _ rfl [9, 10, 11, 12] (some 39) rfl rfl (by decide) (by decide) rfl ?_; intro b1 wx h1 hb1; have S1 := hidW h1; have HX := hidW (HX.out.step hb1); clear h1 hb1 k1 k9; obtain ⟨k1, k9⟩ := HX.out.cells)
      | (go_at_call 36; refine (jin_any _ [9, 10, 11, 12] _ _ S1.out).mono ?_; rintro e wx ⟨rfl, rfl⟩; clear S1)
      | (guard_target =~ wpList _ _ _ (Oper.mk none (Op.store 26 _ _) _ _ _ _ :: _) _ _; refine Hid.out ?_)
      | (guard_target =~ wpList _ _ _ (Oper.mk none (Op.store _ _ _) _ _ _ _ :: _) _ _; refine wpList_put1 rfl _ _ _ rfl rfl _ _ _ _ _ _ _ rfl rfl HX.out (by kernel_rfl) rfl (by simp) ?_; intro wx hx; simp only [List.set, Act.eval, Array.getD_eq_getD_getElem?, List.getElem?_toArray, List.getElem?_cons_succ, List.getElem?_cons_zero, Option.getD_some] at hx; have HX := hidW hx; clear hx k1 k9; obtain ⟨k1, k9⟩ := HX.out.cells))
    refine hidW (hidW ?_)
    refine wpList_store_mid rfl _ _ _ rfl (w.heap.size + 2) 16 #[.int .i64 (FV 120), .int .i64 (FV 121), .int .i64 (FV 122), .int .i64 (FV 118)] rfl rfl (bl_there HX.out.ins 16 4 (by simp)) tupI (by kernel_rfl) ?_
    have HX := hidW (HX.out.tup (.int .i64 (FV 120)) (.int .i64 (FV 121)) (.int .i64 (FV 122)) (.int .i64 (FV 118)))
    generalize World.setCells _ _ _ _ = wy at HX ⊢
    clear k1 k9
    go_wp2_with (first
      | (guard_target =~ wpList _ _ _ (Oper.mk (some 133) _ _ _ _ _ :: _) _ _; refine wpList_load_mid rfl _ _ rfl (w.heap.size + 2) 0 rfl _ _ HX.out.ins.range Tryd.underlying28 rfl ins_size ?_)
      | (guard_target =~ wpList _ _ _ (Oper.mk none (Op.store 28 _ _) _ _ _ _ :: _) _ _; refine wpList_ret rfl _ _ rfl rfl _ _ _ _ _ rfl HX.out rfl rfl rfl (by kernel_rfl) ?_; intro wz hz; have HR := hidW hz; clear hz HX))
    have hl := ins_load HR.out.2 rfl
    exact bodyPost_ret (by simp [results, Tryd.results51, asAddr, hl, Act.put]) rfl ⟨rfl, HR.out.1⟩
set_option maxRecDepth 100000 in
set_option maxHeartbeats 1000000 in
theorem say_t4 (b : Nat) (o0 fm : Int) (ol : List Int) (s : ByteArray) (x : Nat) (w : World) (FV CN : Int → Int)
    (HN : Hid (∀ (K : Int) w', 0 ≤ K → K < 256 → K ≠ 32 → Calls Tryd.prog 59 #[.string s, .int .u8 K, .int .u32 (x : Int)] w' fun e w'' => e = .returned (.int .i64 (FV K)) ∧ w'' = w'))
    (HF : Hid (∀ (K : Int) w', 0 ≤ K → K < 256 → K ≠ 32 → Calls Tryd.prog 57 #[.string s, .int .u8 K, .int .u32 (x : Int)] w' fun e w'' => e = .returned (.tuple #[.int .u32 (FV K), .int .i64 (CN K)]) ∧ w'' = w'))
    (hs : Sl w b (o0 :: ol)) (LEN : Nat) (hLN : 0 < LEN) (hO1 : decide (0 < CN 111) = true) (hS : (FV 115 == 1) = true) (h111 : FV 111 ≤ 15) (p111 : 0 ≤ FV 111) (h41 : (FV 111 + 1 == 41) = false) (h42 : (FV 111 + 1 == 42) = false) :
    Calls Tryd.prog 51 #[.agg #[.slice (some ⟨b, 0, none⟩) LEN LEN, .int .i64 fm, .string s], .int .u32 (x : Int)] w fun e w' => e = .returned (.agg #[.int .i64 (FV 99), .int .i64 (FV 111 + 1), .bool true, .int .i64 fm, .int .i64 (FV 100), .int .i64 (FV 110), .int .i64 (FV 109), .int .i64 (FV 114), .int .i64 (FV 97), .int .u32 (FV 105), .int .i64 (FV 116), .int .i64 (FV 107), .bool (FV 112 == 1), .bool (FV 117 == 1), .bool (FV 119 == 1), .int .u16 (IntKind.u16.wrap (FV 108)), .int .i64 (FV 120), .int .i64 (FV 121), .int .i64 (FV 122), .int .i64 (FV 118)]) ∧ Below w.heap.size w w' := by
  have HX0 := hidW (SW.first [.slice (some ⟨b, 0, none⟩) LEN LEN, .int .i64 fm, .string s] [.int .i64 0, .int .i64 0, .bool false, .int .i64 0, .int .i64 0, .int .i64 0, .int .i64 0, .int .i64 0, .int .i64 0, .int .u32 0, .int .i64 0, .int .i64 0, .bool false, .bool false, .bool false, .int .u16 0, .int .i64 0, .int .i64 0, .int .i64 0, .int .i64 0] hs)
  clear hs
  go_enter Tryd.func51, Tryd.ntmps51
  go_wp2
  have HD := hidW HX0.out.drew
  have K1 := HD.out.held
  refine wp_region_held_drew (S := fun w' => w'.cell? ⟨w.heap.size, 0, none⟩ = some (.slice (some ⟨b, 0, none⟩) LEN LEN) ∧ w'.cell? ⟨w.heap.size, 1, none⟩ = some (.int .i64 fm) ∧ w'.cell? ⟨b, 0, none⟩ = some (.int .i64 (o0))) (by kernel_rfl) K1 (fun hHeld => ?_)
  clear hHeld HX0
  generalize World.drew _ = wd at HD K1 ⊢
  have K2 := hidW K1
  clear K1
  have hsz := HD.out.size
  refine wpAnyH_take (i := 0) (oi := { dst := some 11, op := Op.move (Operand.tmp 5), type := 9, pos := _, after := #[], guard := none }) (v := ?_) rfl (by kernel_rfl) (by kernel_rfl) (by kernel_rfl) (fun _ _ _ h => h) (Or.inl ⟨by rfl, ?_⟩) (by assumption) ?_
  rotate_left
  · (intro w hSw; (try dsimp only at hSw); go_simp; try with_reducible rfl)
  simp only [Act.put, List.setIfInBounds_toArray, List.set_cons_zero, List.set_cons_succ]
  refine wpAnyH_take (i := 1) (oi := { dst := some 12, op := Op.move (Operand.tmp 1), type := 22, pos := _, after := #[], guard := none }) (v := ?_) rfl (by kernel_rfl) (by kernel_rfl) (by kernel_rfl) (fun _ _ _ h => h) (Or.inl ⟨by rfl, ?_⟩) (by assumption) ?_
  rotate_left
  · (intro w hSw; (try dsimp only at hSw); go_simp; try with_reducible rfl)
  simp only [Act.put, List.setIfInBounds_toArray, List.set_cons_zero, List.set_cons_succ]
  refine wpAnyH_take (i := 3) (oi := { dst := some 14, op := Op.fieldAddr 50 (Operand.tmp 2) 0, type := 0, pos := _, after := #[], guard := none }) (v := ?_) rfl (by kernel_rfl) (by kernel_rfl) (by kernel_rfl) (fun _ _ _ h => h) (Or.inl ⟨by rfl, ?_⟩) (by assumption) ?_
  rotate_left
  · (intro w hSw; (try dsimp only at hSw); go_simp; try with_reducible rfl)
  simp only [Act.put, List.setIfInBounds_toArray, List.set_cons_zero, List.set_cons_succ]
  refine wpAnyH_take (i := 4) (oi := { dst := some 15, op := Op.load 48 (Operand.tmp 14), type := 48, pos := _, after := #[{ on := 3, ground := Ground.data }], guard := none }) (v := ?_) rfl (by kernel_rfl) (by kernel_rfl) (by kernel_rfl) (fun _ _ _ h => h) (Or.inl ⟨by rfl, ?_⟩) (by assumption) ?_
  rotate_left
  · (intro w hSw; (try dsimp only at hSw); go_simp; try with_reducible rfl)
  simp only [Act.put, List.setIfInBounds_toArray, List.set_cons_zero, List.set_cons_succ]
  refine wpAnyH_take (i := 5) (oi := { dst := some 16, op := Op.indexAddr 48 (Operand.tmp 15) (Operand.const (Value.int IntKind.i64 0)), type := 0, pos := _, after := #[{ on := 4, ground := Ground.data }], guard := none }) (v := ?_) rfl (by kernel_rfl) (by kernel_rfl) (by kernel_rfl) (fun _ _ _ h => h) (Or.inl ⟨by rfl, ?_⟩) (by assumption) ?_
  rotate_left
  · (intro w hSw; (try dsimp only at hSw); go_simp; try with_reducible rfl)
  simp only [Act.put, List.setIfInBounds_toArray, List.set_cons_zero, List.set_cons_succ]
  refine wpAnyH_take (i := 6) (oi := { dst := some 17, op := Op.load 3 (Operand.tmp 16), type := 3, pos := _, after := #[{ on := 5, ground := Ground.data }], guard := none }) (v := ?_) rfl (by kernel_rfl) (by kernel_rfl) (by kernel_rfl) (fun _ _ _ h => h) (Or.inl ⟨by rfl, ?_⟩) (by assumption) ?_
  rotate_left
  · (intro w hSw; (try dsimp only at hSw); go_simp; try with_reducible rfl)
  simp only [Act.put, List.setIfInBounds_toArray, List.set_cons_zero, List.set_cons_succ]
  refine wpAnyH_take (i := 7) (oi := { dst := some 18, op := Op.fieldAddr 50 (Operand.tmp 2) 1, type := 0, pos := _, after := #[], guard := none }) (v := ?_) rfl (by kernel_rfl) (by kernel_rfl) (by kernel_rfl) (fun _ _ _ h => h) (Or.inl ⟨by rfl, ?_⟩) (by assumption) ?_
  rotate_left
  · (intro w hSw; (try dsimp only at hSw); go_simp; try with_reducible rfl)
  simp only [Act.put, List.setIfInBounds_toArray, List.set_cons_zero, List.set_cons_succ]
  refine wpAnyH_take (i := 8) (oi := { dst := some 19, op := Op.load 3 (Operand.tmp 18), type := 3, pos := _, after := #[{ on := 7, ground := Ground.data }], guard := none }) (v := ?_) rfl (by kernel_rfl) (by kernel_rfl) (by kernel_rfl) (fun _ _ _ h => h) (Or.inl ⟨by rfl, ?_⟩) (by assumption) ?_
  rotate_left
  · (intro w hSw; (try dsimp only at hSw); go_simp; try with_reducible rfl)
  simp only [Act.put, List.setIfInBounds_toArray, List.set_cons_zero, List.set_cons_succ]
  refine wpAnyH_ready (rs := [2, 10]) (by kernel_rfl) (by simp) ?_
  refine (AllReadyH.cons (o := { dst := some 13, op := Op.call { callee := Callee.value (Operand.func 59), args := #[Operand.tmp 11, Operand.const (Value.int IntKind.u8 99), Operand.tmp 12], argTypes := #[9, 5, 22] }, type := 3, pos := _, after := #[{ on := 0, ground := Ground.data }, { on := 1, ground := Ground.data }], guard := none }) rfl (fun K hK => ?_) (AllReadyH.cons (o := { dst := some 6, op := Op.alloc 28, type := 0, pos := _, after := #[], guard := none }) rfl (fun K hK => ?_) AllReadyH.nil))
  · go_simp
    go_at_call 59; refine (HN.out _ _ (by decide) (by decide) (by decide)).mono ?_; rintro e wx ⟨rfl, rfl⟩
    refine hK.out _ _ ?_ (fun hHeld => ?_)
    · (first | with_reducible exact K2.out | exact HX.out.held)
    clear hK K
    try simp only [Act.put, List.setIfInBounds_toArray, List.set_cons_zero, List.set_cons_succ]
    refine wpAnyH_take (i := 9) (oi := { dst := some 20, op := Op.build 28 #[(0, Operand.tmp 13), (1, Operand.tmp 17), (3, Operand.tmp 19)], type := 28, pos := _, after := #[{ on := 2, ground := Ground.data }, { on := 6, ground := Ground.data }, { on := 8, ground := Ground.data }], guard := none }) (v := ?_) rfl (by kernel_rfl) (by kernel_rfl) (by kernel_rfl) (fun _ _ _ h => h) (Or.inl ⟨by rfl, ?_⟩) (by assumption) ?_
    rotate_left
    · (intro w hSw; (try dsimp only at hSw); go_simp; try with_reducible rfl)
    simp only [Act.put, List.setIfInBounds_toArray, List.set_cons_zero, List.set_cons_succ]
    refine wpAnyH_ready (rs := [10]) (by kernel_rfl) (by simp) ?_
    refine (AllReadyH.cons (o := { dst := some 6, op := Op.alloc 28, type := 0, pos := _, after := #[], guard := none }) rfl (fun K hK => ?_) AllReadyH.nil)
    go_simp
    (refine hK.out _ _ (HD.out.box _).held (fun hHeld => ?_); clear hHeld; have HX := hidW (HD.out.box [.int .i64 0, .int .i64 0, .bool false, .int .i64 0, .int .i64 0, .int .i64 0, .int .i64 0, .int .i64 0, .int .i64 0, .int .u32 0, .int .i64 0, .int .i64 0, .bool false, .bool false, .bool false, .int .u16 0, .int .i64 0, .int .i64 0, .int .i64 0, .int .i64 0]); generalize World.alloc _ _ = wz at HX ⊢)
    clear hK K
    try simp only [Act.put, List.setIfInBounds_toArray, List.set_cons_zero, List.set_cons_succ]
    refine wpAnyH_ready (rs := [11]) (by kernel_rfl) (by simp) ?_
    refine (AllReadyH.cons (o := { dst := none, op := Op.store 28 (Operand.tmp 6) (Operand.tmp 20), type := 0, pos := _, after := #[{ on := 10, ground := Ground.data }, { on := 9, ground := Ground.data }, { on := 2, ground := Ground.chain }, { on := 0, ground := Ground.phase }, { on := 1, ground := Ground.phase }, { on := 2, ground := Ground.phase }, { on := 3, ground := Ground.phase }, { on := 4, ground := Ground.phase }, { on := 5, ground := Ground.phase }, { on := 6, ground := Ground.phase }, { on := 7, ground := Ground.phase }, { on := 8, ground := Ground.phase }, { on := 9, ground := Ground.phase }, { on := 10, ground := Ground.phase }], guard := none }) rfl (fun K hK => ?_) AllReadyH.nil)
    (rw [if_pos (by kernel_rfl)]; refine wp_store_mid _ _ _ rfl (w.heap.size + 2) 0 _ rfl rfl (HX.out.ins.there 20 rfl) ins_size (by kernel_rfl) ?_; have HX := hidW (HX.out.sets [.int .i64 (FV 99), .int .i64 (o0), .bool false, .int .i64 fm, .int .i64 0, .int .i64 0, .int .i64 0, .int .i64 0, .int .i64 0, .int .u32 0, .int .i64 0, .int .i64 0, .bool false, .bool false, .bool false, .int .u16 0, .int .i64 0, .int .i64 0, .int .i64 0, .int .i64 0] rfl); generalize World.setCells _ _ _ _ = wq at HX ⊢; refine hK.out _ _ HX.out.held (fun hHeld => ?_); clear hHeld)
    clear hK K
    try simp only [Act.put, List.setIfInBounds_toArray, List.set_cons_zero, List.set_cons_succ]
    refine wpAnyH_done (by kernel_rfl) ?_ _
    clear K2 HD hsz
    obtain ⟨k1, k9⟩ := HX.out.cells
    go_wp2_with (first
      | (go_at_call 59; refine (HN.out _ _ (by decide) (by decide) (by decide)).mono ?_; rintro e wx ⟨rfl, rfl⟩)
      | (go_at_call 57; refine (HF.out _ _ (by decide) (by decide) (by decide)).mono ?_; rintro e wx ⟨rfl, rfl⟩)
      | (guard_target =~ wpList _ _ _ (Oper.mk (some 39) _ _ _ _ _ :: _) _ _; refine wpList_ints_want intsU intI intZ (by rfl) 4 _ rfl [9, 10, 11, 12] (some 39) rfl rfl (by decide) (by decide) rfl ?_; intro b1 wx h1 hb1; have S1 := hidW h1; have HX := hidW (HX.out.step hb1); clear h1 hb1 k1 k9; obtain ⟨k1, k9⟩ := HX.out.cells)
      | (go_at_call 36; refine (jin_any _ [9, 10, 11, 12] _ _ S1.out).mono ?_; rintro e wx ⟨rfl, rfl⟩; clear S1)
      | (guard_target =~ wpList _ _ _ (Oper.mk none (Op.store 26 _ _) _ _ _ _ :: _) _ _; refine Hid.out ?_)
      | (guard_target =~ wpList _ _ _ (Oper.mk none (Op.store _ _ _) _ _ _ _ :: _) _ _; refine wpList_put1 rfl _ _ _ rfl rfl _ _ _ _ _ _ _ rfl rfl HX.out (by kernel_rfl) rfl (by simp) ?_; intro wx hx; simp only [List.set, Act.eval, Array.getD_eq_getD_getElem?, List.getElem?_toArray, List.getElem?_cons_succ, List.getElem?_cons_zero, Option.getD_some] at hx; have HX := hidW hx; clear hx k1 k9; obtain ⟨k1, k9⟩ := HX.out.cells))
    refine hidW (hidW ?_)
    refine wpList_store_mid rfl _ _ _ rfl (w.heap.size + 2) 16 #[.int .i64 (FV 120), .int .i64 (FV 121), .int .i64 (FV 122), .int .i64 (FV 118)] rfl rfl (bl_there HX.out.ins 16 4 (by simp)) tupI (by kernel_rfl) ?_
    have HX := hidW (HX.out.tup (.int .i64 (FV 120)) (.int .i64 (FV 121)) (.int .i64 (FV 122)) (.int .i64 (FV 118)))
    generalize World.setCells _ _ _ _ = wy at HX ⊢
    clear k1 k9
    go_wp2_with (first
      | (guard_target =~ wpList _ _ _ (Oper.mk (some 133) _ _ _ _ _ :: _) _ _; refine wpList_load_mid rfl _ _ rfl (w.heap.size + 2) 0 rfl _ _ HX.out.ins.range Tryd.underlying28 rfl ins_size ?_)
      | (guard_target =~ wpList _ _ _ (Oper.mk none (Op.store 28 _ _) _ _ _ _ :: _) _ _; refine wpList_ret rfl _ _ rfl rfl _ _ _ _ _ rfl HX.out rfl rfl rfl (by kernel_rfl) ?_; intro wz hz; have HR := hidW hz; clear hz HX))
    have hl := ins_load HR.out.2 rfl
    exact bodyPost_ret (by simp [results, Tryd.results51, asAddr, hl, Act.put]) rfl ⟨rfl, HR.out.1⟩
  · go_simp
    (refine hK.out _ _ (HD.out.box _).held (fun hHeld => ?_); clear hHeld; have HX := hidW (HD.out.box [.int .i64 0, .int .i64 0, .bool false, .int .i64 0, .int .i64 0, .int .i64 0, .int .i64 0, .int .i64 0, .int .i64 0, .int .u32 0, .int .i64 0, .int .i64 0, .bool false, .bool false, .bool false, .int .u16 0, .int .i64 0, .int .i64 0, .int .i64 0, .int .i64 0]); generalize World.alloc _ _ = wz at HX ⊢)
    clear hK K
    try simp only [Act.put, List.setIfInBounds_toArray, List.set_cons_zero, List.set_cons_succ]
    refine wpAnyH_ready (rs := [2]) (by kernel_rfl) (by simp) ?_
    refine (AllReadyH.cons (o := { dst := some 13, op := Op.call { callee := Callee.value (Operand.func 59), args := #[Operand.tmp 11, Operand.const (Value.int IntKind.u8 99), Operand.tmp 12], argTypes := #[9, 5, 22] }, type := 3, pos := _, after := #[{ on := 0, ground := Ground.data }, { on := 1, ground := Ground.data }], guard := none }) rfl (fun K hK => ?_) AllReadyH.nil)
    go_simp
    go_at_call 59; refine (HN.out _ _ (by decide) (by decide) (by decide)).mono ?_; rintro e wx ⟨rfl, rfl⟩
    refine hK.out _ _ ?_ (fun hHeld => ?_)
    · (first | with_reducible exact K2.out | exact HX.out.held)
    clear hK K
    try simp only [Act.put, List.setIfInBounds_toArray, List.set_cons_zero, List.set_cons_succ]
    refine wpAnyH_take (i := 9) (oi := { dst := some 20, op := Op.build 28 #[(0, Operand.tmp 13), (1, Operand.tmp 17), (3, Operand.tmp 19)], type := 28, pos := _, after := #[{ on := 2, ground := Ground.data }, { on := 6, ground := Ground.data }, { on := 8, ground := Ground.data }], guard := none }) (v := ?_) rfl (by kernel_rfl) (by kernel_rfl) (by kernel_rfl) (fun _ _ _ h => h) (Or.inl ⟨by rfl, ?_⟩) (by assumption) ?_
    rotate_left
    · (intro w hSw; (try dsimp only at hSw); go_simp; try with_reducible rfl)
    simp only [Act.put, List.setIfInBounds_toArray, List.set_cons_zero, List.set_cons_succ]
    refine wpAnyH_ready (rs := [11]) (by kernel_rfl) (by simp) ?_
    refine (AllReadyH.cons (o := { dst := none, op := Op.store 28 (Operand.tmp 6) (Operand.tmp 20), type := 0, pos := _, after := #[{ on := 10, ground := Ground.data }, { on := 9, ground := Ground.data }, { on := 2, ground := Ground.chain }, { on := 0, ground := Ground.phase }, { on := 1, ground := Ground.phase }, { on := 2, ground := Ground.phase }, { on := 3, ground := Ground.phase }, { on := 4, ground := Ground.phase }, { on := 5, ground := Ground.phase }, { on := 6, ground := Ground.phase }, { on := 7, ground := Ground.phase }, { on := 8, ground := Ground.phase }, { on := 9, ground := Ground.phase }, { on := 10, ground := Ground.phase }], guard := none }) rfl (fun K hK => ?_) AllReadyH.nil)
    (rw [if_pos (by kernel_rfl)]; refine wp_store_mid _ _ _ rfl (w.heap.size + 2) 0 _ rfl rfl (HX.out.ins.there 20 rfl) ins_size (by kernel_rfl) ?_; have HX := hidW (HX.out.sets [.int .i64 (FV 99), .int .i64 (o0), .bool false, .int .i64 fm, .int .i64 0, .int .i64 0, .int .i64 0, .int .i64 0, .int .i64 0, .int .u32 0, .int .i64 0, .int .i64 0, .bool false, .bool false, .bool false, .int .u16 0, .int .i64 0, .int .i64 0, .int .i64 0, .int .i64 0] rfl); generalize World.setCells _ _ _ _ = wq at HX ⊢; refine hK.out _ _ HX.out.held (fun hHeld => ?_); clear hHeld)
    clear hK K
    try simp only [Act.put, List.setIfInBounds_toArray, List.set_cons_zero, List.set_cons_succ]
    refine wpAnyH_done (by kernel_rfl) ?_ _
    clear K2 HD hsz
    obtain ⟨k1, k9⟩ := HX.out.cells
    go_wp2_with (first
      | (go_at_call 59; refine (HN.out _ _ (by decide) (by decide) (by decide)).mono ?_; rintro e wx ⟨rfl, rfl⟩)
      | (go_at_call 57; refine (HF.out _ _ (by decide) (by decide) (by decide)).mono ?_; rintro e wx ⟨rfl, rfl⟩)
      | (guard_target =~ wpList _ _ _ (Oper.mk (some 39) _ _ _ _ _ :: _) _ _; refine wpList_ints_want intsU intI intZ (by rfl) 4 _ rfl [9, 10, 11, 12] (some 39) rfl rfl (by decide) (by decide) rfl ?_; intro b1 wx h1 hb1; have S1 := hidW h1; have HX := hidW (HX.out.step hb1); clear h1 hb1 k1 k9; obtain ⟨k1, k9⟩ := HX.out.cells)
      | (go_at_call 36; refine (jin_any _ [9, 10, 11, 12] _ _ S1.out).mono ?_; rintro e wx ⟨rfl, rfl⟩; clear S1)
      | (guard_target =~ wpList _ _ _ (Oper.mk none (Op.store 26 _ _) _ _ _ _ :: _) _ _; refine Hid.out ?_)
      | (guard_target =~ wpList _ _ _ (Oper.mk none (Op.store _ _ _) _ _ _ _ :: _) _ _; refine wpList_put1 rfl _ _ _ rfl rfl _ _ _ _ _ _ _ rfl rfl HX.out (by kernel_rfl) rfl (by simp) ?_; intro wx hx; simp only [List.set, Act.eval, Array.getD_eq_getD_getElem?, List.getElem?_toArray, List.getElem?_cons_succ, List.getElem?_cons_zero, Option.getD_some] at hx; have HX := hidW hx; clear hx k1 k9; obtain ⟨k1, k9⟩ := HX.out.cells))
    refine hidW (hidW ?_)
    refine wpList_store_mid rfl _ _ _ rfl (w.heap.size + 2) 16 #[.int .i64 (FV 120), .int .i64 (FV 121), .int .i64 (FV 122), .int .i64 (FV 118)] rfl rfl (bl_there HX.out.ins 16 4 (by simp)) tupI (by kernel_rfl) ?_
    have HX := hidW (HX.out.tup (.int .i64 (FV 120)) (.int .i64 (FV 121)) (.int .i64 (FV 122)) (.int .i64 (FV 118)))
    generalize World.setCells _ _ _ _ = wy at HX ⊢
    clear k1 k9
    go_wp2_with (first
      | (guard_target =~ wpList _ _ _ (Oper.mk (some 133) _ _ _ _ _ :: _) _ _; refine wpList_load_mid rfl _ _ rfl (w.heap.size + 2) 0 rfl _ _ HX.out.ins.range Tryd.underlying28 rfl ins_size ?_)
      | (guard_target =~ wpList _ _ _ (Oper.mk none (Op.store 28 _ _) _ _ _ _ :: _) _ _; refine wpList_ret rfl _ _ rfl rfl _ _ _ _ _ rfl HX.out rfl rfl rfl (by kernel_rfl) ?_; intro wz hz; have HR := hidW hz; clear hz HX))
    have hl := ins_load HR.out.2 rfl
    exact bodyPost_ret (by simp [results, Tryd.results51, asAddr, hl, Act.put]) rfl ⟨rfl, HR.out.1⟩
end Go.Proofs.YtkmgmmmpiallhaaDoor
