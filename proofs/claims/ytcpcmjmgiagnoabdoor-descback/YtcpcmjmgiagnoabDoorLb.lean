import Derived.Test.YtcpcmjmgiagnoabDoorNa
namespace Go.Proofs.YtcpcmjmgiagnoabDoor
open Go.RowKit
set_option linter.unusedVariables false
set_option linter.unusedSimpArgs false
theorem Bl.alloc {w : World} {b : Nat} {t : TypeId} {l : List Value} (h : Bl w b t l) (o : Obj) : Bl (w.alloc o) b t l := h.below ((Below.refl _ _).alloc (Nat.le_refl _) o)
set_option maxRecDepth 100000 in
set_option maxHeartbeats 8000000 in
theorem back_w (x v1 v2 M1 M2 : Int) (d1 d2 : Ent) (W : World) (ht : TE W)
    (HD1 : ∀ ww, TE ww → Calls Tryd.prog 7 #[.int .u32 x] ww fun r w' => r = .returned (.agg #[.int .i64 d1.kind, .int .u64 d1.base, .int .i64 d1.dom, .bool d1.ns, .int .i64 d1.ap, .int .u32 d1.bits, .bool d1.ng, .bool d1.xn]) ∧ Below ww.heap.size ww w')
    (HD2 : ∀ ww, TE ww → Calls Tryd.prog 9 #[.int .u32 x] ww fun r w' => r = .returned (.agg #[.int .i64 d2.kind, .int .u64 d2.base, .int .i64 d2.dom, .bool d2.ns, .int .i64 d2.ap, .int .u32 d2.bits, .bool d2.ng, .bool d2.xn]) ∧ Below ww.heap.size ww w')
    (HV1 : ∀ ww, TE ww → Calls Tryd.prog 7 #[.int .u32 v1] ww fun r w' => r = .returned (.agg #[.int .i64 d1.kind, .int .u64 d1.base, .int .i64 d1.dom, .bool d1.ns, .int .i64 d1.ap, .int .u32 d1.bits, .bool d1.ng, .bool d1.xn]) ∧ Below ww.heap.size ww w')
    (HV2 : ∀ ww, TE ww → Calls Tryd.prog 9 #[.int .u32 v2] ww fun r w' => r = .returned (.agg #[.int .i64 d2.kind, .int .u64 d2.base, .int .i64 d2.dom, .bool d2.ns, .int .i64 d2.ap, .int .u32 d2.bits, .bool d2.ng, .bool d2.xn]) ∧ Below ww.heap.size ww w')
    (HE1 : ∀ ww, TE ww → Calls Tryd.prog 8 #[.agg #[.int .i64 d1.kind, .int .u64 d1.base, .int .i64 d1.dom, .bool d1.ns, .int .i64 d1.ap, .int .u32 d1.bits, .bool d1.ng, .bool d1.xn]] ww fun r w' => r = .returned (.tuple #[.int .u32 v1, .int .i64 0]) ∧ Below ww.heap.size ww w')
    (HE2 : ∀ ww, TE ww → Calls Tryd.prog 10 #[.agg #[.int .i64 d2.kind, .int .u64 d2.base, .int .i64 d2.dom, .bool d2.ns, .int .i64 d2.ap, .int .u32 d2.bits, .bool d2.ng, .bool d2.xn]] ww fun r w' => r = .returned (.tuple #[.int .u32 v2, .int .i64 0]) ∧ Below ww.heap.size ww w')
    (N1 : ∀ w, Calls Tryd.prog 11 #[.int .u32 x] w fun e w' => e = .returned (.int .u32 M1) ∧ w = w') (N2 : ∀ w, Calls Tryd.prog 12 #[.int .u32 x] w fun e w' => e = .returned (.int .u32 M2) ∧ w = w')
    (a1 : bits .and .u32 x M1 = v1) (a2 : bits .and .u32 x M2 = v2) :
    Calls Tryd.prog 3 #[.int .u32 x] W fun r w' => r = .returned (.bool true) ∧ Below W.heap.size W w' := by
  have q1 := eqE d1 d1
  have q2 := eqE d2 d2
  rw [Ent.same_self] at q1 q2
  have HT : Hid (TE W) := ht
  clear ht
  go_enter Tryd.func3, Tryd.ntmps3
  go_wp2_with (first
    | (go_at_call 6; refine (alive_any _ HT.out).mono ?_; rintro e w1 ⟨rfl, hb⟩; have HB : Hid (Below W.heap.size W w1) := hb; clear hb)
    | (go_at_call 7; refine (HD1 _ (HT.out.below HB.out)).mono ?_; rintro e w2 ⟨rfl, hb⟩; have HB2 : Hid (Below W.heap.size W w2) := Below.step HB.out hb; clear hb)
    | (go_at_call 8; refine (HE1 _ (HT.out.below (Below.alloc HB2.out HB2.out.size _))).mono ?_; rintro e w3 ⟨rfl, hb⟩; have hx1 := (Bl.new w2 28 [.int .i64 d1.kind, .int .u64 d1.base, .int .i64 d1.dom, .bool d1.ns, .int .i64 d1.ap, .int .u32 d1.bits, .bool d1.ng, .bool d1.xn]).below hb; have HB3 : Hid (Below W.heap.size W w3) := Below.step HB2.out (Below.one hb); clear hb)
    | (go_at_call 9; refine (HD2 _ (HT.out.below HB3.out)).mono ?_; rintro e w4 ⟨rfl, hb⟩; have hx2 := hx1.below hb; have HB4 : Hid (Below W.heap.size W w4) := Below.step HB3.out hb; clear hb)
    | (go_at_call 10; refine (HE2 _ (HT.out.below (Below.alloc HB4.out HB4.out.size _))).mono ?_; rintro e w5 ⟨rfl, hb⟩; have hy5 := (Bl.new w4 28 [.int .i64 d2.kind, .int .u64 d2.base, .int .i64 d2.dom, .bool d2.ns, .int .i64 d2.ap, .int .u32 d2.bits, .bool d2.ng, .bool d2.xn]).below hb; have hx5 := hx2.below (Below.one hb); have HB5 : Hid (Below W.heap.size W w5) := Below.step HB4.out (Below.one hb); clear hb)
    | (go_at_call 11; refine (N1 _).mono ?_; rintro e w' ⟨rfl, rfl⟩)
    | (go_at_call 12; refine (N2 _).mono ?_; rintro e w' ⟨rfl, rfl⟩)
    | go_in)
  generalize w2.heap.size = b1 at *
  generalize w4.heap.size = b2 at *
  clear hx1 hx2 HB HB2 HB3 HB4
  refine wp_region_held_drew (S := fun w' => w'.cell? ⟨b1, 0, none⟩ = some (.int .i64 d1.kind) ∧ w'.cell? ⟨b1, 1, none⟩ = some (.int .u64 d1.base) ∧ w'.cell? ⟨b1, 2, none⟩ = some (.int .i64 d1.dom) ∧ w'.cell? ⟨b1, 3, none⟩ = some (.bool d1.ns) ∧ w'.cell? ⟨b1, 4, none⟩ = some (.int .i64 d1.ap) ∧ w'.cell? ⟨b1, 5, none⟩ = some (.int .u32 d1.bits) ∧ w'.cell? ⟨b1, 6, none⟩ = some (.bool d1.ng) ∧ w'.cell? ⟨b1, 7, none⟩ = some (.bool d1.xn) ∧ w'.cell? ⟨b2, 0, none⟩ = some (.int .i64 d2.kind) ∧ w'.cell? ⟨b2, 1, none⟩ = some (.int .u64 d2.base) ∧ w'.cell? ⟨b2, 2, none⟩ = some (.int .i64 d2.dom) ∧ w'.cell? ⟨b2, 3, none⟩ = some (.bool d2.ns) ∧ w'.cell? ⟨b2, 4, none⟩ = some (.int .i64 d2.ap) ∧ w'.cell? ⟨b2, 5, none⟩ = some (.int .u32 d2.bits) ∧ w'.cell? ⟨b2, 6, none⟩ = some (.bool d2.ng) ∧ w'.cell? ⟨b2, 7, none⟩ = some (.bool d2.xn)) (by kernel_rfl) (by (try dsimp only); exact ⟨hx5.drew.cell 0, hx5.drew.cell 1, hx5.drew.cell 2, hx5.drew.cell 3, hx5.drew.cell 4, hx5.drew.cell 5, hx5.drew.cell 6, hx5.drew.cell 7, hy5.drew.cell 0, hy5.drew.cell 1, hy5.drew.cell 2, hy5.drew.cell 3, hy5.drew.cell 4, hy5.drew.cell 5, hy5.drew.cell 6, hy5.drew.cell 7⟩) (fun hHeld => ?_)
  refine wpAnyH_take (i := 0) (oi := { dst := some 47, op := Op.move (Operand.tmp 4), type := 22, pos := _, after := #[], guard := none }) (v := ?_) rfl (by kernel_rfl) (by kernel_rfl) (by kernel_rfl) (fun _ _ _ h => h) (Or.inl ⟨by rfl, ?_⟩) (by assumption) ?_
  rotate_left
  · (intro w hSw; (try dsimp only at hSw); go_simp; try with_reducible rfl)
  simp only [Act.put, List.setIfInBounds_toArray, List.set_cons_zero, List.set_cons_succ]
  refine wpAnyH_take (i := 2) (oi := { dst := some 49, op := Op.load 28 (Operand.tmp 3), type := 28, pos := _, after := #[], guard := none }) (v := ?_) rfl (by kernel_rfl) (by kernel_rfl) (by kernel_rfl) (fun _ _ _ h => h) (Or.inl ⟨by rfl, ?_⟩) (by assumption) ?_
  rotate_left
  · (intro w hSw; (try dsimp only at hSw); go_simp; try with_reducible rfl)
  simp only [Act.put, List.setIfInBounds_toArray, List.set_cons_zero, List.set_cons_succ]
  refine wpAnyH_ready (rs := [1]) (by kernel_rfl) (by simp) ?_
  refine AllReadyH.cons (o := { dst := some 48, op := Op.call { callee := Callee.value (Operand.func 7), args := #[Operand.tmp 47], argTypes := #[22] }, type := 28, pos := _, after := #[{ on := 0, ground := Ground.data }], guard := none }) rfl (fun K hK => ?_) AllReadyH.nil
  go_simp
  (go_at_call 7; refine (HV1 _ (HT.out.below (below_drew HB5.out))).mono ?_; rintro e w6 ⟨rfl, hb⟩; have hx6 := hx5.drew.below hb; have hy6 := hy5.drew.below hb; have HB6 : Hid (Below W.heap.size W w6) := Below.step (below_drew HB5.out) hb; clear hb; go_wp2_with fail)
  refine hK.out _ _ ?_ (fun hHeld => ?_)
  · ((try dsimp only); (first | (exact ⟨hx7.cell 0, hx7.cell 1, hx7.cell 2, hx7.cell 3, hx7.cell 4, hx7.cell 5, hx7.cell 6, hx7.cell 7, hy7.cell 0, hy7.cell 1, hy7.cell 2, hy7.cell 3, hy7.cell 4, hy7.cell 5, hy7.cell 6, hy7.cell 7⟩) | (exact ⟨hx6.cell 0, hx6.cell 1, hx6.cell 2, hx6.cell 3, hx6.cell 4, hx6.cell 5, hx6.cell 6, hx6.cell 7, hy6.cell 0, hy6.cell 1, hy6.cell 2, hy6.cell 3, hy6.cell 4, hy6.cell 5, hy6.cell 6, hy6.cell 7⟩)))
  clear hK K
  try simp only [Act.put, List.setIfInBounds_toArray, List.set_cons_zero, List.set_cons_succ]
  refine wpAnyH_take (i := 3) (oi := { dst := some 50, op := Op.binOp BinOp.eql 28 (Operand.tmp 48) (Operand.tmp 49) 28, type := 4, pos := _, after := #[{ on := 1, ground := Ground.data }, { on := 2, ground := Ground.data }], guard := none }) (v := ?_) rfl (by kernel_rfl) (by kernel_rfl) (by kernel_rfl) (fun _ _ _ h => h) (Or.inl ⟨by rfl, ?_⟩) (by assumption) ?_
  rotate_left
  · (intro w hSw; (try dsimp only at hSw); go_simp; try with_reducible rfl)
  simp only [Act.put, List.setIfInBounds_toArray, List.set_cons_zero, List.set_cons_succ]
  refine wpAnyH_take (i := 4) (oi := { dst := some 51, op := Op.move (Operand.tmp 50), type := 4, pos := _, after := #[{ on := 3, ground := Ground.data }, { on := 1, ground := Ground.chain }], guard := none }) (v := ?_) rfl (by kernel_rfl) (by kernel_rfl) (by kernel_rfl) (fun _ _ _ h => h) (Or.inl ⟨by rfl, ?_⟩) (by assumption) ?_
  rotate_left
  · (intro w hSw; (try dsimp only at hSw); go_simp; try with_reducible rfl)
  simp only [Act.put, List.setIfInBounds_toArray, List.set_cons_zero, List.set_cons_succ]
  refine wpAnyH_take (i := 5) (oi := { dst := some 52, op := Op.move (Operand.tmp 7), type := 22, pos := _, after := #[{ on := 4, ground := Ground.guard }], guard := some (4, true) }) (v := ?_) rfl (by kernel_rfl) (by kernel_rfl) (by kernel_rfl) (fun _ _ _ h => h) (Or.inl ⟨by rfl, ?_⟩) (by assumption) ?_
  rotate_left
  · (intro w hSw; (try dsimp only at hSw); go_simp; try with_reducible rfl)
  simp only [Act.put, List.setIfInBounds_toArray, List.set_cons_zero, List.set_cons_succ]
  refine wpAnyH_take (i := 7) (oi := { dst := some 54, op := Op.load 28 (Operand.tmp 6), type := 28, pos := _, after := #[{ on := 4, ground := Ground.guard }], guard := some (4, true) }) (v := ?_) rfl (by kernel_rfl) (by kernel_rfl) (by kernel_rfl) (fun _ _ _ h => h) (Or.inl ⟨by rfl, ?_⟩) (by assumption) ?_
  rotate_left
  · (intro w hSw; (try dsimp only at hSw); go_simp; try with_reducible rfl)
  simp only [Act.put, List.setIfInBounds_toArray, List.set_cons_zero, List.set_cons_succ]
  refine wpAnyH_ready (rs := [6]) (by kernel_rfl) (by simp) ?_
  refine AllReadyH.cons (o := { dst := some 53, op := Op.call { callee := Callee.value (Operand.func 9), args := #[Operand.tmp 52], argTypes := #[22] }, type := 28, pos := _, after := #[{ on := 5, ground := Ground.data }, { on := 4, ground := Ground.chain }, { on := 4, ground := Ground.guard }], guard := some (4, true) }) rfl (fun K hK => ?_) AllReadyH.nil
  go_simp
  (go_at_call 9; refine (HV2 _ (HT.out.below HB6.out)).mono ?_; rintro e w7 ⟨rfl, hb⟩; have hx7 := hx6.below hb; have hy7 := hy6.below hb; have HB7 : Hid (Below W.heap.size W w7) := Below.step HB6.out hb; clear hb; go_wp2_with fail)
  refine hK.out _ _ ?_ (fun hHeld => ?_)
  · ((try dsimp only); (first | (exact ⟨hx7.cell 0, hx7.cell 1, hx7.cell 2, hx7.cell 3, hx7.cell 4, hx7.cell 5, hx7.cell 6, hx7.cell 7, hy7.cell 0, hy7.cell 1, hy7.cell 2, hy7.cell 3, hy7.cell 4, hy7.cell 5, hy7.cell 6, hy7.cell 7⟩) | (exact ⟨hx6.cell 0, hx6.cell 1, hx6.cell 2, hx6.cell 3, hx6.cell 4, hx6.cell 5, hx6.cell 6, hx6.cell 7, hy6.cell 0, hy6.cell 1, hy6.cell 2, hy6.cell 3, hy6.cell 4, hy6.cell 5, hy6.cell 6, hy6.cell 7⟩)))
  clear hK K
  try simp only [Act.put, List.setIfInBounds_toArray, List.set_cons_zero, List.set_cons_succ]
  refine wpAnyH_take (i := 8) (oi := { dst := some 55, op := Op.binOp BinOp.eql 28 (Operand.tmp 53) (Operand.tmp 54) 28, type := 4, pos := _, after := #[{ on := 6, ground := Ground.data }, { on := 7, ground := Ground.data }, { on := 4, ground := Ground.guard }], guard := some (4, true) }) (v := ?_) rfl (by kernel_rfl) (by kernel_rfl) (by kernel_rfl) (fun _ _ _ h => h) (Or.inl ⟨by rfl, ?_⟩) (by assumption) ?_
  rotate_left
  · (intro w hSw; (try dsimp only at hSw); go_simp; try with_reducible rfl)
  simp only [Act.put, List.setIfInBounds_toArray, List.set_cons_zero, List.set_cons_succ]
  refine wpAnyH_take (i := 9) (oi := { dst := some 56, op := Op.pick (Operand.tmp 51) (Operand.tmp 55) (Operand.const (Value.bool false)), type := 4, pos := _, after := #[{ on := 4, ground := Ground.data }, { on := 8, ground := Ground.data }], guard := none }) (v := ?_) rfl (by kernel_rfl) (by kernel_rfl) (by kernel_rfl) (fun _ _ _ h => h) (Or.inl ⟨by rfl, ?_⟩) (by assumption) ?_
  rotate_left
  · (intro w hSw; (try dsimp only at hSw); go_simp; try with_reducible rfl)
  simp only [Act.put, List.setIfInBounds_toArray, List.set_cons_zero, List.set_cons_succ]
  refine wpAnyH_take (i := 10) (oi := { dst := some 2, op := Op.assign (Operand.tmp 56), type := 4, pos := _, after := #[{ on := 9, ground := Ground.data }, { on := 6, ground := Ground.chain }, { on := 0, ground := Ground.phase }, { on := 1, ground := Ground.phase }, { on := 2, ground := Ground.phase }, { on := 3, ground := Ground.phase }, { on := 4, ground := Ground.phase }, { on := 5, ground := Ground.phase }, { on := 6, ground := Ground.phase }, { on := 7, ground := Ground.phase }, { on := 8, ground := Ground.phase }, { on := 9, ground := Ground.phase }], guard := none }) (v := ?_) rfl (by kernel_rfl) (by kernel_rfl) (by kernel_rfl) (fun _ _ _ h => h) (Or.inl ⟨by rfl, ?_⟩) (by assumption) ?_
  rotate_left
  · (intro w hSw; (try dsimp only at hSw); go_simp; try with_reducible rfl)
  simp only [Act.put, List.setIfInBounds_toArray, List.set_cons_zero, List.set_cons_succ]
  refine wpAnyH_done (by kernel_rfl) ?_ _
  go_wp2
  go_ret
  exact ⟨rfl, HB7.out⟩
theorem ncut (z n M : Nat) : z &&& M = (z / 2 ^ n &&& M / 2 ^ n) * 2 ^ n + (z % 2 ^ n &&& M % 2 ^ n) := by
  have h1 := Nat.and_div_two_pow (a := z) (b := M) (n := n)
  have h2 := Nat.and_mod_two_pow (a := z) (b := M) (n := n)
  have h3 := Nat.div_add_mod (z &&& M) (2 ^ n)
  rw [h1, h2, Nat.mul_comm] at h3
  exact h3.symm
theorem nlow (z n M : Nat) (h : M = 2 ^ n - 1) : z &&& M = z % 2 ^ n := by rw [h]; exact Nat.and_two_pow_sub_one_eq_mod z n
theorem mask1 (x : Nat) : x &&& 4294966783 = x / 1024 % 4194304 * 1024 + x % 1024 % 512 := by
  rw [ncut x 10 4294966783, nlow (x / 2 ^ 10) 22 (4294966783 / 2 ^ 10) (by decide), nlow (x % 2 ^ 10) 9 (4294966783 % 2 ^ 10) (by decide)]
theorem mask2 (x : Nat) : x &&& 4294966763 = x / 1024 % 4194304 * 1024 + (x % 1024 / 32 % 16 * 32 + (x % 1024 % 32 / 8 % 2 * 8 + x % 1024 % 32 % 8 % 4)) := by
  rw [ncut x 10 4294966763, nlow (x / 2 ^ 10) 22 (4294966763 / 2 ^ 10) (by decide), ncut (x % 2 ^ 10) 5 (4294966763 % 2 ^ 10), nlow (x % 2 ^ 10 / 2 ^ 5) 4 (4294966763 % 2 ^ 10 / 2 ^ 5) (by decide), ncut (x % 2 ^ 10 % 2 ^ 5) 3 (4294966763 % 2 ^ 10 % 2 ^ 5), nlow (x % 2 ^ 10 % 2 ^ 5 / 2 ^ 3) 1 (4294966763 % 2 ^ 10 % 2 ^ 5 / 2 ^ 3) (by decide), nlow (x % 2 ^ 10 % 2 ^ 5 % 2 ^ 3) 2 (4294966763 % 2 ^ 10 % 2 ^ 5 % 2 ^ 3) (by decide)]
theorem mask3 (x : Nat) : x &&& 4294966847 = x / 512 % 8388608 * 512 + x % 512 % 64 := by
  rw [ncut x 9 4294966847, nlow (x / 2 ^ 9) 23 (4294966847 / 2 ^ 9) (by decide), nlow (x % 2 ^ 9) 6 (4294966847 % 2 ^ 9) (by decide)]
theorem mask4 (x : Nat) : x &&& 4294967295 = x % 4294967296 := nlow x 32 4294967295 (by decide)
theorem and_tab (x : Int) (h : 0 ≤ x ∧ x < 4294967296) : bits .and .u32 x (n1 x) = m1v x ∧ bits .and .u32 x (n2 x) = m2v x := by
  obtain ⟨x, rfl⟩ := Int.eq_ofNat_of_zero_le h.1
  have hx : x < 4294967296 := by omega
  refine ⟨?_, ?_⟩
  · unfold n1 m1v
    split
    · refine (u32_and_nat x 4294966763 hx (by decide)).trans ?_
      rw [mask2]
      omega
    · split
      · refine (u32_and_nat x 4294966783 hx (by decide)).trans ?_
        rw [mask1]
        omega
      · refine (u32_and_nat x 0 hx (by decide)).trans ?_
        rw [Nat.and_zero]
        rfl
  · unfold n2 m2v
    split
    · refine (u32_and_nat x 0 hx (by decide)).trans ?_
      rw [Nat.and_zero]
      rfl
    · split
      · refine (u32_and_nat x 4294966847 hx (by decide)).trans ?_
        rw [mask3]
        omega
      · refine (u32_and_nat x 4294967295 hx (by decide)).trans ?_
        rw [mask4]
        omega
theorem law_back (x : Int) (W : World) (ht : TE W) (hx : 0 ≤ x ∧ x < 4294967296) : Calls Tryd.prog 3 #[.int .u32 x] W fun r w' => r = .returned (.bool true) ∧ Below W.heap.size W w' := by
  have o1 := (ok_D1 x hx).1
  have o2 := (ok_D2 x hx).1
  refine back_w x (E (D1 x)) (E (D2 x)) (n1 x) (n2 x) (D1 x) (D2 x) W ht (fun ww hh => Decode1_any x ww hh.toTD hx) (fun ww hh => Decode2_any x ww hh.toTD hx) (fun ww hh => ?_) (fun ww hh => ?_) (fun ww hh => ?_) (fun ww hh => ?_) (fun w => named1_any x w hx) (fun w => named2_any x w hx) ?_ ?_
  · have := Decode1_any (E (D1 x)) ww hh.toTD (E_rng _ o1)
    rw [DED1 x hx] at this
    exact this
  · have := Decode2_any (E (D2 x)) ww hh.toTD (E_rng _ o2)
    rw [DED2 x hx] at this
    exact this
  · have := Encode1_any (D1 x) ww hh o1
    rw [DED1 x hx, Ent.same_self] at this
    exact this
  · have := Encode2_any (D2 x) ww hh o2
    rw [DED2 x hx, Ent.same_self] at this
    exact this
  · rw [ED1 x hx]
    exact (and_tab x hx).1
  · rw [ED2 x hx]
    exact (and_tab x hx).2
end Go.Proofs.YtcpcmjmgiagnoabDoor
