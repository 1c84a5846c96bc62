import Derived.Test.YtcpcmjmgiagnoabDoorBx
namespace Go.Proofs.YtcpcmjmgiagnoabDoor
open Go.RowKit
set_option linter.unusedVariables false
set_option linter.unusedSimpArgs false
set_option maxRecDepth 100000 in
set_option maxHeartbeats 4000000 in
theorem rw2_no (k1 : Int) (k2 k3 : Int) (k4 : Bool) (k5 k6 : Int) (k7 k8 : Bool) (W : World)
    (HSY : ∀ w, Calls Tryd.prog 30 #[.agg #[.int .i64 k1, .int .u64 k2, .int .i64 k3, .bool k4, .int .i64 k5, .int .u32 k6, .bool k7, .bool k8]] w fun e w' => e = .returned (.bool false) ∧ Below w.heap.size w w') :
    Calls Tryd.prog 18 #[.agg #[.int .i64 k1, .int .u64 k2, .int .i64 k3, .bool k4, .int .i64 k5, .int .u32 k6, .bool k7, .bool k8]] W fun e w' => e = .returned (.tuple #[.int .u32 0, .int .i64 50]) ∧ Below W.heap.size W w' := by
  have hE0 := (Bl.new W 28 [.int .i64 k1, .int .u64 k2, .int .i64 k3, .bool k4, .int .i64 k5, .int .u32 k6, .bool k7, .bool k8]).cell
  go_enter Tryd.func18, Tryd.ntmps18
  go_wp2_with (first | (go_at_call 30; refine (HSY _).mono ?_; rintro e w1 ⟨rfl, hb⟩; have HB := hidIn (Below.one hb); clear hb hE0) | go_in)
  go_ret2
  exact ⟨rfl, HB.out⟩
set_option maxRecDepth 100000 in
set_option maxHeartbeats 4000000 in
theorem rw2_Z (k2 k3 : Int) (k4 : Bool) (k5 k6 : Int) (k7 k8 : Bool) (W : World)
    (HSY : ∀ w, Calls Tryd.prog 30 #[.agg #[.int .i64 0, .int .u64 k2, .int .i64 k3, .bool k4, .int .i64 k5, .int .u32 k6, .bool k7, .bool k8]] w fun e w' => e = .returned (.bool true) ∧ Below w.heap.size w w') (f0 : Nat → Int) (hz : ∀ w, (zeroValue 54).run Tryd.prog w = .ok (.agg (encB f0).toArray) w) (q6 : IntKind.u64.wrap k6 = k6) :
    Calls Tryd.prog 18 #[.agg #[.int .i64 0, .int .u64 k2, .int .i64 k3, .bool k4, .int .i64 k5, .int .u32 k6, .bool k7, .bool k8]] W fun e w' => e = .returned (.tuple #[.int .u32 0, .int .i64 0]) ∧ Below W.heap.size W w' := by
  have HST : Hid (∀ w1, Below (W.alloc (.cells ([.int .i64 0, .int .u64 k2, .int .i64 k3, .bool k4, .int .i64 k5, .int .u32 k6, .bool k7, .bool k8] : List Value).toArray 28)).heap.size (W.alloc (.cells ([.int .i64 0, .int .u64 k2, .int .i64 k3, .bool k4, .int .i64 k5, .int .u32 k6, .bool k7, .bool k8] : List Value).toArray 28)) w1 → ES [.int .i64 0, .int .u64 k2, .int .i64 k3, .bool k4, .int .i64 k5, .int .u32 k6, .bool k7, .bool k8] W w1.heap.size f0 (w1.alloc (.cells (encB f0).toArray 54))) := fun w1 hb => es_start f0 hb
  have hE0 := (Bl.new W 28 [.int .i64 0, .int .u64 k2, .int .i64 k3, .bool k4, .int .i64 k5, .int .u32 k6, .bool k7, .bool k8]).cell
  go_enter Tryd.func18, Tryd.ntmps18
  go_wp2_with (first | (go_at_call 30; refine (HSY _).mono ?_; rintro e w1 ⟨rfl, hb⟩; have HS := hidIn (HST.out w1 hb); clear hb hE0; have hc := HS.out.ent.cell) | go_in)
  go_ret2
  exact ⟨rfl, HS.out.bel⟩
set_option maxRecDepth 100000 in
set_option maxHeartbeats 4000000 in
theorem rw2_L (k2 k3 : Int) (k4 : Bool) (k5 k6 : Int) (k7 k8 : Bool) (f0 f1 f2 f3 f4 f5 f6 f7 f8 f9 : Nat → Int) (V A nk8 T8 nk7 P4 P T2 : Int) (W : World)
    (HSY : ∀ w, Calls Tryd.prog 30 #[.agg #[.int .i64 4, .int .u64 k2, .int .i64 k3, .bool k4, .int .i64 k5, .int .u32 k6, .bool k7, .bool k8]] w fun e w' => e = .returned (.bool true) ∧ Below w.heap.size w w')
    (hz : ∀ w, (zeroValue 54).run Tryd.prog w = .ok (.agg (encB f0).toArray) w)
    (HL31_16 : ∀ w, Calls Tryd.prog 26 #[.agg (encB f0).toArray, .int .i64 31, .int .i64 16, .int .u64 A] w fun e w' => e = .returned (.agg (encB f1).toArray) ∧ Below w.heap.size w w')
    (HL15_15 : ∀ w, Calls Tryd.prog 26 #[.agg (encB f1).toArray, .int .i64 15, .int .i64 15, .int .u64 nk8] w fun e w' => e = .returned (.agg (encB f2).toArray) ∧ Below w.heap.size w w')
    (HL14_12 : ∀ w, Calls Tryd.prog 26 #[.agg (encB f2).toArray, .int .i64 14, .int .i64 12, .int .u64 T8] w fun e w' => e = .returned (.agg (encB f3).toArray) ∧ Below w.heap.size w w')
    (HL1_0 : ∀ w, Calls Tryd.prog 26 #[.agg (encB f3).toArray, .int .i64 1, .int .i64 0, .int .u64 1] w fun e w' => e = .returned (.agg (encB f4).toArray) ∧ Below w.heap.size w w')
    (HL11_11 : ∀ w, Calls Tryd.prog 26 #[.agg (encB f4).toArray, .int .i64 11, .int .i64 11, .int .u64 nk7] w fun e w' => e = .returned (.agg (encB f5).toArray) ∧ Below w.heap.size w w')
    (HL10_10 : ∀ w, Calls Tryd.prog 26 #[.agg (encB f5).toArray, .int .i64 10, .int .i64 10, .int .u64 k6] w fun e w' => e = .returned (.agg (encB f6).toArray) ∧ Below w.heap.size w w')
    (HL9_9 : ∀ w, Calls Tryd.prog 26 #[.agg (encB f6).toArray, .int .i64 9, .int .i64 9, .int .u64 P4] w fun e w' => e = .returned (.agg (encB f7).toArray) ∧ Below w.heap.size w w')
    (HL5_4 : ∀ w, Calls Tryd.prog 26 #[.agg (encB f7).toArray, .int .i64 5, .int .i64 4, .int .u64 P] w fun e w' => e = .returned (.agg (encB f8).toArray) ∧ Below w.heap.size w w')
    (HL3_2 : ∀ w, Calls Tryd.prog 26 #[.agg (encB f8).toArray, .int .i64 3, .int .i64 2, .int .u64 T2] w fun e w' => e = .returned (.agg (encB f9).toArray) ∧ Below w.heap.size w w')
    (HOk7 : ∀ w, Calls Tryd.prog 28 #[.bool k7] w fun e w' => e = .returned (.int .u64 nk7) ∧ w = w')
    (HOk8 : ∀ w, Calls Tryd.prog 28 #[.bool k8] w fun e w' => e = .returned (.int .u64 nk8) ∧ w = w')
    (HW : ∀ w, Calls Tryd.prog 29 #[.agg (encB f9).toArray] w fun e w' => e = .returned (.int .u32 V) ∧ Below w.heap.size w w')
    (qA : k2.tdiv 65536 = A) (rA : IntKind.u64.wrap A = A) (qP : IntKind.u64.wrap k5 = P) (qP4 : P.tdiv 4 = P4) (rP4 : IntKind.u64.wrap P4 = P4) (q6 : IntKind.u64.wrap k6 = k6) (qT2 : k6.tdiv 2 = T2) (rT2 : IntKind.u64.wrap T2 = T2) (qT8 : k6.tdiv 8 = T8) (rT8 : IntKind.u64.wrap T8 = T8) :
    Calls Tryd.prog 18 #[.agg #[.int .i64 4, .int .u64 k2, .int .i64 k3, .bool k4, .int .i64 k5, .int .u32 k6, .bool k7, .bool k8]] W fun e w' => e = .returned (.tuple #[.int .u32 V, .int .i64 0]) ∧ Below W.heap.size W w' := by
  have hp16 := fun w => power_l 16 65536 w (by decide) (by decide) 16 rfl
  have HST : Hid (∀ w1, Below (W.alloc (.cells ([.int .i64 4, .int .u64 k2, .int .i64 k3, .bool k4, .int .i64 k5, .int .u32 k6, .bool k7, .bool k8] : List Value).toArray 28)).heap.size (W.alloc (.cells ([.int .i64 4, .int .u64 k2, .int .i64 k3, .bool k4, .int .i64 k5, .int .u32 k6, .bool k7, .bool k8] : List Value).toArray 28)) w1 → ES [.int .i64 4, .int .u64 k2, .int .i64 k3, .bool k4, .int .i64 k5, .int .u32 k6, .bool k7, .bool k8] W w1.heap.size f0 (w1.alloc (.cells (encB f0).toArray 54))) := fun w1 hb => es_start f0 hb
  have hE0 := (Bl.new W 28 [.int .i64 4, .int .u64 k2, .int .i64 k3, .bool k4, .int .i64 k5, .int .u32 k6, .bool k7, .bool k8]).cell
  go_enter Tryd.func18, Tryd.ntmps18
  go_wp2_with (first | (go_at_call 30; refine (HSY _).mono ?_; rintro e w1 ⟨rfl, hb⟩; have HS := hidIn (HST.out w1 hb); clear hb hE0; have hc := HS.out.ent.cell) | go_in)
  clear hc
  generalize w1.heap.size = n at *
  generalize w1.alloc _ = w3 at *
  apply via1 (P := fun w => Hid (ES [.int .i64 4, .int .u64 k2, .int .i64 k3, .bool k4, .int .i64 k5, .int .u32 k6, .bool k7, .bool k8] W n f1 w))
  · intro key
    refine wp_region_held_drew (S := fun w' => w'.cell? ⟨W.heap.size, 1, none⟩ = some (.int .u64 k2) ∧ True) (by kernel_rfl) (by (try dsimp only); exact ⟨HS.out.drew.ent.cell 1, trivial⟩) (fun hHeld => ?_)
    replace HS := hidIn HS.out.drew
    generalize World.drew w3 = w3 at *
    refine wpAnyH_take (i := 1) (oi := { dst := some 20, op := Op.fieldAddr 28 (Operand.tmp 1) 1, type := 0, pos := _, after := #[], guard := none }) (v := ?_) rfl (by kernel_rfl) (by kernel_rfl) (by kernel_rfl) (fun _ _ _ h => h) (Or.inl ⟨by rfl, ?_⟩) (by assumption) ?_
    rotate_left
    · (intro w hSw; (try dsimp only at hSw); go_simp; try with_reducible rfl)
    simp only [Act.put, List.setIfInBounds_toArray, List.set_cons_zero, List.set_cons_succ]
    refine wpAnyH_take (i := 2) (oi := { dst := some 21, op := Op.load 24 (Operand.tmp 20), type := 24, pos := _, after := #[{ on := 1, ground := Ground.data }], guard := none }) (v := ?_) rfl (by kernel_rfl) (by kernel_rfl) (by kernel_rfl) (fun _ _ _ h => h) (Or.inl ⟨by rfl, ?_⟩) (by assumption) ?_
    rotate_left
    · (intro w hSw; (try dsimp only at hSw); go_simp; try with_reducible rfl)
    simp only [Act.put, List.setIfInBounds_toArray, List.set_cons_zero, List.set_cons_succ]
    refine wpAnyH_ready (rs := [0, 3]) (by kernel_rfl) (by simp) ?_
    refine (AllReadyH.cons (o := { dst := some 19, op := Op.load 54 (Operand.tmp 4), type := 54, pos := _, after := #[], guard := none }) rfl (fun K hK => ?_) (AllReadyH.cons (o := { dst := some 22, op := Op.call { callee := Callee.value (Operand.func 27), args := #[Operand.const (Value.int IntKind.i64 16)], argTypes := #[3] }, type := 24, pos := _, after := #[], guard := none }) rfl (fun K hK => ?_) AllReadyH.nil))
    · (refine (if_pos (by rfl)).mpr ?_; refine wp_load_es HS.out _ rfl rfl ?_)
      refine hK.out _ _ ?_ (fun hHeld => ?_)
      · ((try dsimp only); exact ⟨HS.out.ent.cell 1, trivial⟩)
      clear hK K
      try simp only [Act.put, List.setIfInBounds_toArray, List.set_cons_zero, List.set_cons_succ]
      refine wpAnyH_ready (rs := [3]) (by kernel_rfl) (by simp) ?_
      refine (AllReadyH.cons (o := { dst := some 22, op := Op.call { callee := Callee.value (Operand.func 27), args := #[Operand.const (Value.int IntKind.i64 16)], argTypes := #[3] }, type := 24, pos := _, after := #[], guard := none }) rfl (fun K hK => ?_) AllReadyH.nil)
      go_simp
      (go_at_call 27; refine (hp16 _).mono ?_; rintro e w' ⟨rfl, rfl⟩)
      refine hK.out _ _ ?_ (fun hHeld => ?_)
      · ((try dsimp only); exact ⟨HS.out.ent.cell 1, trivial⟩)
      clear hK K
      try simp only [Act.put, List.setIfInBounds_toArray, List.set_cons_zero, List.set_cons_succ]
      refine wpAnyH_take (i := 4) (oi := { dst := some 23, op := Op.binOp BinOp.quo 24 (Operand.tmp 21) (Operand.tmp 22) 24, type := 24, pos := _, after := #[{ on := 2, ground := Ground.data }, { on := 3, ground := Ground.data }], guard := none }) (v := ?_) rfl (by kernel_rfl) (by kernel_rfl) (by kernel_rfl) (fun _ _ _ h => h) (Or.inl ⟨by rfl, ?_⟩) (by assumption) ?_
      rotate_left
      · (intro w hSw; (try dsimp only at hSw); go_simp; try with_reducible rfl)
      simp only [Act.put, List.setIfInBounds_toArray, List.set_cons_zero, List.set_cons_succ]
      refine wpAnyH_ready (rs := [5]) (by kernel_rfl) (by simp) ?_
      refine (AllReadyH.cons (o := { dst := some 24, op := Op.call { callee := Callee.value (Operand.func 26), args := #[Operand.tmp 19, Operand.const (Value.int IntKind.i64 31), Operand.const (Value.int IntKind.i64 16), Operand.tmp 23], argTypes := #[54, 3, 3, 24] }, type := 54, pos := _, after := #[{ on := 0, ground := Ground.data }, { on := 4, ground := Ground.data }, { on := 3, ground := Ground.chain }], guard := none }) rfl (fun K hK => ?_) AllReadyH.nil)
      go_simp
      (go_at_call 26; refine (HL31_16 _).mono ?_; rintro e w3 ⟨rfl, hb⟩; replace HS := hidIn (HS.out.below hb); clear hb)
      refine hK.out _ _ ?_ (fun hHeld => ?_)
      · ((try dsimp only); exact ⟨HS.out.ent.cell 1, trivial⟩)
      clear hK K
      try simp only [Act.put, List.setIfInBounds_toArray, List.set_cons_zero, List.set_cons_succ]
      refine wpAnyH_ready (rs := [6]) (by kernel_rfl) (by simp) ?_
      refine (AllReadyH.cons (o := { dst := none, op := Op.store 54 (Operand.tmp 4) (Operand.tmp 24), type := 0, pos := _, after := #[{ on := 5, ground := Ground.data }, { on := 5, ground := Ground.chain }, { on := 0, ground := Ground.phase }, { on := 1, ground := Ground.phase }, { on := 2, ground := Ground.phase }, { on := 3, ground := Ground.phase }, { on := 4, ground := Ground.phase }, { on := 5, ground := Ground.phase }], guard := none }) rfl (fun K hK => ?_) AllReadyH.nil)
      (refine (if_pos (by rfl)).mpr ?_; refine wp_store_es HS.out _ _ _ rfl rfl rfl ?_; clear HS; intro w3 HS)
      refine hK.out _ _ ?_ (fun hHeld => ?_)
      · ((try dsimp only); exact ⟨HS.out.ent.cell 1, trivial⟩)
      clear hK K
      try simp only [Act.put, List.setIfInBounds_toArray, List.set_cons_zero, List.set_cons_succ]
      refine wpAnyH_done (by kernel_rfl) ?_ _
      exact key w3 HS
    · go_simp
      (go_at_call 27; refine (hp16 _).mono ?_; rintro e w' ⟨rfl, rfl⟩)
      refine hK.out _ _ ?_ (fun hHeld => ?_)
      · ((try dsimp only); exact ⟨HS.out.ent.cell 1, trivial⟩)
      clear hK K
      try simp only [Act.put, List.setIfInBounds_toArray, List.set_cons_zero, List.set_cons_succ]
      refine wpAnyH_take (i := 4) (oi := { dst := some 23, op := Op.binOp BinOp.quo 24 (Operand.tmp 21) (Operand.tmp 22) 24, type := 24, pos := _, after := #[{ on := 2, ground := Ground.data }, { on := 3, ground := Ground.data }], guard := none }) (v := ?_) rfl (by kernel_rfl) (by kernel_rfl) (by kernel_rfl) (fun _ _ _ h => h) (Or.inl ⟨by rfl, ?_⟩) (by assumption) ?_
      rotate_left
      · (intro w hSw; (try dsimp only at hSw); go_simp; try with_reducible rfl)
      simp only [Act.put, List.setIfInBounds_toArray, List.set_cons_zero, List.set_cons_succ]
      refine wpAnyH_ready (rs := [0]) (by kernel_rfl) (by simp) ?_
      refine (AllReadyH.cons (o := { dst := some 19, op := Op.load 54 (Operand.tmp 4), type := 54, pos := _, after := #[], guard := none }) rfl (fun K hK => ?_) AllReadyH.nil)
      (refine (if_pos (by rfl)).mpr ?_; refine wp_load_es HS.out _ rfl rfl ?_)
      refine hK.out _ _ ?_ (fun hHeld => ?_)
      · ((try dsimp only); exact ⟨HS.out.ent.cell 1, trivial⟩)
      clear hK K
      try simp only [Act.put, List.setIfInBounds_toArray, List.set_cons_zero, List.set_cons_succ]
      refine wpAnyH_ready (rs := [5]) (by kernel_rfl) (by simp) ?_
      refine (AllReadyH.cons (o := { dst := some 24, op := Op.call { callee := Callee.value (Operand.func 26), args := #[Operand.tmp 19, Operand.const (Value.int IntKind.i64 31), Operand.const (Value.int IntKind.i64 16), Operand.tmp 23], argTypes := #[54, 3, 3, 24] }, type := 54, pos := _, after := #[{ on := 0, ground := Ground.data }, { on := 4, ground := Ground.data }, { on := 3, ground := Ground.chain }], guard := none }) rfl (fun K hK => ?_) AllReadyH.nil)
      go_simp
      (go_at_call 26; refine (HL31_16 _).mono ?_; rintro e w3 ⟨rfl, hb⟩; replace HS := hidIn (HS.out.below hb); clear hb)
      refine hK.out _ _ ?_ (fun hHeld => ?_)
      · ((try dsimp only); exact ⟨HS.out.ent.cell 1, trivial⟩)
      clear hK K
      try simp only [Act.put, List.setIfInBounds_toArray, List.set_cons_zero, List.set_cons_succ]
      refine wpAnyH_ready (rs := [6]) (by kernel_rfl) (by simp) ?_
      refine (AllReadyH.cons (o := { dst := none, op := Op.store 54 (Operand.tmp 4) (Operand.tmp 24), type := 0, pos := _, after := #[{ on := 5, ground := Ground.data }, { on := 5, ground := Ground.chain }, { on := 0, ground := Ground.phase }, { on := 1, ground := Ground.phase }, { on := 2, ground := Ground.phase }, { on := 3, ground := Ground.phase }, { on := 4, ground := Ground.phase }, { on := 5, ground := Ground.phase }], guard := none }) rfl (fun K hK => ?_) AllReadyH.nil)
      (refine (if_pos (by rfl)).mpr ?_; refine wp_store_es HS.out _ _ _ rfl rfl rfl ?_; clear HS; intro w3 HS)
      refine hK.out _ _ ?_ (fun hHeld => ?_)
      · ((try dsimp only); exact ⟨HS.out.ent.cell 1, trivial⟩)
      clear hK K
      try simp only [Act.put, List.setIfInBounds_toArray, List.set_cons_zero, List.set_cons_succ]
      refine wpAnyH_done (by kernel_rfl) ?_ _
      exact key w3 HS
  intro w3 HS
  have hc := HS.out.ent.cell
  go_wp2
  apply via1 (P := fun w => Hid (ES [.int .i64 4, .int .u64 k2, .int .i64 k3, .bool k4, .int .i64 k5, .int .u32 k6, .bool k7, .bool k8] W n f2 w))
  · intro key
    refine wp_region_held_drew (S := fun w' => w'.cell? ⟨W.heap.size, 7, none⟩ = some (.bool k8) ∧ True) (by kernel_rfl) (by (try dsimp only); exact ⟨HS.out.drew.ent.cell 7, trivial⟩) (fun hHeld => ?_)
    replace HS := hidIn HS.out.drew
    generalize World.drew w3 = w3 at *
    refine wpAnyH_take (i := 1) (oi := { dst := some 26, op := Op.fieldAddr 28 (Operand.tmp 1) 4, type := 0, pos := _, after := #[], guard := none }) (v := ?_) rfl (by kernel_rfl) (by kernel_rfl) (by kernel_rfl) (fun _ _ _ h => h) (Or.inl ⟨by rfl, ?_⟩) (by assumption) ?_
    rotate_left
    · (intro w hSw; (try dsimp only at hSw); go_simp; try with_reducible rfl)
    simp only [Act.put, List.setIfInBounds_toArray, List.set_cons_zero, List.set_cons_succ]
    refine wpAnyH_take (i := 2) (oi := { dst := some 27, op := Op.fieldAddr 26 (Operand.tmp 26) 3, type := 0, pos := _, after := #[{ on := 1, ground := Ground.data }], guard := none }) (v := ?_) rfl (by kernel_rfl) (by kernel_rfl) (by kernel_rfl) (fun _ _ _ h => h) (Or.inl ⟨by rfl, ?_⟩) (by assumption) ?_
    rotate_left
    · (intro w hSw; (try dsimp only at hSw); go_simp; try with_reducible rfl)
    simp only [Act.put, List.setIfInBounds_toArray, List.set_cons_zero, List.set_cons_succ]
    refine wpAnyH_take (i := 3) (oi := { dst := some 28, op := Op.load 4 (Operand.tmp 27), type := 4, pos := _, after := #[{ on := 2, ground := Ground.data }], guard := none }) (v := ?_) rfl (by kernel_rfl) (by kernel_rfl) (by kernel_rfl) (fun _ _ _ h => h) (Or.inl ⟨by rfl, ?_⟩) (by assumption) ?_
    rotate_left
    · (intro w hSw; (try dsimp only at hSw); go_simp; try with_reducible rfl)
    simp only [Act.put, List.setIfInBounds_toArray, List.set_cons_zero, List.set_cons_succ]
    refine wpAnyH_ready (rs := [0, 4]) (by kernel_rfl) (by simp) ?_
    refine (AllReadyH.cons (o := { dst := some 25, op := Op.load 54 (Operand.tmp 4), type := 54, pos := _, after := #[], guard := none }) rfl (fun K hK => ?_) (AllReadyH.cons (o := { dst := some 29, op := Op.call { callee := Callee.value (Operand.func 28), args := #[Operand.tmp 28], argTypes := #[4] }, type := 24, pos := _, after := #[{ on := 3, ground := Ground.data }], guard := none }) rfl (fun K hK => ?_) AllReadyH.nil))
    · (refine (if_pos (by rfl)).mpr ?_; refine wp_load_es HS.out _ rfl rfl ?_)
      refine hK.out _ _ ?_ (fun hHeld => ?_)
      · ((try dsimp only); exact ⟨HS.out.ent.cell 7, trivial⟩)
      clear hK K
      try simp only [Act.put, List.setIfInBounds_toArray, List.set_cons_zero, List.set_cons_succ]
      refine wpAnyH_ready (rs := [4]) (by kernel_rfl) (by simp) ?_
      refine (AllReadyH.cons (o := { dst := some 29, op := Op.call { callee := Callee.value (Operand.func 28), args := #[Operand.tmp 28], argTypes := #[4] }, type := 24, pos := _, after := #[{ on := 3, ground := Ground.data }], guard := none }) rfl (fun K hK => ?_) AllReadyH.nil)
      go_simp
      (go_at_call 28; refine (HOk8 _).mono ?_; rintro e w' ⟨rfl, rfl⟩)
      refine hK.out _ _ ?_ (fun hHeld => ?_)
      · ((try dsimp only); exact ⟨HS.out.ent.cell 7, trivial⟩)
      clear hK K
      try simp only [Act.put, List.setIfInBounds_toArray, List.set_cons_zero, List.set_cons_succ]
      refine wpAnyH_ready (rs := [5]) (by kernel_rfl) (by simp) ?_
      refine (AllReadyH.cons (o := { dst := some 30, op := Op.call { callee := Callee.value (Operand.func 26), args := #[Operand.tmp 25, Operand.const (Value.int IntKind.i64 15), Operand.const (Value.int IntKind.i64 15), Operand.tmp 29], argTypes := #[54, 3, 3, 24] }, type := 54, pos := _, after := #[{ on := 0, ground := Ground.data }, { on := 4, ground := Ground.data }, { on := 4, ground := Ground.chain }], guard := none }) rfl (fun K hK => ?_) AllReadyH.nil)
      go_simp
      (go_at_call 26; refine (HL15_15 _).mono ?_; rintro e w3 ⟨rfl, hb⟩; replace HS := hidIn (HS.out.below hb); clear hb)
      refine hK.out _ _ ?_ (fun hHeld => ?_)
      · ((try dsimp only); exact ⟨HS.out.ent.cell 7, trivial⟩)
      clear hK K
      try simp only [Act.put, List.setIfInBounds_toArray, List.set_cons_zero, List.set_cons_succ]
      refine wpAnyH_ready (rs := [6]) (by kernel_rfl) (by simp) ?_
      refine (AllReadyH.cons (o := { dst := none, op := Op.store 54 (Operand.tmp 4) (Operand.tmp 30), type := 0, pos := _, after := #[{ on := 5, ground := Ground.data }, { on := 5, ground := Ground.chain }, { on := 0, ground := Ground.phase }, { on := 1, ground := Ground.phase }, { on := 2, ground := Ground.phase }, { on := 3, ground := Ground.phase }, { on := 4, ground := Ground.phase }, { on := 5, ground := Ground.phase }], guard := none }) rfl (fun K hK => ?_) AllReadyH.nil)
      (refine (if_pos (by rfl)).mpr ?_; refine wp_store_es HS.out _ _ _ rfl rfl rfl ?_; clear HS; intro w3 HS)
      refine hK.out _ _ ?_ (fun hHeld => ?_)
      · ((try dsimp only); exact ⟨HS.out.ent.cell 7, trivial⟩)
      clear hK K
      try simp only [Act.put, List.setIfInBounds_toArray, List.set_cons_zero, List.set_cons_succ]
      refine wpAnyH_done (by kernel_rfl) ?_ _
      exact key w3 HS
    · go_simp
      (go_at_call 28; refine (HOk8 _).mono ?_; rintro e w' ⟨rfl, rfl⟩)
      refine hK.out _ _ ?_ (fun hHeld => ?_)
      · ((try dsimp only); exact ⟨HS.out.ent.cell 7, trivial⟩)
      clear hK K
      try simp only [Act.put, List.setIfInBounds_toArray, List.set_cons_zero, List.set_cons_succ]
      refine wpAnyH_ready (rs := [0]) (by kernel_rfl) (by simp) ?_
      refine (AllReadyH.cons (o := { dst := some 25, op := Op.load 54 (Operand.tmp 4), type := 54, pos := _, after := #[], guard := none }) rfl (fun K hK => ?_) AllReadyH.nil)
      (refine (if_pos (by rfl)).mpr ?_; refine wp_load_es HS.out _ rfl rfl ?_)
      refine hK.out _ _ ?_ (fun hHeld => ?_)
      · ((try dsimp only); exact ⟨HS.out.ent.cell 7, trivial⟩)
      clear hK K
      try simp only [Act.put, List.setIfInBounds_toArray, List.set_cons_zero, List.set_cons_succ]
      refine wpAnyH_ready (rs := [5]) (by kernel_rfl) (by simp) ?_
      refine (AllReadyH.cons (o := { dst := some 30, op := Op.call { callee := Callee.value (Operand.func 26), args := #[Operand.tmp 25, Operand.const (Value.int IntKind.i64 15), Operand.const (Value.int IntKind.i64 15), Operand.tmp 29], argTypes := #[54, 3, 3, 24] }, type := 54, pos := _, after := #[{ on := 0, ground := Ground.data }, { on := 4, ground := Ground.data }, { on := 4, ground := Ground.chain }], guard := none }) rfl (fun K hK => ?_) AllReadyH.nil)
      go_simp
      (go_at_call 26; refine (HL15_15 _).mono ?_; rintro e w3 ⟨rfl, hb⟩; replace HS := hidIn (HS.out.below hb); clear hb)
      refine hK.out _ _ ?_ (fun hHeld => ?_)
      · ((try dsimp only); exact ⟨HS.out.ent.cell 7, trivial⟩)
      clear hK K
      try simp only [Act.put, List.setIfInBounds_toArray, List.set_cons_zero, List.set_cons_succ]
      refine wpAnyH_ready (rs := [6]) (by kernel_rfl) (by simp) ?_
      refine (AllReadyH.cons (o := { dst := none, op := Op.store 54 (Operand.tmp 4) (Operand.tmp 30), type := 0, pos := _, after := #[{ on := 5, ground := Ground.data }, { on := 5, ground := Ground.chain }, { on := 0, ground := Ground.phase }, { on := 1, ground := Ground.phase }, { on := 2, ground := Ground.phase }, { on := 3, ground := Ground.phase }, { on := 4, ground := Ground.phase }, { on := 5, ground := Ground.phase }], guard := none }) rfl (fun K hK => ?_) AllReadyH.nil)
      (refine (if_pos (by rfl)).mpr ?_; refine wp_store_es HS.out _ _ _ rfl rfl rfl ?_; clear HS; intro w3 HS)
      refine hK.out _ _ ?_ (fun hHeld => ?_)
      · ((try dsimp only); exact ⟨HS.out.ent.cell 7, trivial⟩)
      clear hK K
      try simp only [Act.put, List.setIfInBounds_toArray, List.set_cons_zero, List.set_cons_succ]
      refine wpAnyH_done (by kernel_rfl) ?_ _
      exact key w3 HS
  intro w3 HS
  have hc := HS.out.ent.cell
  go_wp2_with (first | (go_at_call 26; (first | with_reducible refine (HL14_12 _).mono ?_ | with_reducible refine (HL1_0 _).mono ?_ | with_reducible refine (HL10_10 _).mono ?_ | with_reducible refine (HL9_9 _).mono ?_ | with_reducible refine (HL5_4 _).mono ?_ | with_reducible refine (HL3_2 _).mono ?_); rintro e w3 ⟨rfl, hb⟩; replace HS := hidIn (HS.out.below hb); clear hb) | (guard_target =~ wpList _ _ _ (Oper.mk _ (Op.load 54 _) _ _ _ _ :: _) _ _; refine wpl_load_es HS.out rfl _ rfl rfl ?_) | (guard_target =~ wpList _ _ _ (Oper.mk none (Op.store 54 _ _) _ _ _ _ :: _) _ _; refine wpl_store_es HS.out _ rfl _ _ rfl rfl rfl ?_; clear HS; try clear hc; intro w3 HS; have hc := HS.out.ent.cell) | go_in)
  clear hc
  apply via1 (P := fun w => Hid (ES [.int .i64 4, .int .u64 k2, .int .i64 k3, .bool k4, .int .i64 k5, .int .u32 k6, .bool k7, .bool k8] W n f5 w))
  · intro key
    refine wp_region_held_drew (S := fun w' => w'.cell? ⟨W.heap.size, 6, none⟩ = some (.bool k7) ∧ True) (by kernel_rfl) (by (try dsimp only); exact ⟨HS.out.drew.ent.cell 6, trivial⟩) (fun hHeld => ?_)
    replace HS := hidIn HS.out.drew
    generalize World.drew w3 = w3 at *
    refine wpAnyH_take (i := 1) (oi := { dst := some 58, op := Op.fieldAddr 28 (Operand.tmp 1) 4, type := 0, pos := _, after := #[], guard := none }) (v := ?_) rfl (by kernel_rfl) (by kernel_rfl) (by kernel_rfl) (fun _ _ _ h => h) (Or.inl ⟨by rfl, ?_⟩) (by assumption) ?_
    rotate_left
    · (intro w hSw; (try dsimp only at hSw); go_simp; try with_reducible rfl)
    simp only [Act.put, List.setIfInBounds_toArray, List.set_cons_zero, List.set_cons_succ]
    refine wpAnyH_take (i := 2) (oi := { dst := some 59, op := Op.fieldAddr 26 (Operand.tmp 58) 2, type := 0, pos := _, after := #[{ on := 1, ground := Ground.data }], guard := none }) (v := ?_) rfl (by kernel_rfl) (by kernel_rfl) (by kernel_rfl) (fun _ _ _ h => h) (Or.inl ⟨by rfl, ?_⟩) (by assumption) ?_
    rotate_left
    · (intro w hSw; (try dsimp only at hSw); go_simp; try with_reducible rfl)
    simp only [Act.put, List.setIfInBounds_toArray, List.set_cons_zero, List.set_cons_succ]
    refine wpAnyH_take (i := 3) (oi := { dst := some 60, op := Op.load 4 (Operand.tmp 59), type := 4, pos := _, after := #[{ on := 2, ground := Ground.data }], guard := none }) (v := ?_) rfl (by kernel_rfl) (by kernel_rfl) (by kernel_rfl) (fun _ _ _ h => h) (Or.inl ⟨by rfl, ?_⟩) (by assumption) ?_
    rotate_left
    · (intro w hSw; (try dsimp only at hSw); go_simp; try with_reducible rfl)
    simp only [Act.put, List.setIfInBounds_toArray, List.set_cons_zero, List.set_cons_succ]
    refine wpAnyH_ready (rs := [0, 4]) (by kernel_rfl) (by simp) ?_
    refine (AllReadyH.cons (o := { dst := some 57, op := Op.load 54 (Operand.tmp 4), type := 54, pos := _, after := #[], guard := none }) rfl (fun K hK => ?_) (AllReadyH.cons (o := { dst := some 61, op := Op.call { callee := Callee.value (Operand.func 28), args := #[Operand.tmp 60], argTypes := #[4] }, type := 24, pos := _, after := #[{ on := 3, ground := Ground.data }], guard := none }) rfl (fun K hK => ?_) AllReadyH.nil))
    · (refine (if_pos (by rfl)).mpr ?_; refine wp_load_es HS.out _ rfl rfl ?_)
      refine hK.out _ _ ?_ (fun hHeld => ?_)
      · ((try dsimp only); exact ⟨HS.out.ent.cell 6, trivial⟩)
      clear hK K
      try simp only [Act.put, List.setIfInBounds_toArray, List.set_cons_zero, List.set_cons_succ]
      refine wpAnyH_ready (rs := [4]) (by kernel_rfl) (by simp) ?_
      refine (AllReadyH.cons (o := { dst := some 61, op := Op.call { callee := Callee.value (Operand.func 28), args := #[Operand.tmp 60], argTypes := #[4] }, type := 24, pos := _, after := #[{ on := 3, ground := Ground.data }], guard := none }) rfl (fun K hK => ?_) AllReadyH.nil)
      go_simp
      (go_at_call 28; refine (HOk7 _).mono ?_; rintro e w' ⟨rfl, rfl⟩)
      refine hK.out _ _ ?_ (fun hHeld => ?_)
      · ((try dsimp only); exact ⟨HS.out.ent.cell 6, trivial⟩)
      clear hK K
      try simp only [Act.put, List.setIfInBounds_toArray, List.set_cons_zero, List.set_cons_succ]
      refine wpAnyH_ready (rs := [5]) (by kernel_rfl) (by simp) ?_
      refine (AllReadyH.cons (o := { dst := some 62, op := Op.call { callee := Callee.value (Operand.func 26), args := #[Operand.tmp 57, Operand.const (Value.int IntKind.i64 11), Operand.const (Value.int IntKind.i64 11), Operand.tmp 61], argTypes := #[54, 3, 3, 24] }, type := 54, pos := _, after := #[{ on := 0, ground := Ground.data }, { on := 4, ground := Ground.data }, { on := 4, ground := Ground.chain }], guard := none }) rfl (fun K hK => ?_) AllReadyH.nil)
      go_simp
      (go_at_call 26; refine (HL11_11 _).mono ?_; rintro e w3 ⟨rfl, hb⟩; replace HS := hidIn (HS.out.below hb); clear hb)
      refine hK.out _ _ ?_ (fun hHeld => ?_)
      · ((try dsimp only); exact ⟨HS.out.ent.cell 6, trivial⟩)
      clear hK K
      try simp only [Act.put, List.setIfInBounds_toArray, List.set_cons_zero, List.set_cons_succ]
      refine wpAnyH_ready (rs := [6]) (by kernel_rfl) (by simp) ?_
      refine (AllReadyH.cons (o := { dst := none, op := Op.store 54 (Operand.tmp 4) (Operand.tmp 62), type := 0, pos := _, after := #[{ on := 5, ground := Ground.data }, { on := 5, ground := Ground.chain }, { on := 0, ground := Ground.phase }, { on := 1, ground := Ground.phase }, { on := 2, ground := Ground.phase }, { on := 3, ground := Ground.phase }, { on := 4, ground := Ground.phase }, { on := 5, ground := Ground.phase }], guard := none }) rfl (fun K hK => ?_) AllReadyH.nil)
      (refine (if_pos (by rfl)).mpr ?_; refine wp_store_es HS.out _ _ _ rfl rfl rfl ?_; clear HS; intro w3 HS)
      refine hK.out _ _ ?_ (fun hHeld => ?_)
      · ((try dsimp only); exact ⟨HS.out.ent.cell 6, trivial⟩)
      clear hK K
      try simp only [Act.put, List.setIfInBounds_toArray, List.set_cons_zero, List.set_cons_succ]
      refine wpAnyH_done (by kernel_rfl) ?_ _
      exact key w3 HS
    · go_simp
      (go_at_call 28; refine (HOk7 _).mono ?_; rintro e w' ⟨rfl, rfl⟩)
      refine hK.out _ _ ?_ (fun hHeld => ?_)
      · ((try dsimp only); exact ⟨HS.out.ent.cell 6, trivial⟩)
      clear hK K
      try simp only [Act.put, List.setIfInBounds_toArray, List.set_cons_zero, List.set_cons_succ]
      refine wpAnyH_ready (rs := [0]) (by kernel_rfl) (by simp) ?_
      refine (AllReadyH.cons (o := { dst := some 57, op := Op.load 54 (Operand.tmp 4), type := 54, pos := _, after := #[], guard := none }) rfl (fun K hK => ?_) AllReadyH.nil)
      (refine (if_pos (by rfl)).mpr ?_; refine wp_load_es HS.out _ rfl rfl ?_)
      refine hK.out _ _ ?_ (fun hHeld => ?_)
      · ((try dsimp only); exact ⟨HS.out.ent.cell 6, trivial⟩)
      clear hK K
      try simp only [Act.put, List.setIfInBounds_toArray, List.set_cons_zero, List.set_cons_succ]
      refine wpAnyH_ready (rs := [5]) (by kernel_rfl) (by simp) ?_
      refine (AllReadyH.cons (o := { dst := some 62, op := Op.call { callee := Callee.value (Operand.func 26), args := #[Operand.tmp 57, Operand.const (Value.int IntKind.i64 11), Operand.const (Value.int IntKind.i64 11), Operand.tmp 61], argTypes := #[54, 3, 3, 24] }, type := 54, pos := _, after := #[{ on := 0, ground := Ground.data }, { on := 4, ground := Ground.data }, { on := 4, ground := Ground.chain }], guard := none }) rfl (fun K hK => ?_) AllReadyH.nil)
      go_simp
      (go_at_call 26; refine (HL11_11 _).mono ?_; rintro e w3 ⟨rfl, hb⟩; replace HS := hidIn (HS.out.below hb); clear hb)
      refine hK.out _ _ ?_ (fun hHeld => ?_)
      · ((try dsimp only); exact ⟨HS.out.ent.cell 6, trivial⟩)
      clear hK K
      try simp only [Act.put, List.setIfInBounds_toArray, List.set_cons_zero, List.set_cons_succ]
      refine wpAnyH_ready (rs := [6]) (by kernel_rfl) (by simp) ?_
      refine (AllReadyH.cons (o := { dst := none, op := Op.store 54 (Operand.tmp 4) (Operand.tmp 62), type := 0, pos := _, after := #[{ on := 5, ground := Ground.data }, { on := 5, ground := Ground.chain }, { on := 0, ground := Ground.phase }, { on := 1, ground := Ground.phase }, { on := 2, ground := Ground.phase }, { on := 3, ground := Ground.phase }, { on := 4, ground := Ground.phase }, { on := 5, ground := Ground.phase }], guard := none }) rfl (fun K hK => ?_) AllReadyH.nil)
      (refine (if_pos (by rfl)).mpr ?_; refine wp_store_es HS.out _ _ _ rfl rfl rfl ?_; clear HS; intro w3 HS)
      refine hK.out _ _ ?_ (fun hHeld => ?_)
      · ((try dsimp only); exact ⟨HS.out.ent.cell 6, trivial⟩)
      clear hK K
      try simp only [Act.put, List.setIfInBounds_toArray, List.set_cons_zero, List.set_cons_succ]
      refine wpAnyH_done (by kernel_rfl) ?_ _
      exact key w3 HS
  intro w3 HS
  have hc := HS.out.ent.cell
  go_wp2_with (first | (go_at_call 26; (first | with_reducible refine (HL14_12 _).mono ?_ | with_reducible refine (HL1_0 _).mono ?_ | with_reducible refine (HL10_10 _).mono ?_ | with_reducible refine (HL9_9 _).mono ?_ | with_reducible refine (HL5_4 _).mono ?_ | with_reducible refine (HL3_2 _).mono ?_); rintro e w3 ⟨rfl, hb⟩; replace HS := hidIn (HS.out.below hb); clear hb) | (guard_target =~ wpList _ _ _ (Oper.mk _ (Op.load 54 _) _ _ _ _ :: _) _ _; refine wpl_load_es HS.out rfl _ rfl rfl ?_) | (guard_target =~ wpList _ _ _ (Oper.mk none (Op.store 54 _ _) _ _ _ _ :: _) _ _; refine wpl_store_es HS.out _ rfl _ _ rfl rfl rfl ?_; clear HS; try clear hc; intro w3 HS; have hc := HS.out.ent.cell) | (go_at_call 29; refine (HW _).mono ?_; rintro e w3 ⟨rfl, hb⟩; replace HS := hidIn (HS.out.below hb); clear hb) | go_in)
  go_ret2
  exact ⟨rfl, HS.out.bel⟩
set_option maxRecDepth 100000 in
set_option maxHeartbeats 4000000 in
theorem rw2_M (k2 k3 : Int) (k4 : Bool) (k5 k6 : Int) (k7 k8 : Bool) (f0 f1 f2 f3 f4 f5 f6 f7 f8 f9 : Nat → Int) (V A T8 nk8 nk7 P4 P T2 : Int) (W : World)
    (HSY : ∀ w, Calls Tryd.prog 30 #[.agg #[.int .i64 5, .int .u64 k2, .int .i64 k3, .bool k4, .int .i64 k5, .int .u32 k6, .bool k7, .bool k8]] w fun e w' => e = .returned (.bool true) ∧ Below w.heap.size w w')
    (hz : ∀ w, (zeroValue 54).run Tryd.prog w = .ok (.agg (encB f0).toArray) w)
    (HL31_12 : ∀ w, Calls Tryd.prog 26 #[.agg (encB f0).toArray, .int .i64 31, .int .i64 12, .int .u64 A] w fun e w' => e = .returned (.agg (encB f1).toArray) ∧ Below w.heap.size w w')
    (HL8_6 : ∀ w, Calls Tryd.prog 26 #[.agg (encB f1).toArray, .int .i64 8, .int .i64 6, .int .u64 T8] w fun e w' => e = .returned (.agg (encB f2).toArray) ∧ Below w.heap.size w w')
    (HL1_1 : ∀ w, Calls Tryd.prog 26 #[.agg (encB f2).toArray, .int .i64 1, .int .i64 1, .int .u64 1] w fun e w' => e = .returned (.agg (encB f3).toArray) ∧ Below w.heap.size w w')
    (HL0_0 : ∀ w, Calls Tryd.prog 26 #[.agg (encB f3).toArray, .int .i64 0, .int .i64 0, .int .u64 nk8] w fun e w' => e = .returned (.agg (encB f4).toArray) ∧ Below w.heap.size w w')
    (HL11_11 : ∀ w, Calls Tryd.prog 26 #[.agg (encB f4).toArray, .int .i64 11, .int .i64 11, .int .u64 nk7] w fun e w' => e = .returned (.agg (encB f5).toArray) ∧ Below w.heap.size w w')
    (HL10_10 : ∀ w, Calls Tryd.prog 26 #[.agg (encB f5).toArray, .int .i64 10, .int .i64 10, .int .u64 k6] w fun e w' => e = .returned (.agg (encB f6).toArray) ∧ Below w.heap.size w w')
    (HL9_9 : ∀ w, Calls Tryd.prog 26 #[.agg (encB f6).toArray, .int .i64 9, .int .i64 9, .int .u64 P4] w fun e w' => e = .returned (.agg (encB f7).toArray) ∧ Below w.heap.size w w')
    (HL5_4 : ∀ w, Calls Tryd.prog 26 #[.agg (encB f7).toArray, .int .i64 5, .int .i64 4, .int .u64 P] w fun e w' => e = .returned (.agg (encB f8).toArray) ∧ Below w.heap.size w w')
    (HL3_2 : ∀ w, Calls Tryd.prog 26 #[.agg (encB f8).toArray, .int .i64 3, .int .i64 2, .int .u64 T2] w fun e w' => e = .returned (.agg (encB f9).toArray) ∧ Below w.heap.size w w')
    (HOk7 : ∀ w, Calls Tryd.prog 28 #[.bool k7] w fun e w' => e = .returned (.int .u64 nk7) ∧ w = w')
    (HOk8 : ∀ w, Calls Tryd.prog 28 #[.bool k8] w fun e w' => e = .returned (.int .u64 nk8) ∧ w = w')
    (HW : ∀ w, Calls Tryd.prog 29 #[.agg (encB f9).toArray] w fun e w' => e = .returned (.int .u32 V) ∧ Below w.heap.size w w')
    (qA : k2.tdiv 4096 = A) (rA : IntKind.u64.wrap A = A) (qP : IntKind.u64.wrap k5 = P) (qP4 : P.tdiv 4 = P4) (rP4 : IntKind.u64.wrap P4 = P4) (q6 : IntKind.u64.wrap k6 = k6) (qT2 : k6.tdiv 2 = T2) (rT2 : IntKind.u64.wrap T2 = T2) (qT8 : k6.tdiv 8 = T8) (rT8 : IntKind.u64.wrap T8 = T8) :
    Calls Tryd.prog 18 #[.agg #[.int .i64 5, .int .u64 k2, .int .i64 k3, .bool k4, .int .i64 k5, .int .u32 k6, .bool k7, .bool k8]] W fun e w' => e = .returned (.tuple #[.int .u32 V, .int .i64 0]) ∧ Below W.heap.size W w' := by
  have hp12 := fun w => power_l 12 4096 w (by decide) (by decide) 12 rfl
  have HST : Hid (∀ w1, Below (W.alloc (.cells ([.int .i64 5, .int .u64 k2, .int .i64 k3, .bool k4, .int .i64 k5, .int .u32 k6, .bool k7, .bool k8] : List Value).toArray 28)).heap.size (W.alloc (.cells ([.int .i64 5, .int .u64 k2, .int .i64 k3, .bool k4, .int .i64 k5, .int .u32 k6, .bool k7, .bool k8] : List Value).toArray 28)) w1 → ES [.int .i64 5, .int .u64 k2, .int .i64 k3, .bool k4, .int .i64 k5, .int .u32 k6, .bool k7, .bool k8] W w1.heap.size f0 (w1.alloc (.cells (encB f0).toArray 54))) := fun w1 hb => es_start f0 hb
  have hE0 := (Bl.new W 28 [.int .i64 5, .int .u64 k2, .int .i64 k3, .bool k4, .int .i64 k5, .int .u32 k6, .bool k7, .bool k8]).cell
  go_enter Tryd.func18, Tryd.ntmps18
  go_wp2_with (first | (go_at_call 30; refine (HSY _).mono ?_; rintro e w1 ⟨rfl, hb⟩; have HS := hidIn (HST.out w1 hb); clear hb hE0; have hc := HS.out.ent.cell) | go_in)
  clear hc
  generalize w1.heap.size = n at *
  generalize w1.alloc _ = w3 at *
  apply via1 (P := fun w => Hid (ES [.int .i64 5, .int .u64 k2, .int .i64 k3, .bool k4, .int .i64 k5, .int .u32 k6, .bool k7, .bool k8] W n f1 w))
  · intro key
    refine wp_region_held_drew (S := fun w' => w'.cell? ⟨W.heap.size, 1, none⟩ = some (.int .u64 k2) ∧ True) (by kernel_rfl) (by (try dsimp only); exact ⟨HS.out.drew.ent.cell 1, trivial⟩) (fun hHeld => ?_)
    replace HS := hidIn HS.out.drew
    generalize World.drew w3 = w3 at *
    refine wpAnyH_take (i := 1) (oi := { dst := some 40, op := Op.fieldAddr 28 (Operand.tmp 1) 1, type := 0, pos := _, after := #[], guard := none }) (v := ?_) rfl (by kernel_rfl) (by kernel_rfl) (by kernel_rfl) (fun _ _ _ h => h) (Or.inl ⟨by rfl, ?_⟩) (by assumption) ?_
    rotate_left
    · (intro w hSw; (try dsimp only at hSw); go_simp; try with_reducible rfl)
    simp only [Act.put, List.setIfInBounds_toArray, List.set_cons_zero, List.set_cons_succ]
    refine wpAnyH_take (i := 2) (oi := { dst := some 41, op := Op.load 24 (Operand.tmp 40), type := 24, pos := _, after := #[{ on := 1, ground := Ground.data }], guard := none }) (v := ?_) rfl (by kernel_rfl) (by kernel_rfl) (by kernel_rfl) (fun _ _ _ h => h) (Or.inl ⟨by rfl, ?_⟩) (by assumption) ?_
    rotate_left
    · (intro w hSw; (try dsimp only at hSw); go_simp; try with_reducible rfl)
    simp only [Act.put, List.setIfInBounds_toArray, List.set_cons_zero, List.set_cons_succ]
    refine wpAnyH_ready (rs := [0, 3]) (by kernel_rfl) (by simp) ?_
    refine (AllReadyH.cons (o := { dst := some 39, op := Op.load 54 (Operand.tmp 4), type := 54, pos := _, after := #[], guard := none }) rfl (fun K hK => ?_) (AllReadyH.cons (o := { dst := some 42, op := Op.call { callee := Callee.value (Operand.func 27), args := #[Operand.const (Value.int IntKind.i64 12)], argTypes := #[3] }, type := 24, pos := _, after := #[], guard := none }) rfl (fun K hK => ?_) AllReadyH.nil))
    · (refine (if_pos (by rfl)).mpr ?_; refine wp_load_es HS.out _ rfl rfl ?_)
      refine hK.out _ _ ?_ (fun hHeld => ?_)
      · ((try dsimp only); exact ⟨HS.out.ent.cell 1, trivial⟩)
      clear hK K
      try simp only [Act.put, List.setIfInBounds_toArray, List.set_cons_zero, List.set_cons_succ]
      refine wpAnyH_ready (rs := [3]) (by kernel_rfl) (by simp) ?_
      refine (AllReadyH.cons (o := { dst := some 42, op := Op.call { callee := Callee.value (Operand.func 27), args := #[Operand.const (Value.int IntKind.i64 12)], argTypes := #[3] }, type := 24, pos := _, after := #[], guard := none }) rfl (fun K hK => ?_) AllReadyH.nil)
      go_simp
      (go_at_call 27; refine (hp12 _).mono ?_; rintro e w' ⟨rfl, rfl⟩)
      refine hK.out _ _ ?_ (fun hHeld => ?_)
      · ((try dsimp only); exact ⟨HS.out.ent.cell 1, trivial⟩)
      clear hK K
      try simp only [Act.put, List.setIfInBounds_toArray, List.set_cons_zero, List.set_cons_succ]
      refine wpAnyH_take (i := 4) (oi := { dst := some 43, op := Op.binOp BinOp.quo 24 (Operand.tmp 41) (Operand.tmp 42) 24, type := 24, pos := _, after := #[{ on := 2, ground := Ground.data }, { on := 3, ground := Ground.data }], guard := none }) (v := ?_) rfl (by kernel_rfl) (by kernel_rfl) (by kernel_rfl) (fun _ _ _ h => h) (Or.inl ⟨by rfl, ?_⟩) (by assumption) ?_
      rotate_left
      · (intro w hSw; (try dsimp only at hSw); go_simp; try with_reducible rfl)
      simp only [Act.put, List.setIfInBounds_toArray, List.set_cons_zero, List.set_cons_succ]
      refine wpAnyH_ready (rs := [5]) (by kernel_rfl) (by simp) ?_
      refine (AllReadyH.cons (o := { dst := some 44, op := Op.call { callee := Callee.value (Operand.func 26), args := #[Operand.tmp 39, Operand.const (Value.int IntKind.i64 31), Operand.const (Value.int IntKind.i64 12), Operand.tmp 43], argTypes := #[54, 3, 3, 24] }, type := 54, pos := _, after := #[{ on := 0, ground := Ground.data }, { on := 4, ground := Ground.data }, { on := 3, ground := Ground.chain }], guard := none }) rfl (fun K hK => ?_) AllReadyH.nil)
      go_simp
      (go_at_call 26; refine (HL31_12 _).mono ?_; rintro e w3 ⟨rfl, hb⟩; replace HS := hidIn (HS.out.below hb); clear hb)
      refine hK.out _ _ ?_ (fun hHeld => ?_)
      · ((try dsimp only); exact ⟨HS.out.ent.cell 1, trivial⟩)
      clear hK K
      try simp only [Act.put, List.setIfInBounds_toArray, List.set_cons_zero, List.set_cons_succ]
      refine wpAnyH_ready (rs := [6]) (by kernel_rfl) (by simp) ?_
      refine (AllReadyH.cons (o := { dst := none, op := Op.store 54 (Operand.tmp 4) (Operand.tmp 44), type := 0, pos := _, after := #[{ on := 5, ground := Ground.data }, { on := 5, ground := Ground.chain }, { on := 0, ground := Ground.phase }, { on := 1, ground := Ground.phase }, { on := 2, ground := Ground.phase }, { on := 3, ground := Ground.phase }, { on := 4, ground := Ground.phase }, { on := 5, ground := Ground.phase }], guard := none }) rfl (fun K hK => ?_) AllReadyH.nil)
      (refine (if_pos (by rfl)).mpr ?_; refine wp_store_es HS.out _ _ _ rfl rfl rfl ?_; clear HS; intro w3 HS)
      refine hK.out _ _ ?_ (fun hHeld => ?_)
      · ((try dsimp only); exact ⟨HS.out.ent.cell 1, trivial⟩)
      clear hK K
      try simp only [Act.put, List.setIfInBounds_toArray, List.set_cons_zero, List.set_cons_succ]
      refine wpAnyH_done (by kernel_rfl) ?_ _
      exact key w3 HS
    · go_simp
      (go_at_call 27; refine (hp12 _).mono ?_; rintro e w' ⟨rfl, rfl⟩)
      refine hK.out _ _ ?_ (fun hHeld => ?_)
      · ((try dsimp only); exact ⟨HS.out.ent.cell 1, trivial⟩)
      clear hK K
      try simp only [Act.put, List.setIfInBounds_toArray, List.set_cons_zero, List.set_cons_succ]
      refine wpAnyH_take (i := 4) (oi := { dst := some 43, op := Op.binOp BinOp.quo 24 (Operand.tmp 41) (Operand.tmp 42) 24, type := 24, pos := _, after := #[{ on := 2, ground := Ground.data }, { on := 3, ground := Ground.data }], guard := none }) (v := ?_) rfl (by kernel_rfl) (by kernel_rfl) (by kernel_rfl) (fun _ _ _ h => h) (Or.inl ⟨by rfl, ?_⟩) (by assumption) ?_
      rotate_left
      · (intro w hSw; (try dsimp only at hSw); go_simp; try with_reducible rfl)
      simp only [Act.put, List.setIfInBounds_toArray, List.set_cons_zero, List.set_cons_succ]
      refine wpAnyH_ready (rs := [0]) (by kernel_rfl) (by simp) ?_
      refine (AllReadyH.cons (o := { dst := some 39, op := Op.load 54 (Operand.tmp 4), type := 54, pos := _, after := #[], guard := none }) rfl (fun K hK => ?_) AllReadyH.nil)
      (refine (if_pos (by rfl)).mpr ?_; refine wp_load_es HS.out _ rfl rfl ?_)
      refine hK.out _ _ ?_ (fun hHeld => ?_)
      · ((try dsimp only); exact ⟨HS.out.ent.cell 1, trivial⟩)
      clear hK K
      try simp only [Act.put, List.setIfInBounds_toArray, List.set_cons_zero, List.set_cons_succ]
      refine wpAnyH_ready (rs := [5]) (by kernel_rfl) (by simp) ?_
      refine (AllReadyH.cons (o := { dst := some 44, op := Op.call { callee := Callee.value (Operand.func 26), args := #[Operand.tmp 39, Operand.const (Value.int IntKind.i64 31), Operand.const (Value.int IntKind.i64 12), Operand.tmp 43], argTypes := #[54, 3, 3, 24] }, type := 54, pos := _, after := #[{ on := 0, ground := Ground.data }, { on := 4, ground := Ground.data }, { on := 3, ground := Ground.chain }], guard := none }) rfl (fun K hK => ?_) AllReadyH.nil)
      go_simp
      (go_at_call 26; refine (HL31_12 _).mono ?_; rintro e w3 ⟨rfl, hb⟩; replace HS := hidIn (HS.out.below hb); clear hb)
      refine hK.out _ _ ?_ (fun hHeld => ?_)
      · ((try dsimp only); exact ⟨HS.out.ent.cell 1, trivial⟩)
      clear hK K
      try simp only [Act.put, List.setIfInBounds_toArray, List.set_cons_zero, List.set_cons_succ]
      refine wpAnyH_ready (rs := [6]) (by kernel_rfl) (by simp) ?_
      refine (AllReadyH.cons (o := { dst := none, op := Op.store 54 (Operand.tmp 4) (Operand.tmp 44), type := 0, pos := _, after := #[{ on := 5, ground := Ground.data }, { on := 5, ground := Ground.chain }, { on := 0, ground := Ground.phase }, { on := 1, ground := Ground.phase }, { on := 2, ground := Ground.phase }, { on := 3, ground := Ground.phase }, { on := 4, ground := Ground.phase }, { on := 5, ground := Ground.phase }], guard := none }) rfl (fun K hK => ?_) AllReadyH.nil)
      (refine (if_pos (by rfl)).mpr ?_; refine wp_store_es HS.out _ _ _ rfl rfl rfl ?_; clear HS; intro w3 HS)
      refine hK.out _ _ ?_ (fun hHeld => ?_)
      · ((try dsimp only); exact ⟨HS.out.ent.cell 1, trivial⟩)
      clear hK K
      try simp only [Act.put, List.setIfInBounds_toArray, List.set_cons_zero, List.set_cons_succ]
      refine wpAnyH_done (by kernel_rfl) ?_ _
      exact key w3 HS
  intro w3 HS
  have hc := HS.out.ent.cell
  go_wp2_with (first | (go_at_call 26; (first | with_reducible refine (HL8_6 _).mono ?_ | with_reducible refine (HL1_1 _).mono ?_ | with_reducible refine (HL10_10 _).mono ?_ | with_reducible refine (HL9_9 _).mono ?_ | with_reducible refine (HL5_4 _).mono ?_ | with_reducible refine (HL3_2 _).mono ?_); rintro e w3 ⟨rfl, hb⟩; replace HS := hidIn (HS.out.below hb); clear hb) | (guard_target =~ wpList _ _ _ (Oper.mk _ (Op.load 54 _) _ _ _ _ :: _) _ _; refine wpl_load_es HS.out rfl _ rfl rfl ?_) | (guard_target =~ wpList _ _ _ (Oper.mk none (Op.store 54 _ _) _ _ _ _ :: _) _ _; refine wpl_store_es HS.out _ rfl _ _ rfl rfl rfl ?_; clear HS; try clear hc; intro w3 HS; have hc := HS.out.ent.cell) | go_in)
  clear hc
  apply via1 (P := fun w => Hid (ES [.int .i64 5, .int .u64 k2, .int .i64 k3, .bool k4, .int .i64 k5, .int .u32 k6, .bool k7, .bool k8] W n f4 w))
  · intro key
    refine wp_region_held_drew (S := fun w' => w'.cell? ⟨W.heap.size, 7, none⟩ = some (.bool k8) ∧ True) (by kernel_rfl) (by (try dsimp only); exact ⟨HS.out.drew.ent.cell 7, trivial⟩) (fun hHeld => ?_)
    replace HS := hidIn HS.out.drew
    generalize World.drew w3 = w3 at *
    refine wpAnyH_take (i := 1) (oi := { dst := some 52, op := Op.fieldAddr 28 (Operand.tmp 1) 4, type := 0, pos := _, after := #[], guard := none }) (v := ?_) rfl (by kernel_rfl) (by kernel_rfl) (by kernel_rfl) (fun _ _ _ h => h) (Or.inl ⟨by rfl, ?_⟩) (by assumption) ?_
    rotate_left
    · (intro w hSw; (try dsimp only at hSw); go_simp; try with_reducible rfl)
    simp only [Act.put, List.setIfInBounds_toArray, List.set_cons_zero, List.set_cons_succ]
    refine wpAnyH_take (i := 2) (oi := { dst := some 53, op := Op.fieldAddr 26 (Operand.tmp 52) 3, type := 0, pos := _, after := #[{ on := 1, ground := Ground.data }], guard := none }) (v := ?_) rfl (by kernel_rfl) (by kernel_rfl) (by kernel_rfl) (fun _ _ _ h => h) (Or.inl ⟨by rfl, ?_⟩) (by assumption) ?_
    rotate_left
    · (intro w hSw; (try dsimp only at hSw); go_simp; try with_reducible rfl)
    simp only [Act.put, List.setIfInBounds_toArray, List.set_cons_zero, List.set_cons_succ]
    refine wpAnyH_take (i := 3) (oi := { dst := some 54, op := Op.load 4 (Operand.tmp 53), type := 4, pos := _, after := #[{ on := 2, ground := Ground.data }], guard := none }) (v := ?_) rfl (by kernel_rfl) (by kernel_rfl) (by kernel_rfl) (fun _ _ _ h => h) (Or.inl ⟨by rfl, ?_⟩) (by assumption) ?_
    rotate_left
    · (intro w hSw; (try dsimp only at hSw); go_simp; try with_reducible rfl)
    simp only [Act.put, List.setIfInBounds_toArray, List.set_cons_zero, List.set_cons_succ]
    refine wpAnyH_ready (rs := [0, 4]) (by kernel_rfl) (by simp) ?_
    refine (AllReadyH.cons (o := { dst := some 51, op := Op.load 54 (Operand.tmp 4), type := 54, pos := _, after := #[], guard := none }) rfl (fun K hK => ?_) (AllReadyH.cons (o := { dst := some 55, op := Op.call { callee := Callee.value (Operand.func 28), args := #[Operand.tmp 54], argTypes := #[4] }, type := 24, pos := _, after := #[{ on := 3, ground := Ground.data }], guard := none }) rfl (fun K hK => ?_) AllReadyH.nil))
    · (refine (if_pos (by rfl)).mpr ?_; refine wp_load_es HS.out _ rfl rfl ?_)
      refine hK.out _ _ ?_ (fun hHeld => ?_)
      · ((try dsimp only); exact ⟨HS.out.ent.cell 7, trivial⟩)
      clear hK K
      try simp only [Act.put, List.setIfInBounds_toArray, List.set_cons_zero, List.set_cons_succ]
      refine wpAnyH_ready (rs := [4]) (by kernel_rfl) (by simp) ?_
      refine (AllReadyH.cons (o := { dst := some 55, op := Op.call { callee := Callee.value (Operand.func 28), args := #[Operand.tmp 54], argTypes := #[4] }, type := 24, pos := _, after := #[{ on := 3, ground := Ground.data }], guard := none }) rfl (fun K hK => ?_) AllReadyH.nil)
      go_simp
      (go_at_call 28; refine (HOk8 _).mono ?_; rintro e w' ⟨rfl, rfl⟩)
      refine hK.out _ _ ?_ (fun hHeld => ?_)
      · ((try dsimp only); exact ⟨HS.out.ent.cell 7, trivial⟩)
      clear hK K
      try simp only [Act.put, List.setIfInBounds_toArray, List.set_cons_zero, List.set_cons_succ]
      refine wpAnyH_ready (rs := [5]) (by kernel_rfl) (by simp) ?_
      refine (AllReadyH.cons (o := { dst := some 56, op := Op.call { callee := Callee.value (Operand.func 26), args := #[Operand.tmp 51, Operand.const (Value.int IntKind.i64 0), Operand.const (Value.int IntKind.i64 0), Operand.tmp 55], argTypes := #[54, 3, 3, 24] }, type := 54, pos := _, after := #[{ on := 0, ground := Ground.data }, { on := 4, ground := Ground.data }, { on := 4, ground := Ground.chain }], guard := none }) rfl (fun K hK => ?_) AllReadyH.nil)
      go_simp
      (go_at_call 26; refine (HL0_0 _).mono ?_; rintro e w3 ⟨rfl, hb⟩; replace HS := hidIn (HS.out.below hb); clear hb)
      refine hK.out _ _ ?_ (fun hHeld => ?_)
      · ((try dsimp only); exact ⟨HS.out.ent.cell 7, trivial⟩)
      clear hK K
      try simp only [Act.put, List.setIfInBounds_toArray, List.set_cons_zero, List.set_cons_succ]
      refine wpAnyH_ready (rs := [6]) (by kernel_rfl) (by simp) ?_
      refine (AllReadyH.cons (o := { dst := none, op := Op.store 54 (Operand.tmp 4) (Operand.tmp 56), type := 0, pos := _, after := #[{ on := 5, ground := Ground.data }, { on := 5, ground := Ground.chain }, { on := 0, ground := Ground.phase }, { on := 1, ground := Ground.phase }, { on := 2, ground := Ground.phase }, { on := 3, ground := Ground.phase }, { on := 4, ground := Ground.phase }, { on := 5, ground := Ground.phase }], guard := none }) rfl (fun K hK => ?_) AllReadyH.nil)
      (refine (if_pos (by rfl)).mpr ?_; refine wp_store_es HS.out _ _ _ rfl rfl rfl ?_; clear HS; intro w3 HS)
      refine hK.out _ _ ?_ (fun hHeld => ?_)
      · ((try dsimp only); exact ⟨HS.out.ent.cell 7, trivial⟩)
      clear hK K
      try simp only [Act.put, List.setIfInBounds_toArray, List.set_cons_zero, List.set_cons_succ]
      refine wpAnyH_done (by kernel_rfl) ?_ _
      exact key w3 HS
    · go_simp
      (go_at_call 28; refine (HOk8 _).mono ?_; rintro e w' ⟨rfl, rfl⟩)
      refine hK.out _ _ ?_ (fun hHeld => ?_)
      · ((try dsimp only); exact ⟨HS.out.ent.cell 7, trivial⟩)
      clear hK K
      try simp only [Act.put, List.setIfInBounds_toArray, List.set_cons_zero, List.set_cons_succ]
      refine wpAnyH_ready (rs := [0]) (by kernel_rfl) (by simp) ?_
      refine (AllReadyH.cons (o := { dst := some 51, op := Op.load 54 (Operand.tmp 4), type := 54, pos := _, after := #[], guard := none }) rfl (fun K hK => ?_) AllReadyH.nil)
      (refine (if_pos (by rfl)).mpr ?_; refine wp_load_es HS.out _ rfl rfl ?_)
      refine hK.out _ _ ?_ (fun hHeld => ?_)
      · ((try dsimp only); exact ⟨HS.out.ent.cell 7, trivial⟩)
      clear hK K
      try simp only [Act.put, List.setIfInBounds_toArray, List.set_cons_zero, List.set_cons_succ]
      refine wpAnyH_ready (rs := [5]) (by kernel_rfl) (by simp) ?_
      refine (AllReadyH.cons (o := { dst := some 56, op := Op.call { callee := Callee.value (Operand.func 26), args := #[Operand.tmp 51, Operand.const (Value.int IntKind.i64 0), Operand.const (Value.int IntKind.i64 0), Operand.tmp 55], argTypes := #[54, 3, 3, 24] }, type := 54, pos := _, after := #[{ on := 0, ground := Ground.data }, { on := 4, ground := Ground.data }, { on := 4, ground := Ground.chain }], guard := none }) rfl (fun K hK => ?_) AllReadyH.nil)
      go_simp
      (go_at_call 26; refine (HL0_0 _).mono ?_; rintro e w3 ⟨rfl, hb⟩; replace HS := hidIn (HS.out.below hb); clear hb)
      refine hK.out _ _ ?_ (fun hHeld => ?_)
      · ((try dsimp only); exact ⟨HS.out.ent.cell 7, trivial⟩)
      clear hK K
      try simp only [Act.put, List.setIfInBounds_toArray, List.set_cons_zero, List.set_cons_succ]
      refine wpAnyH_ready (rs := [6]) (by kernel_rfl) (by simp) ?_
      refine (AllReadyH.cons (o := { dst := none, op := Op.store 54 (Operand.tmp 4) (Operand.tmp 56), type := 0, pos := _, after := #[{ on := 5, ground := Ground.data }, { on := 5, ground := Ground.chain }, { on := 0, ground := Ground.phase }, { on := 1, ground := Ground.phase }, { on := 2, ground := Ground.phase }, { on := 3, ground := Ground.phase }, { on := 4, ground := Ground.phase }, { on := 5, ground := Ground.phase }], guard := none }) rfl (fun K hK => ?_) AllReadyH.nil)
      (refine (if_pos (by rfl)).mpr ?_; refine wp_store_es HS.out _ _ _ rfl rfl rfl ?_; clear HS; intro w3 HS)
      refine hK.out _ _ ?_ (fun hHeld => ?_)
      · ((try dsimp only); exact ⟨HS.out.ent.cell 7, trivial⟩)
      clear hK K
      try simp only [Act.put, List.setIfInBounds_toArray, List.set_cons_zero, List.set_cons_succ]
      refine wpAnyH_done (by kernel_rfl) ?_ _
      exact key w3 HS
  intro w3 HS
  have hc := HS.out.ent.cell
  go_wp2
  apply via1 (P := fun w => Hid (ES [.int .i64 5, .int .u64 k2, .int .i64 k3, .bool k4, .int .i64 k5, .int .u32 k6, .bool k7, .bool k8] W n f5 w))
  · intro key
    refine wp_region_held_drew (S := fun w' => w'.cell? ⟨W.heap.size, 6, none⟩ = some (.bool k7) ∧ True) (by kernel_rfl) (by (try dsimp only); exact ⟨HS.out.drew.ent.cell 6, trivial⟩) (fun hHeld => ?_)
    replace HS := hidIn HS.out.drew
    generalize World.drew w3 = w3 at *
    refine wpAnyH_take (i := 1) (oi := { dst := some 58, op := Op.fieldAddr 28 (Operand.tmp 1) 4, type := 0, pos := _, after := #[], guard := none }) (v := ?_) rfl (by kernel_rfl) (by kernel_rfl) (by kernel_rfl) (fun _ _ _ h => h) (Or.inl ⟨by rfl, ?_⟩) (by assumption) ?_
    rotate_left
    · (intro w hSw; (try dsimp only at hSw); go_simp; try with_reducible rfl)
    simp only [Act.put, List.setIfInBounds_toArray, List.set_cons_zero, List.set_cons_succ]
    refine wpAnyH_take (i := 2) (oi := { dst := some 59, op := Op.fieldAddr 26 (Operand.tmp 58) 2, type := 0, pos := _, after := #[{ on := 1, ground := Ground.data }], guard := none }) (v := ?_) rfl (by kernel_rfl) (by kernel_rfl) (by kernel_rfl) (fun _ _ _ h => h) (Or.inl ⟨by rfl, ?_⟩) (by assumption) ?_
    rotate_left
    · (intro w hSw; (try dsimp only at hSw); go_simp; try with_reducible rfl)
    simp only [Act.put, List.setIfInBounds_toArray, List.set_cons_zero, List.set_cons_succ]
    refine wpAnyH_take (i := 3) (oi := { dst := some 60, op := Op.load 4 (Operand.tmp 59), type := 4, pos := _, after := #[{ on := 2, ground := Ground.data }], guard := none }) (v := ?_) rfl (by kernel_rfl) (by kernel_rfl) (by kernel_rfl) (fun _ _ _ h => h) (Or.inl ⟨by rfl, ?_⟩) (by assumption) ?_
    rotate_left
    · (intro w hSw; (try dsimp only at hSw); go_simp; try with_reducible rfl)
    simp only [Act.put, List.setIfInBounds_toArray, List.set_cons_zero, List.set_cons_succ]
    refine wpAnyH_ready (rs := [0, 4]) (by kernel_rfl) (by simp) ?_
    refine (AllReadyH.cons (o := { dst := some 57, op := Op.load 54 (Operand.tmp 4), type := 54, pos := _, after := #[], guard := none }) rfl (fun K hK => ?_) (AllReadyH.cons (o := { dst := some 61, op := Op.call { callee := Callee.value (Operand.func 28), args := #[Operand.tmp 60], argTypes := #[4] }, type := 24, pos := _, after := #[{ on := 3, ground := Ground.data }], guard := none }) rfl (fun K hK => ?_) AllReadyH.nil))
    · (refine (if_pos (by rfl)).mpr ?_; refine wp_load_es HS.out _ rfl rfl ?_)
      refine hK.out _ _ ?_ (fun hHeld => ?_)
      · ((try dsimp only); exact ⟨HS.out.ent.cell 6, trivial⟩)
      clear hK K
      try simp only [Act.put, List.setIfInBounds_toArray, List.set_cons_zero, List.set_cons_succ]
      refine wpAnyH_ready (rs := [4]) (by kernel_rfl) (by simp) ?_
      refine (AllReadyH.cons (o := { dst := some 61, op := Op.call { callee := Callee.value (Operand.func 28), args := #[Operand.tmp 60], argTypes := #[4] }, type := 24, pos := _, after := #[{ on := 3, ground := Ground.data }], guard := none }) rfl (fun K hK => ?_) AllReadyH.nil)
      go_simp
      (go_at_call 28; refine (HOk7 _).mono ?_; rintro e w' ⟨rfl, rfl⟩)
      refine hK.out _ _ ?_ (fun hHeld => ?_)
      · ((try dsimp only); exact ⟨HS.out.ent.cell 6, trivial⟩)
      clear hK K
      try simp only [Act.put, List.setIfInBounds_toArray, List.set_cons_zero, List.set_cons_succ]
      refine wpAnyH_ready (rs := [5]) (by kernel_rfl) (by simp) ?_
      refine (AllReadyH.cons (o := { dst := some 62, op := Op.call { callee := Callee.value (Operand.func 26), args := #[Operand.tmp 57, Operand.const (Value.int IntKind.i64 11), Operand.const (Value.int IntKind.i64 11), Operand.tmp 61], argTypes := #[54, 3, 3, 24] }, type := 54, pos := _, after := #[{ on := 0, ground := Ground.data }, { on := 4, ground := Ground.data }, { on := 4, ground := Ground.chain }], guard := none }) rfl (fun K hK => ?_) AllReadyH.nil)
      go_simp
      (go_at_call 26; refine (HL11_11 _).mono ?_; rintro e w3 ⟨rfl, hb⟩; replace HS := hidIn (HS.out.below hb); clear hb)
      refine hK.out _ _ ?_ (fun hHeld => ?_)
      · ((try dsimp only); exact ⟨HS.out.ent.cell 6, trivial⟩)
      clear hK K
      try simp only [Act.put, List.setIfInBounds_toArray, List.set_cons_zero, List.set_cons_succ]
      refine wpAnyH_ready (rs := [6]) (by kernel_rfl) (by simp) ?_
      refine (AllReadyH.cons (o := { dst := none, op := Op.store 54 (Operand.tmp 4) (Operand.tmp 62), type := 0, pos := _, after := #[{ on := 5, ground := Ground.data }, { on := 5, ground := Ground.chain }, { on := 0, ground := Ground.phase }, { on := 1, ground := Ground.phase }, { on := 2, ground := Ground.phase }, { on := 3, ground := Ground.phase }, { on := 4, ground := Ground.phase }, { on := 5, ground := Ground.phase }], guard := none }) rfl (fun K hK => ?_) AllReadyH.nil)
      (refine (if_pos (by rfl)).mpr ?_; refine wp_store_es HS.out _ _ _ rfl rfl rfl ?_; clear HS; intro w3 HS)
      refine hK.out _ _ ?_ (fun hHeld => ?_)
      · ((try dsimp only); exact ⟨HS.out.ent.cell 6, trivial⟩)
      clear hK K
      try simp only [Act.put, List.setIfInBounds_toArray, List.set_cons_zero, List.set_cons_succ]
      refine wpAnyH_done (by kernel_rfl) ?_ _
      exact key w3 HS
    · go_simp
      (go_at_call 28; refine (HOk7 _).mono ?_; rintro e w' ⟨rfl, rfl⟩)
      refine hK.out _ _ ?_ (fun hHeld => ?_)
      · ((try dsimp only); exact ⟨HS.out.ent.cell 6, trivial⟩)
      clear hK K
      try simp only [Act.put, List.setIfInBounds_toArray, List.set_cons_zero, List.set_cons_succ]
      refine wpAnyH_ready (rs := [0]) (by kernel_rfl) (by simp) ?_
      refine (AllReadyH.cons (o := { dst := some 57, op := Op.load 54 (Operand.tmp 4), type := 54, pos := _, after := #[], guard := none }) rfl (fun K hK => ?_) AllReadyH.nil)
      (refine (if_pos (by rfl)).mpr ?_; refine wp_load_es HS.out _ rfl rfl ?_)
      refine hK.out _ _ ?_ (fun hHeld => ?_)
      · ((try dsimp only); exact ⟨HS.out.ent.cell 6, trivial⟩)
      clear hK K
      try simp only [Act.put, List.setIfInBounds_toArray, List.set_cons_zero, List.set_cons_succ]
      refine wpAnyH_ready (rs := [5]) (by kernel_rfl) (by simp) ?_
      refine (AllReadyH.cons (o := { dst := some 62, op := Op.call { callee := Callee.value (Operand.func 26), args := #[Operand.tmp 57, Operand.const (Value.int IntKind.i64 11), Operand.const (Value.int IntKind.i64 11), Operand.tmp 61], argTypes := #[54, 3, 3, 24] }, type := 54, pos := _, after := #[{ on := 0, ground := Ground.data }, { on := 4, ground := Ground.data }, { on := 4, ground := Ground.chain }], guard := none }) rfl (fun K hK => ?_) AllReadyH.nil)
      go_simp
      (go_at_call 26; refine (HL11_11 _).mono ?_; rintro e w3 ⟨rfl, hb⟩; replace HS := hidIn (HS.out.below hb); clear hb)
      refine hK.out _ _ ?_ (fun hHeld => ?_)
      · ((try dsimp only); exact ⟨HS.out.ent.cell 6, trivial⟩)
      clear hK K
      try simp only [Act.put, List.setIfInBounds_toArray, List.set_cons_zero, List.set_cons_succ]
      refine wpAnyH_ready (rs := [6]) (by kernel_rfl) (by simp) ?_
      refine (AllReadyH.cons (o := { dst := none, op := Op.store 54 (Operand.tmp 4) (Operand.tmp 62), type := 0, pos := _, after := #[{ on := 5, ground := Ground.data }, { on := 5, ground := Ground.chain }, { on := 0, ground := Ground.phase }, { on := 1, ground := Ground.phase }, { on := 2, ground := Ground.phase }, { on := 3, ground := Ground.phase }, { on := 4, ground := Ground.phase }, { on := 5, ground := Ground.phase }], guard := none }) rfl (fun K hK => ?_) AllReadyH.nil)
      (refine (if_pos (by rfl)).mpr ?_; refine wp_store_es HS.out _ _ _ rfl rfl rfl ?_; clear HS; intro w3 HS)
      refine hK.out _ _ ?_ (fun hHeld => ?_)
      · ((try dsimp only); exact ⟨HS.out.ent.cell 6, trivial⟩)
      clear hK K
      try simp only [Act.put, List.setIfInBounds_toArray, List.set_cons_zero, List.set_cons_succ]
      refine wpAnyH_done (by kernel_rfl) ?_ _
      exact key w3 HS
  intro w3 HS
  have hc := HS.out.ent.cell
  go_wp2_with (first | (go_at_call 26; (first | with_reducible refine (HL8_6 _).mono ?_ | with_reducible refine (HL1_1 _).mono ?_ | with_reducible refine (HL10_10 _).mono ?_ | with_reducible refine (HL9_9 _).mono ?_ | with_reducible refine (HL5_4 _).mono ?_ | with_reducible refine (HL3_2 _).mono ?_); rintro e w3 ⟨rfl, hb⟩; replace HS := hidIn (HS.out.below hb); clear hb) | (guard_target =~ wpList _ _ _ (Oper.mk _ (Op.load 54 _) _ _ _ _ :: _) _ _; refine wpl_load_es HS.out rfl _ rfl rfl ?_) | (guard_target =~ wpList _ _ _ (Oper.mk none (Op.store 54 _ _) _ _ _ _ :: _) _ _; refine wpl_store_es HS.out _ rfl _ _ rfl rfl rfl ?_; clear HS; try clear hc; intro w3 HS; have hc := HS.out.ent.cell) | (go_at_call 29; refine (HW _).mono ?_; rintro e w3 ⟨rfl, hb⟩; replace HS := hidIn (HS.out.below hb); clear hb) | go_in)
  go_ret2
  exact ⟨rfl, HS.out.bel⟩
end Go.Proofs.YtcpcmjmgiagnoabDoor
