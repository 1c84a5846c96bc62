import Derived.Test.YtbbnodhpafiplaaDoorHe1
namespace Go.Proofs.YtbbnodhpafiplaaDoor
open Go.RowKit
set_option linter.unusedVariables false
set_option linter.unusedSimpArgs false
set_option maxRecDepth 100000 in
set_option maxHeartbeats 8000000 in
theorem hdrop_any (W : World) (A : Ad) (X : Hi) (d : Dro) (h : PH 73 95 [] W A X) (ht : TR W) (hd : 0 ≤ d.va ∧ d.va < 4294967296) :
    Calls Tryd.prog 17 #[.pointer (some ⟨A.h, 0, none⟩), .agg #[.int .i64 d.kind, .int .u32 d.va, .int .i64 d.asid]] W fun e w' => e = .returned (.int .i64 (((drH X d).1 : Nat) : Int)) ∧ PH 73 95 [] w' A (drH X d).2 ∧ Turn A.S W w' := by
  have l1 := flF_le h.ti.hi d
  have l2 := flF_le h.td.hi d
  have l3 := flF_le h.tm.hi d
  have HT : Hid (∀ w, Turn A.S W w → TR w) := hidW (fun w k => h.tr ht k)
  have HX := hidW (KF.start h 42 ([.int .i64 d.kind, .int .u32 d.va, .int .i64 d.asid]) (by decide))
  have H1 : Hid (∀ w, PH 73 95 [] w A X → TR w → Calls Tryd.prog 37 #[.pointer (some ⟨A.pi, 0, none⟩), .agg #[.int .i64 d.kind, .int .u32 d.va, .int .i64 d.asid]] w fun e w' => e = .returned (.int .i64 ((flF X.i d).1 : Nat)) ∧ PH 73 95 [] w' A ⟨(flF X.i d).2, X.d, X.m⟩ ∧ Turn (· = A.gi) w w') := fun w k k2 => (flush_any w _ _ X.i d k.ti k2 hd).mono fun e w' q => ⟨q.1, k.setI q.2.1 q.2.2, q.2.2⟩
  have H2 : Hid (∀ w, PH 73 95 [] w A ⟨(flF X.i d).2, X.d, X.m⟩ → TR w → Calls Tryd.prog 37 #[.pointer (some ⟨A.pd, 0, none⟩), .agg #[.int .i64 d.kind, .int .u32 d.va, .int .i64 d.asid]] w fun e w' => e = .returned (.int .i64 ((flF X.d d).1 : Nat)) ∧ PH 73 95 [] w' A ⟨(flF X.i d).2, (flF X.d d).2, X.m⟩ ∧ Turn (· = A.gd) w w') := fun w k k2 => (flush_any w _ _ X.d d k.td k2 hd).mono fun e w' q => ⟨q.1, k.setD q.2.1 q.2.2, q.2.2⟩
  have H3 : Hid (∀ w, PH 73 95 [] w A ⟨(flF X.i d).2, (flF X.d d).2, X.m⟩ → TR w → Calls Tryd.prog 37 #[.pointer (some ⟨A.pm, 0, none⟩), .agg #[.int .i64 d.kind, .int .u32 d.va, .int .i64 d.asid]] w fun e w' => e = .returned (.int .i64 ((flF X.m d).1 : Nat)) ∧ PH 73 95 [] w' A ⟨(flF X.i d).2, (flF X.d d).2, (flF X.m d).2⟩ ∧ Turn (· = A.gm) w w') := fun w k k2 => (flush_any w _ _ X.m d k.tm k2 hd).mono fun e w' q => ⟨q.1, k.setM q.2.1 q.2.2, q.2.2⟩
  unfold drH
  generalize (flF X.i d) = E1 at *
  generalize (flF X.d d) = E2 at *
  generalize (flF X.m d) = E3 at *
  obtain ⟨n1, y1⟩ := E1
  obtain ⟨n2, y2⟩ := E2
  obtain ⟨n3, y3⟩ := E3
  clear h ht
  dsimp only at *
  go_enter Tryd.func17, Tryd.ntmps17
  go_wp2
  generalize World.alloc _ _ = w0 at *
  generalize hB : W.heap.size = B at HX ⊢
  clear hB
  replace HX := hidW HX.out.drew
  refine wp_region_held_drew (S := fun w' => (w'.cell? ⟨A.h, 0, none⟩ = some (.pointer (some ⟨A.pi, 0, none⟩)) ∧ w'.cell? ⟨A.h, 1, none⟩ = some (.pointer (some ⟨A.pd, 0, none⟩)) ∧ w'.cell? ⟨A.h, 2, none⟩ = some (.pointer (some ⟨A.pm, 0, none⟩))) ∧ w'.cell? ⟨B, 0, none⟩ = some (.int .i64 d.kind) ∧ w'.cell? ⟨B, 1, none⟩ = some (.int .u32 d.va) ∧ w'.cell? ⟨B, 2, none⟩ = some (.int .i64 d.asid)) (by kernel_rfl) HX.out.heldD (fun hHeld => ?_)
  refine wpAnyH_take (i := 0) (oi := { dst := some 5, op := Op.move (Operand.tmp 0), type := 25, pos := _, after := #[], guard := none }) (v := ?_) rfl (by kernel_rfl) (by kernel_rfl) (by kernel_rfl) (fun _ _ _ h => h) (Or.inl ⟨by rfl, ?_⟩) (by assumption) ?_
  rotate_left
  · (intro w hSw; (try dsimp only at hSw); go_simp; try with_reducible rfl)
  simp only [Act.put, List.setIfInBounds_toArray, List.set_cons_zero, List.set_cons_succ]
  refine wpAnyH_take (i := 1) (oi := { dst := some 6, op := Op.nilCheck (Operand.tmp 5), type := 0, pos := _, after := #[{ on := 0, ground := Ground.data }], guard := none }) (v := ?_) rfl (by kernel_rfl) (by kernel_rfl) (by kernel_rfl) (fun _ _ _ h => h) (Or.inl ⟨by rfl, ?_⟩) (by assumption) ?_
  rotate_left
  · (intro w hSw; (try dsimp only at hSw); go_simp; try with_reducible rfl)
  simp only [Act.put, List.setIfInBounds_toArray, List.set_cons_zero, List.set_cons_succ]
  refine wpAnyH_take (i := 2) (oi := { dst := some 7, op := Op.fieldAddr 73 (Operand.tmp 6) 0, type := 0, pos := _, after := #[{ on := 1, ground := Ground.data }], guard := none }) (v := ?_) rfl (by kernel_rfl) (by kernel_rfl) (by kernel_rfl) (fun _ _ _ h => h) (Or.inl ⟨by rfl, ?_⟩) (by assumption) ?_
  rotate_left
  · (intro w hSw; (try dsimp only at hSw); go_simp; try with_reducible rfl)
  simp only [Act.put, List.setIfInBounds_toArray, List.set_cons_zero, List.set_cons_succ]
  refine wpAnyH_take (i := 3) (oi := { dst := some 8, op := Op.fieldAddr 70 (Operand.tmp 7) 0, type := 0, pos := _, after := #[{ on := 2, ground := Ground.data }], guard := none }) (v := ?_) rfl (by kernel_rfl) (by kernel_rfl) (by kernel_rfl) (fun _ _ _ h => h) (Or.inl ⟨by rfl, ?_⟩) (by assumption) ?_
  rotate_left
  · (intro w hSw; (try dsimp only at hSw); go_simp; try with_reducible rfl)
  simp only [Act.put, List.setIfInBounds_toArray, List.set_cons_zero, List.set_cons_succ]
  refine wpAnyH_take (i := 4) (oi := { dst := some 9, op := Op.load 66 (Operand.tmp 8), type := 66, pos := _, after := #[{ on := 3, ground := Ground.data }], guard := none }) (v := ?_) rfl (by kernel_rfl) (by kernel_rfl) (by kernel_rfl) (fun _ _ _ h => h) (Or.inl ⟨by rfl, ?_⟩) (by assumption) ?_
  rotate_left
  · (intro w hSw; (try dsimp only at hSw); go_simp; try with_reducible rfl)
  simp only [Act.put, List.setIfInBounds_toArray, List.set_cons_zero, List.set_cons_succ]
  refine wpAnyH_take (i := 5) (oi := { dst := some 10, op := Op.load 42 (Operand.tmp 3), type := 42, pos := _, after := #[], guard := none }) (v := ?_) rfl (by kernel_rfl) (by kernel_rfl) (by kernel_rfl) (fun _ _ _ h => h) (Or.inl ⟨by rfl, ?_⟩) (by assumption) ?_
  rotate_left
  · (intro w hSw; (try dsimp only at hSw); go_simp; try with_reducible rfl)
  simp only [Act.put, List.setIfInBounds_toArray, List.set_cons_zero, List.set_cons_succ]
  refine wpAnyH_take (i := 7) (oi := { dst := some 12, op := Op.move (Operand.tmp 0), type := 25, pos := _, after := #[], guard := none }) (v := ?_) rfl (by kernel_rfl) (by kernel_rfl) (by kernel_rfl) (fun _ _ _ h => h) (Or.inl ⟨by rfl, ?_⟩) (by assumption) ?_
  rotate_left
  · (intro w hSw; (try dsimp only at hSw); go_simp; try with_reducible rfl)
  simp only [Act.put, List.setIfInBounds_toArray, List.set_cons_zero, List.set_cons_succ]
  refine wpAnyH_take (i := 8) (oi := { dst := some 13, op := Op.nilCheck (Operand.tmp 12), type := 0, pos := _, after := #[{ on := 7, ground := Ground.data }], guard := none }) (v := ?_) rfl (by kernel_rfl) (by kernel_rfl) (by kernel_rfl) (fun _ _ _ h => h) (Or.inl ⟨by rfl, ?_⟩) (by assumption) ?_
  rotate_left
  · (intro w hSw; (try dsimp only at hSw); go_simp; try with_reducible rfl)
  simp only [Act.put, List.setIfInBounds_toArray, List.set_cons_zero, List.set_cons_succ]
  refine wpAnyH_take (i := 9) (oi := { dst := some 14, op := Op.fieldAddr 73 (Operand.tmp 13) 1, type := 0, pos := _, after := #[{ on := 8, ground := Ground.data }], guard := none }) (v := ?_) rfl (by kernel_rfl) (by kernel_rfl) (by kernel_rfl) (fun _ _ _ h => h) (Or.inl ⟨by rfl, ?_⟩) (by assumption) ?_
  rotate_left
  · (intro w hSw; (try dsimp only at hSw); go_simp; try with_reducible rfl)
  simp only [Act.put, List.setIfInBounds_toArray, List.set_cons_zero, List.set_cons_succ]
  refine wpAnyH_take (i := 10) (oi := { dst := some 15, op := Op.fieldAddr 70 (Operand.tmp 14) 0, type := 0, pos := _, after := #[{ on := 9, ground := Ground.data }], guard := none }) (v := ?_) rfl (by kernel_rfl) (by kernel_rfl) (by kernel_rfl) (fun _ _ _ h => h) (Or.inl ⟨by rfl, ?_⟩) (by assumption) ?_
  rotate_left
  · (intro w hSw; (try dsimp only at hSw); go_simp; try with_reducible rfl)
  simp only [Act.put, List.setIfInBounds_toArray, List.set_cons_zero, List.set_cons_succ]
  refine wpAnyH_take (i := 11) (oi := { dst := some 16, op := Op.load 66 (Operand.tmp 15), type := 66, pos := _, after := #[{ on := 10, ground := Ground.data }], guard := none }) (v := ?_) rfl (by kernel_rfl) (by kernel_rfl) (by kernel_rfl) (fun _ _ _ h => h) (Or.inl ⟨by rfl, ?_⟩) (by assumption) ?_
  rotate_left
  · (intro w hSw; (try dsimp only at hSw); go_simp; try with_reducible rfl)
  simp only [Act.put, List.setIfInBounds_toArray, List.set_cons_zero, List.set_cons_succ]
  refine wpAnyH_take (i := 12) (oi := { dst := some 17, op := Op.load 42 (Operand.tmp 3), type := 42, pos := _, after := #[], guard := none }) (v := ?_) rfl (by kernel_rfl) (by kernel_rfl) (by kernel_rfl) (fun _ _ _ h => h) (Or.inl ⟨by rfl, ?_⟩) (by assumption) ?_
  rotate_left
  · (intro w hSw; (try dsimp only at hSw); go_simp; try with_reducible rfl)
  simp only [Act.put, List.setIfInBounds_toArray, List.set_cons_zero, List.set_cons_succ]
  refine wpAnyH_take (i := 15) (oi := { dst := some 20, op := Op.move (Operand.tmp 0), type := 25, pos := _, after := #[], guard := none }) (v := ?_) rfl (by kernel_rfl) (by kernel_rfl) (by kernel_rfl) (fun _ _ _ h => h) (Or.inl ⟨by rfl, ?_⟩) (by assumption) ?_
  rotate_left
  · (intro w hSw; (try dsimp only at hSw); go_simp; try with_reducible rfl)
  simp only [Act.put, List.setIfInBounds_toArray, List.set_cons_zero, List.set_cons_succ]
  refine wpAnyH_take (i := 16) (oi := { dst := some 21, op := Op.nilCheck (Operand.tmp 20), type := 0, pos := _, after := #[{ on := 15, ground := Ground.data }], guard := none }) (v := ?_) rfl (by kernel_rfl) (by kernel_rfl) (by kernel_rfl) (fun _ _ _ h => h) (Or.inl ⟨by rfl, ?_⟩) (by assumption) ?_
  rotate_left
  · (intro w hSw; (try dsimp only at hSw); go_simp; try with_reducible rfl)
  simp only [Act.put, List.setIfInBounds_toArray, List.set_cons_zero, List.set_cons_succ]
  refine wpAnyH_take (i := 17) (oi := { dst := some 22, op := Op.fieldAddr 73 (Operand.tmp 21) 2, type := 0, pos := _, after := #[{ on := 16, ground := Ground.data }], guard := none }) (v := ?_) rfl (by kernel_rfl) (by kernel_rfl) (by kernel_rfl) (fun _ _ _ h => h) (Or.inl ⟨by rfl, ?_⟩) (by assumption) ?_
  rotate_left
  · (intro w hSw; (try dsimp only at hSw); go_simp; try with_reducible rfl)
  simp only [Act.put, List.setIfInBounds_toArray, List.set_cons_zero, List.set_cons_succ]
  refine wpAnyH_take (i := 18) (oi := { dst := some 23, op := Op.fieldAddr 71 (Operand.tmp 22) 0, type := 0, pos := _, after := #[{ on := 17, ground := Ground.data }], guard := none }) (v := ?_) rfl (by kernel_rfl) (by kernel_rfl) (by kernel_rfl) (fun _ _ _ h => h) (Or.inl ⟨by rfl, ?_⟩) (by assumption) ?_
  rotate_left
  · (intro w hSw; (try dsimp only at hSw); go_simp; try with_reducible rfl)
  simp only [Act.put, List.setIfInBounds_toArray, List.set_cons_zero, List.set_cons_succ]
  refine wpAnyH_take (i := 19) (oi := { dst := some 24, op := Op.load 66 (Operand.tmp 23), type := 66, pos := _, after := #[{ on := 18, ground := Ground.data }], guard := none }) (v := ?_) rfl (by kernel_rfl) (by kernel_rfl) (by kernel_rfl) (fun _ _ _ h => h) (Or.inl ⟨by rfl, ?_⟩) (by assumption) ?_
  rotate_left
  · (intro w hSw; (try dsimp only at hSw); go_simp; try with_reducible rfl)
  simp only [Act.put, List.setIfInBounds_toArray, List.set_cons_zero, List.set_cons_succ]
  refine wpAnyH_take (i := 20) (oi := { dst := some 25, op := Op.load 42 (Operand.tmp 3), type := 42, pos := _, after := #[], guard := none }) (v := ?_) rfl (by kernel_rfl) (by kernel_rfl) (by kernel_rfl) (fun _ _ _ h => h) (Or.inl ⟨by rfl, ?_⟩) (by assumption) ?_
  rotate_left
  · (intro w hSw; (try dsimp only at hSw); go_simp; try with_reducible rfl)
  simp only [Act.put, List.setIfInBounds_toArray, List.set_cons_zero, List.set_cons_succ]
  refine wpAnyH_ready (rs := [6]) (by kernel_rfl) (by simp) ?_
  refine AllReadyH.cons (o := { dst := some 11, op := Op.call { callee := Callee.value (Operand.func 37), args := #[Operand.tmp 9, Operand.tmp 10], argTypes := #[66, 42] }, type := 3, pos := _, after := #[{ on := 4, ground := Ground.data }, { on := 5, ground := Ground.data }], guard := none }) rfl (fun K hK => ?_) AllReadyH.nil
  go_simp
  (go_at_call 37; first | with_reducible refine (H1.out _ HX.out.ph (HT.out _ HX.out.trn)).mono ?_ | with_reducible refine (H2.out _ HX.out.ph (HT.out _ HX.out.trn)).mono ?_ | with_reducible refine (H3.out _ HX.out.ph (HT.out _ HX.out.trn)).mono ?_); rintro e w3 ⟨rfl, hp, hT⟩; replace HX := hidW (HX.out.turn hp hT (fun x hx => by first | exact .inl hx | exact .inr (.inl hx) | exact .inr (.inr hx))); clear hp hT; go_wp2_with fail
  refine hK.out _ _ ?_ (fun hHeld => ?_)
  · ((try dsimp only); with_reducible exact HX.out.heldD)
  clear hK K
  try simp only [Act.put, List.setIfInBounds_toArray, List.set_cons_zero, List.set_cons_succ]
  refine wpAnyH_ready (rs := [13]) (by kernel_rfl) (by simp) ?_
  refine AllReadyH.cons (o := { dst := some 18, op := Op.call { callee := Callee.value (Operand.func 37), args := #[Operand.tmp 16, Operand.tmp 17], argTypes := #[66, 42] }, type := 3, pos := _, after := #[{ on := 11, ground := Ground.data }, { on := 12, ground := Ground.data }, { on := 6, ground := Ground.chain }], guard := none }) rfl (fun K hK => ?_) AllReadyH.nil
  go_simp
  (go_at_call 37; first | with_reducible refine (H1.out _ HX.out.ph (HT.out _ HX.out.trn)).mono ?_ | with_reducible refine (H2.out _ HX.out.ph (HT.out _ HX.out.trn)).mono ?_ | with_reducible refine (H3.out _ HX.out.ph (HT.out _ HX.out.trn)).mono ?_); rintro e w3 ⟨rfl, hp, hT⟩; replace HX := hidW (HX.out.turn hp hT (fun x hx => by first | exact .inl hx | exact .inr (.inl hx) | exact .inr (.inr hx))); clear hp hT; go_wp2_with fail
  refine hK.out _ _ ?_ (fun hHeld => ?_)
  · ((try dsimp only); with_reducible exact HX.out.heldD)
  clear hK K
  try simp only [Act.put, List.setIfInBounds_toArray, List.set_cons_zero, List.set_cons_succ]
  refine wpAnyH_take (i := 14) (oi := { dst := some 19, op := Op.binOp BinOp.add 3 (Operand.tmp 11) (Operand.tmp 18) 3, type := 3, pos := _, after := #[{ on := 6, ground := Ground.data }, { on := 13, ground := Ground.data }], guard := none }) (v := ?_) rfl (by kernel_rfl) (by kernel_rfl) (by kernel_rfl) (fun _ _ _ h => h) (Or.inl ⟨by rfl, ?_⟩) (by assumption) ?_
  rotate_left
  · (intro w hSw; (try dsimp only at hSw); go_simp; try with_reducible rfl)
  simp only [Act.put, List.setIfInBounds_toArray, List.set_cons_zero, List.set_cons_succ]
  refine wpAnyH_ready (rs := [21]) (by kernel_rfl) (by simp) ?_
  refine AllReadyH.cons (o := { dst := some 26, op := Op.call { callee := Callee.value (Operand.func 37), args := #[Operand.tmp 24, Operand.tmp 25], argTypes := #[66, 42] }, type := 3, pos := _, after := #[{ on := 19, ground := Ground.data }, { on := 20, ground := Ground.data }, { on := 13, ground := Ground.chain }], guard := none }) rfl (fun K hK => ?_) AllReadyH.nil
  go_simp
  (go_at_call 37; first | with_reducible refine (H1.out _ HX.out.ph (HT.out _ HX.out.trn)).mono ?_ | with_reducible refine (H2.out _ HX.out.ph (HT.out _ HX.out.trn)).mono ?_ | with_reducible refine (H3.out _ HX.out.ph (HT.out _ HX.out.trn)).mono ?_); rintro e w3 ⟨rfl, hp, hT⟩; replace HX := hidW (HX.out.turn hp hT (fun x hx => by first | exact .inl hx | exact .inr (.inl hx) | exact .inr (.inr hx))); clear hp hT; go_wp2_with fail
  refine hK.out _ _ ?_ (fun hHeld => ?_)
  · ((try dsimp only); with_reducible exact HX.out.heldD)
  clear hK K
  try simp only [Act.put, List.setIfInBounds_toArray, List.set_cons_zero, List.set_cons_succ]
  refine wpAnyH_take (i := 22) (oi := { dst := some 27, op := Op.binOp BinOp.add 3 (Operand.tmp 19) (Operand.tmp 26) 3, type := 3, pos := _, after := #[{ on := 14, ground := Ground.data }, { on := 21, ground := Ground.data }], guard := none }) (v := ?_) rfl (by kernel_rfl) (by kernel_rfl) (by kernel_rfl) (fun _ _ _ h => h) (Or.inl ⟨by rfl, ?_⟩) (by assumption) ?_
  rotate_left
  · (intro w hSw; (try dsimp only at hSw); go_simp; try with_reducible rfl)
  simp only [Act.put, List.setIfInBounds_toArray, List.set_cons_zero, List.set_cons_succ]
  refine wpAnyH_take (i := 23) (oi := { dst := some 4, op := Op.assign (Operand.tmp 27), type := 3, pos := _, after := #[{ on := 22, ground := Ground.data }, { on := 21, ground := Ground.chain }, { on := 0, ground := Ground.phase }, { on := 1, ground := Ground.phase }, { on := 2, ground := Ground.phase }, { on := 3, ground := Ground.phase }, { on := 4, ground := Ground.phase }, { on := 5, ground := Ground.phase }, { on := 6, ground := Ground.phase }, { on := 7, ground := Ground.phase }, { on := 8, ground := Ground.phase }, { on := 9, ground := Ground.phase }, { on := 10, ground := Ground.phase }, { on := 11, ground := Ground.phase }, { on := 12, ground := Ground.phase }, { on := 13, ground := Ground.phase }, { on := 14, ground := Ground.phase }, { on := 15, ground := Ground.phase }, { on := 16, ground := Ground.phase }, { on := 17, ground := Ground.phase }, { on := 18, ground := Ground.phase }, { on := 19, ground := Ground.phase }, { on := 20, ground := Ground.phase }, { on := 21, ground := Ground.phase }, { on := 22, ground := Ground.phase }], guard := none }) (v := ?_) rfl (by kernel_rfl) (by kernel_rfl) (by kernel_rfl) (fun _ _ _ h => h) (Or.inl ⟨by rfl, ?_⟩) (by assumption) ?_
  rotate_left
  · (intro w hSw; (try dsimp only at hSw); go_simp; try with_reducible rfl)
  simp only [Act.put, List.setIfInBounds_toArray, List.set_cons_zero, List.set_cons_succ]
  refine wpAnyH_done (by kernel_rfl) ?_ _
  clear hHeld
  go_wp2
  go_ret
  have hw : IntKind.i64.wrap (IntKind.i64.wrap ((n1 : Int) + n2) + n3) = (n1 : Int) + n2 + n3 := by rw [IntKind.wrap_i64, IntKind.wrap_i64]; omega
  exact ⟨by rw [hw]; simp, HX.out.ph, HX.out.trn⟩
end Go.Proofs.YtbbnodhpafiplaaDoor
