import Derived.Test.YtbbnodhpafiplaaDoorHe2
import Derived.Test.YtbbnodhpafiplaaDoorHf
namespace Go.Proofs.YtbbnodhpafiplaaDoor
open Go.RowKit
set_option linter.unusedVariables false
set_option linter.unusedSimpArgs false
theorem KF.heldV {W wr : World} {A : Ad} {X : Hi} {B : Nat} {d : Dro} (h : KF 93 89 [.pointer none] W wr A X B 42 ([.int .i64 d.kind, .int .u32 d.va, .int .i64 d.asid])) : (wr.cell? ⟨A.h, 1, none⟩ = some (.pointer (some ⟨A.pi, 0, none⟩)) ∧ wr.cell? ⟨A.h, 2, none⟩ = some (.pointer (some ⟨A.pd, 0, none⟩)) ∧ wr.cell? ⟨A.h, 3, none⟩ = some (.pointer (some ⟨A.pm, 0, none⟩))) ∧ wr.cell? ⟨B, 0, none⟩ = some (.int .i64 d.kind) ∧ wr.cell? ⟨B, 1, none⟩ = some (.int .u32 d.va) ∧ wr.cell? ⟨B, 2, none⟩ = some (.int .i64 d.asid) := ⟨⟨h.ph.box.cell 1, h.ph.box.cell 2, h.ph.box.cell 3⟩, h.bb.cell 0, h.bb.cell 1, h.bb.cell 2⟩
set_option maxRecDepth 100000 in
set_option maxHeartbeats 8000000 in
theorem vdrop_any (W : World) (A : Ad) (X : Hi) (d : Dro) (h : PH 93 89 [.pointer none] W A X) (hd : 0 ≤ d.va ∧ d.va < 4294967296) :
    Calls Tryd.prog 44 #[.pointer (some ⟨A.h, 0, none⟩), .agg #[.int .i64 d.kind, .int .u32 d.va, .int .i64 d.asid]] W fun e w' => e = .returned (.int .i64 (((drH X d).1 : Nat) : Int)) ∧ PH 93 89 [.pointer none] w' A (drH X d).2 ∧ Turn A.S W w' := by
  have l1 := flF_le h.ti.hi d
  have l2 := flF_le h.td.hi d
  have l3 := flF_le h.tm.hi d
  have HX0 := hidW (KF.start h 42 ([.int .i64 d.kind, .int .u32 d.va, .int .i64 d.asid]) (by decide))
  have H1 : Hid (∀ w, PH 93 89 [.pointer none] w A X → Calls Tryd.prog 58 #[.pointer (some ⟨A.pi, 0, none⟩), .agg #[.int .i64 d.kind, .int .u32 d.va, .int .i64 d.asid]] w fun e w' => e = .returned (.int .i64 ((flF X.i d).1 : Nat)) ∧ PH 93 89 [.pointer none] w' A ⟨(flF X.i d).2, X.d, X.m⟩ ∧ Turn (· = A.gi) w w') := fun w k => (uflush_any w _ _ X.i d k.ti hd).mono fun e w' q => ⟨q.1, k.setI q.2.1 q.2.2, q.2.2⟩
  have H2 : Hid (∀ w, PH 93 89 [.pointer none] w A ⟨(flF X.i d).2, X.d, X.m⟩ → Calls Tryd.prog 58 #[.pointer (some ⟨A.pd, 0, none⟩), .agg #[.int .i64 d.kind, .int .u32 d.va, .int .i64 d.asid]] w fun e w' => e = .returned (.int .i64 ((flF X.d d).1 : Nat)) ∧ PH 93 89 [.pointer none] w' A ⟨(flF X.i d).2, (flF X.d d).2, X.m⟩ ∧ Turn (· = A.gd) w w') := fun w k => (uflush_any w _ _ X.d d k.td hd).mono fun e w' q => ⟨q.1, k.setD q.2.1 q.2.2, q.2.2⟩
  have H3 : Hid (∀ w, PH 93 89 [.pointer none] w A ⟨(flF X.i d).2, (flF X.d d).2, X.m⟩ → Calls Tryd.prog 58 #[.pointer (some ⟨A.pm, 0, none⟩), .agg #[.int .i64 d.kind, .int .u32 d.va, .int .i64 d.asid]] w fun e w' => e = .returned (.int .i64 ((flF X.m d).1 : Nat)) ∧ PH 93 89 [.pointer none] w' A ⟨(flF X.i d).2, (flF X.d d).2, (flF X.m d).2⟩ ∧ Turn (· = A.gm) w w') := fun w k => (uflush_any w _ _ X.m d k.tm hd).mono fun e w' q => ⟨q.1, k.setM q.2.1 q.2.2, q.2.2⟩
  unfold drH
  generalize (flF X.i d) = E1 at *
  generalize (flF X.d d) = E2 at *
  generalize (flF X.m d) = E3 at *
  obtain ⟨n1, y1⟩ := E1
  obtain ⟨n2, y2⟩ := E2
  obtain ⟨n3, y3⟩ := E3
  clear h
  dsimp only at *
  go_enter Tryd.func44, Tryd.ntmps44
  go_wp2
  generalize World.alloc _ _ = w0 at *
  generalize hB : W.heap.size = B at HX0 ⊢
  clear hB
  go_loopw [5, 6] (fun s i wr => (s = .int .i64 0 ∧ i = .int .i64 1 ∧ KF 93 89 [.pointer none] W wr A X B 42 ([.int .i64 d.kind, .int .u32 d.va, .int .i64 d.asid])) ∨ (s = .int .i64 (n1 : Int) ∧ i = .int .i64 2 ∧ KF 93 89 [.pointer none] W wr A ⟨y1, X.d, X.m⟩ B 42 ([.int .i64 d.kind, .int .u32 d.va, .int .i64 d.asid])) ∨ (s = .int .i64 ((n1 : Int) + n2) ∧ i = .int .i64 3 ∧ KF 93 89 [.pointer none] W wr A ⟨y1, y2, X.m⟩ B 42 ([.int .i64 d.kind, .int .u32 d.va, .int .i64 d.asid])) ∨ (s = .int .i64 ((n1 : Int) + n2 + n3) ∧ i = .int .i64 4 ∧ KF 93 89 [.pointer none] W wr A ⟨y1, y2, y3⟩ B 42 ([.int .i64 d.kind, .int .u32 d.va, .int .i64 d.asid]))) (fun _ i _ => (4 - intOf i).toNat)
  case atStart => exact .inl ⟨rfl, rfl, HX0.out⟩
  case round =>
    clear HX0
    rcases hrel with ⟨rfl, rfl, hX⟩ | ⟨rfl, rfl, hX⟩ | ⟨rfl, rfl, hX⟩ | ⟨rfl, rfl, hX⟩
    · have HX := hidW hX
      clear hX
      go_wp2
      replace HX := hidW HX.out.drew
      refine wp_region_held_drew (S := fun w' => (w'.cell? ⟨A.h, 1, none⟩ = some (.pointer (some ⟨A.pi, 0, none⟩)) ∧ w'.cell? ⟨A.h, 2, none⟩ = some (.pointer (some ⟨A.pd, 0, none⟩)) ∧ w'.cell? ⟨A.h, 3, none⟩ = some (.pointer (some ⟨A.pm, 0, none⟩))) ∧ w'.cell? ⟨B, 0, none⟩ = some (.int .i64 d.kind) ∧ w'.cell? ⟨B, 1, none⟩ = some (.int .u32 d.va) ∧ w'.cell? ⟨B, 2, none⟩ = some (.int .i64 d.asid)) (by kernel_rfl) HX.out.heldV (fun hHeld => ?_)
      refine wpAnyH_take (i := 0) (oi := { dst := some 12, op := Op.move (Operand.tmp 0), type := 59, pos := _, after := #[], guard := none }) (v := ?_) rfl (by kernel_rfl) (by kernel_rfl) (by kernel_rfl) (fun _ _ _ h => h) (Or.inl ⟨by rfl, ?_⟩) (by assumption) ?_
      rotate_left
      · (intro w hSw; (try dsimp only at hSw); go_simp; try with_reducible rfl)
      simp only [Act.put, List.setIfInBounds_toArray, List.set_cons_zero, List.set_cons_succ]
      refine wpAnyH_take (i := 1) (oi := { dst := some 13, op := Op.move (Operand.tmp 6), type := 3, pos := _, after := #[], guard := none }) (v := ?_) rfl (by kernel_rfl) (by kernel_rfl) (by kernel_rfl) (fun _ _ _ h => h) (Or.inl ⟨by rfl, ?_⟩) (by assumption) ?_
      rotate_left
      · (intro w hSw; (try dsimp only at hSw); go_simp; try with_reducible rfl)
      simp only [Act.put, List.setIfInBounds_toArray, List.set_cons_zero, List.set_cons_succ]
      refine wpAnyH_take (i := 2) (oi := { dst := some 14, op := Op.nilCheck (Operand.tmp 12), type := 0, pos := _, after := #[{ on := 0, ground := Ground.data }], guard := none }) (v := ?_) rfl (by kernel_rfl) (by kernel_rfl) (by kernel_rfl) (fun _ _ _ h => h) (Or.inl ⟨by rfl, ?_⟩) (by assumption) ?_
      rotate_left
      · (intro w hSw; (try dsimp only at hSw); go_simp; try with_reducible rfl)
      simp only [Act.put, List.setIfInBounds_toArray, List.set_cons_zero, List.set_cons_succ]
      refine wpAnyH_take (i := 3) (oi := { dst := some 15, op := Op.fieldAddr 93 (Operand.tmp 14) 0, type := 0, pos := _, after := #[{ on := 2, ground := Ground.data }], guard := none }) (v := ?_) rfl (by kernel_rfl) (by kernel_rfl) (by kernel_rfl) (fun _ _ _ h => h) (Or.inl ⟨by rfl, ?_⟩) (by assumption) ?_
      rotate_left
      · (intro w hSw; (try dsimp only at hSw); go_simp; try with_reducible rfl)
      simp only [Act.put, List.setIfInBounds_toArray, List.set_cons_zero, List.set_cons_succ]
      refine wpAnyH_take (i := 4) (oi := { dst := some 16, op := Op.indexAddr 91 (Operand.tmp 15) (Operand.tmp 13), type := 0, pos := _, after := #[{ on := 3, ground := Ground.data }, { on := 1, ground := Ground.data }], guard := none }) (v := ?_) rfl (by kernel_rfl) (by kernel_rfl) (by kernel_rfl) (fun _ _ _ h => h) (Or.inl ⟨by rfl, ?_⟩) (by assumption) ?_
      rotate_left
      · (intro w hSw; (try dsimp only at hSw); go_simp; try with_reducible rfl)
      simp only [Act.put, List.setIfInBounds_toArray, List.set_cons_zero, List.set_cons_succ]
      refine wpAnyH_take (i := 5) (oi := { dst := some 17, op := Op.load 90 (Operand.tmp 16), type := 90, pos := _, after := #[{ on := 4, ground := Ground.data }], guard := none }) (v := ?_) rfl (by kernel_rfl) (by kernel_rfl) (by kernel_rfl) (fun _ _ _ h => h) (Or.inl ⟨by rfl, ?_⟩) (by assumption) ?_
      rotate_left
      · (intro w hSw; (try dsimp only at hSw); go_simp; try with_reducible rfl)
      simp only [Act.put, List.setIfInBounds_toArray, List.set_cons_zero, List.set_cons_succ]
      refine wpAnyH_take (i := 6) (oi := { dst := some 18, op := Op.load 42 (Operand.tmp 3), type := 42, pos := _, after := #[], guard := none }) (v := ?_) rfl (by kernel_rfl) (by kernel_rfl) (by kernel_rfl) (fun _ _ _ h => h) (Or.inl ⟨by rfl, ?_⟩) (by assumption) ?_
      rotate_left
      · (intro w hSw; (try dsimp only at hSw); go_simp; try with_reducible rfl)
      simp only [Act.put, List.setIfInBounds_toArray, List.set_cons_zero, List.set_cons_succ]
      refine wpAnyH_ready (rs := [7]) (by kernel_rfl) (by simp) ?_
      refine AllReadyH.cons (o := { dst := some 19, op := Op.call { callee := Callee.value (Operand.func 58), args := #[Operand.tmp 17, Operand.tmp 18], argTypes := #[90, 42] }, type := 3, pos := _, after := #[{ on := 5, ground := Ground.data }, { on := 6, ground := Ground.data }], guard := none }) rfl (fun K hK => ?_) AllReadyH.nil
      go_simp
      (go_at_call 58; refine (H1.out _ HX.out.ph).mono ?_; rintro e w3 ⟨rfl, hp, hT⟩; replace HX := hidW (HX.out.turn hp hT (fun x hx => .inl hx)); clear hp hT; go_wp2_with fail)
      refine hK.out _ _ ?_ (fun hHeld => ?_)
      · ((try dsimp only); with_reducible exact HX.out.heldV)
      clear hK K
      try simp only [Act.put, List.setIfInBounds_toArray, List.set_cons_zero, List.set_cons_succ]
      refine wpAnyH_take (i := 8) (oi := { dst := some 7, op := Op.assign (Operand.tmp 19), type := 3, pos := _, after := #[{ on := 7, ground := Ground.data }, { on := 7, ground := Ground.chain }, { on := 0, ground := Ground.phase }, { on := 1, ground := Ground.phase }, { on := 2, ground := Ground.phase }, { on := 3, ground := Ground.phase }, { on := 4, ground := Ground.phase }, { on := 5, ground := Ground.phase }, { on := 6, ground := Ground.phase }, { on := 7, ground := Ground.phase }], guard := none }) (v := ?_) rfl (by kernel_rfl) (by kernel_rfl) (by kernel_rfl) (fun _ _ _ h => h) (Or.inl ⟨by rfl, ?_⟩) (by assumption) ?_
      rotate_left
      · (intro w hSw; (try dsimp only at hSw); go_simp; try with_reducible rfl)
      simp only [Act.put, List.setIfInBounds_toArray, List.set_cons_zero, List.set_cons_succ]
      refine wpAnyH_done (by kernel_rfl) ?_ _
      clear hHeld
      go_wp2
      go_roundw
      case rel => exact .inr (.inl ⟨by go_num, by go_num, HX.out⟩)
      case measure => simp [intOf]
    · have HX := hidW hX
      clear hX
      go_wp2
      replace HX := hidW HX.out.drew
      refine wp_region_held_drew (S := fun w' => (w'.cell? ⟨A.h, 1, none⟩ = some (.pointer (some ⟨A.pi, 0, none⟩)) ∧ w'.cell? ⟨A.h, 2, none⟩ = some (.pointer (some ⟨A.pd, 0, none⟩)) ∧ w'.cell? ⟨A.h, 3, none⟩ = some (.pointer (some ⟨A.pm, 0, none⟩))) ∧ w'.cell? ⟨B, 0, none⟩ = some (.int .i64 d.kind) ∧ w'.cell? ⟨B, 1, none⟩ = some (.int .u32 d.va) ∧ w'.cell? ⟨B, 2, none⟩ = some (.int .i64 d.asid)) (by kernel_rfl) HX.out.heldV (fun hHeld => ?_)
      refine wpAnyH_take (i := 0) (oi := { dst := some 12, op := Op.move (Operand.tmp 0), type := 59, pos := _, after := #[], guard := none }) (v := ?_) rfl (by kernel_rfl) (by kernel_rfl) (by kernel_rfl) (fun _ _ _ h => h) (Or.inl ⟨by rfl, ?_⟩) (by assumption) ?_
      rotate_left
      · (intro w hSw; (try dsimp only at hSw); go_simp; try with_reducible rfl)
      simp only [Act.put, List.setIfInBounds_toArray, List.set_cons_zero, List.set_cons_succ]
      refine wpAnyH_take (i := 1) (oi := { dst := some 13, op := Op.move (Operand.tmp 6), type := 3, pos := _, after := #[], guard := none }) (v := ?_) rfl (by kernel_rfl) (by kernel_rfl) (by kernel_rfl) (fun _ _ _ h => h) (Or.inl ⟨by rfl, ?_⟩) (by assumption) ?_
      rotate_left
      · (intro w hSw; (try dsimp only at hSw); go_simp; try with_reducible rfl)
      simp only [Act.put, List.setIfInBounds_toArray, List.set_cons_zero, List.set_cons_succ]
      refine wpAnyH_take (i := 2) (oi := { dst := some 14, op := Op.nilCheck (Operand.tmp 12), type := 0, pos := _, after := #[{ on := 0, ground := Ground.data }], guard := none }) (v := ?_) rfl (by kernel_rfl) (by kernel_rfl) (by kernel_rfl) (fun _ _ _ h => h) (Or.inl ⟨by rfl, ?_⟩) (by assumption) ?_
      rotate_left
      · (intro w hSw; (try dsimp only at hSw); go_simp; try with_reducible rfl)
      simp only [Act.put, List.setIfInBounds_toArray, List.set_cons_zero, List.set_cons_succ]
      refine wpAnyH_take (i := 3) (oi := { dst := some 15, op := Op.fieldAddr 93 (Operand.tmp 14) 0, type := 0, pos := _, after := #[{ on := 2, ground := Ground.data }], guard := none }) (v := ?_) rfl (by kernel_rfl) (by kernel_rfl) (by kernel_rfl) (fun _ _ _ h => h) (Or.inl ⟨by rfl, ?_⟩) (by assumption) ?_
      rotate_left
      · (intro w hSw; (try dsimp only at hSw); go_simp; try with_reducible rfl)
      simp only [Act.put, List.setIfInBounds_toArray, List.set_cons_zero, List.set_cons_succ]
      refine wpAnyH_take (i := 4) (oi := { dst := some 16, op := Op.indexAddr 91 (Operand.tmp 15) (Operand.tmp 13), type := 0, pos := _, after := #[{ on := 3, ground := Ground.data }, { on := 1, ground := Ground.data }], guard := none }) (v := ?_) rfl (by kernel_rfl) (by kernel_rfl) (by kernel_rfl) (fun _ _ _ h => h) (Or.inl ⟨by rfl, ?_⟩) (by assumption) ?_
      rotate_left
      · (intro w hSw; (try dsimp only at hSw); go_simp; try with_reducible rfl)
      simp only [Act.put, List.setIfInBounds_toArray, List.set_cons_zero, List.set_cons_succ]
      refine wpAnyH_take (i := 5) (oi := { dst := some 17, op := Op.load 90 (Operand.tmp 16), type := 90, pos := _, after := #[{ on := 4, ground := Ground.data }], guard := none }) (v := ?_) rfl (by kernel_rfl) (by kernel_rfl) (by kernel_rfl) (fun _ _ _ h => h) (Or.inl ⟨by rfl, ?_⟩) (by assumption) ?_
      rotate_left
      · (intro w hSw; (try dsimp only at hSw); go_simp; try with_reducible rfl)
      simp only [Act.put, List.setIfInBounds_toArray, List.set_cons_zero, List.set_cons_succ]
      refine wpAnyH_take (i := 6) (oi := { dst := some 18, op := Op.load 42 (Operand.tmp 3), type := 42, pos := _, after := #[], guard := none }) (v := ?_) rfl (by kernel_rfl) (by kernel_rfl) (by kernel_rfl) (fun _ _ _ h => h) (Or.inl ⟨by rfl, ?_⟩) (by assumption) ?_
      rotate_left
      · (intro w hSw; (try dsimp only at hSw); go_simp; try with_reducible rfl)
      simp only [Act.put, List.setIfInBounds_toArray, List.set_cons_zero, List.set_cons_succ]
      refine wpAnyH_ready (rs := [7]) (by kernel_rfl) (by simp) ?_
      refine AllReadyH.cons (o := { dst := some 19, op := Op.call { callee := Callee.value (Operand.func 58), args := #[Operand.tmp 17, Operand.tmp 18], argTypes := #[90, 42] }, type := 3, pos := _, after := #[{ on := 5, ground := Ground.data }, { on := 6, ground := Ground.data }], guard := none }) rfl (fun K hK => ?_) AllReadyH.nil
      go_simp
      (go_at_call 58; refine (H2.out _ HX.out.ph).mono ?_; rintro e w3 ⟨rfl, hp, hT⟩; replace HX := hidW (HX.out.turn hp hT (fun x hx => .inr (.inl hx))); clear hp hT; go_wp2_with fail)
      refine hK.out _ _ ?_ (fun hHeld => ?_)
      · ((try dsimp only); with_reducible exact HX.out.heldV)
      clear hK K
      try simp only [Act.put, List.setIfInBounds_toArray, List.set_cons_zero, List.set_cons_succ]
      refine wpAnyH_take (i := 8) (oi := { dst := some 7, op := Op.assign (Operand.tmp 19), type := 3, pos := _, after := #[{ on := 7, ground := Ground.data }, { on := 7, ground := Ground.chain }, { on := 0, ground := Ground.phase }, { on := 1, ground := Ground.phase }, { on := 2, ground := Ground.phase }, { on := 3, ground := Ground.phase }, { on := 4, ground := Ground.phase }, { on := 5, ground := Ground.phase }, { on := 6, ground := Ground.phase }, { on := 7, ground := Ground.phase }], guard := none }) (v := ?_) rfl (by kernel_rfl) (by kernel_rfl) (by kernel_rfl) (fun _ _ _ h => h) (Or.inl ⟨by rfl, ?_⟩) (by assumption) ?_
      rotate_left
      · (intro w hSw; (try dsimp only at hSw); go_simp; try with_reducible rfl)
      simp only [Act.put, List.setIfInBounds_toArray, List.set_cons_zero, List.set_cons_succ]
      refine wpAnyH_done (by kernel_rfl) ?_ _
      clear hHeld
      go_wp2
      go_roundw
      case rel => exact .inr (.inr (.inl ⟨by go_num, by go_num, HX.out⟩))
      case measure => simp [intOf]
    · have HX := hidW hX
      clear hX
      go_wp2
      replace HX := hidW HX.out.drew
      refine wp_region_held_drew (S := fun w' => (w'.cell? ⟨A.h, 1, none⟩ = some (.pointer (some ⟨A.pi, 0, none⟩)) ∧ w'.cell? ⟨A.h, 2, none⟩ = some (.pointer (some ⟨A.pd, 0, none⟩)) ∧ w'.cell? ⟨A.h, 3, none⟩ = some (.pointer (some ⟨A.pm, 0, none⟩))) ∧ w'.cell? ⟨B, 0, none⟩ = some (.int .i64 d.kind) ∧ w'.cell? ⟨B, 1, none⟩ = some (.int .u32 d.va) ∧ w'.cell? ⟨B, 2, none⟩ = some (.int .i64 d.asid)) (by kernel_rfl) HX.out.heldV (fun hHeld => ?_)
      refine wpAnyH_take (i := 0) (oi := { dst := some 12, op := Op.move (Operand.tmp 0), type := 59, pos := _, after := #[], guard := none }) (v := ?_) rfl (by kernel_rfl) (by kernel_rfl) (by kernel_rfl) (fun _ _ _ h => h) (Or.inl ⟨by rfl, ?_⟩) (by assumption) ?_
      rotate_left
      · (intro w hSw; (try dsimp only at hSw); go_simp; try with_reducible rfl)
      simp only [Act.put, List.setIfInBounds_toArray, List.set_cons_zero, List.set_cons_succ]
      refine wpAnyH_take (i := 1) (oi := { dst := some 13, op := Op.move (Operand.tmp 6), type := 3, pos := _, after := #[], guard := none }) (v := ?_) rfl (by kernel_rfl) (by kernel_rfl) (by kernel_rfl) (fun _ _ _ h => h) (Or.inl ⟨by rfl, ?_⟩) (by assumption) ?_
      rotate_left
      · (intro w hSw; (try dsimp only at hSw); go_simp; try with_reducible rfl)
      simp only [Act.put, List.setIfInBounds_toArray, List.set_cons_zero, List.set_cons_succ]
      refine wpAnyH_take (i := 2) (oi := { dst := some 14, op := Op.nilCheck (Operand.tmp 12), type := 0, pos := _, after := #[{ on := 0, ground := Ground.data }], guard := none }) (v := ?_) rfl (by kernel_rfl) (by kernel_rfl) (by kernel_rfl) (fun _ _ _ h => h) (Or.inl ⟨by rfl, ?_⟩) (by assumption) ?_
      rotate_left
      · (intro w hSw; (try dsimp only at hSw); go_simp; try with_reducible rfl)
      simp only [Act.put, List.setIfInBounds_toArray, List.set_cons_zero, List.set_cons_succ]
      refine wpAnyH_take (i := 3) (oi := { dst := some 15, op := Op.fieldAddr 93 (Operand.tmp 14) 0, type := 0, pos := _, after := #[{ on := 2, ground := Ground.data }], guard := none }) (v := ?_) rfl (by kernel_rfl) (by kernel_rfl) (by kernel_rfl) (fun _ _ _ h => h) (Or.inl ⟨by rfl, ?_⟩) (by assumption) ?_
      rotate_left
      · (intro w hSw; (try dsimp only at hSw); go_simp; try with_reducible rfl)
      simp only [Act.put, List.setIfInBounds_toArray, List.set_cons_zero, List.set_cons_succ]
      refine wpAnyH_take (i := 4) (oi := { dst := some 16, op := Op.indexAddr 91 (Operand.tmp 15) (Operand.tmp 13), type := 0, pos := _, after := #[{ on := 3, ground := Ground.data }, { on := 1, ground := Ground.data }], guard := none }) (v := ?_) rfl (by kernel_rfl) (by kernel_rfl) (by kernel_rfl) (fun _ _ _ h => h) (Or.inl ⟨by rfl, ?_⟩) (by assumption) ?_
      rotate_left
      · (intro w hSw; (try dsimp only at hSw); go_simp; try with_reducible rfl)
      simp only [Act.put, List.setIfInBounds_toArray, List.set_cons_zero, List.set_cons_succ]
      refine wpAnyH_take (i := 5) (oi := { dst := some 17, op := Op.load 90 (Operand.tmp 16), type := 90, pos := _, after := #[{ on := 4, ground := Ground.data }], guard := none }) (v := ?_) rfl (by kernel_rfl) (by kernel_rfl) (by kernel_rfl) (fun _ _ _ h => h) (Or.inl ⟨by rfl, ?_⟩) (by assumption) ?_
      rotate_left
      · (intro w hSw; (try dsimp only at hSw); go_simp; try with_reducible rfl)
      simp only [Act.put, List.setIfInBounds_toArray, List.set_cons_zero, List.set_cons_succ]
      refine wpAnyH_take (i := 6) (oi := { dst := some 18, op := Op.load 42 (Operand.tmp 3), type := 42, pos := _, after := #[], guard := none }) (v := ?_) rfl (by kernel_rfl) (by kernel_rfl) (by kernel_rfl) (fun _ _ _ h => h) (Or.inl ⟨by rfl, ?_⟩) (by assumption) ?_
      rotate_left
      · (intro w hSw; (try dsimp only at hSw); go_simp; try with_reducible rfl)
      simp only [Act.put, List.setIfInBounds_toArray, List.set_cons_zero, List.set_cons_succ]
      refine wpAnyH_ready (rs := [7]) (by kernel_rfl) (by simp) ?_
      refine AllReadyH.cons (o := { dst := some 19, op := Op.call { callee := Callee.value (Operand.func 58), args := #[Operand.tmp 17, Operand.tmp 18], argTypes := #[90, 42] }, type := 3, pos := _, after := #[{ on := 5, ground := Ground.data }, { on := 6, ground := Ground.data }], guard := none }) rfl (fun K hK => ?_) AllReadyH.nil
      go_simp
      (go_at_call 58; refine (H3.out _ HX.out.ph).mono ?_; rintro e w3 ⟨rfl, hp, hT⟩; replace HX := hidW (HX.out.turn hp hT (fun x hx => .inr (.inr hx))); clear hp hT; go_wp2_with fail)
      refine hK.out _ _ ?_ (fun hHeld => ?_)
      · ((try dsimp only); with_reducible exact HX.out.heldV)
      clear hK K
      try simp only [Act.put, List.setIfInBounds_toArray, List.set_cons_zero, List.set_cons_succ]
      refine wpAnyH_take (i := 8) (oi := { dst := some 7, op := Op.assign (Operand.tmp 19), type := 3, pos := _, after := #[{ on := 7, ground := Ground.data }, { on := 7, ground := Ground.chain }, { on := 0, ground := Ground.phase }, { on := 1, ground := Ground.phase }, { on := 2, ground := Ground.phase }, { on := 3, ground := Ground.phase }, { on := 4, ground := Ground.phase }, { on := 5, ground := Ground.phase }, { on := 6, ground := Ground.phase }, { on := 7, ground := Ground.phase }], guard := none }) (v := ?_) rfl (by kernel_rfl) (by kernel_rfl) (by kernel_rfl) (fun _ _ _ h => h) (Or.inl ⟨by rfl, ?_⟩) (by assumption) ?_
      rotate_left
      · (intro w hSw; (try dsimp only at hSw); go_simp; try with_reducible rfl)
      simp only [Act.put, List.setIfInBounds_toArray, List.set_cons_zero, List.set_cons_succ]
      refine wpAnyH_done (by kernel_rfl) ?_ _
      clear hHeld
      go_wp2
      go_roundw
      case rel => exact .inr (.inr (.inr ⟨by go_num, by go_num, HX.out⟩))
      case measure => simp [intOf]
    · have HX := hidW hX
      clear hX
      go_wp2
      go_ret
      exact ⟨by simp, HX.out.ph, HX.out.trn⟩
/-- New: the boxes. -/
structure NW (W wr : World) (h B : Nat) (i d m : Int) (c : List Value) : Prop where
  bel : Below W.heap.size W wr
  box : Bl wr h 93 c
  arr : Bl wr B 105 [.int .i64 0, .int .i64 i, .int .i64 d, .int .i64 m]
  hh : W.heap.size ≤ h
section
variable {W wr w' : World} {h B : Nat} {i d m : Int} {c : List Value}
theorem NW.step (x : NW W wr h B i d m c) (hb : Below wr.heap.size wr w') : NW W w' h B i d m c := ⟨Below.step x.bel hb, x.box.below hb, x.arr.below hb, x.hh⟩
theorem NW.put (x : NW W wr h B i d m c) (j : Nat) (v : Value) : NW W (wr.setCell ⟨h, j, none⟩ v) h B i d m (c.set j v) := by
  have hh := x.hh
  exact ⟨Below.setCell x.bel hh _, x.box.set j v, x.arr.setO (x.arr.ne x.box (by decide)) j v, x.hh⟩
theorem NW.start (W : World) (i d m : Int) : NW W ((W.alloc (.cells #[.pointer none, .pointer none, .pointer none, .pointer none] 93)).alloc (.cells #[.int .i64 0, .int .i64 i, .int .i64 d, .int .i64 m] 105)) W.heap.size (W.heap.size + 1) i d m [.pointer none, .pointer none, .pointer none, .pointer none] := by
  have b1 := below_new W (.cells #[.pointer none, .pointer none, .pointer none, .pointer none] 93)
  have b2 := below_new (W.alloc (.cells #[.pointer none, .pointer none, .pointer none, .pointer none] 93)) (.cells #[.int .i64 0, .int .i64 i, .int .i64 d, .int .i64 m] 105)
  have l1 := Bl.new W 93 [.pointer none, .pointer none, .pointer none, .pointer none]
  have l2 := Bl.new (W.alloc (.cells #[.pointer none, .pointer none, .pointer none, .pointer none] 93)) 105 [.int .i64 0, .int .i64 i, .int .i64 d, .int .i64 m]
  rw [show (W.alloc (.cells #[.pointer none, .pointer none, .pointer none, .pointer none] 93)).heap.size = W.heap.size + 1 by simp] at l2
  exact ⟨Below.step b1 b2, l1.below b2, l2, Nat.le_refl _⟩
end
theorem PT.setH {w : World} {p g h : Nat} {L : List Slo} {c : List Value} (x : PT 89 w p g L) (hx : Bl w h 93 c) (j : Nat) (v : Value) : PT 89 (w.setCell ⟨h, j, none⟩ v) p g L :=
  ⟨x.box.setO (x.box.ne hx (by decide)) j v, x.row.setO (x.row.ne hx (by decide)) j v, x.ok, x.lo, x.hi, x.ne⟩
theorem unew_yes' (n : Int) (W : World) (h : Okn n) : Calls Tryd.prog 51 #[.int .i64 n] W fun e w' => e = .returned (.tuple #[.pointer (some ⟨W.heap.size + 1, 0, none⟩), .int .i64 0]) ∧ PT 89 w' (W.heap.size + 1) W.heap.size (List.replicate n.toNat sZ) ∧ Below W.heap.size W w' := by
  unfold Okn at h
  obtain ⟨k, rfl⟩ := Int.eq_ofNat_of_zero_le (show 0 ≤ n by omega)
  exact unew_yes k W (by omega) (by omega)
theorem unew_no' (n : Int) (W : World) (h : ¬ Okn n) : Calls Tryd.prog 51 #[.int .i64 n] W fun e w' => e = .returned (.tuple #[.pointer none, .int .i64 100]) ∧ Below W.heap.size W w' := by
  refine (unew_no n W (by unfold Okn at h; omega)).mono ?_
  rintro e w' ⟨rfl, rfl⟩
  exact ⟨rfl, Below.refl _ _⟩
set_option maxRecDepth 100000 in
set_option maxHeartbeats 8000000 in
theorem vnew_yes (i d m : Int) (W : World) (h : Okn i ∧ Okn d ∧ Okn m) : Calls Tryd.prog 40 #[.int .i64 i, .int .i64 d, .int .i64 m] W fun e w' => ∃ A : Ad, e = .returned (.tuple #[.pointer (some ⟨A.h, 0, none⟩), .int .i64 0]) ∧ PH 93 89 [.pointer none] w' A (zH i d m) ∧ Below W.heap.size W w' ∧ (∀ x, A.S x → W.heap.size ≤ x) := by
  have H1 := fun w => hidW (unew_yes' i w h.1)
  have H2 := fun w => hidW (unew_yes' d w h.2.1)
  have H3 := fun w => hidW (unew_yes' m w h.2.2)
  have HX0 := hidW (NW.start W i d m)
  clear h
  unfold zH
  generalize List.replicate i.toNat sZ = L1 at *
  generalize List.replicate d.toNat sZ = L2 at *
  generalize List.replicate m.toNat sZ = L3 at *
  go_enter Tryd.func40, Tryd.ntmps40
  go_wp2
  generalize World.alloc _ _ = w0 at *
  generalize hh : W.heap.size = h at HX0 ⊢
  generalize h + 1 = B at *
  clear hh
  go_loopw [10] (fun k wr => (k = .int .i64 1 ∧ NW W wr h B i d m [.pointer none, .pointer none, .pointer none, .pointer none]) ∨ (k = .int .i64 2 ∧ ∃ p1 g1, NW W wr h B i d m [.pointer none, .pointer (some ⟨p1, 0, none⟩), .pointer none, .pointer none] ∧ PT 89 wr p1 g1 L1 ∧ W.heap.size ≤ g1) ∨ (k = .int .i64 3 ∧ ∃ p1 g1 p2 g2, NW W wr h B i d m [.pointer none, .pointer (some ⟨p1, 0, none⟩), .pointer (some ⟨p2, 0, none⟩), .pointer none] ∧ PT 89 wr p1 g1 L1 ∧ W.heap.size ≤ g1 ∧ PT 89 wr p2 g2 L2 ∧ g1 < g2) ∨ (k = .int .i64 4 ∧ ∃ p1 g1 p2 g2 p3 g3, NW W wr h B i d m [.pointer none, .pointer (some ⟨p1, 0, none⟩), .pointer (some ⟨p2, 0, none⟩), .pointer (some ⟨p3, 0, none⟩)] ∧ PT 89 wr p1 g1 L1 ∧ W.heap.size ≤ g1 ∧ PT 89 wr p2 g2 L2 ∧ g1 < g2 ∧ PT 89 wr p3 g3 L3 ∧ g2 < g3)) (fun k _ => (4 - intOf k).toNat)
  case atStart => exact .inl ⟨rfl, HX0.out⟩
  case round =>
    clear HX0
    rcases hrel with ⟨rfl, hX⟩ | ⟨rfl, p1, g1, hX, hp1, hg1⟩ | ⟨rfl, p1, g1, p2, g2, hX, hp1, hg1, hp2, hg2⟩ | ⟨rfl, p1, g1, p2, g2, p3, g3, hX, hp1, hg1, hp2, hg2, hp3, hg3⟩
    · have HX := hidW hX
      have hws : W.heap.size ≤ wr.heap.size := hX.bel.size
      clear hX
      have c1 := HX.out.arr.cell
      go_wp2_with (fail)
      go_at_call 51
      refine (H1 _).out.mono ?_
      rintro e w1 ⟨rfl, hp, hb⟩
      replace HX := hidW (HX.out.step hb)
      have HP := hidW hp
      have HG : Hid (W.heap.size ≤ wr.heap.size) := hidW hws
      clear hp hb c1
      generalize wr.heap.size + 1 = p at *
      generalize wr.heap.size = g at *
      have c2 := HX.out.box.cell
      have f2 := HX.out.box.frozen
      have l2 := HX.out.box.lt
      replace HP := hidW (HP.out.setH HX.out.box 1 (.pointer (some ⟨p, 0, none⟩)))
      replace HX := hidW (HX.out.put 1 (.pointer (some ⟨p, 0, none⟩)))
      go_wp2
      go_roundw
      case rel => exact .inr (.inl ⟨by go_num, p, g, HX.out, HP.out, HG.out⟩)
      case measure => simp [intOf]
    · have HX := hidW hX
      have HP1 := hidW hp1
      have HPL1 := hidW hp1.row.lt
      clear hX hp1
      have c1 := HX.out.arr.cell
      go_wp2_with (fail)
      go_at_call 51
      refine (H2 _).out.mono ?_
      rintro e w1 ⟨rfl, hp, hb⟩
      replace HX := hidW (HX.out.step hb)
      replace HP1 := hidW (HP1.out.below hb)
      have HP := hidW hp
      have HG : Hid (g1 < wr.heap.size) := HPL1
      clear hp hb c1
      generalize wr.heap.size + 1 = p at *
      generalize wr.heap.size = g at *
      have c2 := HX.out.box.cell
      have f2 := HX.out.box.frozen
      have l2 := HX.out.box.lt
      replace HP1 := hidW (HP1.out.setH HX.out.box 2 (.pointer (some ⟨p, 0, none⟩)))
      replace HP := hidW (HP.out.setH HX.out.box 2 (.pointer (some ⟨p, 0, none⟩)))
      replace HX := hidW (HX.out.put 2 (.pointer (some ⟨p, 0, none⟩)))
      go_wp2
      go_roundw
      case rel => exact .inr (.inr (.inl ⟨by go_num, p1, g1, p, g, HX.out, HP1.out, hg1, HP.out, HG.out⟩))
      case measure => simp [intOf]
    · have HX := hidW hX
      have HP1 := hidW hp1
      have HP2 := hidW hp2
      have HPL2 := hidW hp2.row.lt
      clear hX hp1 hp2
      have c1 := HX.out.arr.cell
      go_wp2_with (fail)
      go_at_call 51
      refine (H3 _).out.mono ?_
      rintro e w1 ⟨rfl, hp, hb⟩
      replace HX := hidW (HX.out.step hb)
      replace HP1 := hidW (HP1.out.below hb)
      replace HP2 := hidW (HP2.out.below hb)
      have HP := hidW hp
      have HG : Hid (g2 < wr.heap.size) := HPL2
      clear hp hb c1
      generalize wr.heap.size + 1 = p at *
      generalize wr.heap.size = g at *
      have c2 := HX.out.box.cell
      have f2 := HX.out.box.frozen
      have l2 := HX.out.box.lt
      replace HP1 := hidW (HP1.out.setH HX.out.box 3 (.pointer (some ⟨p, 0, none⟩)))
      replace HP2 := hidW (HP2.out.setH HX.out.box 3 (.pointer (some ⟨p, 0, none⟩)))
      replace HP := hidW (HP.out.setH HX.out.box 3 (.pointer (some ⟨p, 0, none⟩)))
      replace HX := hidW (HX.out.put 3 (.pointer (some ⟨p, 0, none⟩)))
      go_wp2
      go_roundw
      case rel => exact .inr (.inr (.inr ⟨by go_num, p1, g1, p2, g2, p, g, HX.out, HP1.out, hg1, HP2.out, hg2, HP.out, HG.out⟩))
      case measure => simp [intOf]
    · have HX := hidW hX
      have HP1 := hidW hp1
      have HP2 := hidW hp2
      have HP3 := hidW hp3
      clear hX hp1 hp2 hp3
      go_wp2
      go_ret2
      refine ⟨⟨h, p1, g1, p2, g2, p3, g3⟩, rfl, ⟨HX.out.box, HP1.out, HP2.out, HP3.out, Nat.ne_of_lt hg2, by show g1 ≠ g3; omega, Nat.ne_of_lt hg3, by decide⟩, HX.out.bel, ?_⟩
      rintro x (hx | hx | hx)
      · have hx : x = g1 := hx
        omega
      · have hx : x = g2 := hx
        omega
      · have hx : x = g3 := hx
        omega
set_option maxRecDepth 100000 in
set_option maxHeartbeats 8000000 in
theorem vnew_no (i d m : Int) (W : World) (h : ¬ (Okn i ∧ Okn d ∧ Okn m)) : Calls Tryd.prog 40 #[.int .i64 i, .int .i64 d, .int .i64 m] W fun e w' => e = .returned (.tuple #[.pointer none, .int .i64 100]) ∧ Below W.heap.size W w' := by
  have HH := hidW h
  have HX0 := hidW (NW.start W i d m)
  clear h
  go_enter Tryd.func40, Tryd.ntmps40
  go_wp2
  generalize World.alloc _ _ = w0 at *
  generalize hh : W.heap.size = h at HX0 ⊢
  generalize h + 1 = B at *
  clear hh
  go_loopw [10] (fun k wr => (k = .int .i64 1 ∧ NW W wr h B i d m [.pointer none, .pointer none, .pointer none, .pointer none]) ∨ (k = .int .i64 2 ∧ Hid (Okn i) ∧ ∃ p1, NW W wr h B i d m [.pointer none, .pointer (some ⟨p1, 0, none⟩), .pointer none, .pointer none]) ∨ (k = .int .i64 3 ∧ Hid (Okn i ∧ Okn d) ∧ ∃ p1 p2, NW W wr h B i d m [.pointer none, .pointer (some ⟨p1, 0, none⟩), .pointer (some ⟨p2, 0, none⟩), .pointer none])) (fun k _ => (4 - intOf k).toNat)
  case atStart => exact .inl ⟨rfl, HX0.out⟩
  case round =>
    clear HX0
    rcases hrel with ⟨rfl, hX⟩ | ⟨rfl, HO, p1, hX⟩ | ⟨rfl, HO, p1, p2, hX⟩
    · have HX := hidW hX
      clear hX
      by_cases hk : Okn i
      · have hk := hidW hk
        have c1 := HX.out.arr.cell
        go_wp2_with (fail)
        go_at_call 51
        refine (unew_yes' _ _ hk.out).mono ?_
        rintro e w1 ⟨rfl, _, hb⟩
        replace HX := hidW (HX.out.step hb)
        clear hb c1
        generalize wr.heap.size + 1 = p at *
        have c2 := HX.out.box.cell
        have f2 := HX.out.box.frozen
        have l2 := HX.out.box.lt
        replace HX := hidW (HX.out.put 1 (.pointer (some ⟨p, 0, none⟩)))
        go_wp2
        go_roundw
        case rel => exact .inr (.inl ⟨by go_num, hk, p, HX.out⟩)
        case measure => simp [intOf]
      · have hk := hidW hk
        have c1 := HX.out.arr.cell
        go_wp2_with (fail)
        go_at_call 51
        refine (unew_no' _ _ hk.out).mono ?_
        rintro e w1 ⟨rfl, hb⟩
        replace HX := hidW (HX.out.step hb)
        clear hb c1
        go_wp2
        go_ret2
        exact ⟨rfl, HX.out.bel⟩
    · have HX := hidW hX
      clear hX
      by_cases hk : Okn d
      · have hk := hidW hk
        have c1 := HX.out.arr.cell
        go_wp2_with (fail)
        go_at_call 51
        refine (unew_yes' _ _ hk.out).mono ?_
        rintro e w1 ⟨rfl, _, hb⟩
        replace HX := hidW (HX.out.step hb)
        clear hb c1
        generalize wr.heap.size + 1 = p at *
        have c2 := HX.out.box.cell
        have f2 := HX.out.box.frozen
        have l2 := HX.out.box.lt
        replace HX := hidW (HX.out.put 2 (.pointer (some ⟨p, 0, none⟩)))
        go_wp2
        go_roundw
        case rel => exact .inr (.inr ⟨by go_num, hidW ⟨HO.out, hk.out⟩, p1, p, HX.out⟩)
        case measure => simp [intOf]
      · have hk := hidW hk
        have c1 := HX.out.arr.cell
        go_wp2_with (fail)
        go_at_call 51
        refine (unew_no' _ _ hk.out).mono ?_
        rintro e w1 ⟨rfl, hb⟩
        replace HX := hidW (HX.out.step hb)
        clear hb c1
        go_wp2
        go_ret2
        exact ⟨rfl, HX.out.bel⟩
    · have HX := hidW hX
      clear hX
      have hk : Hid (¬ Okn m) := hidW (fun hk => HH.out ⟨HO.out.1, HO.out.2, hk⟩)
      have c1 := HX.out.arr.cell
      go_wp2_with (fail)
      go_at_call 51
      refine (unew_no' _ _ hk.out).mono ?_
      rintro e w1 ⟨rfl, hb⟩
      replace HX := hidW (HX.out.step hb)
      clear hb c1
      go_wp2
      go_ret2
      exact ⟨rfl, HX.out.bel⟩
end Go.Proofs.YtbbnodhpafiplaaDoor
