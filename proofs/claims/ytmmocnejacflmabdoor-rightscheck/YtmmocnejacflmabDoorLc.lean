import Derived.Test.YtmmocnejacflmabDoorQk
import Derived.Test.YtmmocnejacflmabDoorEf
namespace Go.Proofs.YtmmocnejacflmabDoor
open Go.RowKit
set_option linter.unusedVariables false
set_option linter.unusedSimpArgs false
set_option maxRecDepth 100000 in
set_option maxHeartbeats 8000000 in
theorem law_check_core (t : Tra) (c : Ctx) (k : Int) (w : World) (hT : TC w) (f : Bool → Int → Fa)
    (HP0 : ∀ (priv : Bool) (k : Int) w, TC w → Calls Tryd.prog 12 #[.agg #[.int .i64 t.size, .int .u32 t.va, .int .u64 t.pa, .int .i64 t.dom, .int .i64 t.ap, .int .u32 t.bits, .bool t.ng, .bool t.xn], .agg #[.bool c.on, .bool c.tre, .bool c.afe, .int .i64 c.n, .bool c.pd0, .bool c.pd1, .int .u64 c.b0, .int .u64 c.b1, .int .u32 c.dacr, .int .u32 c.prrr, .int .u32 c.nmrr, .int .i64 c.asid], .bool priv, .int .i64 k] w fun e w' => e = .returned (.agg #[.int .i64 (f priv k).k, .int .i64 (f priv k).l, .int .i64 (f priv k).d]) ∧ Below w.heap.size w w')
    (HQ0 : ∀ (priv : Bool) (k : Int) w, Calls Tryd.prog 14 #[.agg #[.int .i64 t.size, .int .u32 t.va, .int .u64 t.pa, .int .i64 t.dom, .int .i64 t.ap, .int .u32 t.bits, .bool t.ng, .bool t.xn], .agg #[.bool c.on, .bool c.tre, .bool c.afe, .int .i64 c.n, .bool c.pd0, .bool c.pd1, .int .u64 c.b0, .int .u64 c.b1, .int .u32 c.dacr, .int .u32 c.prrr, .int .u32 c.nmrr, .int .i64 c.asid], .bool priv, .int .i64 k] w fun e w' => e = .returned (.agg #[.int .i64 (f priv k).k, .int .i64 (f priv k).l, .int .i64 (f priv k).d]) ∧ Below w.heap.size w w') :
    Calls Tryd.prog 5 #[.agg #[.int .i64 t.size, .int .u32 t.va, .int .u64 t.pa, .int .i64 t.dom, .int .i64 t.ap, .int .u32 t.bits, .bool t.ng, .bool t.xn], .agg #[.bool c.on, .bool c.tre, .bool c.afe, .int .i64 c.n, .bool c.pd0, .bool c.pd1, .int .u64 c.b0, .int .u64 c.b1, .int .u32 c.dacr, .int .u32 c.prrr, .int .u32 c.nmrr, .int .i64 c.asid], .int .i64 k] w fun e w' => e = .returned (.bool true) ∧ Below w.heap.size w w' := by
  have HP := hidZ HP0
  have HQ := hidZ HQ0
  have HT := hidZ hT
  have HX0 := hidZ (BK.new w t c)
  have eF : ∀ (a : Fa) w, (Op.equalIn 10000 39 (.agg #[.int .i64 a.k, .int .i64 a.l, .int .i64 a.d]) (.agg #[.int .i64 a.k, .int .i64 a.l, .int .i64 a.d])).run Tryd.prog w = .ok true w := fun a w => by
    have := eqF a a w
    rwa [Fa.same_self] at this
  clear hT HP0 HQ0
  go_enter Tryd.func5, Tryd.ntmps5
  go_wp2
  go_loopw [7] (fun i wr => ∃ (n : Nat), n ≤ 2 ∧ i = .int .i64 n ∧ BK w wr t c) (fun i _ => 2 - (intOf i).toNat)
  case atStart => exact ⟨0, by omega, rfl, HX0.out⟩
  case round =>
    obtain ⟨n, hn, rfl, hX⟩ := hrel
    have HX1 := hidZ hX
    clear hX HX0
    by_cases h : n < 2
    · have hi : (n : Int) < 2 := by omega
      have hw : IntKind.i64.wrap ((n : Int) + 1) = ((n + 1 : Nat) : Int) := by rw [IntKind.wrap_i64]; omega
      have ha : ∃ b, ((n : Int) == 1) = b := ⟨_, rfl⟩
      obtain ⟨priv, ha⟩ := ha
      clear hn
      go_wp2
      go_loopw [8] (fun i wr => ∃ (l : Nat), l ≤ 4 ∧ i = .int .i64 l ∧ BK w wr t c) (fun i _ => 4 - (intOf i).toNat)
      case atStart => exact ⟨0, by omega, rfl, HX1.out⟩
      case round =>
        obtain ⟨l, hl, rfl, hX⟩ := hrel
        have HS := hidZ hX.drew
        clear hX HX1
        by_cases h2 : l < 4
        · have hi2 : (l : Int) < 4 := by omega
          have hw2 : IntKind.i64.wrap ((l : Int) + 1) = ((l + 1 : Nat) : Int) := by rw [IntKind.wrap_i64]; omega
          clear hl
          go_wp2
          refine wp_region_held_drew (S := fun w' => w'.cell? ⟨w.heap.size, 0, none⟩ = some (.int .i64 t.size) ∧ w'.cell? ⟨w.heap.size, 1, none⟩ = some (.int .u32 t.va) ∧ w'.cell? ⟨w.heap.size, 2, none⟩ = some (.int .u64 t.pa) ∧ w'.cell? ⟨w.heap.size, 3, none⟩ = some (.int .i64 t.dom) ∧ w'.cell? ⟨w.heap.size, 4, none⟩ = some (.int .i64 t.ap) ∧ w'.cell? ⟨w.heap.size, 5, none⟩ = some (.int .u32 t.bits) ∧ w'.cell? ⟨w.heap.size, 6, none⟩ = some (.bool t.ng) ∧ w'.cell? ⟨w.heap.size, 7, none⟩ = some (.bool t.xn) ∧ w'.cell? ⟨w.heap.size + 1, 0, none⟩ = some (.bool c.on) ∧ w'.cell? ⟨w.heap.size + 1, 1, none⟩ = some (.bool c.tre) ∧ w'.cell? ⟨w.heap.size + 1, 2, none⟩ = some (.bool c.afe) ∧ w'.cell? ⟨w.heap.size + 1, 3, none⟩ = some (.int .i64 c.n) ∧ w'.cell? ⟨w.heap.size + 1, 4, none⟩ = some (.bool c.pd0) ∧ w'.cell? ⟨w.heap.size + 1, 5, none⟩ = some (.bool c.pd1) ∧ w'.cell? ⟨w.heap.size + 1, 6, none⟩ = some (.int .u64 c.b0) ∧ w'.cell? ⟨w.heap.size + 1, 7, none⟩ = some (.int .u64 c.b1) ∧ w'.cell? ⟨w.heap.size + 1, 8, none⟩ = some (.int .u32 c.dacr) ∧ w'.cell? ⟨w.heap.size + 1, 9, none⟩ = some (.int .u32 c.prrr) ∧ w'.cell? ⟨w.heap.size + 1, 10, none⟩ = some (.int .u32 c.nmrr) ∧ w'.cell? ⟨w.heap.size + 1, 11, none⟩ = some (.int .i64 c.asid)) (by kernel_rfl) (by (try dsimp only); exact ⟨HS.out.T.cell 0, HS.out.T.cell 1, HS.out.T.cell 2, HS.out.T.cell 3, HS.out.T.cell 4, HS.out.T.cell 5, HS.out.T.cell 6, HS.out.T.cell 7, HS.out.C.cell 0, HS.out.C.cell 1, HS.out.C.cell 2, HS.out.C.cell 3, HS.out.C.cell 4, HS.out.C.cell 5, HS.out.C.cell 6, HS.out.C.cell 7, HS.out.C.cell 8, HS.out.C.cell 9, HS.out.C.cell 10, HS.out.C.cell 11⟩) (fun hHeld => ?_)
          refine wpAnyH_take (i := 0) (oi := { dst := some 17, op := Op.load 35 (Operand.tmp 3), type := 35, pos := _, after := #[], guard := none }) (v := ?_) rfl (by kernel_rfl) (by kernel_rfl) (by kernel_rfl) (fun _ _ _ h => h) (Or.inl ⟨by rfl, ?_⟩) (by assumption) ?_
          rotate_left
          · (intro w hSw; (try dsimp only at hSw); go_simp; try with_reducible rfl)
          simp only [Act.put, List.setIfInBounds_toArray, List.set_cons_zero, List.set_cons_succ]
          refine wpAnyH_take (i := 1) (oi := { dst := some 18, op := Op.load 37 (Operand.tmp 4), type := 37, pos := _, after := #[], guard := none }) (v := ?_) rfl (by kernel_rfl) (by kernel_rfl) (by kernel_rfl) (fun _ _ _ h => h) (Or.inl ⟨by rfl, ?_⟩) (by assumption) ?_
          rotate_left
          · (intro w hSw; (try dsimp only at hSw); go_simp; try with_reducible rfl)
          simp only [Act.put, List.setIfInBounds_toArray, List.set_cons_zero, List.set_cons_succ]
          refine wpAnyH_take (i := 2) (oi := { dst := some 19, op := Op.move (Operand.tmp 7), type := 3, pos := _, after := #[], guard := none }) (v := ?_) rfl (by kernel_rfl) (by kernel_rfl) (by kernel_rfl) (fun _ _ _ h => h) (Or.inl ⟨by rfl, ?_⟩) (by assumption) ?_
          rotate_left
          · (intro w hSw; (try dsimp only at hSw); go_simp; try with_reducible rfl)
          simp only [Act.put, List.setIfInBounds_toArray, List.set_cons_zero, List.set_cons_succ]
          refine wpAnyH_take (i := 3) (oi := { dst := some 20, op := Op.binOp BinOp.eql 3 (Operand.tmp 19) (Operand.const (Value.int IntKind.i64 1)) 3, type := 4, pos := _, after := #[{ on := 2, ground := Ground.data }], guard := none }) (v := ?_) rfl (by kernel_rfl) (by kernel_rfl) (by kernel_rfl) (fun _ _ _ h => h) (Or.inl ⟨by rfl, ?_⟩) (by assumption) ?_
          rotate_left
          · (intro w hSw; (try dsimp only at hSw); go_simp; try with_reducible rfl)
          simp only [Act.put, List.setIfInBounds_toArray, List.set_cons_zero, List.set_cons_succ]
          refine wpAnyH_take (i := 4) (oi := { dst := some 21, op := Op.move (Operand.tmp 8), type := 3, pos := _, after := #[], guard := none }) (v := ?_) rfl (by kernel_rfl) (by kernel_rfl) (by kernel_rfl) (fun _ _ _ h => h) (Or.inl ⟨by rfl, ?_⟩) (by assumption) ?_
          rotate_left
          · (intro w hSw; (try dsimp only at hSw); go_simp; try with_reducible rfl)
          simp only [Act.put, List.setIfInBounds_toArray, List.set_cons_zero, List.set_cons_succ]
          refine wpAnyH_take (i := 6) (oi := { dst := some 23, op := Op.load 35 (Operand.tmp 3), type := 35, pos := _, after := #[], guard := none }) (v := ?_) rfl (by kernel_rfl) (by kernel_rfl) (by kernel_rfl) (fun _ _ _ h => h) (Or.inl ⟨by rfl, ?_⟩) (by assumption) ?_
          rotate_left
          · (intro w hSw; (try dsimp only at hSw); go_simp; try with_reducible rfl)
          simp only [Act.put, List.setIfInBounds_toArray, List.set_cons_zero, List.set_cons_succ]
          refine wpAnyH_take (i := 7) (oi := { dst := some 24, op := Op.load 37 (Operand.tmp 4), type := 37, pos := _, after := #[], guard := none }) (v := ?_) rfl (by kernel_rfl) (by kernel_rfl) (by kernel_rfl) (fun _ _ _ h => h) (Or.inl ⟨by rfl, ?_⟩) (by assumption) ?_
          rotate_left
          · (intro w hSw; (try dsimp only at hSw); go_simp; try with_reducible rfl)
          simp only [Act.put, List.setIfInBounds_toArray, List.set_cons_zero, List.set_cons_succ]
          refine wpAnyH_take (i := 8) (oi := { dst := some 25, op := Op.move (Operand.tmp 7), type := 3, pos := _, after := #[], guard := none }) (v := ?_) rfl (by kernel_rfl) (by kernel_rfl) (by kernel_rfl) (fun _ _ _ h => h) (Or.inl ⟨by rfl, ?_⟩) (by assumption) ?_
          rotate_left
          · (intro w hSw; (try dsimp only at hSw); go_simp; try with_reducible rfl)
          simp only [Act.put, List.setIfInBounds_toArray, List.set_cons_zero, List.set_cons_succ]
          refine wpAnyH_take (i := 9) (oi := { dst := some 26, op := Op.binOp BinOp.eql 3 (Operand.tmp 25) (Operand.const (Value.int IntKind.i64 1)) 3, type := 4, pos := _, after := #[{ on := 8, ground := Ground.data }], guard := none }) (v := ?_) rfl (by kernel_rfl) (by kernel_rfl) (by kernel_rfl) (fun _ _ _ h => h) (Or.inl ⟨by rfl, ?_⟩) (by assumption) ?_
          rotate_left
          · (intro w hSw; (try dsimp only at hSw); go_simp; try with_reducible rfl)
          simp only [Act.put, List.setIfInBounds_toArray, List.set_cons_zero, List.set_cons_succ]
          refine wpAnyH_take (i := 10) (oi := { dst := some 27, op := Op.move (Operand.tmp 8), type := 3, pos := _, after := #[], guard := none }) (v := ?_) rfl (by kernel_rfl) (by kernel_rfl) (by kernel_rfl) (fun _ _ _ h => h) (Or.inl ⟨by rfl, ?_⟩) (by assumption) ?_
          rotate_left
          · (intro w hSw; (try dsimp only at hSw); go_simp; try with_reducible rfl)
          simp only [Act.put, List.setIfInBounds_toArray, List.set_cons_zero, List.set_cons_succ]
          refine wpAnyH_ready (rs := [5]) (by kernel_rfl) (by simp) ?_
          refine (AllReadyH.cons (o := { dst := some 22, op := Op.call { callee := Callee.value (Operand.func 12), args := #[Operand.tmp 17, Operand.tmp 18, Operand.tmp 20, Operand.tmp 21], argTypes := #[35, 37, 4, 3] }, type := 39, pos := _, after := #[{ on := 0, ground := Ground.data }, { on := 1, ground := Ground.data }, { on := 3, ground := Ground.data }, { on := 4, ground := Ground.data }], guard := none }) rfl (fun K hK => ?_) AllReadyH.nil)
          go_simp
          (go_at_call 12; refine (HP.out _ _ _ (HT.out.below HS.out.bel)).mono ?_; rintro e w3 ⟨rfl, hb⟩; replace HS := hidZ (HS.out.step hb); clear hb)
          refine hK.out _ _ ?_ (fun hHeld => ?_)
          · ((try dsimp only); exact ⟨HS.out.T.cell 0, HS.out.T.cell 1, HS.out.T.cell 2, HS.out.T.cell 3, HS.out.T.cell 4, HS.out.T.cell 5, HS.out.T.cell 6, HS.out.T.cell 7, HS.out.C.cell 0, HS.out.C.cell 1, HS.out.C.cell 2, HS.out.C.cell 3, HS.out.C.cell 4, HS.out.C.cell 5, HS.out.C.cell 6, HS.out.C.cell 7, HS.out.C.cell 8, HS.out.C.cell 9, HS.out.C.cell 10, HS.out.C.cell 11⟩)
          clear hK K
          try simp only [Act.put, List.setIfInBounds_toArray, List.set_cons_zero, List.set_cons_succ]
          refine wpAnyH_ready (rs := [11]) (by kernel_rfl) (by simp) ?_
          refine (AllReadyH.cons (o := { dst := some 28, op := Op.call { callee := Callee.value (Operand.func 14), args := #[Operand.tmp 23, Operand.tmp 24, Operand.tmp 26, Operand.tmp 27], argTypes := #[35, 37, 4, 3] }, type := 39, pos := _, after := #[{ on := 6, ground := Ground.data }, { on := 7, ground := Ground.data }, { on := 9, ground := Ground.data }, { on := 10, ground := Ground.data }, { on := 5, ground := Ground.chain }], guard := none }) rfl (fun K hK => ?_) AllReadyH.nil)
          go_simp
          (go_at_call 14; refine (HQ.out _ _ _).mono ?_; rintro e w4 ⟨rfl, hb⟩; replace HS := hidZ (HS.out.step hb); clear hb)
          refine hK.out _ _ ?_ (fun hHeld => ?_)
          · ((try dsimp only); exact ⟨HS.out.T.cell 0, HS.out.T.cell 1, HS.out.T.cell 2, HS.out.T.cell 3, HS.out.T.cell 4, HS.out.T.cell 5, HS.out.T.cell 6, HS.out.T.cell 7, HS.out.C.cell 0, HS.out.C.cell 1, HS.out.C.cell 2, HS.out.C.cell 3, HS.out.C.cell 4, HS.out.C.cell 5, HS.out.C.cell 6, HS.out.C.cell 7, HS.out.C.cell 8, HS.out.C.cell 9, HS.out.C.cell 10, HS.out.C.cell 11⟩)
          clear hK K
          try simp only [Act.put, List.setIfInBounds_toArray, List.set_cons_zero, List.set_cons_succ]
          refine wpAnyH_take (i := 12) (oi := { dst := some 29, op := Op.binOp BinOp.neq 39 (Operand.tmp 22) (Operand.tmp 28) 39, type := 4, pos := _, after := #[{ on := 5, ground := Ground.data }, { on := 11, ground := Ground.data }], guard := none }) (v := ?_) rfl (by kernel_rfl) (by kernel_rfl) (by kernel_rfl) (fun _ _ _ h => h) (Or.inl ⟨by rfl, ?_⟩) (by assumption) ?_
          rotate_left
          · (intro w hSw; (try dsimp only at hSw); go_simp; try with_reducible rfl)
          simp only [Act.put, List.setIfInBounds_toArray, List.set_cons_zero, List.set_cons_succ]
          refine wpAnyH_done (by kernel_rfl) ?_ _
          (go_wp2; go_roundw; (case rel => exact ⟨l + 1, by omega, rfl, HS.out⟩); (case measure => simp [intOf]; omega))
        · obtain rfl : l = 4 := by omega
          clear hl h2
          go_wp2
          refine wp_region_held_drew (S := fun w' => w'.cell? ⟨w.heap.size, 0, none⟩ = some (.int .i64 t.size) ∧ w'.cell? ⟨w.heap.size, 1, none⟩ = some (.int .u32 t.va) ∧ w'.cell? ⟨w.heap.size, 2, none⟩ = some (.int .u64 t.pa) ∧ w'.cell? ⟨w.heap.size, 3, none⟩ = some (.int .i64 t.dom) ∧ w'.cell? ⟨w.heap.size, 4, none⟩ = some (.int .i64 t.ap) ∧ w'.cell? ⟨w.heap.size, 5, none⟩ = some (.int .u32 t.bits) ∧ w'.cell? ⟨w.heap.size, 6, none⟩ = some (.bool t.ng) ∧ w'.cell? ⟨w.heap.size, 7, none⟩ = some (.bool t.xn) ∧ w'.cell? ⟨w.heap.size + 1, 0, none⟩ = some (.bool c.on) ∧ w'.cell? ⟨w.heap.size + 1, 1, none⟩ = some (.bool c.tre) ∧ w'.cell? ⟨w.heap.size + 1, 2, none⟩ = some (.bool c.afe) ∧ w'.cell? ⟨w.heap.size + 1, 3, none⟩ = some (.int .i64 c.n) ∧ w'.cell? ⟨w.heap.size + 1, 4, none⟩ = some (.bool c.pd0) ∧ w'.cell? ⟨w.heap.size + 1, 5, none⟩ = some (.bool c.pd1) ∧ w'.cell? ⟨w.heap.size + 1, 6, none⟩ = some (.int .u64 c.b0) ∧ w'.cell? ⟨w.heap.size + 1, 7, none⟩ = some (.int .u64 c.b1) ∧ w'.cell? ⟨w.heap.size + 1, 8, none⟩ = some (.int .u32 c.dacr) ∧ w'.cell? ⟨w.heap.size + 1, 9, none⟩ = some (.int .u32 c.prrr) ∧ w'.cell? ⟨w.heap.size + 1, 10, none⟩ = some (.int .u32 c.nmrr) ∧ w'.cell? ⟨w.heap.size + 1, 11, none⟩ = some (.int .i64 c.asid)) (by kernel_rfl) (by (try dsimp only); exact ⟨HS.out.T.cell 0, HS.out.T.cell 1, HS.out.T.cell 2, HS.out.T.cell 3, HS.out.T.cell 4, HS.out.T.cell 5, HS.out.T.cell 6, HS.out.T.cell 7, HS.out.C.cell 0, HS.out.C.cell 1, HS.out.C.cell 2, HS.out.C.cell 3, HS.out.C.cell 4, HS.out.C.cell 5, HS.out.C.cell 6, HS.out.C.cell 7, HS.out.C.cell 8, HS.out.C.cell 9, HS.out.C.cell 10, HS.out.C.cell 11⟩) (fun hHeld => ?_)
          refine wpAnyH_take (i := 0) (oi := { dst := some 30, op := Op.load 35 (Operand.tmp 3), type := 35, pos := _, after := #[], guard := none }) (v := ?_) rfl (by kernel_rfl) (by kernel_rfl) (by kernel_rfl) (fun _ _ _ h => h) (Or.inl ⟨by rfl, ?_⟩) (by assumption) ?_
          rotate_left
          · (intro w hSw; (try dsimp only at hSw); go_simp; try with_reducible rfl)
          simp only [Act.put, List.setIfInBounds_toArray, List.set_cons_zero, List.set_cons_succ]
          refine wpAnyH_take (i := 1) (oi := { dst := some 31, op := Op.load 37 (Operand.tmp 4), type := 37, pos := _, after := #[], guard := none }) (v := ?_) rfl (by kernel_rfl) (by kernel_rfl) (by kernel_rfl) (fun _ _ _ h => h) (Or.inl ⟨by rfl, ?_⟩) (by assumption) ?_
          rotate_left
          · (intro w hSw; (try dsimp only at hSw); go_simp; try with_reducible rfl)
          simp only [Act.put, List.setIfInBounds_toArray, List.set_cons_zero, List.set_cons_succ]
          refine wpAnyH_take (i := 2) (oi := { dst := some 32, op := Op.move (Operand.tmp 7), type := 3, pos := _, after := #[], guard := none }) (v := ?_) rfl (by kernel_rfl) (by kernel_rfl) (by kernel_rfl) (fun _ _ _ h => h) (Or.inl ⟨by rfl, ?_⟩) (by assumption) ?_
          rotate_left
          · (intro w hSw; (try dsimp only at hSw); go_simp; try with_reducible rfl)
          simp only [Act.put, List.setIfInBounds_toArray, List.set_cons_zero, List.set_cons_succ]
          refine wpAnyH_take (i := 3) (oi := { dst := some 33, op := Op.binOp BinOp.eql 3 (Operand.tmp 32) (Operand.const (Value.int IntKind.i64 1)) 3, type := 4, pos := _, after := #[{ on := 2, ground := Ground.data }], guard := none }) (v := ?_) rfl (by kernel_rfl) (by kernel_rfl) (by kernel_rfl) (fun _ _ _ h => h) (Or.inl ⟨by rfl, ?_⟩) (by assumption) ?_
          rotate_left
          · (intro w hSw; (try dsimp only at hSw); go_simp; try with_reducible rfl)
          simp only [Act.put, List.setIfInBounds_toArray, List.set_cons_zero, List.set_cons_succ]
          refine wpAnyH_take (i := 4) (oi := { dst := some 34, op := Op.move (Operand.tmp 2), type := 3, pos := _, after := #[], guard := none }) (v := ?_) rfl (by kernel_rfl) (by kernel_rfl) (by kernel_rfl) (fun _ _ _ h => h) (Or.inl ⟨by rfl, ?_⟩) (by assumption) ?_
          rotate_left
          · (intro w hSw; (try dsimp only at hSw); go_simp; try with_reducible rfl)
          simp only [Act.put, List.setIfInBounds_toArray, List.set_cons_zero, List.set_cons_succ]
          refine wpAnyH_take (i := 6) (oi := { dst := some 36, op := Op.load 35 (Operand.tmp 3), type := 35, pos := _, after := #[], guard := none }) (v := ?_) rfl (by kernel_rfl) (by kernel_rfl) (by kernel_rfl) (fun _ _ _ h => h) (Or.inl ⟨by rfl, ?_⟩) (by assumption) ?_
          rotate_left
          · (intro w hSw; (try dsimp only at hSw); go_simp; try with_reducible rfl)
          simp only [Act.put, List.setIfInBounds_toArray, List.set_cons_zero, List.set_cons_succ]
          refine wpAnyH_take (i := 7) (oi := { dst := some 37, op := Op.load 37 (Operand.tmp 4), type := 37, pos := _, after := #[], guard := none }) (v := ?_) rfl (by kernel_rfl) (by kernel_rfl) (by kernel_rfl) (fun _ _ _ h => h) (Or.inl ⟨by rfl, ?_⟩) (by assumption) ?_
          rotate_left
          · (intro w hSw; (try dsimp only at hSw); go_simp; try with_reducible rfl)
          simp only [Act.put, List.setIfInBounds_toArray, List.set_cons_zero, List.set_cons_succ]
          refine wpAnyH_take (i := 8) (oi := { dst := some 38, op := Op.move (Operand.tmp 7), type := 3, pos := _, after := #[], guard := none }) (v := ?_) rfl (by kernel_rfl) (by kernel_rfl) (by kernel_rfl) (fun _ _ _ h => h) (Or.inl ⟨by rfl, ?_⟩) (by assumption) ?_
          rotate_left
          · (intro w hSw; (try dsimp only at hSw); go_simp; try with_reducible rfl)
          simp only [Act.put, List.setIfInBounds_toArray, List.set_cons_zero, List.set_cons_succ]
          refine wpAnyH_take (i := 9) (oi := { dst := some 39, op := Op.binOp BinOp.eql 3 (Operand.tmp 38) (Operand.const (Value.int IntKind.i64 1)) 3, type := 4, pos := _, after := #[{ on := 8, ground := Ground.data }], guard := none }) (v := ?_) rfl (by kernel_rfl) (by kernel_rfl) (by kernel_rfl) (fun _ _ _ h => h) (Or.inl ⟨by rfl, ?_⟩) (by assumption) ?_
          rotate_left
          · (intro w hSw; (try dsimp only at hSw); go_simp; try with_reducible rfl)
          simp only [Act.put, List.setIfInBounds_toArray, List.set_cons_zero, List.set_cons_succ]
          refine wpAnyH_take (i := 10) (oi := { dst := some 40, op := Op.move (Operand.tmp 2), type := 3, pos := _, after := #[], guard := none }) (v := ?_) rfl (by kernel_rfl) (by kernel_rfl) (by kernel_rfl) (fun _ _ _ h => h) (Or.inl ⟨by rfl, ?_⟩) (by assumption) ?_
          rotate_left
          · (intro w hSw; (try dsimp only at hSw); go_simp; try with_reducible rfl)
          simp only [Act.put, List.setIfInBounds_toArray, List.set_cons_zero, List.set_cons_succ]
          refine wpAnyH_ready (rs := [5]) (by kernel_rfl) (by simp) ?_
          refine (AllReadyH.cons (o := { dst := some 35, op := Op.call { callee := Callee.value (Operand.func 12), args := #[Operand.tmp 30, Operand.tmp 31, Operand.tmp 33, Operand.tmp 34], argTypes := #[35, 37, 4, 3] }, type := 39, pos := _, after := #[{ on := 0, ground := Ground.data }, { on := 1, ground := Ground.data }, { on := 3, ground := Ground.data }, { on := 4, ground := Ground.data }], guard := none }) rfl (fun K hK => ?_) AllReadyH.nil)
          go_simp
          (go_at_call 12; refine (HP.out _ _ _ (HT.out.below HS.out.bel)).mono ?_; rintro e w3 ⟨rfl, hb⟩; replace HS := hidZ (HS.out.step hb); clear hb)
          refine hK.out _ _ ?_ (fun hHeld => ?_)
          · ((try dsimp only); exact ⟨HS.out.T.cell 0, HS.out.T.cell 1, HS.out.T.cell 2, HS.out.T.cell 3, HS.out.T.cell 4, HS.out.T.cell 5, HS.out.T.cell 6, HS.out.T.cell 7, HS.out.C.cell 0, HS.out.C.cell 1, HS.out.C.cell 2, HS.out.C.cell 3, HS.out.C.cell 4, HS.out.C.cell 5, HS.out.C.cell 6, HS.out.C.cell 7, HS.out.C.cell 8, HS.out.C.cell 9, HS.out.C.cell 10, HS.out.C.cell 11⟩)
          clear hK K
          try simp only [Act.put, List.setIfInBounds_toArray, List.set_cons_zero, List.set_cons_succ]
          refine wpAnyH_ready (rs := [11]) (by kernel_rfl) (by simp) ?_
          refine (AllReadyH.cons (o := { dst := some 41, op := Op.call { callee := Callee.value (Operand.func 14), args := #[Operand.tmp 36, Operand.tmp 37, Operand.tmp 39, Operand.tmp 40], argTypes := #[35, 37, 4, 3] }, type := 39, pos := _, after := #[{ on := 6, ground := Ground.data }, { on := 7, ground := Ground.data }, { on := 9, ground := Ground.data }, { on := 10, ground := Ground.data }, { on := 5, ground := Ground.chain }], guard := none }) rfl (fun K hK => ?_) AllReadyH.nil)
          go_simp
          (go_at_call 14; refine (HQ.out _ _ _).mono ?_; rintro e w4 ⟨rfl, hb⟩; replace HS := hidZ (HS.out.step hb); clear hb)
          refine hK.out _ _ ?_ (fun hHeld => ?_)
          · ((try dsimp only); exact ⟨HS.out.T.cell 0, HS.out.T.cell 1, HS.out.T.cell 2, HS.out.T.cell 3, HS.out.T.cell 4, HS.out.T.cell 5, HS.out.T.cell 6, HS.out.T.cell 7, HS.out.C.cell 0, HS.out.C.cell 1, HS.out.C.cell 2, HS.out.C.cell 3, HS.out.C.cell 4, HS.out.C.cell 5, HS.out.C.cell 6, HS.out.C.cell 7, HS.out.C.cell 8, HS.out.C.cell 9, HS.out.C.cell 10, HS.out.C.cell 11⟩)
          clear hK K
          try simp only [Act.put, List.setIfInBounds_toArray, List.set_cons_zero, List.set_cons_succ]
          refine wpAnyH_take (i := 12) (oi := { dst := some 42, op := Op.binOp BinOp.neq 39 (Operand.tmp 35) (Operand.tmp 41) 39, type := 4, pos := _, after := #[{ on := 5, ground := Ground.data }, { on := 11, ground := Ground.data }], guard := none }) (v := ?_) rfl (by kernel_rfl) (by kernel_rfl) (by kernel_rfl) (fun _ _ _ h => h) (Or.inl ⟨by rfl, ?_⟩) (by assumption) ?_
          rotate_left
          · (intro w hSw; (try dsimp only at hSw); go_simp; try with_reducible rfl)
          simp only [Act.put, List.setIfInBounds_toArray, List.set_cons_zero, List.set_cons_succ]
          refine wpAnyH_done (by kernel_rfl) ?_ _
          (go_wp2; go_roundw; (case rel => exact ⟨n + 1, by omega, rfl, HS.out⟩); (case measure => simp [intOf]; omega))
    · obtain rfl : n = 2 := by omega
      go_wp2
      go_ret
      exact ⟨rfl, HX1.out.bel⟩
theorem law_check (t : Tra) (c : Ctx) (k : Int) (w : World) (hT : TC w) (hf : Ft t) (ha : 0 ≤ c.dacr ∧ c.dacr < 4294967296) :
    Calls Tryd.prog 5 #[.agg #[.int .i64 t.size, .int .u32 t.va, .int .u64 t.pa, .int .i64 t.dom, .int .i64 t.ap, .int .u32 t.bits, .bool t.ng, .bool t.xn], .agg #[.bool c.on, .bool c.tre, .bool c.afe, .int .i64 c.n, .bool c.pd0, .bool c.pd1, .int .u64 c.b0, .int .u64 c.b1, .int .u32 c.dacr, .int .u32 c.prrr, .int .u32 c.nmrr, .int .i64 c.asid], .int .i64 k] w fun e w' => e = .returned (.bool true) ∧ Below w.heap.size w w' :=
  law_check_core t c k w hT (chF t c) (fun priv k w hw => check_any t c priv k w hw hf ha) (fun priv k w => rcheck_any t c priv k w hf ha)
end Go.Proofs.YtmmocnejacflmabDoor
