import Derived.Test.YtdinmhjdnnhhjaaDoorLr
namespace Go.Proofs.YtdinmhjdnnhhjaaDoor
open Go.RowKit
set_option linter.unusedVariables false
set_option linter.unusedSimpArgs false
set_option maxRecDepth 100000 in
set_option maxHeartbeats 4000000 in
theorem asked_3 (p q : Nat) (o : Opr) (F : List Nat) (w : World) (hB : Bx w p q F) (hk : o.k = 3) : AskGoal p q o F w := by
  have HB0 : Hid (Bx (w.alloc (.cells ([.int .i64 o.k, .int .i64 o.t.a, .int .i64 o.t.b, .int .i64 o.t.c, .int .i64 o.t.d, .bool o.priv, .int .u32 (o.w : Nat), .int .i64 o.reg]).toArray 30)) p q F) := hB.step (below_new _ _)
  have HT0 : Hid (Below w.heap.size w (w.alloc (.cells ([.int .i64 o.k, .int .i64 o.t.a, .int .i64 o.t.b, .int .i64 o.t.c, .int .i64 o.t.d, .bool o.priv, .int .u32 (o.w : Nat), .int .i64 o.reg]).toArray 30))) := below_new _ _
  have HR1 : Hid (∀ w, Fi 63 w p F → Calls Tryd.prog 15 #[.pointer (some ⟨p, 0, none⟩), .int .i64 o.reg] w fun e w' => e = .returned (.tuple #[.int .u32 ((gtF F o.reg).1 : Nat), .int .i64 ((gtF F o.reg).2 : Nat)]) ∧ w = w') := fun w h1 => get_any p F o.reg w h1
  have HR2 : Hid (∀ w, Fi 77 w q F → Calls Tryd.prog 31 #[.pointer (some ⟨q, 0, none⟩), .int .i64 o.reg] w fun e w' => e = .returned (.tuple #[.int .u32 ((gtF F o.reg).1 : Nat), .int .i64 ((gtF F o.reg).2 : Nat)]) ∧ w = w') := fun w h1 => rget_any q F o.reg w h1
  have HAs : Hid (asF F o = F) := by show _ = _; simp [asF, hk]
  unfold AskGoal
  rw [HAs.out]
  have hno := no_any
  clear hB HAs
  obtain ⟨k, ⟨a1, a2, a3, a4⟩, priv, x, reg⟩ := o
  dsimp only at *
  subst hk
  generalize gtF F reg = Z at *
  obtain ⟨z1, z2⟩ := Z
  go_enter Tryd.func22, Tryd.ntmps22
  go_wp2_with (fail)
  go_at_call 15
  refine (HR1.out _ HB0.out.f).mono ?_
  rintro e w1 ⟨rfl, rfl⟩
  go_wp2_with (fail)
  go_at_call 31
  refine (HR2.out _ HB0.out.g).mono ?_
  rintro e w2 ⟨rfl, rfl⟩
  clear HR1 HR2
  go_wp2_with (go_at_call 13; refine (hno _ _).mono ?_; rintro e w' ⟨rfl, rfl⟩)
  go_ret
  exact ⟨rfl, HB0.out, Turn.below HT0.out⟩
set_option maxRecDepth 100000 in
set_option maxHeartbeats 4000000 in
theorem asked_6 (p q : Nat) (o : Opr) (F : List Nat) (w : World) (hB : Bx w p q F) (hk : o.k = 6) : AskGoal p q o F w := by
  have HB0 : Hid (Bx (w.alloc (.cells ([.int .i64 o.k, .int .i64 o.t.a, .int .i64 o.t.b, .int .i64 o.t.c, .int .i64 o.t.d, .bool o.priv, .int .u32 (o.w : Nat), .int .i64 o.reg]).toArray 30)) p q F) := hB.step (below_new _ _)
  have HT0 : Hid (Below w.heap.size w (w.alloc (.cells ([.int .i64 o.k, .int .i64 o.t.a, .int .i64 o.t.b, .int .i64 o.t.c, .int .i64 o.t.d, .bool o.priv, .int .u32 (o.w : Nat), .int .i64 o.reg]).toArray 30))) := below_new _ _
  have HO0 : Hid (Bl (w.alloc (.cells ([.int .i64 o.k, .int .i64 o.t.a, .int .i64 o.t.b, .int .i64 o.t.c, .int .i64 o.t.d, .bool o.priv, .int .u32 (o.w : Nat), .int .i64 o.reg]).toArray 30)) w.heap.size 30 ([.int .i64 o.k, .int .i64 o.t.a, .int .i64 o.t.b, .int .i64 o.t.c, .int .i64 o.t.d, .bool o.priv, .int .u32 (o.w : Nat), .int .i64 o.reg])) := Bl.new _ _ _
  have HR1 : Hid (∀ w, TR w → Calls Tryd.prog 12 #[.agg #[.int .i64 (o.t).a, .int .i64 (o.t).b, .int .i64 (o.t).c, .int .i64 (o.t).d]] w fun e w' => e = .returned (.tuple #[.int .i64 ((regOf o.t).getD 0 : Nat), .bool (regOf o.t).isSome]) ∧ Below w.heap.size w w') := fun w h => register_any o.t w h
  have HR2 : Hid (∀ w, Calls Tryd.prog 33 #[.agg #[.int .i64 (o.t).a, .int .i64 (o.t).b, .int .i64 (o.t).c, .int .i64 (o.t).d]] w fun e w' => e = .returned (.tuple #[.int .i64 ((regOf o.t).getD 0 : Nat), .bool (regOf o.t).isSome]) ∧ Below w.heap.size w w') := fun w => rregister_any o.t w
  have HAs : Hid (asF F o = F) := by show _ = _; simp [asF, hk]
  unfold AskGoal
  rw [HAs.out]
  clear hB HAs
  obtain ⟨k, ⟨a1, a2, a3, a4⟩, priv, x, reg⟩ := o
  dsimp only at *
  subst hk
  generalize (regOf ⟨a1, a2, a3, a4⟩).getD 0 = z1 at *
  generalize (regOf ⟨a1, a2, a3, a4⟩).isSome = z2 at *
  go_enter Tryd.func22, Tryd.ntmps22
  go_wp2_with (fail)
  go_at_call 12
  refine (HR1.out _ HB0.out.tr).mono ?_
  rintro e w1 ⟨rfl, hb⟩
  have HB1 : Hid (Bx w1 p q F) := HB0.out.step hb
  have HT1 : Hid (Below w.heap.size w w1) := Below.step HT0.out hb
  have ob0 := (HO0.out.below hb).cell
  clear hb HB0 HT0 HO0 HR1
  go_wp2_with (fail)
  go_at_call 33
  refine (HR2.out _).mono ?_
  rintro e w2 ⟨rfl, hb⟩
  have HB2 : Hid (Bx w2 p q F) := HB1.out.step hb
  have HT2 : Hid (Below w.heap.size w w2) := Below.step HT1.out hb
  clear hb HB1 HT1 HR2 ob0
  go_wp2
  go_ret
  exact ⟨rfl, HB2.out, Turn.below HT2.out⟩
set_option maxRecDepth 100000 in
set_option maxHeartbeats 4000000 in
theorem asked_5 (p q : Nat) (o : Opr) (F : List Nat) (w : World) (hB : Bx w p q F) (h1 : ¬ o.k = 1) (h2 : ¬ o.k = 2) (h3 : ¬ o.k = 3) (h4 : ¬ o.k = 4) (h6 : ¬ o.k = 6) : AskGoal p q o F w := by
  have HB0 : Hid (Bx (w.alloc (.cells ([.int .i64 o.k, .int .i64 o.t.a, .int .i64 o.t.b, .int .i64 o.t.c, .int .i64 o.t.d, .bool o.priv, .int .u32 (o.w : Nat), .int .i64 o.reg]).toArray 30)) p q F) := hB.step (below_new _ _)
  have HT0 : Hid (Below w.heap.size w (w.alloc (.cells ([.int .i64 o.k, .int .i64 o.t.a, .int .i64 o.t.b, .int .i64 o.t.c, .int .i64 o.t.d, .bool o.priv, .int .u32 (o.w : Nat), .int .i64 o.reg]).toArray 30))) := below_new _ _
  have HC1 : Hid (∀ w, Fi 63 w p F → Calls Tryd.prog 19 #[.pointer (some ⟨p, 0, none⟩)] w fun e w' => e = .returned (.agg #[.bool ((ctF F)).on, .bool ((ctF F)).tre, .bool ((ctF F)).afe, .int .i64 (((ctF F)).n : Nat), .bool ((ctF F)).pd0, .bool ((ctF F)).pd1, .int .u64 (((ctF F)).b0 : Nat), .int .u64 (((ctF F)).b1 : Nat), .int .u32 (((ctF F)).dacr : Nat), .int .u32 (((ctF F)).prrr : Nat), .int .u32 (((ctF F)).nmrr : Nat), .int .i64 (((ctF F)).asid : Nat)]) ∧ Below w.heap.size w w') := fun w h => context_any p F w h
  have HC2 : Hid (∀ w, Fi 77 w q F → Calls Tryd.prog 28 #[.pointer (some ⟨q, 0, none⟩)] w fun e w' => e = .returned (.agg #[.bool ((ctF F)).on, .bool ((ctF F)).tre, .bool ((ctF F)).afe, .int .i64 (((ctF F)).n : Nat), .bool ((ctF F)).pd0, .bool ((ctF F)).pd1, .int .u64 (((ctF F)).b0 : Nat), .int .u64 (((ctF F)).b1 : Nat), .int .u32 (((ctF F)).dacr : Nat), .int .u32 (((ctF F)).prrr : Nat), .int .u32 (((ctF F)).nmrr : Nat), .int .i64 (((ctF F)).asid : Nat)]) ∧ Below w.heap.size w w') := fun w h => rcontext_any q F w h
  have heq := eqX (ctF F)
  have HAs : Hid (asF F o = F) := by show _ = _; simp [asF, h2, h4]
  unfold AskGoal
  rw [HAs.out]
  have j1 : (o.k == 1) = false := by simp [h1]
  have j2 : (o.k == 2) = false := by simp [h2]
  have j3 : (o.k == 3) = false := by simp [h3]
  have j4 : (o.k == 4) = false := by simp [h4]
  have j6 : (o.k == 6) = false := by simp [h6]
  clear hB HAs h1 h2 h3 h4 h6
  generalize ctF F = C at *
  go_enter Tryd.func22, Tryd.ntmps22
  go_wp2_with (fail)
  go_at_call 19
  refine (HC1.out _ HB0.out.f).mono ?_
  rintro e w1 ⟨rfl, hb⟩
  have HB1 : Hid (Bx w1 p q F) := HB0.out.step hb
  have HT1 : Hid (Below w.heap.size w w1) := Below.step HT0.out hb
  clear hb HB0 HT0 HC1
  go_wp2_with (fail)
  go_at_call 28
  refine (HC2.out _ HB1.out.g).mono ?_
  rintro e w2 ⟨rfl, hb⟩
  have HB2 : Hid (Bx w2 p q F) := HB1.out.step hb
  have HT2 : Hid (Below w.heap.size w w2) := Below.step HT1.out hb
  clear hb HB1 HT1 HC2
  go_wp2
  go_ret
  exact ⟨rfl, HB2.out, Turn.below HT2.out⟩
set_option maxRecDepth 100000 in
set_option maxHeartbeats 4000000 in
theorem asked_4 (p q : Nat) (o : Opr) (F : List Nat) (w : World) (hB : Bx w p q F) (hk : o.k = 4) (hx : o.w < 4294967296) : AskGoal p q o F w := by
  have HB0 : Hid (Bx (w.alloc (.cells ([.int .i64 o.k, .int .i64 o.t.a, .int .i64 o.t.b, .int .i64 o.t.c, .int .i64 o.t.d, .bool o.priv, .int .u32 (o.w : Nat), .int .i64 o.reg]).toArray 30)) p q F) := hB.step (below_new _ _)
  have HT0 : Hid (Below w.heap.size w (w.alloc (.cells ([.int .i64 o.k, .int .i64 o.t.a, .int .i64 o.t.b, .int .i64 o.t.c, .int .i64 o.t.d, .bool o.priv, .int .u32 (o.w : Nat), .int .i64 o.reg]).toArray 30))) := below_new _ _
  have HO0 : Hid (Bl (w.alloc (.cells ([.int .i64 o.k, .int .i64 o.t.a, .int .i64 o.t.b, .int .i64 o.t.c, .int .i64 o.t.d, .bool o.priv, .int .u32 (o.w : Nat), .int .i64 o.reg]).toArray 30)) w.heap.size 30 ([.int .i64 o.k, .int .i64 o.t.a, .int .i64 o.t.b, .int .i64 o.t.c, .int .i64 o.t.d, .bool o.priv, .int .u32 (o.w : Nat), .int .i64 o.reg])) := Bl.new _ _ _
  have hpl := hB.f.lt
  have hql := hB.g.lt
  have HR1 : Hid (∀ w, Fi 63 w p F → TR w → Calls Tryd.prog 14 #[.pointer (some ⟨p, 0, none⟩), .int .i64 o.reg, .int .u32 (o.w : Nat)] w fun e w' => e = .returned (.int .i64 (ptE o.reg : Nat)) ∧ Fi 63 w' p (ptF F o.reg o.w) ∧ Turn (· = p) w w') := fun w h1 h2 => put_any p F o.reg o.w w h1 h2 hx
  have HR2 : Hid (∀ w, Fi 77 w q F → Calls Tryd.prog 32 #[.pointer (some ⟨q, 0, none⟩), .int .i64 o.reg, .int .u32 (o.w : Nat)] w fun e w' => e = .returned (.int .i64 (ptE o.reg : Nat)) ∧ Fi 77 w' q (ptF F o.reg o.w) ∧ Turn (· = q) w w') := fun w h1 => rput_any q F o.reg o.w w h1 hx
  have HAs : Hid (asF F o = ptF F o.reg o.w) := by show _ = _; simp [asF, hk]
  unfold AskGoal
  rw [HAs.out]
  have hno := no_any
  clear hB HAs
  obtain ⟨k, ⟨a1, a2, a3, a4⟩, priv, x, reg⟩ := o
  dsimp only at *
  subst hk
  generalize ptF F reg x = G at *
  generalize ptE reg = z8 at *
  have HZ : Hid (∀ w' : World, Bl w' w.heap.size 30 [.int .i64 4, .int .i64 a1, .int .i64 a2, .int .i64 a3, .int .i64 a4, .bool priv, .int .u32 (x : Nat), .int .i64 reg] → w'.cell? ⟨w.heap.size, 7, none⟩ = some (.int .i64 reg) ∧ w'.cell? ⟨w.heap.size, 6, none⟩ = some (.int .u32 (x : Nat))) := fun w' h => ⟨by rw [h.cell]; rfl, by rw [h.cell]; rfl⟩
  have hnp : ¬ w.heap.size = p := by omega
  have hnq : ¬ w.heap.size = q := by omega
  go_enter Tryd.func22, Tryd.ntmps22
  go_wp2
  refine wp_region_held_drew (S := fun w' => w'.cell? ⟨w.heap.size, 7, none⟩ = some (.int .i64 reg) ∧ w'.cell? ⟨w.heap.size, 6, none⟩ = some (.int .u32 (x : Nat))) (by kernel_rfl) (HZ.out _ HO0.out.drew) (fun hHeld => ?_)
  refine wpAnyH_take (i := 0) (oi := { dst := some 114, op := Op.move (Operand.tmp 0), type := 23, pos := _, after := #[], guard := none }) (v := ?_) rfl (by kernel_rfl) (by kernel_rfl) (by kernel_rfl) (fun _ _ _ h => h) (Or.inl ⟨by rfl, ?_⟩) (by assumption) ?_
  rotate_left
  · (intro w hSw; (try dsimp only at hSw); go_simp; try with_reducible rfl)
  simp only [Act.put, List.setIfInBounds_toArray, List.set_cons_zero, List.set_cons_succ]
  refine wpAnyH_take (i := 1) (oi := { dst := some 115, op := Op.fieldAddr 30 (Operand.tmp 5) 4, type := 0, pos := _, after := #[], guard := none }) (v := ?_) rfl (by kernel_rfl) (by kernel_rfl) (by kernel_rfl) (fun _ _ _ h => h) (Or.inl ⟨by rfl, ?_⟩) (by assumption) ?_
  rotate_left
  · (intro w hSw; (try dsimp only at hSw); go_simp; try with_reducible rfl)
  simp only [Act.put, List.setIfInBounds_toArray, List.set_cons_zero, List.set_cons_succ]
  refine wpAnyH_take (i := 2) (oi := { dst := some 116, op := Op.load 3 (Operand.tmp 115), type := 3, pos := _, after := #[{ on := 1, ground := Ground.data }], guard := none }) (v := ?_) rfl (by kernel_rfl) (by kernel_rfl) (by kernel_rfl) (fun _ _ _ h => h) (Or.inl ⟨by rfl, ?_⟩) (by assumption) ?_
  rotate_left
  · (intro w hSw; (try dsimp only at hSw); go_simp; try with_reducible rfl)
  simp only [Act.put, List.setIfInBounds_toArray, List.set_cons_zero, List.set_cons_succ]
  refine wpAnyH_take (i := 3) (oi := { dst := some 117, op := Op.fieldAddr 30 (Operand.tmp 5) 3, type := 0, pos := _, after := #[], guard := none }) (v := ?_) rfl (by kernel_rfl) (by kernel_rfl) (by kernel_rfl) (fun _ _ _ h => h) (Or.inl ⟨by rfl, ?_⟩) (by assumption) ?_
  rotate_left
  · (intro w hSw; (try dsimp only at hSw); go_simp; try with_reducible rfl)
  simp only [Act.put, List.setIfInBounds_toArray, List.set_cons_zero, List.set_cons_succ]
  refine wpAnyH_take (i := 4) (oi := { dst := some 118, op := Op.load 28 (Operand.tmp 117), type := 28, pos := _, after := #[{ on := 3, ground := Ground.data }], guard := none }) (v := ?_) rfl (by kernel_rfl) (by kernel_rfl) (by kernel_rfl) (fun _ _ _ h => h) (Or.inl ⟨by rfl, ?_⟩) (by assumption) ?_
  rotate_left
  · (intro w hSw; (try dsimp only at hSw); go_simp; try with_reducible rfl)
  simp only [Act.put, List.setIfInBounds_toArray, List.set_cons_zero, List.set_cons_succ]
  refine wpAnyH_take (i := 7) (oi := { dst := some 121, op := Op.move (Operand.tmp 1), type := 57, pos := _, after := #[], guard := none }) (v := ?_) rfl (by kernel_rfl) (by kernel_rfl) (by kernel_rfl) (fun _ _ _ h => h) (Or.inl ⟨by rfl, ?_⟩) (by assumption) ?_
  rotate_left
  · (intro w hSw; (try dsimp only at hSw); go_simp; try with_reducible rfl)
  simp only [Act.put, List.setIfInBounds_toArray, List.set_cons_zero, List.set_cons_succ]
  refine wpAnyH_take (i := 8) (oi := { dst := some 122, op := Op.fieldAddr 30 (Operand.tmp 5) 4, type := 0, pos := _, after := #[], guard := none }) (v := ?_) rfl (by kernel_rfl) (by kernel_rfl) (by kernel_rfl) (fun _ _ _ h => h) (Or.inl ⟨by rfl, ?_⟩) (by assumption) ?_
  rotate_left
  · (intro w hSw; (try dsimp only at hSw); go_simp; try with_reducible rfl)
  simp only [Act.put, List.setIfInBounds_toArray, List.set_cons_zero, List.set_cons_succ]
  refine wpAnyH_take (i := 9) (oi := { dst := some 123, op := Op.load 3 (Operand.tmp 122), type := 3, pos := _, after := #[{ on := 8, ground := Ground.data }], guard := none }) (v := ?_) rfl (by kernel_rfl) (by kernel_rfl) (by kernel_rfl) (fun _ _ _ h => h) (Or.inl ⟨by rfl, ?_⟩) (by assumption) ?_
  rotate_left
  · (intro w hSw; (try dsimp only at hSw); go_simp; try with_reducible rfl)
  simp only [Act.put, List.setIfInBounds_toArray, List.set_cons_zero, List.set_cons_succ]
  refine wpAnyH_take (i := 10) (oi := { dst := some 124, op := Op.fieldAddr 30 (Operand.tmp 5) 3, type := 0, pos := _, after := #[], guard := none }) (v := ?_) rfl (by kernel_rfl) (by kernel_rfl) (by kernel_rfl) (fun _ _ _ h => h) (Or.inl ⟨by rfl, ?_⟩) (by assumption) ?_
  rotate_left
  · (intro w hSw; (try dsimp only at hSw); go_simp; try with_reducible rfl)
  simp only [Act.put, List.setIfInBounds_toArray, List.set_cons_zero, List.set_cons_succ]
  refine wpAnyH_take (i := 11) (oi := { dst := some 125, op := Op.load 28 (Operand.tmp 124), type := 28, pos := _, after := #[{ on := 10, ground := Ground.data }], guard := none }) (v := ?_) rfl (by kernel_rfl) (by kernel_rfl) (by kernel_rfl) (fun _ _ _ h => h) (Or.inl ⟨by rfl, ?_⟩) (by assumption) ?_
  rotate_left
  · (intro w hSw; (try dsimp only at hSw); go_simp; try with_reducible rfl)
  simp only [Act.put, List.setIfInBounds_toArray, List.set_cons_zero, List.set_cons_succ]
  refine wpAnyH_ready (rs := [5]) (by kernel_rfl) (by simp) ?_
  refine AllReadyH.cons (o := { dst := some 119, op := Op.call { callee := Callee.value (Operand.func 14), args := #[Operand.tmp 114, Operand.tmp 116, Operand.tmp 118], argTypes := #[23, 3, 28] }, type := 37, pos := _, after := #[{ on := 0, ground := Ground.data }, { on := 2, ground := Ground.data }, { on := 4, ground := Ground.data }], guard := none }) rfl (fun K hK => ?_) AllReadyH.nil
  go_simp
  (go_at_call 14; refine (HR1.out _ HB0.out.f.drew (HB0.out.step (below_drew (Below.refl _ _))).tr).mono ?_; rintro e w1 ⟨rfl, hf, ht⟩; have HB1 : Hid (Hx2 w1 p q F G) := (HB0.out.step (below_drew (Below.refl _ _))).half hf ht; have HT1 : Hid (Turn (PQ p q) w w1) := (Turn.below (below_drew HT0.out)).then ht.onP; have HO1 : Hid (Bl w1 w.heap.size 30 [.int .i64 4, .int .i64 a1, .int .i64 a2, .int .i64 a3, .int .i64 a4, .bool priv, .int .u32 (x : Nat), .int .i64 reg]) := HO0.out.drew.turn ht hnp; clear hf ht; go_wp2_with fail)
  refine hK.out _ _ ?_ (fun hHeld => ?_)
  · ((try dsimp only); (first | exact HZ.out _ HO2.out | exact HZ.out _ HO1.out))
  clear hK K
  try simp only [Act.put, List.setIfInBounds_toArray, List.set_cons_zero, List.set_cons_succ]
  refine wpAnyH_ready (rs := [6]) (by kernel_rfl) (by simp) ?_
  refine AllReadyH.cons (o := { dst := some 120, op := Op.call { callee := Callee.value (Operand.func 13), args := #[Operand.tmp 119], argTypes := #[37] }, type := 3, pos := _, after := #[{ on := 5, ground := Ground.data }, { on := 5, ground := Ground.chain }], guard := none }) rfl (fun K hK => ?_) AllReadyH.nil
  go_simp
  (go_at_call 13; refine (hno _ _).mono ?_; rintro e w' ⟨rfl, rfl⟩; go_wp2_with fail)
  refine hK.out _ _ ?_ (fun hHeld => ?_)
  · ((try dsimp only); (first | exact HZ.out _ HO2.out | exact HZ.out _ HO1.out))
  clear hK K
  try simp only [Act.put, List.setIfInBounds_toArray, List.set_cons_zero, List.set_cons_succ]
  refine wpAnyH_ready (rs := [12]) (by kernel_rfl) (by simp) ?_
  refine AllReadyH.cons (o := { dst := some 126, op := Op.call { callee := Callee.value (Operand.func 32), args := #[Operand.tmp 121, Operand.tmp 123, Operand.tmp 125], argTypes := #[57, 3, 28] }, type := 3, pos := _, after := #[{ on := 7, ground := Ground.data }, { on := 9, ground := Ground.data }, { on := 11, ground := Ground.data }, { on := 6, ground := Ground.chain }], guard := none }) rfl (fun K hK => ?_) AllReadyH.nil
  go_simp
  (go_at_call 32; refine (HR2.out _ HB1.out.g).mono ?_; rintro e w2 ⟨rfl, hf, ht⟩; have HB2 : Hid (Bx w2 p q G) := HB1.out.full hf ht; have HT2 : Hid (Turn (PQ p q) w w2) := HT1.out.then ht.onQ; have HO2 : Hid (Bl w2 w.heap.size 30 [.int .i64 4, .int .i64 a1, .int .i64 a2, .int .i64 a3, .int .i64 a4, .bool priv, .int .u32 (x : Nat), .int .i64 reg]) := HO1.out.turn ht hnq; clear hf ht; go_wp2_with fail)
  refine hK.out _ _ ?_ (fun hHeld => ?_)
  · ((try dsimp only); (first | exact HZ.out _ HO2.out | exact HZ.out _ HO1.out))
  clear hK K
  try simp only [Act.put, List.setIfInBounds_toArray, List.set_cons_zero, List.set_cons_succ]
  refine wpAnyH_take (i := 13) (oi := { dst := some 127, op := Op.binOp BinOp.eql 3 (Operand.tmp 120) (Operand.tmp 126) 3, type := 4, pos := _, after := #[{ on := 6, ground := Ground.data }, { on := 12, ground := Ground.data }], guard := none }) (v := ?_) rfl (by kernel_rfl) (by kernel_rfl) (by kernel_rfl) (fun _ _ _ h => h) (Or.inl ⟨by rfl, ?_⟩) (by assumption) ?_
  rotate_left
  · (intro w hSw; (try dsimp only at hSw); go_simp; try with_reducible rfl)
  simp only [Act.put, List.setIfInBounds_toArray, List.set_cons_zero, List.set_cons_succ]
  refine wpAnyH_take (i := 14) (oi := { dst := some 6, op := Op.assign (Operand.tmp 127), type := 4, pos := _, after := #[{ on := 13, ground := Ground.data }, { on := 12, ground := Ground.chain }, { on := 0, ground := Ground.phase }, { on := 1, ground := Ground.phase }, { on := 2, ground := Ground.phase }, { on := 3, ground := Ground.phase }, { on := 4, ground := Ground.phase }, { on := 5, ground := Ground.phase }, { on := 6, ground := Ground.phase }, { on := 7, ground := Ground.phase }, { on := 8, ground := Ground.phase }, { on := 9, ground := Ground.phase }, { on := 10, ground := Ground.phase }, { on := 11, ground := Ground.phase }, { on := 12, ground := Ground.phase }, { on := 13, ground := Ground.phase }], guard := none }) (v := ?_) rfl (by kernel_rfl) (by kernel_rfl) (by kernel_rfl) (fun _ _ _ h => h) (Or.inl ⟨by rfl, ?_⟩) (by assumption) ?_
  rotate_left
  · (intro w hSw; (try dsimp only at hSw); go_simp; try with_reducible rfl)
  simp only [Act.put, List.setIfInBounds_toArray, List.set_cons_zero, List.set_cons_succ]
  refine wpAnyH_done (by kernel_rfl) ?_ _
  go_wp2
  go_ret
  exact ⟨rfl, HB2.out, HT2.out⟩
theorem asked_any (p q : Nat) (o : Opr) (F : List Nat) (w : World) (hB : Bx w p q F) (hx : o.w < 4294967296) : AskGoal p q o F w := by
  by_cases h1 : o.k = 1
  · exact asked_1 p q o F w hB h1
  · by_cases h2 : o.k = 2
    · exact asked_2 p q o F w hB h2 hx
    · by_cases h3 : o.k = 3
      · exact asked_3 p q o F w hB h3
      · by_cases h4 : o.k = 4
        · exact asked_4 p q o F w hB h4 hx
        · by_cases h6 : o.k = 6
          · exact asked_6 p q o F w hB h6
          · exact asked_5 p q o F w hB h1 h2 h3 h4 h6
end Go.Proofs.YtdinmhjdnnhhjaaDoor
