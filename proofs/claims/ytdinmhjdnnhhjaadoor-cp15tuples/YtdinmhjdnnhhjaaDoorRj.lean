import Derived.Test.YtdinmhjdnnhhjaaDoorRi
namespace Go.Proofs.YtdinmhjdnnhhjaaDoor
open Go.RowKit
set_option linter.unusedVariables false
set_option linter.unusedSimpArgs false
theorem ctx_dec (r : Nat) (h : r < 13) : (decide ((r : Int) ≤ 4) = true ∧ (rg r).ctx = true) ∨ (decide ((r : Int) ≤ 4) = false ∧ decide (10 ≤ (r : Int)) = true ∧ (rg r).ctx = true) ∨ (decide ((r : Int) ≤ 4) = false ∧ decide (10 ≤ (r : Int)) = false ∧ (rg r).ctx = false) := by
  rcases upto13 r h with rfl | rfl | rfl | rfl | rfl | rfl | rfl | rfl | rfl | rfl | rfl | rfl | rfl <;> decide
set_option maxRecDepth 100000 in
set_option maxHeartbeats 4000000 in
theorem rwrite_regN (b x r : Nat) (t : Tu) (F : List Nat) (w : World) (hF : Fi 77 w b F) (hr : regOf t = some r) :
    Calls Tryd.prog 30 #[.pointer (some ⟨b, 0, none⟩), .agg #[.int .i64 t.a, .int .i64 t.b, .int .i64 t.c, .int .i64 t.d], .bool false, .int .u32 (x : Int)] w fun e w' => e = .returned (.tuple #[.agg #[.int .i64 aZ.k, .int .i64 aZ.tk, .int .u32 (aZ.tva : Nat), .int .i64 (aZ.tas : Nat), .int .u32 (aZ.va : Nat), .bool aZ.us, .bool aZ.st], .int .i64 81]) ∧ Fi 77 w' b F ∧ Turn (· = b) w w' := by
  have HX0 : Hid _ := RX.start w b t F hF
  have hreg := rregister_any t
  have hbar := rbarrier_any t
  rw [(op_none (reg_op hr)).1] at hbar
  rw [hr] at hreg
  clear hF hr
  go_enter Tryd.func30, Tryd.ntmps30
  go_wp2_with (fail)
  go_at_call 33
  refine (hreg _).mono ?_
  rintro e w1 ⟨rfl, hb⟩
  have HX1 : Hid _ := HX0.out.step hb
  clear hb HX0 hreg
  generalize w.heap.size + 1 = g at *
  have c0 := HX1.out.box.cell
  go_wp2_with (fail)
  go_at_call 36
  refine (hbar _).mono ?_
  rintro e w3 ⟨rfl, hb⟩
  have HX3 : Hid _ := HX1.out.step hb
  clear hb HX1 hbar c0
  have n0 := HX3.out.act.cell
  have n1 := HX3.out.act.frozen
  have n2 := HX3.out.act.lt
  have hgb : ¬ g = b := by have := HX3.out.new; have := HX3.out.old; omega
  have hn := HX3.out.new
  go_wp2
  refine bodyPost_ret (v := .tuple #[.agg #[.int .i64 aZ.k, .int .i64 aZ.tk, .int .u32 (aZ.tva : Nat), .int .i64 (aZ.tas : Nat), .int .u32 (aZ.va : Nat), .bool aZ.us, .bool aZ.st], .int .i64 81]) (by simp [results, Tryd.results30, go_sem, n0, n1, n2, aZ]) rfl ⟨rfl, ?_, ?_⟩
  · (repeat (with_reducible refine Fi.setO ?_ (Ne.symm hgb) _ _)); with_reducible exact HX3.out.fi
  · (repeat (with_reducible refine Turn.setCell ?_ (.inr (by simpa using hn)) _)); with_reducible exact Turn.below HX3.out.bel
set_option maxRecDepth 100000 in
set_option maxHeartbeats 4000000 in
theorem rwrite_regY (b x r : Nat) (t : Tu) (F : List Nat) (w : World) (hF : Fi 77 w b F) (hx : x < 4294967296) (hr : regOf t = some r) :
    Calls Tryd.prog 30 #[.pointer (some ⟨b, 0, none⟩), .agg #[.int .i64 t.a, .int .i64 t.b, .int .i64 t.c, .int .i64 t.d], .bool true, .int .u32 (x : Int)] w fun e w' => e = .returned (.tuple #[.agg #[.int .i64 ((if (rg r).ctx then aReg else aZ)).k, .int .i64 ((if (rg r).ctx then aReg else aZ)).tk, .int .u32 (((if (rg r).ctx then aReg else aZ)).tva : Nat), .int .i64 (((if (rg r).ctx then aReg else aZ)).tas : Nat), .int .u32 (((if (rg r).ctx then aReg else aZ)).va : Nat), .bool ((if (rg r).ctx then aReg else aZ)).us, .bool ((if (rg r).ctx then aReg else aZ)).st], .int .i64 0]) ∧ Fi 77 w' b (F.set r (keepW r x)) ∧ Turn (· = b) w w' := by
  have HX0 : Hid _ := RX.start w b t F hF
  have hreg := rregister_any t
  rw [hr] at hreg
  have hr13 := regOf_lt hr
  have hri : (r : Int) < 13 := by omega
  have hkp := fun w => rkept_any r w hr13
  have hy := and_kept_u r x hx
  have HY : Hid (keepW r x < 4294967296) := keepW_lt r x hx
  have hcd := ctx_dec r hr13
  have hri0 : (0 : Int) ≤ (r : Int) := by omega
  clear hF hr
  generalize keepW r x = y at *
  generalize (rg r).kept = K at *
  rcases hcd with ⟨d1, hc⟩ | ⟨d1, d2, hc⟩ | ⟨d1, d2, hc⟩
  all_goals
    rw [hc]
    clear hc
    go_enter Tryd.func30, Tryd.ntmps30
    go_wp2_with (fail)
    go_at_call 33
    refine (hreg _).mono ?_
    rintro e w1 ⟨rfl, hb⟩
    have HX1 : Hid _ := HX0.out.step hb
    clear hb HX0 hreg
    generalize w.heap.size + 1 = g at *
    have c0 := HX1.out.box.cell
    go_wp2
    refine wp_region_held_drew (S := fun _ => True) (by kernel_rfl) trivial (fun hHeld => ?_)
    refine wpAnyH_take (i := 0) (oi := { dst := some 38, op := Op.move (Operand.tmp 0), type := 57, pos := _, after := #[], guard := none }) (v := ?_) rfl (by kernel_rfl) (by kernel_rfl) (by kernel_rfl) (fun _ _ _ h => h) (Or.inl ⟨by rfl, ?_⟩) (by assumption) ?_
    rotate_left
    · (intro w hSw; (try dsimp only at hSw); go_simp; try with_reducible rfl)
    simp only [Act.put, List.setIfInBounds_toArray, List.set_cons_zero, List.set_cons_succ]
    refine wpAnyH_take (i := 1) (oi := { dst := some 39, op := Op.move (Operand.tmp 10), type := 3, pos := _, after := #[], guard := none }) (v := ?_) rfl (by kernel_rfl) (by kernel_rfl) (by kernel_rfl) (fun _ _ _ h => h) (Or.inl ⟨by rfl, ?_⟩) (by assumption) ?_
    rotate_left
    · (intro w hSw; (try dsimp only at hSw); go_simp; try with_reducible rfl)
    simp only [Act.put, List.setIfInBounds_toArray, List.set_cons_zero, List.set_cons_succ]
    refine wpAnyH_take (i := 2) (oi := { dst := some 40, op := Op.move (Operand.tmp 3), type := 28, pos := _, after := #[], guard := none }) (v := ?_) rfl (by kernel_rfl) (by kernel_rfl) (by kernel_rfl) (fun _ _ _ h => h) (Or.inl ⟨by rfl, ?_⟩) (by assumption) ?_
    rotate_left
    · (intro w hSw; (try dsimp only at hSw); go_simp; try with_reducible rfl)
    simp only [Act.put, List.setIfInBounds_toArray, List.set_cons_zero, List.set_cons_succ]
    refine wpAnyH_take (i := 3) (oi := { dst := some 41, op := Op.move (Operand.tmp 10), type := 3, pos := _, after := #[], guard := none }) (v := ?_) rfl (by kernel_rfl) (by kernel_rfl) (by kernel_rfl) (fun _ _ _ h => h) (Or.inl ⟨by rfl, ?_⟩) (by assumption) ?_
    rotate_left
    · (intro w hSw; (try dsimp only at hSw); go_simp; try with_reducible rfl)
    simp only [Act.put, List.setIfInBounds_toArray, List.set_cons_zero, List.set_cons_succ]
    refine wpAnyH_take (i := 6) (oi := { dst := some 44, op := Op.nilCheck (Operand.tmp 38), type := 0, pos := _, after := #[{ on := 0, ground := Ground.data }], guard := none }) (v := ?_) rfl (by kernel_rfl) (by kernel_rfl) (by kernel_rfl) (fun _ _ _ h => h) (Or.inl ⟨by rfl, ?_⟩) (by assumption) ?_
    rotate_left
    · (intro w hSw; (try dsimp only at hSw); go_simp; try with_reducible rfl)
    simp only [Act.put, List.setIfInBounds_toArray, List.set_cons_zero, List.set_cons_succ]
    refine wpAnyH_take (i := 7) (oi := { dst := some 45, op := Op.fieldAddr 77 (Operand.tmp 44) 0, type := 0, pos := _, after := #[{ on := 6, ground := Ground.data }], guard := none }) (v := ?_) rfl (by kernel_rfl) (by kernel_rfl) (by kernel_rfl) (fun _ _ _ h => h) (Or.inl ⟨by rfl, ?_⟩) (by assumption) ?_
    rotate_left
    · (intro w hSw; (try dsimp only at hSw); go_simp; try with_reducible rfl)
    simp only [Act.put, List.setIfInBounds_toArray, List.set_cons_zero, List.set_cons_succ]
    refine wpAnyH_ready (rs := [4]) (by kernel_rfl) (by simp) ?_
    refine AllReadyH.cons (o := { dst := some 42, op := Op.call { callee := Callee.value (Operand.func 38), args := #[Operand.tmp 41], argTypes := #[3] }, type := 28, pos := _, after := #[{ on := 3, ground := Ground.data }], guard := none }) rfl (fun K hK => ?_) AllReadyH.nil
    go_simp
    (go_at_call 38; refine (hkp _).mono ?_; rintro e w2 ⟨rfl, hb⟩; have HX2 : Hid (RX w w2 g b t F) := HX1.out.step (Below.step (below_drew (Below.refl _ _)) hb); have hc := HX2.out.fi.cell hr13; have hfz := HX2.out.fi.frozen r; have hlt := HX2.out.fi.lt; clear hb; go_wp2_with fail)
    refine hK.out _ _ ?_ (fun hHeld => ?_)
    · trivial
    clear hK K
    try simp only [Act.put, List.setIfInBounds_toArray, List.set_cons_zero, List.set_cons_succ]
    refine wpAnyH_take (i := 5) (oi := { dst := some 43, op := Op.binOp BinOp.and 28 (Operand.tmp 40) (Operand.tmp 42) 28, type := 28, pos := _, after := #[{ on := 2, ground := Ground.data }, { on := 4, ground := Ground.data }], guard := none }) (v := ?_) rfl (by kernel_rfl) (by kernel_rfl) (by kernel_rfl) (fun _ _ _ h => h) (Or.inl ⟨by rfl, ?_⟩) (by assumption) ?_
    rotate_left
    · (intro w hSw; (try dsimp only at hSw); go_simp; try with_reducible rfl)
    simp only [Act.put, List.setIfInBounds_toArray, List.set_cons_zero, List.set_cons_succ]
    refine wpAnyH_take (i := 8) (oi := { dst := some 46, op := Op.indexAddr 31 (Operand.tmp 45) (Operand.tmp 39), type := 0, pos := _, after := #[{ on := 7, ground := Ground.data }, { on := 1, ground := Ground.data }, { on := 0, ground := Ground.phase }, { on := 1, ground := Ground.phase }, { on := 2, ground := Ground.phase }, { on := 3, ground := Ground.phase }, { on := 4, ground := Ground.phase }, { on := 5, ground := Ground.phase }], guard := none }) (v := ?_) rfl (by kernel_rfl) (by kernel_rfl) (by kernel_rfl) (fun _ _ _ h => h) (Or.inl ⟨by rfl, ?_⟩) (by assumption) ?_
    rotate_left
    · (intro w hSw; (try dsimp only at hSw); go_simp; try with_reducible rfl)
    simp only [Act.put, List.setIfInBounds_toArray, List.set_cons_zero, List.set_cons_succ]
    refine wpAnyH_ready (rs := [9]) (by kernel_rfl) (by simp) ?_
    refine AllReadyH.cons (o := { dst := none, op := Op.store 28 (Operand.tmp 46) (Operand.tmp 43), type := 0, pos := _, after := #[{ on := 8, ground := Ground.data }, { on := 5, ground := Ground.data }, { on := 4, ground := Ground.chain }, { on := 0, ground := Ground.phase }, { on := 1, ground := Ground.phase }, { on := 2, ground := Ground.phase }, { on := 3, ground := Ground.phase }, { on := 4, ground := Ground.phase }, { on := 5, ground := Ground.phase }], guard := none }) rfl (fun K hK => ?_) AllReadyH.nil
    go_simp
    skip
    refine hK.out _ _ ?_ (fun hHeld => ?_)
    · trivial
    clear hK K
    try simp only [Act.put, List.setIfInBounds_toArray, List.set_cons_zero, List.set_cons_succ]
    refine wpAnyH_done (by kernel_rfl) ?_ _
    have hgb : ¬ g = b := by have := HX2.out.new; have := HX2.out.old; omega
    have hgb2 : ¬ b = g := fun e => hgb e.symm
    have n0 := HX2.out.act.cell
    have n1 := HX2.out.act.frozen
    have n2 := HX2.out.act.lt
    have hn := HX2.out.new
    have HFY : Hid (Fi 77 (w2.setCell ⟨b, r, none⟩ (.int .u32 (y : Int))) b (F.set r y)) := HX2.out.fi.set r y HY.out
    have HTY : Hid (Turn (· = b) w (w2.setCell ⟨b, r, none⟩ (.int .u32 (y : Int)))) := (Turn.below (S := (· = b)) HX2.out.bel).setCell (p := ⟨b, r, none⟩) (.inl rfl) _
    go_wp2
  · refine bodyPost_ret (v := .tuple #[.agg #[.int .i64 aReg.k, .int .i64 aReg.tk, .int .u32 (aReg.tva : Nat), .int .i64 (aReg.tas : Nat), .int .u32 (aReg.va : Nat), .bool aReg.us, .bool aReg.st], .int .i64 0]) (by simp [results, Tryd.results30, go_sem, n0, n1, n2, aReg, aZ, hgb, hgb2]) rfl ⟨rfl, ?_, ?_⟩
    · (repeat (with_reducible refine Fi.setO ?_ hgb2 _ _)); with_reducible exact HFY.out
    · (repeat (with_reducible refine Turn.setCell ?_ (.inr (by simpa using hn)) _)); with_reducible exact HTY.out
  · refine bodyPost_ret (v := .tuple #[.agg #[.int .i64 aReg.k, .int .i64 aReg.tk, .int .u32 (aReg.tva : Nat), .int .i64 (aReg.tas : Nat), .int .u32 (aReg.va : Nat), .bool aReg.us, .bool aReg.st], .int .i64 0]) (by simp [results, Tryd.results30, go_sem, n0, n1, n2, aReg, aZ, hgb, hgb2]) rfl ⟨rfl, ?_, ?_⟩
    · (repeat (with_reducible refine Fi.setO ?_ hgb2 _ _)); with_reducible exact HFY.out
    · (repeat (with_reducible refine Turn.setCell ?_ (.inr (by simpa using hn)) _)); with_reducible exact HTY.out
  · refine bodyPost_ret (v := .tuple #[.agg #[.int .i64 aZ.k, .int .i64 aZ.tk, .int .u32 (aZ.tva : Nat), .int .i64 (aZ.tas : Nat), .int .u32 (aZ.va : Nat), .bool aZ.us, .bool aZ.st], .int .i64 0]) (by simp [results, Tryd.results30, go_sem, n0, n1, n2, aZ, hgb, hgb2]) rfl ⟨rfl, ?_, ?_⟩
    · (repeat (with_reducible refine Fi.setO ?_ hgb2 _ _)); with_reducible exact HFY.out
    · (repeat (with_reducible refine Turn.setCell ?_ (.inr (by simpa using hn)) _)); with_reducible exact HTY.out
theorem rwrite_any (b x : Nat) (t : Tu) (priv : Bool) (F : List Nat) (w : World) (hF : Fi 77 w b F) (hx : x < 4294967296) :
    Calls Tryd.prog 30 #[.pointer (some ⟨b, 0, none⟩), .agg #[.int .i64 t.a, .int .i64 t.b, .int .i64 t.c, .int .i64 t.d], .bool priv, .int .u32 (x : Int)] w fun e w' => e = .returned (.tuple #[.agg #[.int .i64 ((wrF F t priv x).1).k, .int .i64 ((wrF F t priv x).1).tk, .int .u32 (((wrF F t priv x).1).tva : Nat), .int .i64 (((wrF F t priv x).1).tas : Nat), .int .u32 (((wrF F t priv x).1).va : Nat), .bool ((wrF F t priv x).1).us, .bool ((wrF F t priv x).1).st], .int .i64 ((wrF F t priv x).2.1 : Nat)]) ∧ Fi 77 w' b (wrF F t priv x).2.2 ∧ Turn (· = b) w w' := by
  cases hr : regOf t with
  | some r =>
    rw [wr_reg priv x hr]
    cases priv
    · exact rwrite_regN b x r t F w hF hr
    · exact rwrite_regY b x r t F w hF hx hr
  | none =>
    cases ho : opOf t with
    | none => rw [wr_none priv x hr ho]; exact rwrite_none b x t priv F w hF hr ho
    | some c =>
      cases hp : (priv || c == 8)
      · rw [wr_no priv x hr ho hp]
        obtain ⟨rfl, h8⟩ : priv = false ∧ ¬ c = 8 := by simpa using hp
        exact rwrite_no b x c t F w hF hr ho h8
      · rw [wr_yes priv x hr ho hp]
        exact rwrite_yes b x c t priv F w hF hx hr ho hp
end Go.Proofs.YtdinmhjdnnhhjaaDoor
