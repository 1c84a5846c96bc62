import Derived.Test.YtkmgmmmpiallhaaDoorRs
namespace Go.Proofs.YtkmgmmmpiallhaaDoor
open Go.RowKit
set_option linter.unusedVariables false
set_option linter.unusedSimpArgs false
def restW (LY : Int → Nat → Nat → Nat) (ps : List (Int × Nat)) (k acc : Nat) : Nat := (ps.drop k).foldl (fun a p => LY p.1 a p.2) acc
theorem WX.drew {W w : World} {R I : List Value} (h : WX W R I w) : WX W R I w.drew := ⟨below_drew h.bel, h.row.drew, h.ins.drew⟩
theorem ww_cells {W w : World} {a b c x0 x1 x2 x3 x4 x5 x6 x7 x8 x9 x10 x11 x12 x13 x14 x15 x16 x17 x18 x19 : Value} (h : WX W [a, b, c] [x0, x1, x2, x3, x4, x5, x6, x7, x8, x9, x10, x11, x12, x13, x14, x15, x16, x17, x18, x19] w) :
    w.cell? ⟨W.heap.size + 1, 0, none⟩ = some x0 ∧ w.cell? ⟨W.heap.size + 1, 1, none⟩ = some x1 ∧ w.cell? ⟨W.heap.size + 1, 2, none⟩ = some x2 ∧ w.cell? ⟨W.heap.size + 1, 4, none⟩ = some x4 ∧ w.cell? ⟨W.heap.size + 1, 5, none⟩ = some x5 ∧ w.cell? ⟨W.heap.size + 1, 6, none⟩ = some x6 ∧ w.cell? ⟨W.heap.size + 1, 7, none⟩ = some x7 ∧ w.cell? ⟨W.heap.size + 1, 8, none⟩ = some x8 ∧ w.cell? ⟨W.heap.size + 1, 9, none⟩ = some x9 ∧ w.cell? ⟨W.heap.size + 1, 10, none⟩ = some x10 ∧ w.cell? ⟨W.heap.size + 1, 11, none⟩ = some x11 ∧ w.cell? ⟨W.heap.size + 1, 12, none⟩ = some x12 ∧ w.cell? ⟨W.heap.size + 1, 13, none⟩ = some x13 ∧ w.cell? ⟨W.heap.size + 1, 14, none⟩ = some x14 ∧ w.cell? ⟨W.heap.size + 1, 15, none⟩ = some x15 ∧ w.cell? ⟨W.heap.size + 1, 16, none⟩ = some x16 ∧ w.cell? ⟨W.heap.size + 1, 17, none⟩ = some x17 ∧ w.cell? ⟨W.heap.size + 1, 18, none⟩ = some x18 ∧ w.cell? ⟨W.heap.size + 1, 19, none⟩ = some x19 :=
  ⟨h.ins.cell 0, h.ins.cell 1, h.ins.cell 2, h.ins.cell 4, h.ins.cell 5, h.ins.cell 6, h.ins.cell 7, h.ins.cell 8, h.ins.cell 9, h.ins.cell 10, h.ins.cell 11, h.ins.cell 12, h.ins.cell 13, h.ins.cell 14, h.ins.cell 15, h.ins.cell 16, h.ins.cell 17, h.ins.cell 18, h.ins.cell 19⟩
theorem ww_cells9 {W w : World} {a b c x0 x1 x2 x3 x4 x5 x6 x7 x8 x9 x10 x11 x12 x13 x14 x15 x16 x17 x18 x19 : Value} (h : WX W [a, b, c] [x0, x1, x2, x3, x4, x5, x6, x7, x8, x9, x10, x11, x12, x13, x14, x15, x16, x17, x18, x19] w) :
    w.cell? ⟨W.heap.size + 1, 0, none⟩ = some x0 ∧ w.cell? ⟨W.heap.size + 1, 1, none⟩ = some x1 ∧ w.cell? ⟨W.heap.size + 1, 2, none⟩ = some x2 ∧ w.cell? ⟨W.heap.size + 1, 4, none⟩ = some x4 ∧ w.cell? ⟨W.heap.size + 1, 5, none⟩ = some x5 ∧ w.cell? ⟨W.heap.size + 1, 6, none⟩ = some x6 ∧ w.cell? ⟨W.heap.size + 1, 7, none⟩ = some x7 ∧ w.cell? ⟨W.heap.size + 1, 8, none⟩ = some x8 ∧ w.cell? ⟨W.heap.size + 1, 10, none⟩ = some x10 ∧ w.cell? ⟨W.heap.size + 1, 11, none⟩ = some x11 ∧ w.cell? ⟨W.heap.size + 1, 12, none⟩ = some x12 ∧ w.cell? ⟨W.heap.size + 1, 13, none⟩ = some x13 ∧ w.cell? ⟨W.heap.size + 1, 14, none⟩ = some x14 ∧ w.cell? ⟨W.heap.size + 1, 15, none⟩ = some x15 ∧ w.cell? ⟨W.heap.size + 1, 16, none⟩ = some x16 ∧ w.cell? ⟨W.heap.size + 1, 17, none⟩ = some x17 ∧ w.cell? ⟨W.heap.size + 1, 18, none⟩ = some x18 ∧ w.cell? ⟨W.heap.size + 1, 19, none⟩ = some x19 :=
  ⟨h.ins.cell 0, h.ins.cell 1, h.ins.cell 2, h.ins.cell 4, h.ins.cell 5, h.ins.cell 6, h.ins.cell 7, h.ins.cell 8, h.ins.cell 10, h.ins.cell 11, h.ins.cell 12, h.ins.cell 13, h.ins.cell 14, h.ins.cell 15, h.ins.cell 16, h.ins.cell 17, h.ins.cell 18, h.ins.cell 19⟩
theorem vw_cells {w : World} {p : Nat} {x0 x1 x2 x3 x4 x5 x6 x7 x8 x9 x10 x11 x12 x13 x14 x15 x16 x17 x18 : Value} (h : Bl w p 22 [x0, x1, x2, x3, x4, x5, x6, x7, x8, x9, x10, x11, x12, x13, x14, x15, x16, x17, x18]) :
    w.cell? ⟨p, 0, none⟩ = some x0 ∧ w.cell? ⟨p, 1, none⟩ = some x1 ∧ w.cell? ⟨p, 2, none⟩ = some x2 ∧ w.cell? ⟨p, 3, none⟩ = some x3 ∧ w.cell? ⟨p, 4, none⟩ = some x4 ∧ w.cell? ⟨p, 5, none⟩ = some x5 ∧ w.cell? ⟨p, 6, none⟩ = some x6 ∧ w.cell? ⟨p, 7, none⟩ = some x7 ∧ w.cell? ⟨p, 8, none⟩ = some x8 ∧ w.cell? ⟨p, 9, none⟩ = some x9 ∧ w.cell? ⟨p, 10, none⟩ = some x10 ∧ w.cell? ⟨p, 11, none⟩ = some x11 ∧ w.cell? ⟨p, 12, none⟩ = some x12 ∧ w.cell? ⟨p, 13, none⟩ = some x13 ∧ w.cell? ⟨p, 14, none⟩ = some x14 ∧ w.cell? ⟨p, 15, none⟩ = some x15 ∧ w.cell? ⟨p, 16, none⟩ = some x16 ∧ w.cell? ⟨p, 17, none⟩ = some x17 ∧ w.cell? ⟨p, 18, none⟩ = some x18 :=
  ⟨h.cell 0, h.cell 1, h.cell 2, h.cell 3, h.cell 4, h.cell 5, h.cell 6, h.cell 7, h.cell 8, h.cell 9, h.cell 10, h.cell 11, h.cell 12, h.cell 13, h.cell 14, h.cell 15, h.cell 16, h.cell 17, h.cell 18⟩
set_option maxRecDepth 100000 in
set_option maxHeartbeats 8000000 in
theorem word_core (o : Value) (q : Int) (s : ByteArray) (jc jo jf jd jn jm jr ja ji jt jk jl jx jy jz jv : Int) (js jp ju jw : Bool) (w : World) (LY : Int → Nat → Nat → Nat) (BT : Bool → Nat) (v0 v1 v2 v3 v4 v5 v6 v7 v8 v9 v10 v11 v12 v13 v14 a0 TOT : Nat) (OM : Int)
    (H0 : Hid (∀ w', Calls Tryd.prog 55 #[.string s, .int .u8 49, .int .u32 0, .int .u32 4294967295] w' fun e w'' => e = .returned (.int .u32 (a0 : Int)) ∧ w'' = w'))
    (HLY : Hid (∀ (K : Int) (acc v : Nat) w', 0 ≤ K → K < 256 → K ≠ 32 → acc < 4294967296 → v < 4294967296 → Calls Tryd.prog 55 #[.string s, .int .u8 K, .int .u32 (acc : Int), .int .u32 (v : Int)] w' fun e w'' => e = .returned (.int .u32 (LY K acc v : Int)) ∧ w'' = w'))
    (HLT : Hid (∀ K acc v, LY K acc v < 4294967296)) (ha0 : Hid (a0 < 4294967296))
    (HB : Hid (∀ b w', Calls Tryd.prog 56 #[.bool b] w' fun e w'' => e = .returned (.int .u32 (BT b : Int)) ∧ w'' = w'))
    (e0 : IntKind.u32.wrap jc = (v0 : Int)) (eo : IntKind.i64.wrap (jo - 1) = OM) (eo' : wrap64 (jo - 1) = OM) (e1 : IntKind.u32.wrap OM = (v1 : Int)) (e2 : IntKind.u32.wrap jd = (v2 : Int)) (e3 : IntKind.u32.wrap jn = (v3 : Int)) (e4 : IntKind.u32.wrap jm = (v4 : Int)) (e5 : IntKind.u32.wrap jr = (v5 : Int)) (e6 : IntKind.u32.wrap ja = (v6 : Int)) (e7 : IntKind.u32.wrap jt = (v7 : Int)) (e8 : IntKind.u32.wrap jk = (v8 : Int)) (e9 : IntKind.u32.wrap jx = (v9 : Int)) (e10 : IntKind.u32.wrap jy = (v10 : Int)) (e11 : IntKind.u32.wrap jz = (v11 : Int)) (e12 : IntKind.u32.wrap jv = (v12 : Int)) (e13 : IntKind.u32.wrap jl = (v13 : Int))
    (A Bb : Bool) (h41 : (jo == 41) = A) (h42 : (jo == 42) = Bb) (hAB : (A && Bb) = false) (vi : Nat) (e14 : ji = (vi : Int)) (eN : (A || Bb) = false → (vi : Int) = (v14 : Int)) (eB : (A || Bb) = true → (vi : Int) / 4 = (v14 : Int) ∧ (vi : Int).tdiv 4 = (v14 : Int) ∧ (v14 : Int) % 4294967296 = (v14 : Int))
    (HV : Hid (∀ v ∈ [v0, v1, v2, v3, v4, v5, v6, v7, v8, v9, v10, v11, v12, v13, v14, BT js, BT jp, BT ju, BT jw], v < 4294967296))
    (HT : Hid (restW LY [(99, v0), (111, v1), (100, v2), (110, v3), (109, v4), (114, v5), (97, v6), (116, v7), (107, v8), (120, v9), (121, v10), (122, v11), (118, v12), (108, v13), (105, v14), (115, BT js), (112, BT jp), (117, BT ju), (119, BT jw)] 0 a0 = TOT)) :
    Calls Tryd.prog 37 #[.agg #[o, .int .i64 q, .string s], .agg #[.int .i64 jc, .int .i64 jo, .bool js, .int .i64 jf, .int .i64 jd, .int .i64 jn, .int .i64 jm, .int .i64 jr, .int .i64 ja, .int .u32 ji, .int .i64 jt, .int .i64 jk, .bool jp, .bool ju, .bool jw, .int .u16 jl, .int .i64 jx, .int .i64 jy, .int .i64 jz, .int .i64 jv]] w fun e w' => e = .returned (.int .u32 (TOT : Int)) ∧ Below w.heap.size w w' := by
  have HX := hidW (WX.first w [o, .int .i64 q, .string s] ([.int .i64 jc, .int .i64 jo, .bool js, .int .i64 jf, .int .i64 jd, .int .i64 jn, .int .i64 jm, .int .i64 jr, .int .i64 ja, .int .u32 ji, .int .i64 jt, .int .i64 jk, .bool jp, .bool ju, .bool jw, .int .u16 jl, .int .i64 jx, .int .i64 jy, .int .i64 jz, .int .i64 jv]))
  obtain ⟨m0, m1, m2, m4, m5, m6, m7, m8, m9, m10, m11, m12, m13, m14, m15, m16, m17, m18, m19⟩ := ww_cells HX.out
  subst e14
  cases A <;> cases Bb
  case true.true => cases hAB
  all_goals first | (have f0 := eN rfl; obtain rfl : v14 = vi := by omega) | (obtain ⟨f1, f2, f3⟩ := eB rfl)
  all_goals clear eN eB hAB
  all_goals
    go_enter Tryd.func37, Tryd.ntmps37
    go_wp2_with (go_at_call 55; refine (H0.out _).mono ?_; rintro e wx ⟨rfl, rfl⟩)
    have HX := hidW HX.out.drew
    clear m0 m1 m2 m4 m5 m6 m7 m8 m9 m10 m11 m12 m13 m14 m15 m16 m17 m18 m19
    have K1 := ww_cells9 HX.out
    refine wp_region_held_drew (S := fun w' => w'.cell? ⟨w.heap.size + 1, 0, none⟩ = some (.int .i64 jc) ∧ w'.cell? ⟨w.heap.size + 1, 1, none⟩ = some (.int .i64 jo) ∧ w'.cell? ⟨w.heap.size + 1, 2, none⟩ = some (.bool js) ∧ w'.cell? ⟨w.heap.size + 1, 4, none⟩ = some (.int .i64 jd) ∧ w'.cell? ⟨w.heap.size + 1, 5, none⟩ = some (.int .i64 jn) ∧ w'.cell? ⟨w.heap.size + 1, 6, none⟩ = some (.int .i64 jm) ∧ w'.cell? ⟨w.heap.size + 1, 7, none⟩ = some (.int .i64 jr) ∧ w'.cell? ⟨w.heap.size + 1, 8, none⟩ = some (.int .i64 ja) ∧ w'.cell? ⟨w.heap.size + 1, 10, none⟩ = some (.int .i64 jt) ∧ w'.cell? ⟨w.heap.size + 1, 11, none⟩ = some (.int .i64 jk) ∧ w'.cell? ⟨w.heap.size + 1, 12, none⟩ = some (.bool jp) ∧ w'.cell? ⟨w.heap.size + 1, 13, none⟩ = some (.bool ju) ∧ w'.cell? ⟨w.heap.size + 1, 14, none⟩ = some (.bool jw) ∧ w'.cell? ⟨w.heap.size + 1, 15, none⟩ = some (.int .u16 jl) ∧ w'.cell? ⟨w.heap.size + 1, 16, none⟩ = some (.int .i64 jx) ∧ w'.cell? ⟨w.heap.size + 1, 17, none⟩ = some (.int .i64 jy) ∧ w'.cell? ⟨w.heap.size + 1, 18, none⟩ = some (.int .i64 jz) ∧ w'.cell? ⟨w.heap.size + 1, 19, none⟩ = some (.int .i64 jv)) (by kernel_rfl) K1 (fun hHeld => ?_)
    clear hHeld
    generalize World.drew _ = wd at HX K1 ⊢
    have K2 := hidW K1
    clear K1
    refine wpAnyH_take (i := 0) (oi := { dst := some 27, op := Op.fieldAddr 28 (Operand.tmp 3) 0, type := 0, pos := _, after := #[], guard := none }) (v := ?_) rfl (by kernel_rfl) (by kernel_rfl) (by kernel_rfl) (fun _ _ _ h => h) (Or.inl ⟨by rfl, ?_⟩) (by assumption) ?_
    rotate_left
    · (intro w hSw; (try dsimp only at hSw); go_simp; try with_reducible rfl)
    simp only [Act.put, List.setIfInBounds_toArray, List.set_cons_zero, List.set_cons_succ]
    refine wpAnyH_take (i := 1) (oi := { dst := some 28, op := Op.load 3 (Operand.tmp 27), type := 3, pos := _, after := #[{ on := 0, ground := Ground.data }], guard := none }) (v := ?_) rfl (by kernel_rfl) (by kernel_rfl) (by kernel_rfl) (fun _ _ _ h => h) (Or.inl ⟨by rfl, ?_⟩) (by assumption) ?_
    rotate_left
    · (intro w hSw; (try dsimp only at hSw); go_simp; try with_reducible rfl)
    simp only [Act.put, List.setIfInBounds_toArray, List.set_cons_zero, List.set_cons_succ]
    refine wpAnyH_take (i := 2) (oi := { dst := some 29, op := Op.convert 3 22 (Operand.tmp 28), type := 22, pos := _, after := #[{ on := 1, ground := Ground.data }], guard := none }) (v := ?_) rfl (by kernel_rfl) (by kernel_rfl) (by kernel_rfl) (fun _ _ _ h => h) (Or.inl ⟨by rfl, ?_⟩) (by assumption) ?_
    rotate_left
    · (intro w hSw; (try dsimp only at hSw); go_simp; try with_reducible rfl)
    simp only [Act.put, List.setIfInBounds_toArray, List.set_cons_zero, List.set_cons_succ]
    refine wpAnyH_take (i := 3) (oi := { dst := some 30, op := Op.fieldAddr 28 (Operand.tmp 3) 1, type := 0, pos := _, after := #[], guard := none }) (v := ?_) rfl (by kernel_rfl) (by kernel_rfl) (by kernel_rfl) (fun _ _ _ h => h) (Or.inl ⟨by rfl, ?_⟩) (by assumption) ?_
    rotate_left
    · (intro w hSw; (try dsimp only at hSw); go_simp; try with_reducible rfl)
    simp only [Act.put, List.setIfInBounds_toArray, List.set_cons_zero, List.set_cons_succ]
    refine wpAnyH_take (i := 4) (oi := { dst := some 31, op := Op.load 3 (Operand.tmp 30), type := 3, pos := _, after := #[{ on := 3, ground := Ground.data }], guard := none }) (v := ?_) rfl (by kernel_rfl) (by kernel_rfl) (by kernel_rfl) (fun _ _ _ h => h) (Or.inl ⟨by rfl, ?_⟩) (by assumption) ?_
    rotate_left
    · (intro w hSw; (try dsimp only at hSw); go_simp; try with_reducible rfl)
    simp only [Act.put, List.setIfInBounds_toArray, List.set_cons_zero, List.set_cons_succ]
    refine wpAnyH_take (i := 5) (oi := { dst := some 32, op := Op.binOp BinOp.sub 3 (Operand.tmp 31) (Operand.const (Value.int IntKind.i64 1)) 3, type := 3, pos := _, after := #[{ on := 4, ground := Ground.data }], guard := none }) (v := ?_) rfl (by kernel_rfl) (by kernel_rfl) (by kernel_rfl) (fun _ _ _ h => h) (Or.inl ⟨by rfl, ?_⟩) (by assumption) ?_
    rotate_left
    · (intro w hSw; (try dsimp only at hSw); go_simp; try with_reducible rfl)
    simp only [Act.put, List.setIfInBounds_toArray, List.set_cons_zero, List.set_cons_succ]
    refine wpAnyH_take (i := 6) (oi := { dst := some 33, op := Op.convert 3 22 (Operand.tmp 32), type := 22, pos := _, after := #[{ on := 5, ground := Ground.data }], guard := none }) (v := ?_) rfl (by kernel_rfl) (by kernel_rfl) (by kernel_rfl) (fun _ _ _ h => h) (Or.inl ⟨by rfl, ?_⟩) (by assumption) ?_
    rotate_left
    · (intro w hSw; (try dsimp only at hSw); go_simp; try with_reducible rfl)
    simp only [Act.put, List.setIfInBounds_toArray, List.set_cons_zero, List.set_cons_succ]
    refine wpAnyH_take (i := 7) (oi := { dst := some 34, op := Op.fieldAddr 28 (Operand.tmp 3) 4, type := 0, pos := _, after := #[], guard := none }) (v := ?_) rfl (by kernel_rfl) (by kernel_rfl) (by kernel_rfl) (fun _ _ _ h => h) (Or.inl ⟨by rfl, ?_⟩) (by assumption) ?_
    rotate_left
    · (intro w hSw; (try dsimp only at hSw); go_simp; try with_reducible rfl)
    simp only [Act.put, List.setIfInBounds_toArray, List.set_cons_zero, List.set_cons_succ]
    refine wpAnyH_take (i := 8) (oi := { dst := some 35, op := Op.load 3 (Operand.tmp 34), type := 3, pos := _, after := #[{ on := 7, ground := Ground.data }], guard := none }) (v := ?_) rfl (by kernel_rfl) (by kernel_rfl) (by kernel_rfl) (fun _ _ _ h => h) (Or.inl ⟨by rfl, ?_⟩) (by assumption) ?_
    rotate_left
    · (intro w hSw; (try dsimp only at hSw); go_simp; try with_reducible rfl)
    simp only [Act.put, List.setIfInBounds_toArray, List.set_cons_zero, List.set_cons_succ]
    refine wpAnyH_take (i := 9) (oi := { dst := some 36, op := Op.convert 3 22 (Operand.tmp 35), type := 22, pos := _, after := #[{ on := 8, ground := Ground.data }], guard := none }) (v := ?_) rfl (by kernel_rfl) (by kernel_rfl) (by kernel_rfl) (fun _ _ _ h => h) (Or.inl ⟨by rfl, ?_⟩) (by assumption) ?_
    rotate_left
    · (intro w hSw; (try dsimp only at hSw); go_simp; try with_reducible rfl)
    simp only [Act.put, List.setIfInBounds_toArray, List.set_cons_zero, List.set_cons_succ]
    refine wpAnyH_take (i := 10) (oi := { dst := some 37, op := Op.fieldAddr 28 (Operand.tmp 3) 5, type := 0, pos := _, after := #[], guard := none }) (v := ?_) rfl (by kernel_rfl) (by kernel_rfl) (by kernel_rfl) (fun _ _ _ h => h) (Or.inl ⟨by rfl, ?_⟩) (by assumption) ?_
    rotate_left
    · (intro w hSw; (try dsimp only at hSw); go_simp; try with_reducible rfl)
    simp only [Act.put, List.setIfInBounds_toArray, List.set_cons_zero, List.set_cons_succ]
    refine wpAnyH_take (i := 11) (oi := { dst := some 38, op := Op.load 3 (Operand.tmp 37), type := 3, pos := _, after := #[{ on := 10, ground := Ground.data }], guard := none }) (v := ?_) rfl (by kernel_rfl) (by kernel_rfl) (by kernel_rfl) (fun _ _ _ h => h) (Or.inl ⟨by rfl, ?_⟩) (by assumption) ?_
    rotate_left
    · (intro w hSw; (try dsimp only at hSw); go_simp; try with_reducible rfl)
    simp only [Act.put, List.setIfInBounds_toArray, List.set_cons_zero, List.set_cons_succ]
    refine wpAnyH_take (i := 12) (oi := { dst := some 39, op := Op.convert 3 22 (Operand.tmp 38), type := 22, pos := _, after := #[{ on := 11, ground := Ground.data }], guard := none }) (v := ?_) rfl (by kernel_rfl) (by kernel_rfl) (by kernel_rfl) (fun _ _ _ h => h) (Or.inl ⟨by rfl, ?_⟩) (by assumption) ?_
    rotate_left
    · (intro w hSw; (try dsimp only at hSw); go_simp; try with_reducible rfl)
    simp only [Act.put, List.setIfInBounds_toArray, List.set_cons_zero, List.set_cons_succ]
    refine wpAnyH_take (i := 13) (oi := { dst := some 40, op := Op.fieldAddr 28 (Operand.tmp 3) 6, type := 0, pos := _, after := #[], guard := none }) (v := ?_) rfl (by kernel_rfl) (by kernel_rfl) (by kernel_rfl) (fun _ _ _ h => h) (Or.inl ⟨by rfl, ?_⟩) (by assumption) ?_
    rotate_left
    · (intro w hSw; (try dsimp only at hSw); go_simp; try with_reducible rfl)
    simp only [Act.put, List.setIfInBounds_toArray, List.set_cons_zero, List.set_cons_succ]
    refine wpAnyH_take (i := 14) (oi := { dst := some 41, op := Op.load 3 (Operand.tmp 40), type := 3, pos := _, after := #[{ on := 13, ground := Ground.data }], guard := none }) (v := ?_) rfl (by kernel_rfl) (by kernel_rfl) (by kernel_rfl) (fun _ _ _ h => h) (Or.inl ⟨by rfl, ?_⟩) (by assumption) ?_
    rotate_left
    · (intro w hSw; (try dsimp only at hSw); go_simp; try with_reducible rfl)
    simp only [Act.put, List.setIfInBounds_toArray, List.set_cons_zero, List.set_cons_succ]
    refine wpAnyH_take (i := 15) (oi := { dst := some 42, op := Op.convert 3 22 (Operand.tmp 41), type := 22, pos := _, after := #[{ on := 14, ground := Ground.data }], guard := none }) (v := ?_) rfl (by kernel_rfl) (by kernel_rfl) (by kernel_rfl) (fun _ _ _ h => h) (Or.inl ⟨by rfl, ?_⟩) (by assumption) ?_
    rotate_left
    · (intro w hSw; (try dsimp only at hSw); go_simp; try with_reducible rfl)
    simp only [Act.put, List.setIfInBounds_toArray, List.set_cons_zero, List.set_cons_succ]
    refine wpAnyH_take (i := 16) (oi := { dst := some 43, op := Op.fieldAddr 28 (Operand.tmp 3) 7, type := 0, pos := _, after := #[], guard := none }) (v := ?_) rfl (by kernel_rfl) (by kernel_rfl) (by kernel_rfl) (fun _ _ _ h => h) (Or.inl ⟨by rfl, ?_⟩) (by assumption) ?_
    rotate_left
    · (intro w hSw; (try dsimp only at hSw); go_simp; try with_reducible rfl)
    simp only [Act.put, List.setIfInBounds_toArray, List.set_cons_zero, List.set_cons_succ]
    refine wpAnyH_take (i := 17) (oi := { dst := some 44, op := Op.load 3 (Operand.tmp 43), type := 3, pos := _, after := #[{ on := 16, ground := Ground.data }], guard := none }) (v := ?_) rfl (by kernel_rfl) (by kernel_rfl) (by kernel_rfl) (fun _ _ _ h => h) (Or.inl ⟨by rfl, ?_⟩) (by assumption) ?_
    rotate_left
    · (intro w hSw; (try dsimp only at hSw); go_simp; try with_reducible rfl)
    simp only [Act.put, List.setIfInBounds_toArray, List.set_cons_zero, List.set_cons_succ]
    refine wpAnyH_take (i := 18) (oi := { dst := some 45, op := Op.convert 3 22 (Operand.tmp 44), type := 22, pos := _, after := #[{ on := 17, ground := Ground.data }], guard := none }) (v := ?_) rfl (by kernel_rfl) (by kernel_rfl) (by kernel_rfl) (fun _ _ _ h => h) (Or.inl ⟨by rfl, ?_⟩) (by assumption) ?_
    rotate_left
    · (intro w hSw; (try dsimp only at hSw); go_simp; try with_reducible rfl)
    simp only [Act.put, List.setIfInBounds_toArray, List.set_cons_zero, List.set_cons_succ]
    refine wpAnyH_take (i := 19) (oi := { dst := some 46, op := Op.fieldAddr 28 (Operand.tmp 3) 8, type := 0, pos := _, after := #[], guard := none }) (v := ?_) rfl (by kernel_rfl) (by kernel_rfl) (by kernel_rfl) (fun _ _ _ h => h) (Or.inl ⟨by rfl, ?_⟩) (by assumption) ?_
    rotate_left
    · (intro w hSw; (try dsimp only at hSw); go_simp; try with_reducible rfl)
    simp only [Act.put, List.setIfInBounds_toArray, List.set_cons_zero, List.set_cons_succ]
    refine wpAnyH_take (i := 20) (oi := { dst := some 47, op := Op.load 3 (Operand.tmp 46), type := 3, pos := _, after := #[{ on := 19, ground := Ground.data }], guard := none }) (v := ?_) rfl (by kernel_rfl) (by kernel_rfl) (by kernel_rfl) (fun _ _ _ h => h) (Or.inl ⟨by rfl, ?_⟩) (by assumption) ?_
    rotate_left
    · (intro w hSw; (try dsimp only at hSw); go_simp; try with_reducible rfl)
    simp only [Act.put, List.setIfInBounds_toArray, List.set_cons_zero, List.set_cons_succ]
    refine wpAnyH_take (i := 21) (oi := { dst := some 48, op := Op.convert 3 22 (Operand.tmp 47), type := 22, pos := _, after := #[{ on := 20, ground := Ground.data }], guard := none }) (v := ?_) rfl (by kernel_rfl) (by kernel_rfl) (by kernel_rfl) (fun _ _ _ h => h) (Or.inl ⟨by rfl, ?_⟩) (by assumption) ?_
    rotate_left
    · (intro w hSw; (try dsimp only at hSw); go_simp; try with_reducible rfl)
    simp only [Act.put, List.setIfInBounds_toArray, List.set_cons_zero, List.set_cons_succ]
    refine wpAnyH_take (i := 22) (oi := { dst := some 49, op := Op.fieldAddr 28 (Operand.tmp 3) 10, type := 0, pos := _, after := #[], guard := none }) (v := ?_) rfl (by kernel_rfl) (by kernel_rfl) (by kernel_rfl) (fun _ _ _ h => h) (Or.inl ⟨by rfl, ?_⟩) (by assumption) ?_
    rotate_left
    · (intro w hSw; (try dsimp only at hSw); go_simp; try with_reducible rfl)
    simp only [Act.put, List.setIfInBounds_toArray, List.set_cons_zero, List.set_cons_succ]
    refine wpAnyH_take (i := 23) (oi := { dst := some 50, op := Op.load 3 (Operand.tmp 49), type := 3, pos := _, after := #[{ on := 22, ground := Ground.data }], guard := none }) (v := ?_) rfl (by kernel_rfl) (by kernel_rfl) (by kernel_rfl) (fun _ _ _ h => h) (Or.inl ⟨by rfl, ?_⟩) (by assumption) ?_
    rotate_left
    · (intro w hSw; (try dsimp only at hSw); go_simp; try with_reducible rfl)
    simp only [Act.put, List.setIfInBounds_toArray, List.set_cons_zero, List.set_cons_succ]
    refine wpAnyH_take (i := 24) (oi := { dst := some 51, op := Op.convert 3 22 (Operand.tmp 50), type := 22, pos := _, after := #[{ on := 23, ground := Ground.data }], guard := none }) (v := ?_) rfl (by kernel_rfl) (by kernel_rfl) (by kernel_rfl) (fun _ _ _ h => h) (Or.inl ⟨by rfl, ?_⟩) (by assumption) ?_
    rotate_left
    · (intro w hSw; (try dsimp only at hSw); go_simp; try with_reducible rfl)
    simp only [Act.put, List.setIfInBounds_toArray, List.set_cons_zero, List.set_cons_succ]
    refine wpAnyH_take (i := 25) (oi := { dst := some 52, op := Op.fieldAddr 28 (Operand.tmp 3) 11, type := 0, pos := _, after := #[], guard := none }) (v := ?_) rfl (by kernel_rfl) (by kernel_rfl) (by kernel_rfl) (fun _ _ _ h => h) (Or.inl ⟨by rfl, ?_⟩) (by assumption) ?_
    rotate_left
    · (intro w hSw; (try dsimp only at hSw); go_simp; try with_reducible rfl)
    simp only [Act.put, List.setIfInBounds_toArray, List.set_cons_zero, List.set_cons_succ]
    refine wpAnyH_take (i := 26) (oi := { dst := some 53, op := Op.load 3 (Operand.tmp 52), type := 3, pos := _, after := #[{ on := 25, ground := Ground.data }], guard := none }) (v := ?_) rfl (by kernel_rfl) (by kernel_rfl) (by kernel_rfl) (fun _ _ _ h => h) (Or.inl ⟨by rfl, ?_⟩) (by assumption) ?_
    rotate_left
    · (intro w hSw; (try dsimp only at hSw); go_simp; try with_reducible rfl)
    simp only [Act.put, List.setIfInBounds_toArray, List.set_cons_zero, List.set_cons_succ]
    refine wpAnyH_take (i := 27) (oi := { dst := some 54, op := Op.convert 3 22 (Operand.tmp 53), type := 22, pos := _, after := #[{ on := 26, ground := Ground.data }], guard := none }) (v := ?_) rfl (by kernel_rfl) (by kernel_rfl) (by kernel_rfl) (fun _ _ _ h => h) (Or.inl ⟨by rfl, ?_⟩) (by assumption) ?_
    rotate_left
    · (intro w hSw; (try dsimp only at hSw); go_simp; try with_reducible rfl)
    simp only [Act.put, List.setIfInBounds_toArray, List.set_cons_zero, List.set_cons_succ]
    refine wpAnyH_take (i := 28) (oi := { dst := some 55, op := Op.fieldAddr 28 (Operand.tmp 3) 16, type := 0, pos := _, after := #[], guard := none }) (v := ?_) rfl (by kernel_rfl) (by kernel_rfl) (by kernel_rfl) (fun _ _ _ h => h) (Or.inl ⟨by rfl, ?_⟩) (by assumption) ?_
    rotate_left
    · (intro w hSw; (try dsimp only at hSw); go_simp; try with_reducible rfl)
    simp only [Act.put, List.setIfInBounds_toArray, List.set_cons_zero, List.set_cons_succ]
    refine wpAnyH_take (i := 29) (oi := { dst := some 56, op := Op.fieldAddr 26 (Operand.tmp 55) 0, type := 0, pos := _, after := #[{ on := 28, ground := Ground.data }], guard := none }) (v := ?_) rfl (by kernel_rfl) (by kernel_rfl) (by kernel_rfl) (fun _ _ _ h => h) (Or.inl ⟨by rfl, ?_⟩) (by assumption) ?_
    rotate_left
    · (intro w hSw; (try dsimp only at hSw); go_simp; try with_reducible rfl)
    simp only [Act.put, List.setIfInBounds_toArray, List.set_cons_zero, List.set_cons_succ]
    refine wpAnyH_take (i := 30) (oi := { dst := some 57, op := Op.load 3 (Operand.tmp 56), type := 3, pos := _, after := #[{ on := 29, ground := Ground.data }], guard := none }) (v := ?_) rfl (by kernel_rfl) (by kernel_rfl) (by kernel_rfl) (fun _ _ _ h => h) (Or.inl ⟨by rfl, ?_⟩) (by assumption) ?_
    rotate_left
    · (intro w hSw; (try dsimp only at hSw); go_simp; try with_reducible rfl)
    simp only [Act.put, List.setIfInBounds_toArray, List.set_cons_zero, List.set_cons_succ]
    refine wpAnyH_take (i := 31) (oi := { dst := some 58, op := Op.convert 3 22 (Operand.tmp 57), type := 22, pos := _, after := #[{ on := 30, ground := Ground.data }], guard := none }) (v := ?_) rfl (by kernel_rfl) (by kernel_rfl) (by kernel_rfl) (fun _ _ _ h => h) (Or.inl ⟨by rfl, ?_⟩) (by assumption) ?_
    rotate_left
    · (intro w hSw; (try dsimp only at hSw); go_simp; try with_reducible rfl)
    simp only [Act.put, List.setIfInBounds_toArray, List.set_cons_zero, List.set_cons_succ]
    refine wpAnyH_take (i := 32) (oi := { dst := some 59, op := Op.fieldAddr 28 (Operand.tmp 3) 16, type := 0, pos := _, after := #[], guard := none }) (v := ?_) rfl (by kernel_rfl) (by kernel_rfl) (by kernel_rfl) (fun _ _ _ h => h) (Or.inl ⟨by rfl, ?_⟩) (by assumption) ?_
    rotate_left
    · (intro w hSw; (try dsimp only at hSw); go_simp; try with_reducible rfl)
    simp only [Act.put, List.setIfInBounds_toArray, List.set_cons_zero, List.set_cons_succ]
    refine wpAnyH_take (i := 33) (oi := { dst := some 60, op := Op.fieldAddr 26 (Operand.tmp 59) 1, type := 0, pos := _, after := #[{ on := 32, ground := Ground.data }], guard := none }) (v := ?_) rfl (by kernel_rfl) (by kernel_rfl) (by kernel_rfl) (fun _ _ _ h => h) (Or.inl ⟨by rfl, ?_⟩) (by assumption) ?_
    rotate_left
    · (intro w hSw; (try dsimp only at hSw); go_simp; try with_reducible rfl)
    simp only [Act.put, List.setIfInBounds_toArray, List.set_cons_zero, List.set_cons_succ]
    refine wpAnyH_take (i := 34) (oi := { dst := some 61, op := Op.load 3 (Operand.tmp 60), type := 3, pos := _, after := #[{ on := 33, ground := Ground.data }], guard := none }) (v := ?_) rfl (by kernel_rfl) (by kernel_rfl) (by kernel_rfl) (fun _ _ _ h => h) (Or.inl ⟨by rfl, ?_⟩) (by assumption) ?_
    rotate_left
    · (intro w hSw; (try dsimp only at hSw); go_simp; try with_reducible rfl)
    simp only [Act.put, List.setIfInBounds_toArray, List.set_cons_zero, List.set_cons_succ]
    refine wpAnyH_take (i := 35) (oi := { dst := some 62, op := Op.convert 3 22 (Operand.tmp 61), type := 22, pos := _, after := #[{ on := 34, ground := Ground.data }], guard := none }) (v := ?_) rfl (by kernel_rfl) (by kernel_rfl) (by kernel_rfl) (fun _ _ _ h => h) (Or.inl ⟨by rfl, ?_⟩) (by assumption) ?_
    rotate_left
    · (intro w hSw; (try dsimp only at hSw); go_simp; try with_reducible rfl)
    simp only [Act.put, List.setIfInBounds_toArray, List.set_cons_zero, List.set_cons_succ]
    refine wpAnyH_take (i := 36) (oi := { dst := some 63, op := Op.fieldAddr 28 (Operand.tmp 3) 16, type := 0, pos := _, after := #[], guard := none }) (v := ?_) rfl (by kernel_rfl) (by kernel_rfl) (by kernel_rfl) (fun _ _ _ h => h) (Or.inl ⟨by rfl, ?_⟩) (by assumption) ?_
    rotate_left
    · (intro w hSw; (try dsimp only at hSw); go_simp; try with_reducible rfl)
    simp only [Act.put, List.setIfInBounds_toArray, List.set_cons_zero, List.set_cons_succ]
    refine wpAnyH_take (i := 37) (oi := { dst := some 64, op := Op.fieldAddr 26 (Operand.tmp 63) 2, type := 0, pos := _, after := #[{ on := 36, ground := Ground.data }], guard := none }) (v := ?_) rfl (by kernel_rfl) (by kernel_rfl) (by kernel_rfl) (fun _ _ _ h => h) (Or.inl ⟨by rfl, ?_⟩) (by assumption) ?_
    rotate_left
    · (intro w hSw; (try dsimp only at hSw); go_simp; try with_reducible rfl)
    simp only [Act.put, List.setIfInBounds_toArray, List.set_cons_zero, List.set_cons_succ]
    refine wpAnyH_take (i := 38) (oi := { dst := some 65, op := Op.load 3 (Operand.tmp 64), type := 3, pos := _, after := #[{ on := 37, ground := Ground.data }], guard := none }) (v := ?_) rfl (by kernel_rfl) (by kernel_rfl) (by kernel_rfl) (fun _ _ _ h => h) (Or.inl ⟨by rfl, ?_⟩) (by assumption) ?_
    rotate_left
    · (intro w hSw; (try dsimp only at hSw); go_simp; try with_reducible rfl)
    simp only [Act.put, List.setIfInBounds_toArray, List.set_cons_zero, List.set_cons_succ]
    refine wpAnyH_take (i := 39) (oi := { dst := some 66, op := Op.convert 3 22 (Operand.tmp 65), type := 22, pos := _, after := #[{ on := 38, ground := Ground.data }], guard := none }) (v := ?_) rfl (by kernel_rfl) (by kernel_rfl) (by kernel_rfl) (fun _ _ _ h => h) (Or.inl ⟨by rfl, ?_⟩) (by assumption) ?_
    rotate_left
    · (intro w hSw; (try dsimp only at hSw); go_simp; try with_reducible rfl)
    simp only [Act.put, List.setIfInBounds_toArray, List.set_cons_zero, List.set_cons_succ]
    refine wpAnyH_take (i := 40) (oi := { dst := some 67, op := Op.fieldAddr 28 (Operand.tmp 3) 16, type := 0, pos := _, after := #[], guard := none }) (v := ?_) rfl (by kernel_rfl) (by kernel_rfl) (by kernel_rfl) (fun _ _ _ h => h) (Or.inl ⟨by rfl, ?_⟩) (by assumption) ?_
    rotate_left
    · (intro w hSw; (try dsimp only at hSw); go_simp; try with_reducible rfl)
    simp only [Act.put, List.setIfInBounds_toArray, List.set_cons_zero, List.set_cons_succ]
    refine wpAnyH_take (i := 41) (oi := { dst := some 68, op := Op.fieldAddr 26 (Operand.tmp 67) 3, type := 0, pos := _, after := #[{ on := 40, ground := Ground.data }], guard := none }) (v := ?_) rfl (by kernel_rfl) (by kernel_rfl) (by kernel_rfl) (fun _ _ _ h => h) (Or.inl ⟨by rfl, ?_⟩) (by assumption) ?_
    rotate_left
    · (intro w hSw; (try dsimp only at hSw); go_simp; try with_reducible rfl)
    simp only [Act.put, List.setIfInBounds_toArray, List.set_cons_zero, List.set_cons_succ]
    refine wpAnyH_take (i := 42) (oi := { dst := some 69, op := Op.load 3 (Operand.tmp 68), type := 3, pos := _, after := #[{ on := 41, ground := Ground.data }], guard := none }) (v := ?_) rfl (by kernel_rfl) (by kernel_rfl) (by kernel_rfl) (fun _ _ _ h => h) (Or.inl ⟨by rfl, ?_⟩) (by assumption) ?_
    rotate_left
    · (intro w hSw; (try dsimp only at hSw); go_simp; try with_reducible rfl)
    simp only [Act.put, List.setIfInBounds_toArray, List.set_cons_zero, List.set_cons_succ]
    refine wpAnyH_take (i := 43) (oi := { dst := some 70, op := Op.convert 3 22 (Operand.tmp 69), type := 22, pos := _, after := #[{ on := 42, ground := Ground.data }], guard := none }) (v := ?_) rfl (by kernel_rfl) (by kernel_rfl) (by kernel_rfl) (fun _ _ _ h => h) (Or.inl ⟨by rfl, ?_⟩) (by assumption) ?_
    rotate_left
    · (intro w hSw; (try dsimp only at hSw); go_simp; try with_reducible rfl)
    simp only [Act.put, List.setIfInBounds_toArray, List.set_cons_zero, List.set_cons_succ]
    refine wpAnyH_take (i := 44) (oi := { dst := some 71, op := Op.fieldAddr 28 (Operand.tmp 3) 15, type := 0, pos := _, after := #[], guard := none }) (v := ?_) rfl (by kernel_rfl) (by kernel_rfl) (by kernel_rfl) (fun _ _ _ h => h) (Or.inl ⟨by rfl, ?_⟩) (by assumption) ?_
    rotate_left
    · (intro w hSw; (try dsimp only at hSw); go_simp; try with_reducible rfl)
    simp only [Act.put, List.setIfInBounds_toArray, List.set_cons_zero, List.set_cons_succ]
    refine wpAnyH_take (i := 45) (oi := { dst := some 72, op := Op.load 24 (Operand.tmp 71), type := 24, pos := _, after := #[{ on := 44, ground := Ground.data }], guard := none }) (v := ?_) rfl (by kernel_rfl) (by kernel_rfl) (by kernel_rfl) (fun _ _ _ h => h) (Or.inl ⟨by rfl, ?_⟩) (by assumption) ?_
    rotate_left
    · (intro w hSw; (try dsimp only at hSw); go_simp; try with_reducible rfl)
    simp only [Act.put, List.setIfInBounds_toArray, List.set_cons_zero, List.set_cons_succ]
    refine wpAnyH_take (i := 46) (oi := { dst := some 73, op := Op.convert 24 22 (Operand.tmp 72), type := 22, pos := _, after := #[{ on := 45, ground := Ground.data }], guard := none }) (v := ?_) rfl (by kernel_rfl) (by kernel_rfl) (by kernel_rfl) (fun _ _ _ h => h) (Or.inl ⟨by rfl, ?_⟩) (by assumption) ?_
    rotate_left
    · (intro w hSw; (try dsimp only at hSw); go_simp; try with_reducible rfl)
    simp only [Act.put, List.setIfInBounds_toArray, List.set_cons_zero, List.set_cons_succ]
    refine wpAnyH_take (i := 47) (oi := { dst := some 74, op := Op.move (Operand.tmp 7), type := 22, pos := _, after := #[], guard := none }) (v := ?_) rfl (by kernel_rfl) (by kernel_rfl) (by kernel_rfl) (fun _ _ _ h => h) (Or.inl ⟨by rfl, ?_⟩) (by assumption) ?_
    rotate_left
    · (intro w hSw; (try dsimp only at hSw); go_simp; try with_reducible rfl)
    simp only [Act.put, List.setIfInBounds_toArray, List.set_cons_zero, List.set_cons_succ]
    refine wpAnyH_take (i := 48) (oi := { dst := some 75, op := Op.fieldAddr 28 (Operand.tmp 3) 2, type := 0, pos := _, after := #[], guard := none }) (v := ?_) rfl (by kernel_rfl) (by kernel_rfl) (by kernel_rfl) (fun _ _ _ h => h) (Or.inl ⟨by rfl, ?_⟩) (by assumption) ?_
    rotate_left
    · (intro w hSw; (try dsimp only at hSw); go_simp; try with_reducible rfl)
    simp only [Act.put, List.setIfInBounds_toArray, List.set_cons_zero, List.set_cons_succ]
    refine wpAnyH_take (i := 49) (oi := { dst := some 76, op := Op.load 4 (Operand.tmp 75), type := 4, pos := _, after := #[{ on := 48, ground := Ground.data }], guard := none }) (v := ?_) rfl (by kernel_rfl) (by kernel_rfl) (by kernel_rfl) (fun _ _ _ h => h) (Or.inl ⟨by rfl, ?_⟩) (by assumption) ?_
    rotate_left
    · (intro w hSw; (try dsimp only at hSw); go_simp; try with_reducible rfl)
    simp only [Act.put, List.setIfInBounds_toArray, List.set_cons_zero, List.set_cons_succ]
    refine wpAnyH_take (i := 51) (oi := { dst := some 78, op := Op.fieldAddr 28 (Operand.tmp 3) 12, type := 0, pos := _, after := #[], guard := none }) (v := ?_) rfl (by kernel_rfl) (by kernel_rfl) (by kernel_rfl) (fun _ _ _ h => h) (Or.inl ⟨by rfl, ?_⟩) (by assumption) ?_
    rotate_left
    · (intro w hSw; (try dsimp only at hSw); go_simp; try with_reducible rfl)
    simp only [Act.put, List.setIfInBounds_toArray, List.set_cons_zero, List.set_cons_succ]
    refine wpAnyH_take (i := 52) (oi := { dst := some 79, op := Op.load 4 (Operand.tmp 78), type := 4, pos := _, after := #[{ on := 51, ground := Ground.data }], guard := none }) (v := ?_) rfl (by kernel_rfl) (by kernel_rfl) (by kernel_rfl) (fun _ _ _ h => h) (Or.inl ⟨by rfl, ?_⟩) (by assumption) ?_
    rotate_left
    · (intro w hSw; (try dsimp only at hSw); go_simp; try with_reducible rfl)
    simp only [Act.put, List.setIfInBounds_toArray, List.set_cons_zero, List.set_cons_succ]
    refine wpAnyH_take (i := 54) (oi := { dst := some 81, op := Op.fieldAddr 28 (Operand.tmp 3) 13, type := 0, pos := _, after := #[], guard := none }) (v := ?_) rfl (by kernel_rfl) (by kernel_rfl) (by kernel_rfl) (fun _ _ _ h => h) (Or.inl ⟨by rfl, ?_⟩) (by assumption) ?_
    rotate_left
    · (intro w hSw; (try dsimp only at hSw); go_simp; try with_reducible rfl)
    simp only [Act.put, List.setIfInBounds_toArray, List.set_cons_zero, List.set_cons_succ]
    refine wpAnyH_take (i := 55) (oi := { dst := some 82, op := Op.load 4 (Operand.tmp 81), type := 4, pos := _, after := #[{ on := 54, ground := Ground.data }], guard := none }) (v := ?_) rfl (by kernel_rfl) (by kernel_rfl) (by kernel_rfl) (fun _ _ _ h => h) (Or.inl ⟨by rfl, ?_⟩) (by assumption) ?_
    rotate_left
    · (intro w hSw; (try dsimp only at hSw); go_simp; try with_reducible rfl)
    simp only [Act.put, List.setIfInBounds_toArray, List.set_cons_zero, List.set_cons_succ]
    refine wpAnyH_take (i := 57) (oi := { dst := some 84, op := Op.fieldAddr 28 (Operand.tmp 3) 14, type := 0, pos := _, after := #[], guard := none }) (v := ?_) rfl (by kernel_rfl) (by kernel_rfl) (by kernel_rfl) (fun _ _ _ h => h) (Or.inl ⟨by rfl, ?_⟩) (by assumption) ?_
    rotate_left
    · (intro w hSw; (try dsimp only at hSw); go_simp; try with_reducible rfl)
    simp only [Act.put, List.setIfInBounds_toArray, List.set_cons_zero, List.set_cons_succ]
    refine wpAnyH_take (i := 58) (oi := { dst := some 85, op := Op.load 4 (Operand.tmp 84), type := 4, pos := _, after := #[{ on := 57, ground := Ground.data }], guard := none }) (v := ?_) rfl (by kernel_rfl) (by kernel_rfl) (by kernel_rfl) (fun _ _ _ h => h) (Or.inl ⟨by rfl, ?_⟩) (by assumption) ?_
    rotate_left
    · (intro w hSw; (try dsimp only at hSw); go_simp; try with_reducible rfl)
    simp only [Act.put, List.setIfInBounds_toArray, List.set_cons_zero, List.set_cons_succ]
    refine wpAnyH_ready (rs := [50]) (by kernel_rfl) (by simp) ?_
    refine AllReadyH.cons (o := { dst := some 77, op := Op.call { callee := Callee.value (Operand.func 56), args := #[Operand.tmp 76], argTypes := #[4] }, type := 22, pos := _, after := #[{ on := 49, ground := Ground.data }], guard := none }) rfl (fun K hK => ?_) AllReadyH.nil
    go_simp
    go_at_call 56; refine (HB.out _ _).mono ?_; rintro e wx ⟨rfl, rfl⟩
    refine hK.out _ _ ?_ (fun hHeld => ?_)
    · with_reducible exact K2.out
    clear hK K
    try simp only [Act.put, List.setIfInBounds_toArray, List.set_cons_zero, List.set_cons_succ]
    refine wpAnyH_ready (rs := [53]) (by kernel_rfl) (by simp) ?_
    refine AllReadyH.cons (o := { dst := some 80, op := Op.call { callee := Callee.value (Operand.func 56), args := #[Operand.tmp 79], argTypes := #[4] }, type := 22, pos := _, after := #[{ on := 52, ground := Ground.data }, { on := 50, ground := Ground.chain }], guard := none }) rfl (fun K hK => ?_) AllReadyH.nil
    go_simp
    go_at_call 56; refine (HB.out _ _).mono ?_; rintro e wx ⟨rfl, rfl⟩
    refine hK.out _ _ ?_ (fun hHeld => ?_)
    · with_reducible exact K2.out
    clear hK K
    try simp only [Act.put, List.setIfInBounds_toArray, List.set_cons_zero, List.set_cons_succ]
    refine wpAnyH_ready (rs := [56]) (by kernel_rfl) (by simp) ?_
    refine AllReadyH.cons (o := { dst := some 83, op := Op.call { callee := Callee.value (Operand.func 56), args := #[Operand.tmp 82], argTypes := #[4] }, type := 22, pos := _, after := #[{ on := 55, ground := Ground.data }, { on := 53, ground := Ground.chain }], guard := none }) rfl (fun K hK => ?_) AllReadyH.nil
    go_simp
    go_at_call 56; refine (HB.out _ _).mono ?_; rintro e wx ⟨rfl, rfl⟩
    refine hK.out _ _ ?_ (fun hHeld => ?_)
    · with_reducible exact K2.out
    clear hK K
    try simp only [Act.put, List.setIfInBounds_toArray, List.set_cons_zero, List.set_cons_succ]
    refine wpAnyH_ready (rs := [59]) (by kernel_rfl) (by simp) ?_
    refine AllReadyH.cons (o := { dst := some 86, op := Op.call { callee := Callee.value (Operand.func 56), args := #[Operand.tmp 85], argTypes := #[4] }, type := 22, pos := _, after := #[{ on := 58, ground := Ground.data }, { on := 56, ground := Ground.chain }], guard := none }) rfl (fun K hK => ?_) AllReadyH.nil
    go_simp
    go_at_call 56; refine (HB.out _ _).mono ?_; rintro e wx ⟨rfl, rfl⟩
    refine hK.out _ _ ?_ (fun hHeld => ?_)
    · with_reducible exact K2.out
    clear hK K
    try simp only [Act.put, List.setIfInBounds_toArray, List.set_cons_zero, List.set_cons_succ]
    refine wpAnyH_ready (rs := [60]) (by kernel_rfl) (by simp) ?_
    refine AllReadyH.cons (o := { dst := some 87, op := Op.buildSlice 75 19 #[(0, Operand.tmp 29), (1, Operand.tmp 33), (2, Operand.tmp 36), (3, Operand.tmp 39), (4, Operand.tmp 42), (5, Operand.tmp 45), (6, Operand.tmp 48), (7, Operand.tmp 51), (8, Operand.tmp 54), (9, Operand.tmp 58), (10, Operand.tmp 62), (11, Operand.tmp 66), (12, Operand.tmp 70), (13, Operand.tmp 73), (14, Operand.tmp 74), (15, Operand.tmp 77), (16, Operand.tmp 80), (17, Operand.tmp 83), (18, Operand.tmp 86)], type := 75, pos := _, after := #[{ on := 2, ground := Ground.data }, { on := 6, ground := Ground.data }, { on := 9, ground := Ground.data }, { on := 12, ground := Ground.data }, { on := 15, ground := Ground.data }, { on := 18, ground := Ground.data }, { on := 21, ground := Ground.data }, { on := 24, ground := Ground.data }, { on := 27, ground := Ground.data }, { on := 31, ground := Ground.data }, { on := 35, ground := Ground.data }, { on := 39, ground := Ground.data }, { on := 43, ground := Ground.data }, { on := 46, ground := Ground.data }, { on := 47, ground := Ground.data }, { on := 50, ground := Ground.data }, { on := 53, ground := Ground.data }, { on := 56, ground := Ground.data }, { on := 59, ground := Ground.data }], guard := none }) rfl (fun K hK => ?_) AllReadyH.nil
    go_simp
    skip
    refine hK.out _ _ ?_ (fun hHeld => ?_)
    · exact ww_cells9 (HX.out.step (below_new _ _))
    clear hK K
    try simp only [Act.put, List.setIfInBounds_toArray, List.set_cons_zero, List.set_cons_succ]
    refine wpAnyH_take (i := 61) (oi := { dst := some 9, op := Op.assign (Operand.tmp 87), type := 75, pos := _, after := #[{ on := 60, ground := Ground.data }, { on := 59, ground := Ground.chain }, { on := 0, ground := Ground.phase }, { on := 1, ground := Ground.phase }, { on := 2, ground := Ground.phase }, { on := 3, ground := Ground.phase }, { on := 4, ground := Ground.phase }, { on := 5, ground := Ground.phase }, { on := 6, ground := Ground.phase }, { on := 7, ground := Ground.phase }, { on := 8, ground := Ground.phase }, { on := 9, ground := Ground.phase }, { on := 10, ground := Ground.phase }, { on := 11, ground := Ground.phase }, { on := 12, ground := Ground.phase }, { on := 13, ground := Ground.phase }, { on := 14, ground := Ground.phase }, { on := 15, ground := Ground.phase }, { on := 16, ground := Ground.phase }, { on := 17, ground := Ground.phase }, { on := 18, ground := Ground.phase }, { on := 19, ground := Ground.phase }, { on := 20, ground := Ground.phase }, { on := 21, ground := Ground.phase }, { on := 22, ground := Ground.phase }, { on := 23, ground := Ground.phase }, { on := 24, ground := Ground.phase }, { on := 25, ground := Ground.phase }, { on := 26, ground := Ground.phase }, { on := 27, ground := Ground.phase }, { on := 28, ground := Ground.phase }, { on := 29, ground := Ground.phase }, { on := 30, ground := Ground.phase }, { on := 31, ground := Ground.phase }, { on := 32, ground := Ground.phase }, { on := 33, ground := Ground.phase }, { on := 34, ground := Ground.phase }, { on := 35, ground := Ground.phase }, { on := 36, ground := Ground.phase }, { on := 37, ground := Ground.phase }, { on := 38, ground := Ground.phase }, { on := 39, ground := Ground.phase }, { on := 40, ground := Ground.phase }, { on := 41, ground := Ground.phase }, { on := 42, ground := Ground.phase }, { on := 43, ground := Ground.phase }, { on := 44, ground := Ground.phase }, { on := 45, ground := Ground.phase }, { on := 46, ground := Ground.phase }, { on := 47, ground := Ground.phase }, { on := 48, ground := Ground.phase }, { on := 49, ground := Ground.phase }, { on := 50, ground := Ground.phase }, { on := 51, ground := Ground.phase }, { on := 52, ground := Ground.phase }, { on := 53, ground := Ground.phase }, { on := 54, ground := Ground.phase }, { on := 55, ground := Ground.phase }, { on := 56, ground := Ground.phase }, { on := 57, ground := Ground.phase }, { on := 58, ground := Ground.phase }, { on := 59, ground := Ground.phase }, { on := 60, ground := Ground.phase }], guard := none }) (v := ?_) rfl (by kernel_rfl) (by kernel_rfl) (by kernel_rfl) (fun _ _ _ h => h) (Or.inl ⟨by rfl, ?_⟩) (by assumption) ?_
    rotate_left
    · (intro w hSw; (try dsimp only at hSw); go_simp; try with_reducible rfl)
    simp only [Act.put, List.setIfInBounds_toArray, List.set_cons_zero, List.set_cons_succ]
    refine wpAnyH_done (by kernel_rfl) ?_ _
    have HB2 := hidW (Below.step HX.out.bel (below_new wx (.cells #[.int .u32 ((v0 : Nat) : Int), .int .u32 ((v1 : Nat) : Int), .int .u32 ((v2 : Nat) : Int), .int .u32 ((v3 : Nat) : Int), .int .u32 ((v4 : Nat) : Int), .int .u32 ((v5 : Nat) : Int), .int .u32 ((v6 : Nat) : Int), .int .u32 ((v7 : Nat) : Int), .int .u32 ((v8 : Nat) : Int), .int .u32 ((v9 : Nat) : Int), .int .u32 ((v10 : Nat) : Int), .int .u32 ((v11 : Nat) : Int), .int .u32 ((v12 : Nat) : Int), .int .u32 ((v13 : Nat) : Int), .int .u32 ((v14 : Nat) : Int), .int .u32 ((BT js : Nat) : Int), .int .u32 ((BT jp : Nat) : Int), .int .u32 ((BT ju : Nat) : Int), .int .u32 ((BT jw : Nat) : Int)] 22)))
    have HP := hidW (Bl.new wx 22 [.int .u32 ((v0 : Nat) : Int), .int .u32 ((v1 : Nat) : Int), .int .u32 ((v2 : Nat) : Int), .int .u32 ((v3 : Nat) : Int), .int .u32 ((v4 : Nat) : Int), .int .u32 ((v5 : Nat) : Int), .int .u32 ((v6 : Nat) : Int), .int .u32 ((v7 : Nat) : Int), .int .u32 ((v8 : Nat) : Int), .int .u32 ((v9 : Nat) : Int), .int .u32 ((v10 : Nat) : Int), .int .u32 ((v11 : Nat) : Int), .int .u32 ((v12 : Nat) : Int), .int .u32 ((v13 : Nat) : Int), .int .u32 ((v14 : Nat) : Int), .int .u32 ((BT js : Nat) : Int), .int .u32 ((BT jp : Nat) : Int), .int .u32 ((BT ju : Nat) : Int), .int .u32 ((BT jw : Nat) : Int)])
    change Hid (Bl (wx.alloc (.cells #[.int .u32 ((v0 : Nat) : Int), .int .u32 ((v1 : Nat) : Int), .int .u32 ((v2 : Nat) : Int), .int .u32 ((v3 : Nat) : Int), .int .u32 ((v4 : Nat) : Int), .int .u32 ((v5 : Nat) : Int), .int .u32 ((v6 : Nat) : Int), .int .u32 ((v7 : Nat) : Int), .int .u32 ((v8 : Nat) : Int), .int .u32 ((v9 : Nat) : Int), .int .u32 ((v10 : Nat) : Int), .int .u32 ((v11 : Nat) : Int), .int .u32 ((v12 : Nat) : Int), .int .u32 ((v13 : Nat) : Int), .int .u32 ((v14 : Nat) : Int), .int .u32 ((BT js : Nat) : Int), .int .u32 ((BT jp : Nat) : Int), .int .u32 ((BT ju : Nat) : Int), .int .u32 ((BT jw : Nat) : Int)] 22)) wx.heap.size 22 [.int .u32 ((v0 : Nat) : Int), .int .u32 ((v1 : Nat) : Int), .int .u32 ((v2 : Nat) : Int), .int .u32 ((v3 : Nat) : Int), .int .u32 ((v4 : Nat) : Int), .int .u32 ((v5 : Nat) : Int), .int .u32 ((v6 : Nat) : Int), .int .u32 ((v7 : Nat) : Int), .int .u32 ((v8 : Nat) : Int), .int .u32 ((v9 : Nat) : Int), .int .u32 ((v10 : Nat) : Int), .int .u32 ((v11 : Nat) : Int), .int .u32 ((v12 : Nat) : Int), .int .u32 ((v13 : Nat) : Int), .int .u32 ((v14 : Nat) : Int), .int .u32 ((BT js : Nat) : Int), .int .u32 ((BT jp : Nat) : Int), .int .u32 ((BT ju : Nat) : Int), .int .u32 ((BT jw : Nat) : Int)]) at HP
    generalize World.alloc _ _ = wy at HB2 HP ⊢
    generalize wx.heap.size = p at HP ⊢
    clear HX K2 HB H0 e0 eo eo' e1 e2 e3 e4 e5 e6 e7 e8 e9 e10 e11 e12 e13
    go_wp2
    go_loopw [6, 10] (fun r6 r10 wr => ∃ (k acc : Nat), k ≤ 19 ∧ acc < 4294967296 ∧ r6 = .int .u32 (acc : Int) ∧ r10 = .int .i64 (k : Int) ∧ restW LY [(99, v0), (111, v1), (100, v2), (110, v3), (109, v4), (114, v5), (97, v6), (116, v7), (107, v8), (120, v9), (121, v10), (122, v11), (118, v12), (108, v13), (105, v14), (115, BT js), (112, BT jp), (117, BT ju), (119, BT jw)] k acc = TOT ∧ Below w.heap.size w wr ∧ Bl wr p 22 [.int .u32 ((v0 : Nat) : Int), .int .u32 ((v1 : Nat) : Int), .int .u32 ((v2 : Nat) : Int), .int .u32 ((v3 : Nat) : Int), .int .u32 ((v4 : Nat) : Int), .int .u32 ((v5 : Nat) : Int), .int .u32 ((v6 : Nat) : Int), .int .u32 ((v7 : Nat) : Int), .int .u32 ((v8 : Nat) : Int), .int .u32 ((v9 : Nat) : Int), .int .u32 ((v10 : Nat) : Int), .int .u32 ((v11 : Nat) : Int), .int .u32 ((v12 : Nat) : Int), .int .u32 ((v13 : Nat) : Int), .int .u32 ((v14 : Nat) : Int), .int .u32 ((BT js : Nat) : Int), .int .u32 ((BT jp : Nat) : Int), .int .u32 ((BT ju : Nat) : Int), .int .u32 ((BT jw : Nat) : Int)]) (fun _ r10 _ => (19 - intOf r10).toNat)
    case atStart => exact ⟨0, a0, by omega, ha0.out, rfl, rfl, HT.out, HB2.out, HP.out⟩
    case round =>
      clear HB2 HP HT ha0
      obtain ⟨k, acc, h1, hacc, rfl, rfl, hr, hb, hp⟩ := hrel
      have hr := hidW hr
      have hb := hidW hb
      have hp := hidW hp
      by_cases h : k < 19
      · have hk : k = 0 ∨ k = 1 ∨ k = 2 ∨ k = 3 ∨ k = 4 ∨ k = 5 ∨ k = 6 ∨ k = 7 ∨ k = 8 ∨ k = 9 ∨ k = 10 ∨ k = 11 ∨ k = 12 ∨ k = 13 ∨ k = 14 ∨ k = 15 ∨ k = 16 ∨ k = 17 ∨ k = 18 := by omega
        clear h h1
        rcases hk with rfl | rfl | rfl | rfl | rfl | rfl | rfl | rfl | rfl | rfl | rfl | rfl | rfl | rfl | rfl | rfl | rfl | rfl | rfl
        all_goals
          go_wp2
          have hp := hidW hp.out.drew
          have hb := hidW (below_drew hb.out)
          have K1 := vw_cells hp.out
          refine wp_region_held_drew (S := fun w' => w'.cell? ⟨p, 0, none⟩ = some (.int .u32 ((v0 : Nat) : Int)) ∧ w'.cell? ⟨p, 1, none⟩ = some (.int .u32 ((v1 : Nat) : Int)) ∧ w'.cell? ⟨p, 2, none⟩ = some (.int .u32 ((v2 : Nat) : Int)) ∧ w'.cell? ⟨p, 3, none⟩ = some (.int .u32 ((v3 : Nat) : Int)) ∧ w'.cell? ⟨p, 4, none⟩ = some (.int .u32 ((v4 : Nat) : Int)) ∧ w'.cell? ⟨p, 5, none⟩ = some (.int .u32 ((v5 : Nat) : Int)) ∧ w'.cell? ⟨p, 6, none⟩ = some (.int .u32 ((v6 : Nat) : Int)) ∧ w'.cell? ⟨p, 7, none⟩ = some (.int .u32 ((v7 : Nat) : Int)) ∧ w'.cell? ⟨p, 8, none⟩ = some (.int .u32 ((v8 : Nat) : Int)) ∧ w'.cell? ⟨p, 9, none⟩ = some (.int .u32 ((v9 : Nat) : Int)) ∧ w'.cell? ⟨p, 10, none⟩ = some (.int .u32 ((v10 : Nat) : Int)) ∧ w'.cell? ⟨p, 11, none⟩ = some (.int .u32 ((v11 : Nat) : Int)) ∧ w'.cell? ⟨p, 12, none⟩ = some (.int .u32 ((v12 : Nat) : Int)) ∧ w'.cell? ⟨p, 13, none⟩ = some (.int .u32 ((v13 : Nat) : Int)) ∧ w'.cell? ⟨p, 14, none⟩ = some (.int .u32 ((v14 : Nat) : Int)) ∧ w'.cell? ⟨p, 15, none⟩ = some (.int .u32 ((BT js : Nat) : Int)) ∧ w'.cell? ⟨p, 16, none⟩ = some (.int .u32 ((BT jp : Nat) : Int)) ∧ w'.cell? ⟨p, 17, none⟩ = some (.int .u32 ((BT ju : Nat) : Int)) ∧ w'.cell? ⟨p, 18, none⟩ = some (.int .u32 ((BT jw : Nat) : Int))) (by kernel_rfl) K1 (fun hHeld => ?_)
          clear hHeld
          have K2 := hidW K1
          clear K1
          refine wpAnyH_take (i := 0) (oi := { dst := some 94, op := Op.move (Operand.tmp 5), type := 9, pos := _, after := #[], guard := none }) (v := ?_) rfl (by kernel_rfl) (by kernel_rfl) (by kernel_rfl) (fun _ _ _ h => h) (Or.inl ⟨by rfl, ?_⟩) (by assumption) ?_
          rotate_left
          · (intro w hSw; (try dsimp only at hSw); go_simp; try with_reducible rfl)
          simp only [Act.put, List.setIfInBounds_toArray, List.set_cons_zero, List.set_cons_succ]
          refine wpAnyH_take (i := 1) (oi := { dst := some 95, op := Op.move (Operand.tmp 8), type := 9, pos := _, after := #[], guard := none }) (v := ?_) rfl (by kernel_rfl) (by kernel_rfl) (by kernel_rfl) (fun _ _ _ h => h) (Or.inl ⟨by rfl, ?_⟩) (by assumption) ?_
          rotate_left
          · (intro w hSw; (try dsimp only at hSw); go_simp; try with_reducible rfl)
          simp only [Act.put, List.setIfInBounds_toArray, List.set_cons_zero, List.set_cons_succ]
          refine wpAnyH_take (i := 2) (oi := { dst := some 96, op := Op.move (Operand.tmp 10), type := 3, pos := _, after := #[], guard := none }) (v := ?_) rfl (by kernel_rfl) (by kernel_rfl) (by kernel_rfl) (fun _ _ _ h => h) (Or.inl ⟨by rfl, ?_⟩) (by assumption) ?_
          rotate_left
          · (intro w hSw; (try dsimp only at hSw); go_simp; try with_reducible rfl)
          simp only [Act.put, List.setIfInBounds_toArray, List.set_cons_zero, List.set_cons_succ]
          refine wpAnyH_take (i := 3) (oi := { dst := some 97, op := Op.index 9 (Operand.tmp 95) (Operand.tmp 96), type := 5, pos := _, after := #[{ on := 1, ground := Ground.data }, { on := 2, ground := Ground.data }], guard := none }) (v := ?_) rfl (by kernel_rfl) (by kernel_rfl) (by kernel_rfl) (fun _ _ _ h => h) (Or.inl ⟨by rfl, ?_⟩) (by assumption) ?_
          rotate_left
          · (intro w hSw; (try dsimp only at hSw); go_simp; try with_reducible rfl)
          simp only [Act.put, List.setIfInBounds_toArray, List.set_cons_zero, List.set_cons_succ]
          refine wpAnyH_take (i := 4) (oi := { dst := some 98, op := Op.move (Operand.tmp 6), type := 22, pos := _, after := #[], guard := none }) (v := ?_) rfl (by kernel_rfl) (by kernel_rfl) (by kernel_rfl) (fun _ _ _ h => h) (Or.inl ⟨by rfl, ?_⟩) (by assumption) ?_
          rotate_left
          · (intro w hSw; (try dsimp only at hSw); go_simp; try with_reducible rfl)
          simp only [Act.put, List.setIfInBounds_toArray, List.set_cons_zero, List.set_cons_succ]
          refine wpAnyH_take (i := 5) (oi := { dst := some 99, op := Op.move (Operand.tmp 9), type := 75, pos := _, after := #[], guard := none }) (v := ?_) rfl (by kernel_rfl) (by kernel_rfl) (by kernel_rfl) (fun _ _ _ h => h) (Or.inl ⟨by rfl, ?_⟩) (by assumption) ?_
          rotate_left
          · (intro w hSw; (try dsimp only at hSw); go_simp; try with_reducible rfl)
          simp only [Act.put, List.setIfInBounds_toArray, List.set_cons_zero, List.set_cons_succ]
          refine wpAnyH_take (i := 6) (oi := { dst := some 100, op := Op.move (Operand.tmp 10), type := 3, pos := _, after := #[], guard := none }) (v := ?_) rfl (by kernel_rfl) (by kernel_rfl) (by kernel_rfl) (fun _ _ _ h => h) (Or.inl ⟨by rfl, ?_⟩) (by assumption) ?_
          rotate_left
          · (intro w hSw; (try dsimp only at hSw); go_simp; try with_reducible rfl)
          simp only [Act.put, List.setIfInBounds_toArray, List.set_cons_zero, List.set_cons_succ]
          refine wpAnyH_take (i := 7) (oi := { dst := some 101, op := Op.indexAddr 75 (Operand.tmp 99) (Operand.tmp 100), type := 0, pos := _, after := #[{ on := 5, ground := Ground.data }, { on := 6, ground := Ground.data }], guard := none }) (v := ?_) rfl (by kernel_rfl) (by kernel_rfl) (by kernel_rfl) (fun _ _ _ h => h) (Or.inl ⟨by rfl, ?_⟩) (by assumption) ?_
          rotate_left
          · (intro w hSw; (try dsimp only at hSw); go_simp; try with_reducible rfl)
          simp only [Act.put, List.setIfInBounds_toArray, List.set_cons_zero, List.set_cons_succ]
          refine wpAnyH_take (i := 8) (oi := { dst := some 102, op := Op.load 22 (Operand.tmp 101), type := 22, pos := _, after := #[{ on := 7, ground := Ground.data }], guard := none }) (v := ?_) rfl (by kernel_rfl) (by kernel_rfl) (by kernel_rfl) (fun _ _ _ h => h) (Or.inl ⟨by rfl, ?_⟩) (by assumption) ?_
          rotate_left
          · (intro w hSw; (try dsimp only at hSw); go_simp; try with_reducible rfl)
          simp only [Act.put, List.setIfInBounds_toArray, List.set_cons_zero, List.set_cons_succ]
          refine wpAnyH_ready (rs := [9]) (by kernel_rfl) (by simp) ?_
          refine AllReadyH.cons (o := { dst := some 103, op := Op.call { callee := Callee.value (Operand.func 55), args := #[Operand.tmp 94, Operand.tmp 97, Operand.tmp 98, Operand.tmp 102], argTypes := #[9, 5, 22, 22] }, type := 22, pos := _, after := #[{ on := 0, ground := Ground.data }, { on := 3, ground := Ground.data }, { on := 4, ground := Ground.data }, { on := 8, ground := Ground.data }], guard := none }) rfl (fun K hK => ?_) AllReadyH.nil
          go_simp
          go_at_call 55; refine (HLY.out _ _ _ _ (by decide) (by decide) (by decide) hacc (HV.out _ (by simp))).mono ?_; rintro e wq ⟨rfl, rfl⟩
          refine hK.out _ _ ?_ (fun hHeld => ?_)
          · with_reducible exact K2.out
          clear hK K
          try simp only [Act.put, List.setIfInBounds_toArray, List.set_cons_zero, List.set_cons_succ]
          refine wpAnyH_take (i := 10) (oi := { dst := some 6, op := Op.assign (Operand.tmp 103), type := 22, pos := _, after := #[{ on := 9, ground := Ground.data }, { on := 9, ground := Ground.chain }, { on := 0, ground := Ground.phase }, { on := 1, ground := Ground.phase }, { on := 2, ground := Ground.phase }, { on := 3, ground := Ground.phase }, { on := 4, ground := Ground.phase }, { on := 5, ground := Ground.phase }, { on := 6, ground := Ground.phase }, { on := 7, ground := Ground.phase }, { on := 8, ground := Ground.phase }, { on := 9, ground := Ground.phase }], guard := none }) (v := ?_) rfl (by kernel_rfl) (by kernel_rfl) (by kernel_rfl) (fun _ _ _ h => h) (Or.inl ⟨by rfl, ?_⟩) (by assumption) ?_
          rotate_left
          · (intro w hSw; (try dsimp only at hSw); go_simp; try with_reducible rfl)
          simp only [Act.put, List.setIfInBounds_toArray, List.set_cons_zero, List.set_cons_succ]
          refine wpAnyH_done (by kernel_rfl) ?_ _
          go_wp2
          refine ⟨⟨_, _, ?_, HLT.out _ _ _, rfl, rfl, hr.out, hb.out, hp.out⟩, ?_⟩
          · first | omega | decide | exact Nat.le_of_ble_eq_true rfl
          · simp only [intOf]; omega
      · obtain rfl : k = 19 := by omega
        have e : acc = TOT := hr.out
        subst e
        clear h h1 hr
        go_wp2
        exact bodyPost_ret (v := .int .u32 (acc : Int)) (by simp [results, Tryd.results37, go_sem]) rfl ⟨rfl, hb.out⟩
end Go.Proofs.YtkmgmmmpiallhaaDoor
