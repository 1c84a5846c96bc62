import Derived.Test.YtdelcknpaldngaaLq
namespace Go.Proofs.Ytdelcknpaldngaa
open Go.RowKit
set_option linter.unusedVariables false
set_option linter.unusedSimpArgs false
set_option maxRecDepth 100000 in
set_option maxHeartbeats 8000000 in
theorem law_compares (a b : Int) (sh : Bool) (f : Fl) (w : World) (a0 : 0 ≤ a) (a1 : a < 4294967296) (b0 : 0 ≤ b) (b1 : b < 4294967296) :
    Calls Try.prog 7 #[.int .u32 a, .int .u32 b, .bool sh, .agg #[.bool f.n, .bool f.z, .bool f.c, .bool f.v]] w fun e w' => e = .returned (.bool true) ∧ Below w.heap.size w w' := by
  obtain ⟨D, hD⟩ : ∃ D, (a - b) % 4294967296 = D := ⟨_, rfl⟩
  have d0 : 0 ≤ D := by omega
  have d1 : D < 4294967296 := by omega
  obtain ⟨eW, en, ez, ec, ev⟩ := cmp_flags a b D a0 a1 b0 b1 hD
  have HC : Hid _ := cmp_conds a b D a0 a1 b0 b1 hD _ _ _ _ en ez ec ev
  have HD : Hid (∀ w, Calls Try.prog 9 #[.int .i64 11, .int .u32 a, .int .u32 b, .bool sh, .agg #[.bool f.n, .bool f.z, .bool f.c, .bool f.v]] w fun e w' => e = .returned (.tuple #[.int .u32 D, .bool false, .agg #[.bool (suF a (nt b) true).n, .bool (suF a (nt b) true).z, .bool (suF a (nt b) true).c, .bool (suF a (nt b) true).v]]) ∧ Below w.heap.size w w') := fun w => by
    have := gdo_any 11 a b sh f w a0 a1 b0 b1
    rw [show dxW 11 a b f = D from eW] at this
    exact this
  have HP : Hid (∀ c w, Calls Try.prog 14 #[.int .i64 c, .agg #[.bool (suF a (nt b) true).n, .bool (suF a (nt b) true).z, .bool (suF a (nt b) true).c, .bool (suF a (nt b) true).v]] w fun e w' => e = .returned (.bool (paF c (suF a (nt b) true).n (suF a (nt b) true).z (suF a (nt b) true).c (suF a (nt b) true).v)) ∧ Below w.heap.size w w') := fun c w => gpassed_any c _ w
  have HL : Hid (∀ w, Calls Try.prog 10 #[] w fun e w' => e = .returned (.bool true) ∧ Below w.heap.size w w') := live_any
  have HS : Hid (∀ x w, 0 ≤ x → x < 4294967296 → Calls Try.prog 13 #[.int .u32 x] w fun e w' => e = .returned (.int .i64 (sgn x)) ∧ w' = w) := fun x w h0 h1 => lsigned_any x w h0 h1
  have i1 := i32_sgn2 D d0 d1
  have r1 := sgn_range a a0 a1
  have r2 := sgn_range b b0 b1
  have wS : IntKind.i64.wrap (sgn a - sgn b) = sgn a - sgn b := by rw [IntKind.wrap_i64]; omega
  have wD : IntKind.u32.wrap (a - b) = D := by rw [IntKind.wrap_u32']; exact hD
  clear r1 r2 eW en ez ec ev
  generalize suF a (nt b) true = F at *
  obtain ⟨gn, gz, gc, gv⟩ := F
  obtain ⟨fn, fz, fc, fv⟩ := f
  simp only at *
  go_enter Try.func7, Try.ntmps7
  go_wp2_with (first
    | (go_at_call 9; refine (HD.out _).mono ?_; rintro e w1 ⟨rfl, hb⟩; have HB : Hid (Below w.heap.size w w1) := Below.step (below_new _ _) hb; clear hb)
    | (go_at_call 10; refine (HL.out _).mono ?_; rintro e w2 ⟨rfl, hb⟩; have B1 : Hid (Bl _ _ _ _) := (Bl.new _ _ _).below hb; have HB : Hid (Below w.heap.size w w2) := Below.step (Below.step HB.out (below_new _ _)) hb; clear hb)
    | (go_at_call 13; refine (HS.out _ _ (by omega) (by omega)).mono ?_; rintro e w' ⟨rfl, rfl⟩))
  generalize (a == b) = v0 at HC ⊢
  generalize (a != b) = v1 at HC ⊢
  generalize (decide (b ≤ a)) = v2 at HC ⊢
  generalize (decide (a < b)) = v3 at HC ⊢
  generalize (decide (sgn D < 0)) = v4 at HC ⊢
  generalize (decide (0 ≤ sgn D)) = v5 at HC ⊢
  generalize (sgn a - sgn b != sgn D) = v6 at HC ⊢
  generalize (sgn a - sgn b == sgn D) = v7 at HC ⊢
  generalize (decide (b < a)) = v8 at HC ⊢
  generalize (decide (a ≤ b)) = v9 at HC ⊢
  generalize (decide (sgn b ≤ sgn a)) = v10 at HC ⊢
  generalize (decide (sgn a < sgn b)) = v11 at HC ⊢
  generalize (decide (sgn b < sgn a)) = v12 at HC ⊢
  generalize (decide (sgn a ≤ sgn b)) = v13 at HC ⊢
  have B2 : Hid (Bl _ _ _ _) := Bl.new w' 4 [.bool v0, .bool v1, .bool v2, .bool v3, .bool v4, .bool v5, .bool v6, .bool v7, .bool v8, .bool v9, .bool v10, .bool v11, .bool v12, .bool v13, .bool true, .bool false]
  have B1 : Hid (Bl _ _ _ _) := B1.out.alloc (.cells #[.bool v0, .bool v1, .bool v2, .bool v3, .bool v4, .bool v5, .bool v6, .bool v7, .bool v8, .bool v9, .bool v10, .bool v11, .bool v12, .bool v13, .bool true, .bool false] 4)
  have HB : Hid (Below w.heap.size w _) := Below.step HB.out (below_new w' (.cells #[.bool v0, .bool v1, .bool v2, .bool v3, .bool v4, .bool v5, .bool v6, .bool v7, .bool v8, .bool v9, .bool v10, .bool v11, .bool v12, .bool v13, .bool true, .bool false] 4))
  generalize hq : w'.heap.size = q at B2 ⊢
  generalize w1.heap.size = p at B1 ⊢
  generalize w'.alloc _ = wz at B1 B2 HB ⊢
  clear hq
  obtain ⟨e0, e1, e2, e3, e4, e5, e6, e7, e8, e9, e10, e11, e12, e13, e14, e15⟩ := HC
  have P0 : Hid (∀ w, Calls Try.prog 14 #[.int .i64 0, .agg #[.bool gn, .bool gz, .bool gc, .bool gv]] w fun e w' => e = .returned (.bool v0) ∧ Below w.heap.size w w') := fun w => by rw [← e0]; exact HP.out 0 w
  have P1 : Hid (∀ w, Calls Try.prog 14 #[.int .i64 1, .agg #[.bool gn, .bool gz, .bool gc, .bool gv]] w fun e w' => e = .returned (.bool v1) ∧ Below w.heap.size w w') := fun w => by rw [← e1]; exact HP.out 1 w
  have P2 : Hid (∀ w, Calls Try.prog 14 #[.int .i64 2, .agg #[.bool gn, .bool gz, .bool gc, .bool gv]] w fun e w' => e = .returned (.bool v2) ∧ Below w.heap.size w w') := fun w => by rw [← e2]; exact HP.out 2 w
  have P3 : Hid (∀ w, Calls Try.prog 14 #[.int .i64 3, .agg #[.bool gn, .bool gz, .bool gc, .bool gv]] w fun e w' => e = .returned (.bool v3) ∧ Below w.heap.size w w') := fun w => by rw [← e3]; exact HP.out 3 w
  have P4 : Hid (∀ w, Calls Try.prog 14 #[.int .i64 4, .agg #[.bool gn, .bool gz, .bool gc, .bool gv]] w fun e w' => e = .returned (.bool v4) ∧ Below w.heap.size w w') := fun w => by rw [← e4]; exact HP.out 4 w
  have P5 : Hid (∀ w, Calls Try.prog 14 #[.int .i64 5, .agg #[.bool gn, .bool gz, .bool gc, .bool gv]] w fun e w' => e = .returned (.bool v5) ∧ Below w.heap.size w w') := fun w => by rw [← e5]; exact HP.out 5 w
  have P6 : Hid (∀ w, Calls Try.prog 14 #[.int .i64 6, .agg #[.bool gn, .bool gz, .bool gc, .bool gv]] w fun e w' => e = .returned (.bool v6) ∧ Below w.heap.size w w') := fun w => by rw [← e6]; exact HP.out 6 w
  have P7 : Hid (∀ w, Calls Try.prog 14 #[.int .i64 7, .agg #[.bool gn, .bool gz, .bool gc, .bool gv]] w fun e w' => e = .returned (.bool v7) ∧ Below w.heap.size w w') := fun w => by rw [← e7]; exact HP.out 7 w
  have P8 : Hid (∀ w, Calls Try.prog 14 #[.int .i64 8, .agg #[.bool gn, .bool gz, .bool gc, .bool gv]] w fun e w' => e = .returned (.bool v8) ∧ Below w.heap.size w w') := fun w => by rw [← e8]; exact HP.out 8 w
  have P9 : Hid (∀ w, Calls Try.prog 14 #[.int .i64 9, .agg #[.bool gn, .bool gz, .bool gc, .bool gv]] w fun e w' => e = .returned (.bool v9) ∧ Below w.heap.size w w') := fun w => by rw [← e9]; exact HP.out 9 w
  have P10 : Hid (∀ w, Calls Try.prog 14 #[.int .i64 10, .agg #[.bool gn, .bool gz, .bool gc, .bool gv]] w fun e w' => e = .returned (.bool v10) ∧ Below w.heap.size w w') := fun w => by rw [← e10]; exact HP.out 10 w
  have P11 : Hid (∀ w, Calls Try.prog 14 #[.int .i64 11, .agg #[.bool gn, .bool gz, .bool gc, .bool gv]] w fun e w' => e = .returned (.bool v11) ∧ Below w.heap.size w w') := fun w => by rw [← e11]; exact HP.out 11 w
  have P12 : Hid (∀ w, Calls Try.prog 14 #[.int .i64 12, .agg #[.bool gn, .bool gz, .bool gc, .bool gv]] w fun e w' => e = .returned (.bool v12) ∧ Below w.heap.size w w') := fun w => by rw [← e12]; exact HP.out 12 w
  have P13 : Hid (∀ w, Calls Try.prog 14 #[.int .i64 13, .agg #[.bool gn, .bool gz, .bool gc, .bool gv]] w fun e w' => e = .returned (.bool v13) ∧ Below w.heap.size w w') := fun w => by rw [← e13]; exact HP.out 13 w
  have P14 : Hid (∀ w, Calls Try.prog 14 #[.int .i64 14, .agg #[.bool gn, .bool gz, .bool gc, .bool gv]] w fun e w' => e = .returned (.bool true) ∧ Below w.heap.size w w') := fun w => by rw [← e14]; exact HP.out 14 w
  have P15 : Hid (∀ w, Calls Try.prog 14 #[.int .i64 15, .agg #[.bool gn, .bool gz, .bool gc, .bool gv]] w fun e w' => e = .returned (.bool false) ∧ Below w.heap.size w w') := fun w => by rw [← e15]; exact HP.out 15 w
  clear e0 e1 e2 e3 e4 e5 e6 e7 e8 e9 e10 e11 e12 e13 e14 e15 HP HD HL HS i1 wS wD hD d0 d1 a0 a1 b0 b1
  go_loopw [13] (fun k wr => ∃ (j : Nat), j ≤ 16 ∧ k = .int .i64 j ∧ Bl wr q 4 [.bool v0, .bool v1, .bool v2, .bool v3, .bool v4, .bool v5, .bool v6, .bool v7, .bool v8, .bool v9, .bool v10, .bool v11, .bool v12, .bool v13, .bool true, .bool false] ∧ Bl wr p 24 [.bool gn, .bool gz, .bool gc, .bool gv] ∧ Below w.heap.size w wr) (fun k _ => (16 - intOf k).toNat)
  case atStart => exact ⟨0, by omega, rfl, B2.out, B1.out, HB.out⟩
  case round =>
    obtain ⟨j, h1, rfl, b2, b1, hB⟩ := hrel
    clear B1 B2 HB
    have B2 : Hid (Bl _ _ _ _) := b2
    have B1 : Hid (Bl _ _ _ _) := b1
    have HB : Hid (Below _ _ _) := hB
    clear b1 b2 hB
    rcases (show j = 0 ∨ j = 1 ∨ j = 2 ∨ j = 3 ∨ j = 4 ∨ j = 5 ∨ j = 6 ∨ j = 7 ∨ j = 8 ∨ j = 9 ∨ j = 10 ∨ j = 11 ∨ j = 12 ∨ j = 13 ∨ j = 14 ∨ j = 15 ∨ j = 16 by omega) with rfl | rfl | rfl | rfl | rfl | rfl | rfl | rfl | rfl | rfl | rfl | rfl | rfl | rfl | rfl | rfl | rfl
    · have B2 : Hid (Bl _ _ _ _) := B2.out.drew
      have B1 : Hid (Bl _ _ _ _) := B1.out.drew
      have HB : Hid (Below _ _ _) := below_drew HB.out
      have CK : Hid (∀ w, Bl w q 4 [.bool v0, .bool v1, .bool v2, .bool v3, .bool v4, .bool v5, .bool v6, .bool v7, .bool v8, .bool v9, .bool v10, .bool v11, .bool v12, .bool v13, .bool true, .bool false] → w.cell? ⟨q, 0, none⟩ = some (.bool v0)) := fun w h => h.cell 0
      go_wp2_with fail
      go_region_held3 (fun w' => w'.cell? ⟨q, 0, none⟩ = some (.bool v0) ∧ w'.cell? ⟨p, 0, none⟩ = some (.bool gn) ∧ w'.cell? ⟨p, 1, none⟩ = some (.bool gz) ∧ w'.cell? ⟨p, 2, none⟩ = some (.bool gc) ∧ w'.cell? ⟨p, 3, none⟩ = some (.bool gv)) (first | (with_reducible exact ⟨CK.out _ B2.out, B1.out.four.1⟩)) ((first
        | (go_at_call 14; refine (P0.out _).mono ?_; rintro e wn ⟨rfl, hb⟩; have B2 : Hid (Bl _ _ _ _) := B2.out.below hb; have B1 : Hid (Bl _ _ _ _) := B1.out.below hb; have HB : Hid (Below _ _ _) := Below.step HB.out hb; clear hb)))
      go_wp2_with fail
      go_roundw
      case rel => exact ⟨1, by omega, rfl, B2.out, B1.out, HB.out⟩
      case measure => simp [intOf]
    · have B2 : Hid (Bl _ _ _ _) := B2.out.drew
      have B1 : Hid (Bl _ _ _ _) := B1.out.drew
      have HB : Hid (Below _ _ _) := below_drew HB.out
      have CK : Hid (∀ w, Bl w q 4 [.bool v0, .bool v1, .bool v2, .bool v3, .bool v4, .bool v5, .bool v6, .bool v7, .bool v8, .bool v9, .bool v10, .bool v11, .bool v12, .bool v13, .bool true, .bool false] → w.cell? ⟨q, 1, none⟩ = some (.bool v1)) := fun w h => h.cell 1
      go_wp2_with fail
      go_region_held3 (fun w' => w'.cell? ⟨q, 1, none⟩ = some (.bool v1) ∧ w'.cell? ⟨p, 0, none⟩ = some (.bool gn) ∧ w'.cell? ⟨p, 1, none⟩ = some (.bool gz) ∧ w'.cell? ⟨p, 2, none⟩ = some (.bool gc) ∧ w'.cell? ⟨p, 3, none⟩ = some (.bool gv)) (first | (with_reducible exact ⟨CK.out _ B2.out, B1.out.four.1⟩)) ((first
        | (go_at_call 14; refine (P1.out _).mono ?_; rintro e wn ⟨rfl, hb⟩; have B2 : Hid (Bl _ _ _ _) := B2.out.below hb; have B1 : Hid (Bl _ _ _ _) := B1.out.below hb; have HB : Hid (Below _ _ _) := Below.step HB.out hb; clear hb)))
      go_wp2_with fail
      go_roundw
      case rel => exact ⟨2, by omega, rfl, B2.out, B1.out, HB.out⟩
      case measure => simp [intOf]
    · have B2 : Hid (Bl _ _ _ _) := B2.out.drew
      have B1 : Hid (Bl _ _ _ _) := B1.out.drew
      have HB : Hid (Below _ _ _) := below_drew HB.out
      have CK : Hid (∀ w, Bl w q 4 [.bool v0, .bool v1, .bool v2, .bool v3, .bool v4, .bool v5, .bool v6, .bool v7, .bool v8, .bool v9, .bool v10, .bool v11, .bool v12, .bool v13, .bool true, .bool false] → w.cell? ⟨q, 2, none⟩ = some (.bool v2)) := fun w h => h.cell 2
      go_wp2_with fail
      go_region_held3 (fun w' => w'.cell? ⟨q, 2, none⟩ = some (.bool v2) ∧ w'.cell? ⟨p, 0, none⟩ = some (.bool gn) ∧ w'.cell? ⟨p, 1, none⟩ = some (.bool gz) ∧ w'.cell? ⟨p, 2, none⟩ = some (.bool gc) ∧ w'.cell? ⟨p, 3, none⟩ = some (.bool gv)) (first | (with_reducible exact ⟨CK.out _ B2.out, B1.out.four.1⟩)) ((first
        | (go_at_call 14; refine (P2.out _).mono ?_; rintro e wn ⟨rfl, hb⟩; have B2 : Hid (Bl _ _ _ _) := B2.out.below hb; have B1 : Hid (Bl _ _ _ _) := B1.out.below hb; have HB : Hid (Below _ _ _) := Below.step HB.out hb; clear hb)))
      go_wp2_with fail
      go_roundw
      case rel => exact ⟨3, by omega, rfl, B2.out, B1.out, HB.out⟩
      case measure => simp [intOf]
    · have B2 : Hid (Bl _ _ _ _) := B2.out.drew
      have B1 : Hid (Bl _ _ _ _) := B1.out.drew
      have HB : Hid (Below _ _ _) := below_drew HB.out
      have CK : Hid (∀ w, Bl w q 4 [.bool v0, .bool v1, .bool v2, .bool v3, .bool v4, .bool v5, .bool v6, .bool v7, .bool v8, .bool v9, .bool v10, .bool v11, .bool v12, .bool v13, .bool true, .bool false] → w.cell? ⟨q, 3, none⟩ = some (.bool v3)) := fun w h => h.cell 3
      go_wp2_with fail
      go_region_held3 (fun w' => w'.cell? ⟨q, 3, none⟩ = some (.bool v3) ∧ w'.cell? ⟨p, 0, none⟩ = some (.bool gn) ∧ w'.cell? ⟨p, 1, none⟩ = some (.bool gz) ∧ w'.cell? ⟨p, 2, none⟩ = some (.bool gc) ∧ w'.cell? ⟨p, 3, none⟩ = some (.bool gv)) (first | (with_reducible exact ⟨CK.out _ B2.out, B1.out.four.1⟩)) ((first
        | (go_at_call 14; refine (P3.out _).mono ?_; rintro e wn ⟨rfl, hb⟩; have B2 : Hid (Bl _ _ _ _) := B2.out.below hb; have B1 : Hid (Bl _ _ _ _) := B1.out.below hb; have HB : Hid (Below _ _ _) := Below.step HB.out hb; clear hb)))
      go_wp2_with fail
      go_roundw
      case rel => exact ⟨4, by omega, rfl, B2.out, B1.out, HB.out⟩
      case measure => simp [intOf]
    · have B2 : Hid (Bl _ _ _ _) := B2.out.drew
      have B1 : Hid (Bl _ _ _ _) := B1.out.drew
      have HB : Hid (Below _ _ _) := below_drew HB.out
      have CK : Hid (∀ w, Bl w q 4 [.bool v0, .bool v1, .bool v2, .bool v3, .bool v4, .bool v5, .bool v6, .bool v7, .bool v8, .bool v9, .bool v10, .bool v11, .bool v12, .bool v13, .bool true, .bool false] → w.cell? ⟨q, 4, none⟩ = some (.bool v4)) := fun w h => h.cell 4
      go_wp2_with fail
      go_region_held3 (fun w' => w'.cell? ⟨q, 4, none⟩ = some (.bool v4) ∧ w'.cell? ⟨p, 0, none⟩ = some (.bool gn) ∧ w'.cell? ⟨p, 1, none⟩ = some (.bool gz) ∧ w'.cell? ⟨p, 2, none⟩ = some (.bool gc) ∧ w'.cell? ⟨p, 3, none⟩ = some (.bool gv)) (first | (with_reducible exact ⟨CK.out _ B2.out, B1.out.four.1⟩)) ((first
        | (go_at_call 14; refine (P4.out _).mono ?_; rintro e wn ⟨rfl, hb⟩; have B2 : Hid (Bl _ _ _ _) := B2.out.below hb; have B1 : Hid (Bl _ _ _ _) := B1.out.below hb; have HB : Hid (Below _ _ _) := Below.step HB.out hb; clear hb)))
      go_wp2_with fail
      go_roundw
      case rel => exact ⟨5, by omega, rfl, B2.out, B1.out, HB.out⟩
      case measure => simp [intOf]
    · have B2 : Hid (Bl _ _ _ _) := B2.out.drew
      have B1 : Hid (Bl _ _ _ _) := B1.out.drew
      have HB : Hid (Below _ _ _) := below_drew HB.out
      have CK : Hid (∀ w, Bl w q 4 [.bool v0, .bool v1, .bool v2, .bool v3, .bool v4, .bool v5, .bool v6, .bool v7, .bool v8, .bool v9, .bool v10, .bool v11, .bool v12, .bool v13, .bool true, .bool false] → w.cell? ⟨q, 5, none⟩ = some (.bool v5)) := fun w h => h.cell 5
      go_wp2_with fail
      go_region_held3 (fun w' => w'.cell? ⟨q, 5, none⟩ = some (.bool v5) ∧ w'.cell? ⟨p, 0, none⟩ = some (.bool gn) ∧ w'.cell? ⟨p, 1, none⟩ = some (.bool gz) ∧ w'.cell? ⟨p, 2, none⟩ = some (.bool gc) ∧ w'.cell? ⟨p, 3, none⟩ = some (.bool gv)) (first | (with_reducible exact ⟨CK.out _ B2.out, B1.out.four.1⟩)) ((first
        | (go_at_call 14; refine (P5.out _).mono ?_; rintro e wn ⟨rfl, hb⟩; have B2 : Hid (Bl _ _ _ _) := B2.out.below hb; have B1 : Hid (Bl _ _ _ _) := B1.out.below hb; have HB : Hid (Below _ _ _) := Below.step HB.out hb; clear hb)))
      go_wp2_with fail
      go_roundw
      case rel => exact ⟨6, by omega, rfl, B2.out, B1.out, HB.out⟩
      case measure => simp [intOf]
    · have B2 : Hid (Bl _ _ _ _) := B2.out.drew
      have B1 : Hid (Bl _ _ _ _) := B1.out.drew
      have HB : Hid (Below _ _ _) := below_drew HB.out
      have CK : Hid (∀ w, Bl w q 4 [.bool v0, .bool v1, .bool v2, .bool v3, .bool v4, .bool v5, .bool v6, .bool v7, .bool v8, .bool v9, .bool v10, .bool v11, .bool v12, .bool v13, .bool true, .bool false] → w.cell? ⟨q, 6, none⟩ = some (.bool v6)) := fun w h => h.cell 6
      go_wp2_with fail
      go_region_held3 (fun w' => w'.cell? ⟨q, 6, none⟩ = some (.bool v6) ∧ w'.cell? ⟨p, 0, none⟩ = some (.bool gn) ∧ w'.cell? ⟨p, 1, none⟩ = some (.bool gz) ∧ w'.cell? ⟨p, 2, none⟩ = some (.bool gc) ∧ w'.cell? ⟨p, 3, none⟩ = some (.bool gv)) (first | (with_reducible exact ⟨CK.out _ B2.out, B1.out.four.1⟩)) ((first
        | (go_at_call 14; refine (P6.out _).mono ?_; rintro e wn ⟨rfl, hb⟩; have B2 : Hid (Bl _ _ _ _) := B2.out.below hb; have B1 : Hid (Bl _ _ _ _) := B1.out.below hb; have HB : Hid (Below _ _ _) := Below.step HB.out hb; clear hb)))
      go_wp2_with fail
      go_roundw
      case rel => exact ⟨7, by omega, rfl, B2.out, B1.out, HB.out⟩
      case measure => simp [intOf]
    · have B2 : Hid (Bl _ _ _ _) := B2.out.drew
      have B1 : Hid (Bl _ _ _ _) := B1.out.drew
      have HB : Hid (Below _ _ _) := below_drew HB.out
      have CK : Hid (∀ w, Bl w q 4 [.bool v0, .bool v1, .bool v2, .bool v3, .bool v4, .bool v5, .bool v6, .bool v7, .bool v8, .bool v9, .bool v10, .bool v11, .bool v12, .bool v13, .bool true, .bool false] → w.cell? ⟨q, 7, none⟩ = some (.bool v7)) := fun w h => h.cell 7
      go_wp2_with fail
      go_region_held3 (fun w' => w'.cell? ⟨q, 7, none⟩ = some (.bool v7) ∧ w'.cell? ⟨p, 0, none⟩ = some (.bool gn) ∧ w'.cell? ⟨p, 1, none⟩ = some (.bool gz) ∧ w'.cell? ⟨p, 2, none⟩ = some (.bool gc) ∧ w'.cell? ⟨p, 3, none⟩ = some (.bool gv)) (first | (with_reducible exact ⟨CK.out _ B2.out, B1.out.four.1⟩)) ((first
        | (go_at_call 14; refine (P7.out _).mono ?_; rintro e wn ⟨rfl, hb⟩; have B2 : Hid (Bl _ _ _ _) := B2.out.below hb; have B1 : Hid (Bl _ _ _ _) := B1.out.below hb; have HB : Hid (Below _ _ _) := Below.step HB.out hb; clear hb)))
      go_wp2_with fail
      go_roundw
      case rel => exact ⟨8, by omega, rfl, B2.out, B1.out, HB.out⟩
      case measure => simp [intOf]
    · have B2 : Hid (Bl _ _ _ _) := B2.out.drew
      have B1 : Hid (Bl _ _ _ _) := B1.out.drew
      have HB : Hid (Below _ _ _) := below_drew HB.out
      have CK : Hid (∀ w, Bl w q 4 [.bool v0, .bool v1, .bool v2, .bool v3, .bool v4, .bool v5, .bool v6, .bool v7, .bool v8, .bool v9, .bool v10, .bool v11, .bool v12, .bool v13, .bool true, .bool false] → w.cell? ⟨q, 8, none⟩ = some (.bool v8)) := fun w h => h.cell 8
      go_wp2_with fail
      go_region_held3 (fun w' => w'.cell? ⟨q, 8, none⟩ = some (.bool v8) ∧ w'.cell? ⟨p, 0, none⟩ = some (.bool gn) ∧ w'.cell? ⟨p, 1, none⟩ = some (.bool gz) ∧ w'.cell? ⟨p, 2, none⟩ = some (.bool gc) ∧ w'.cell? ⟨p, 3, none⟩ = some (.bool gv)) (first | (with_reducible exact ⟨CK.out _ B2.out, B1.out.four.1⟩)) ((first
        | (go_at_call 14; refine (P8.out _).mono ?_; rintro e wn ⟨rfl, hb⟩; have B2 : Hid (Bl _ _ _ _) := B2.out.below hb; have B1 : Hid (Bl _ _ _ _) := B1.out.below hb; have HB : Hid (Below _ _ _) := Below.step HB.out hb; clear hb)))
      go_wp2_with fail
      go_roundw
      case rel => exact ⟨9, by omega, rfl, B2.out, B1.out, HB.out⟩
      case measure => simp [intOf]
    · have B2 : Hid (Bl _ _ _ _) := B2.out.drew
      have B1 : Hid (Bl _ _ _ _) := B1.out.drew
      have HB : Hid (Below _ _ _) := below_drew HB.out
      have CK : Hid (∀ w, Bl w q 4 [.bool v0, .bool v1, .bool v2, .bool v3, .bool v4, .bool v5, .bool v6, .bool v7, .bool v8, .bool v9, .bool v10, .bool v11, .bool v12, .bool v13, .bool true, .bool false] → w.cell? ⟨q, 9, none⟩ = some (.bool v9)) := fun w h => h.cell 9
      go_wp2_with fail
      go_region_held3 (fun w' => w'.cell? ⟨q, 9, none⟩ = some (.bool v9) ∧ w'.cell? ⟨p, 0, none⟩ = some (.bool gn) ∧ w'.cell? ⟨p, 1, none⟩ = some (.bool gz) ∧ w'.cell? ⟨p, 2, none⟩ = some (.bool gc) ∧ w'.cell? ⟨p, 3, none⟩ = some (.bool gv)) (first | (with_reducible exact ⟨CK.out _ B2.out, B1.out.four.1⟩)) ((first
        | (go_at_call 14; refine (P9.out _).mono ?_; rintro e wn ⟨rfl, hb⟩; have B2 : Hid (Bl _ _ _ _) := B2.out.below hb; have B1 : Hid (Bl _ _ _ _) := B1.out.below hb; have HB : Hid (Below _ _ _) := Below.step HB.out hb; clear hb)))
      go_wp2_with fail
      go_roundw
      case rel => exact ⟨10, by omega, rfl, B2.out, B1.out, HB.out⟩
      case measure => simp [intOf]
    · have B2 : Hid (Bl _ _ _ _) := B2.out.drew
      have B1 : Hid (Bl _ _ _ _) := B1.out.drew
      have HB : Hid (Below _ _ _) := below_drew HB.out
      have CK : Hid (∀ w, Bl w q 4 [.bool v0, .bool v1, .bool v2, .bool v3, .bool v4, .bool v5, .bool v6, .bool v7, .bool v8, .bool v9, .bool v10, .bool v11, .bool v12, .bool v13, .bool true, .bool false] → w.cell? ⟨q, 10, none⟩ = some (.bool v10)) := fun w h => h.cell 10
      go_wp2_with fail
      go_region_held3 (fun w' => w'.cell? ⟨q, 10, none⟩ = some (.bool v10) ∧ w'.cell? ⟨p, 0, none⟩ = some (.bool gn) ∧ w'.cell? ⟨p, 1, none⟩ = some (.bool gz) ∧ w'.cell? ⟨p, 2, none⟩ = some (.bool gc) ∧ w'.cell? ⟨p, 3, none⟩ = some (.bool gv)) (first | (with_reducible exact ⟨CK.out _ B2.out, B1.out.four.1⟩)) ((first
        | (go_at_call 14; refine (P10.out _).mono ?_; rintro e wn ⟨rfl, hb⟩; have B2 : Hid (Bl _ _ _ _) := B2.out.below hb; have B1 : Hid (Bl _ _ _ _) := B1.out.below hb; have HB : Hid (Below _ _ _) := Below.step HB.out hb; clear hb)))
      go_wp2_with fail
      go_roundw
      case rel => exact ⟨11, by omega, rfl, B2.out, B1.out, HB.out⟩
      case measure => simp [intOf]
    · have B2 : Hid (Bl _ _ _ _) := B2.out.drew
      have B1 : Hid (Bl _ _ _ _) := B1.out.drew
      have HB : Hid (Below _ _ _) := below_drew HB.out
      have CK : Hid (∀ w, Bl w q 4 [.bool v0, .bool v1, .bool v2, .bool v3, .bool v4, .bool v5, .bool v6, .bool v7, .bool v8, .bool v9, .bool v10, .bool v11, .bool v12, .bool v13, .bool true, .bool false] → w.cell? ⟨q, 11, none⟩ = some (.bool v11)) := fun w h => h.cell 11
      go_wp2_with fail
      go_region_held3 (fun w' => w'.cell? ⟨q, 11, none⟩ = some (.bool v11) ∧ w'.cell? ⟨p, 0, none⟩ = some (.bool gn) ∧ w'.cell? ⟨p, 1, none⟩ = some (.bool gz) ∧ w'.cell? ⟨p, 2, none⟩ = some (.bool gc) ∧ w'.cell? ⟨p, 3, none⟩ = some (.bool gv)) (first | (with_reducible exact ⟨CK.out _ B2.out, B1.out.four.1⟩)) ((first
        | (go_at_call 14; refine (P11.out _).mono ?_; rintro e wn ⟨rfl, hb⟩; have B2 : Hid (Bl _ _ _ _) := B2.out.below hb; have B1 : Hid (Bl _ _ _ _) := B1.out.below hb; have HB : Hid (Below _ _ _) := Below.step HB.out hb; clear hb)))
      go_wp2_with fail
      go_roundw
      case rel => exact ⟨12, by omega, rfl, B2.out, B1.out, HB.out⟩
      case measure => simp [intOf]
    · have B2 : Hid (Bl _ _ _ _) := B2.out.drew
      have B1 : Hid (Bl _ _ _ _) := B1.out.drew
      have HB : Hid (Below _ _ _) := below_drew HB.out
      have CK : Hid (∀ w, Bl w q 4 [.bool v0, .bool v1, .bool v2, .bool v3, .bool v4, .bool v5, .bool v6, .bool v7, .bool v8, .bool v9, .bool v10, .bool v11, .bool v12, .bool v13, .bool true, .bool false] → w.cell? ⟨q, 12, none⟩ = some (.bool v12)) := fun w h => h.cell 12
      go_wp2_with fail
      go_region_held3 (fun w' => w'.cell? ⟨q, 12, none⟩ = some (.bool v12) ∧ w'.cell? ⟨p, 0, none⟩ = some (.bool gn) ∧ w'.cell? ⟨p, 1, none⟩ = some (.bool gz) ∧ w'.cell? ⟨p, 2, none⟩ = some (.bool gc) ∧ w'.cell? ⟨p, 3, none⟩ = some (.bool gv)) (first | (with_reducible exact ⟨CK.out _ B2.out, B1.out.four.1⟩)) ((first
        | (go_at_call 14; refine (P12.out _).mono ?_; rintro e wn ⟨rfl, hb⟩; have B2 : Hid (Bl _ _ _ _) := B2.out.below hb; have B1 : Hid (Bl _ _ _ _) := B1.out.below hb; have HB : Hid (Below _ _ _) := Below.step HB.out hb; clear hb)))
      go_wp2_with fail
      go_roundw
      case rel => exact ⟨13, by omega, rfl, B2.out, B1.out, HB.out⟩
      case measure => simp [intOf]
    · have B2 : Hid (Bl _ _ _ _) := B2.out.drew
      have B1 : Hid (Bl _ _ _ _) := B1.out.drew
      have HB : Hid (Below _ _ _) := below_drew HB.out
      have CK : Hid (∀ w, Bl w q 4 [.bool v0, .bool v1, .bool v2, .bool v3, .bool v4, .bool v5, .bool v6, .bool v7, .bool v8, .bool v9, .bool v10, .bool v11, .bool v12, .bool v13, .bool true, .bool false] → w.cell? ⟨q, 13, none⟩ = some (.bool v13)) := fun w h => h.cell 13
      go_wp2_with fail
      go_region_held3 (fun w' => w'.cell? ⟨q, 13, none⟩ = some (.bool v13) ∧ w'.cell? ⟨p, 0, none⟩ = some (.bool gn) ∧ w'.cell? ⟨p, 1, none⟩ = some (.bool gz) ∧ w'.cell? ⟨p, 2, none⟩ = some (.bool gc) ∧ w'.cell? ⟨p, 3, none⟩ = some (.bool gv)) (first | (with_reducible exact ⟨CK.out _ B2.out, B1.out.four.1⟩)) ((first
        | (go_at_call 14; refine (P13.out _).mono ?_; rintro e wn ⟨rfl, hb⟩; have B2 : Hid (Bl _ _ _ _) := B2.out.below hb; have B1 : Hid (Bl _ _ _ _) := B1.out.below hb; have HB : Hid (Below _ _ _) := Below.step HB.out hb; clear hb)))
      go_wp2_with fail
      go_roundw
      case rel => exact ⟨14, by omega, rfl, B2.out, B1.out, HB.out⟩
      case measure => simp [intOf]
    · have B2 : Hid (Bl _ _ _ _) := B2.out.drew
      have B1 : Hid (Bl _ _ _ _) := B1.out.drew
      have HB : Hid (Below _ _ _) := below_drew HB.out
      have CK : Hid (∀ w, Bl w q 4 [.bool v0, .bool v1, .bool v2, .bool v3, .bool v4, .bool v5, .bool v6, .bool v7, .bool v8, .bool v9, .bool v10, .bool v11, .bool v12, .bool v13, .bool true, .bool false] → w.cell? ⟨q, 14, none⟩ = some (.bool true)) := fun w h => h.cell 14
      go_wp2_with fail
      go_region_held3 (fun w' => w'.cell? ⟨q, 14, none⟩ = some (.bool true) ∧ w'.cell? ⟨p, 0, none⟩ = some (.bool gn) ∧ w'.cell? ⟨p, 1, none⟩ = some (.bool gz) ∧ w'.cell? ⟨p, 2, none⟩ = some (.bool gc) ∧ w'.cell? ⟨p, 3, none⟩ = some (.bool gv)) (first | (with_reducible exact ⟨CK.out _ B2.out, B1.out.four.1⟩)) ((first
        | (go_at_call 14; refine (P14.out _).mono ?_; rintro e wn ⟨rfl, hb⟩; have B2 : Hid (Bl _ _ _ _) := B2.out.below hb; have B1 : Hid (Bl _ _ _ _) := B1.out.below hb; have HB : Hid (Below _ _ _) := Below.step HB.out hb; clear hb)))
      go_wp2_with fail
      go_roundw
      case rel => exact ⟨15, by omega, rfl, B2.out, B1.out, HB.out⟩
      case measure => simp [intOf]
    · have B2 : Hid (Bl _ _ _ _) := B2.out.drew
      have B1 : Hid (Bl _ _ _ _) := B1.out.drew
      have HB : Hid (Below _ _ _) := below_drew HB.out
      have CK : Hid (∀ w, Bl w q 4 [.bool v0, .bool v1, .bool v2, .bool v3, .bool v4, .bool v5, .bool v6, .bool v7, .bool v8, .bool v9, .bool v10, .bool v11, .bool v12, .bool v13, .bool true, .bool false] → w.cell? ⟨q, 15, none⟩ = some (.bool false)) := fun w h => h.cell 15
      go_wp2_with fail
      go_region_held3 (fun w' => w'.cell? ⟨q, 15, none⟩ = some (.bool false) ∧ w'.cell? ⟨p, 0, none⟩ = some (.bool gn) ∧ w'.cell? ⟨p, 1, none⟩ = some (.bool gz) ∧ w'.cell? ⟨p, 2, none⟩ = some (.bool gc) ∧ w'.cell? ⟨p, 3, none⟩ = some (.bool gv)) (first | (with_reducible exact ⟨CK.out _ B2.out, B1.out.four.1⟩)) ((first
        | (go_at_call 14; refine (P15.out _).mono ?_; rintro e wn ⟨rfl, hb⟩; have B2 : Hid (Bl _ _ _ _) := B2.out.below hb; have B1 : Hid (Bl _ _ _ _) := B1.out.below hb; have HB : Hid (Below _ _ _) := Below.step HB.out hb; clear hb)))
      go_wp2_with fail
      go_roundw
      case rel => exact ⟨16, by omega, rfl, B2.out, B1.out, HB.out⟩
      case measure => simp [intOf]
    · go_wp2_with fail
      go_ret
      exact ⟨rfl, HB.out⟩
end Go.Proofs.Ytdelcknpaldngaa
