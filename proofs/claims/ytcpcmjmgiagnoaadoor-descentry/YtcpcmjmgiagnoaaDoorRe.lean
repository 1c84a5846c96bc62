import Derived.Test.YtcpcmjmgiagnoaaDoorRk1
import Derived.Test.YtcpcmjmgiagnoaaDoorRk2
import Derived.Test.YtcpcmjmgiagnoaaDoorRk3
import Derived.Test.YtcpcmjmgiagnoaaDoorRk4
namespace Go.Proofs.YtcpcmjmgiagnoaaDoor
open Go.RowKit
set_option linter.unusedVariables false
set_option linter.unusedSimpArgs false

set_option maxRecDepth 100000 in
set_option maxHeartbeats 4000000 in
theorem rright_no (t : Tra) (W : World) (HS : ∀ w, Calls Tryd.prog 29 #[.int .i64 t.size] w fun e w' => e = .returned (.int .i64 0) ∧ w = w') : Calls Tryd.prog 20 #[.agg #[.int .i64 t.size, .int .u32 t.va, .int .u64 t.pa, .int .i64 t.dom, .int .i64 t.ap, .int .u32 t.bits, .bool t.ng, .bool t.xn]] W fun r w' => r = .returned (.bool false) ∧ Below W.heap.size W w' := by
  have HB0 : Hid (∀ o, Below W.heap.size W (W.alloc o)) := fun o => ((Below.refl _ _).alloc (Nat.le_refl _) o)
  go_enter Tryd.func20, Tryd.ntmps20
  go_wp2_with (first
    | (go_at_call 29; refine (HS _).mono ?_; rintro e w' ⟨rfl, rfl⟩)
    | go_in)
  go_ret
  exact ⟨rfl, HB0.out _⟩
theorem rright_any (t : Tra) (W : World) (hv : 0 ≤ t.va ∧ t.va < 4294967296) (hO : Ok (enF t)) : Calls Tryd.prog 20 #[.agg #[.int .i64 t.size, .int .u32 t.va, .int .u64 t.pa, .int .i64 t.dom, .int .i64 t.ap, .int .u32 t.bits, .bool t.ng, .bool t.xn]] W fun r w' => r = .returned (.bool (riF t)) ∧ Below W.heap.size W w' := by
  have hp : 0 ≤ t.pa := hO.1.1
  by_cases hs : 1 ≤ t.size ∧ t.size ≤ 4
  · have hri := ri_iff t hO hs
    have HL := fun w => rleaf_any t.ap t.bits t.ng t.xn w
    have hw : t.va % 18446744073709551616 = t.va := by omega
    obtain ⟨s, t2, t3, t4, t5, t6, t7, t8⟩ := t
    simp only at hs hv hp hw HL
    rcases (show s = 1 ∨ s = 2 ∨ s = 3 ∨ s = 4 by omega) with rfl | rfl | rfl | rfl
    · have hB : (if (decide (t2 % 4096 = 0) && decide (t2 < 4294967296)) && (lfB t5 t6 && (!(decide (t4 < 0)) && !(decide (15 < t4)))) then (decide (t3 % 4096 = 0) && decide (t3 < 4294967296)) else false) = riF ⟨1, t2, t3, t4, t5, t6, t7, t8⟩ := by
        apply Bool.eq_iff_iff.2
        rw [hri]
        have e4 : byN 1 = 4096 := rfl
        simp only [RR, e4, show ¬ ((1 : Int) = 4) from by decide, if_false]
        split
        · rename_i h
          simp only [Bool.and_eq_true, decide_eq_true_eq, lfB_iff, Bool.not_eq_true', decide_eq_false_iff_not, beq_iff_eq] at h ⊢
          omega
        · rename_i h
          simp only [Bool.and_eq_true, decide_eq_true_eq, lfB_iff, Bool.not_eq_true', decide_eq_false_iff_not] at h
          constructor
          · intro f
            cases f
          · intro g
            exfalso
            omega
      rw [← hB]
      exact rright_1 t2 t3 t4 t5 t6 t7 t8 W _ _ _ _ _ _ hw rfl rfl rfl (fun w => shift_any 1 w) (fun w => rplace_12_32 t2 w hv.1) (fun w => rplace_12_32 t3 w hp) HL
    · have hB : (if (decide (t2 % 65536 = 0) && decide (t2 < 4294967296)) && (lfB t5 t6 && (!(decide (t4 < 0)) && !(decide (15 < t4)))) then (decide (t3 % 65536 = 0) && decide (t3 < 4294967296)) else false) = riF ⟨2, t2, t3, t4, t5, t6, t7, t8⟩ := by
        apply Bool.eq_iff_iff.2
        rw [hri]
        have e4 : byN 2 = 65536 := rfl
        simp only [RR, e4, show ¬ ((2 : Int) = 4) from by decide, if_false]
        split
        · rename_i h
          simp only [Bool.and_eq_true, decide_eq_true_eq, lfB_iff, Bool.not_eq_true', decide_eq_false_iff_not, beq_iff_eq] at h ⊢
          omega
        · rename_i h
          simp only [Bool.and_eq_true, decide_eq_true_eq, lfB_iff, Bool.not_eq_true', decide_eq_false_iff_not] at h
          constructor
          · intro f
            cases f
          · intro g
            exfalso
            omega
      rw [← hB]
      exact rright_2 t2 t3 t4 t5 t6 t7 t8 W _ _ _ _ _ _ hw rfl rfl rfl (fun w => shift_any 2 w) (fun w => rplace_16_32 t2 w hv.1) (fun w => rplace_16_32 t3 w hp) HL
    · have hB : (if (decide (t2 % 1048576 = 0) && decide (t2 < 4294967296)) && (lfB t5 t6 && (!(decide (t4 < 0)) && !(decide (15 < t4)))) then (decide (t3 % 1048576 = 0) && decide (t3 < 4294967296)) else false) = riF ⟨3, t2, t3, t4, t5, t6, t7, t8⟩ := by
        apply Bool.eq_iff_iff.2
        rw [hri]
        have e4 : byN 3 = 1048576 := rfl
        simp only [RR, e4, show ¬ ((3 : Int) = 4) from by decide, if_false]
        split
        · rename_i h
          simp only [Bool.and_eq_true, decide_eq_true_eq, lfB_iff, Bool.not_eq_true', decide_eq_false_iff_not, beq_iff_eq] at h ⊢
          omega
        · rename_i h
          simp only [Bool.and_eq_true, decide_eq_true_eq, lfB_iff, Bool.not_eq_true', decide_eq_false_iff_not] at h
          constructor
          · intro f
            cases f
          · intro g
            exfalso
            omega
      rw [← hB]
      exact rright_3 t2 t3 t4 t5 t6 t7 t8 W _ _ _ _ _ _ hw rfl rfl rfl (fun w => shift_any 3 w) (fun w => rplace_20_32 t2 w hv.1) (fun w => rplace_20_32 t3 w hp) HL
    · have hB : (if (decide (t2 % 16777216 = 0) && decide (t2 < 4294967296)) && (lfB t5 t6 && (!(decide (t4 < 0)) && !(decide (15 < t4)))) then (decide (t3 % 16777216 = 0) && decide (t3 < 1099511627776)) && (t4 == 0) else false) = riF ⟨4, t2, t3, t4, t5, t6, t7, t8⟩ := by
        apply Bool.eq_iff_iff.2
        rw [hri]
        have e4 : byN 4 = 16777216 := rfl
        simp only [RR, e4, if_true]
        split
        · rename_i h
          simp only [Bool.and_eq_true, decide_eq_true_eq, lfB_iff, Bool.not_eq_true', decide_eq_false_iff_not, beq_iff_eq] at h ⊢
          omega
        · rename_i h
          simp only [Bool.and_eq_true, decide_eq_true_eq, lfB_iff, Bool.not_eq_true', decide_eq_false_iff_not] at h
          constructor
          · intro f
            cases f
          · intro g
            exfalso
            omega
      rw [← hB]
      exact rright_4 t2 t3 t4 t5 t6 t7 t8 W _ _ _ _ _ _ hw rfl rfl rfl (fun w => shift_any 4 w) (fun w => rplace_24_32 t2 w hv.1) (fun w => rplace_24_40 t3 w hp) HL
  · have hf : riF t = false := by
      have q : (decide (1 ≤ t.size) && decide (t.size ≤ 4)) = false := by simp; omega
      unfold riF; rw [q]; rfl
    rw [hf]
    have HS := fun w => shift_any t.size w
    rw [show shN t.size = 0 by unfold shN; rw [if_neg (by omega), if_neg (by omega), if_neg (by omega), if_neg (by omega)]] at HS
    exact rright_no t W HS
set_option maxRecDepth 100000 in
set_option maxHeartbeats 8000000 in
theorem rentry_no (t1 t2 t3 t4 t5 t6 : Int) (t7 t8 : Bool) (W : World)
    (HR : ∀ ww, Calls Tryd.prog 20 #[.agg #[.int .i64 t1, .int .u32 t2, .int .u64 t3, .int .i64 t4, .int .i64 t5, .int .u32 t6, .bool t7, .bool t8]] ww fun r w' => r = .returned (.bool false) ∧ Below ww.heap.size ww w') :
    Calls Tryd.prog 18 #[.agg #[.int .i64 t1, .int .u32 t2, .int .u64 t3, .int .i64 t4, .int .i64 t5, .int .u32 t6, .bool t7, .bool t8]] W fun r w' => r = .returned (.tuple #[.agg #[.int .i64 0, .int .u64 0, .int .i64 0, .bool false, .int .i64 0, .int .u32 0, .bool false, .bool false], .int .i64 50]) ∧ Below W.heap.size W w' := by
  have hN := Bl.new W 34 [.int .i64 t1, .int .u32 t2, .int .u64 t3, .int .i64 t4, .int .i64 t5, .int .u32 t6, .bool t7, .bool t8]
  have hsz : (W.alloc (.cells ([.int .i64 t1, .int .u32 t2, .int .u64 t3, .int .i64 t4, .int .i64 t5, .int .u32 t6, .bool t7, .bool t8]).toArray 34)).heap.size = W.heap.size + 1 := by simp
  have hM := Bl.new (W.alloc (.cells ([.int .i64 t1, .int .u32 t2, .int .u64 t3, .int .i64 t4, .int .i64 t5, .int .u32 t6, .bool t7, .bool t8]).toArray 34)) 30 [.int .i64 0, .int .u64 0, .int .i64 0, .bool false, .int .i64 0, .int .u32 0, .bool false, .bool false]
  have hN := hN.below ((Below.refl _ _).alloc (Nat.le_refl _) (.cells ([.int .i64 0, .int .u64 0, .int .i64 0, .bool false, .int .i64 0, .int .u32 0, .bool false, .bool false]).toArray 30))
  rw [hsz] at hM
  go_enter Tryd.func18, Tryd.ntmps18
  go_wp2_with (first
    | (go_at_call 20; refine (HR _).mono ?_; rintro e w1 ⟨rfl, hb⟩; have hx1 := hN.below hb; have hy1 := hM.below hb; have HB : Hid (Below W.heap.size W w1) := Below.step (by (repeat (refine Below.alloc ?_ (by simp) _)); exact Below.refl _ _) hb; clear hb hN hM; have hc := hx1.cell; have hd := hy1.cell; have hf := hy1.frozen; have hlt : W.heap.size + 1 < w1.heap.size := hy1.lt)
    | go_in)
  refine bodyPost_ret (v := .tuple #[.agg #[.int .i64 0, .int .u64 0, .int .i64 0, .bool false, .int .i64 0, .int .u32 0, .bool false, .bool false], .int .i64 50]) (by simp [results, Tryd.results18, go_sem, hd]) rfl ⟨rfl, (by (repeat (refine Below.setCell ?_ (by simp) _)); exact HB.out)⟩
set_option maxRecDepth 100000 in
set_option maxHeartbeats 8000000 in
theorem rentry_1 (t2 t3 t4 t5 t6 : Int) (t7 t8 : Bool) (W : World)
    (HR : ∀ ww, Calls Tryd.prog 20 #[.agg #[.int .i64 1, .int .u32 t2, .int .u64 t3, .int .i64 t4, .int .i64 t5, .int .u32 t6, .bool t7, .bool t8]] ww fun r w' => r = .returned (.bool true) ∧ Below ww.heap.size ww w') :
    Calls Tryd.prog 18 #[.agg #[.int .i64 1, .int .u32 t2, .int .u64 t3, .int .i64 t4, .int .i64 t5, .int .u32 t6, .bool t7, .bool t8]] W fun r w' => r = .returned (.tuple #[.agg #[.int .i64 5, .int .u64 t3, .int .i64 0, .bool false, .int .i64 t5, .int .u32 t6, .bool t7, .bool t8], .int .i64 0]) ∧ Below W.heap.size W w' := by
  have hN := Bl.new W 34 [.int .i64 1, .int .u32 t2, .int .u64 t3, .int .i64 t4, .int .i64 t5, .int .u32 t6, .bool t7, .bool t8]
  have hsz : (W.alloc (.cells ([.int .i64 1, .int .u32 t2, .int .u64 t3, .int .i64 t4, .int .i64 t5, .int .u32 t6, .bool t7, .bool t8]).toArray 34)).heap.size = W.heap.size + 1 := by simp
  have hM := Bl.new (W.alloc (.cells ([.int .i64 1, .int .u32 t2, .int .u64 t3, .int .i64 t4, .int .i64 t5, .int .u32 t6, .bool t7, .bool t8]).toArray 34)) 30 [.int .i64 0, .int .u64 0, .int .i64 0, .bool false, .int .i64 0, .int .u32 0, .bool false, .bool false]
  have hN := hN.below ((Below.refl _ _).alloc (Nat.le_refl _) (.cells ([.int .i64 0, .int .u64 0, .int .i64 0, .bool false, .int .i64 0, .int .u32 0, .bool false, .bool false]).toArray 30))
  rw [hsz] at hM
  go_enter Tryd.func18, Tryd.ntmps18
  go_wp2_with (first
    | (go_at_call 20; refine (HR _).mono ?_; rintro e w1 ⟨rfl, hb⟩; have hx1 := hN.below hb; have hy1 := hM.below hb; have HB : Hid (Below W.heap.size W w1) := Below.step (by (repeat (refine Below.alloc ?_ (by simp) _)); exact Below.refl _ _) hb; clear hb hN hM; have hc := hx1.cell; have hd := hy1.cell; have hf := hy1.frozen; have hlt : W.heap.size + 1 < w1.heap.size := hy1.lt)
    | go_in)
  have HX : Hid (∀ o p, Bl ((w1.alloc o).alloc p).drew W.heap.size 34 [.int .i64 1, .int .u32 t2, .int .u64 t3, .int .i64 t4, .int .i64 t5, .int .u32 t6, .bool t7, .bool t8]) := fun o p => ((hx1.below ((Below.refl _ _).alloc (Nat.le_refl _) o)).below ((Below.refl _ _).alloc (Nat.le_refl _) p)).drew
  have HA : Hid (∀ p, Bl ((w1.alloc (.cells ([.int .i64 0, .int .i64 5, .int .i64 4, .int .i64 2, .int .i64 3]).toArray 58)).alloc p).drew w1.heap.size 58 [.int .i64 0, .int .i64 5, .int .i64 4, .int .i64 2, .int .i64 3]) := fun p => ((Bl.new w1 58 [.int .i64 0, .int .i64 5, .int .i64 4, .int .i64 2, .int .i64 3]).below ((Below.refl _ _).alloc (Nat.le_refl _) p)).drew
  refine wp_region_held_drew (S := fun w' => w'.cell? ⟨W.heap.size, 0, none⟩ = some (.int .i64 1) ∧ w'.cell? ⟨W.heap.size, 2, none⟩ = some (.int .u64 t3) ∧ w'.cell? ⟨W.heap.size, 4, none⟩ = some (.int .i64 t5) ∧ w'.cell? ⟨W.heap.size, 5, none⟩ = some (.int .u32 t6) ∧ w'.cell? ⟨W.heap.size, 6, none⟩ = some (.bool t7) ∧ w'.cell? ⟨W.heap.size, 7, none⟩ = some (.bool t8) ∧ w'.cell? ⟨w1.heap.size, 1, none⟩ = some (.int .i64 5)) (by kernel_rfl) ⟨(hx1.below ((Below.refl _ _).alloc (Nat.le_refl _) _)).drew.cell 0, (hx1.below ((Below.refl _ _).alloc (Nat.le_refl _) _)).drew.cell 2, (hx1.below ((Below.refl _ _).alloc (Nat.le_refl _) _)).drew.cell 4, (hx1.below ((Below.refl _ _).alloc (Nat.le_refl _) _)).drew.cell 5, (hx1.below ((Below.refl _ _).alloc (Nat.le_refl _) _)).drew.cell 6, (hx1.below ((Below.refl _ _).alloc (Nat.le_refl _) _)).drew.cell 7, (Bl.new w1 58 [.int .i64 0, .int .i64 5, .int .i64 4, .int .i64 2, .int .i64 3]).drew.cell 1⟩ (fun hHeld => ?_)
  refine wpAnyH_take (i := 0) (oi := { dst := some 11, op := Op.fieldAddr 34 (Operand.tmp 1) 0, type := 0, pos := _, after := #[], guard := none }) (v := ?_) rfl (by kernel_rfl) (by kernel_rfl) (by kernel_rfl) (fun _ _ _ h => h) (Or.inl ⟨by rfl, ?_⟩) (by assumption) ?_
  rotate_left
  · (intro w hSw; (try dsimp only at hSw); go_simp; try with_reducible rfl)
  simp only [Act.put, List.setIfInBounds_toArray, List.set_cons_zero, List.set_cons_succ]
  refine wpAnyH_take (i := 1) (oi := { dst := some 12, op := Op.load 3 (Operand.tmp 11), type := 3, pos := _, after := #[{ on := 0, ground := Ground.data }], guard := none }) (v := ?_) rfl (by kernel_rfl) (by kernel_rfl) (by kernel_rfl) (fun _ _ _ h => h) (Or.inl ⟨by rfl, ?_⟩) (by assumption) ?_
  rotate_left
  · (intro w hSw; (try dsimp only at hSw); go_simp; try with_reducible rfl)
  simp only [Act.put, List.setIfInBounds_toArray, List.set_cons_zero, List.set_cons_succ]
  refine wpAnyH_take (i := 2) (oi := { dst := some 13, op := Op.indexAddr 58 (Operand.tmp 4) (Operand.tmp 12), type := 0, pos := _, after := #[{ on := 1, ground := Ground.data }], guard := none }) (v := ?_) rfl (by kernel_rfl) (by kernel_rfl) (by kernel_rfl) (fun _ _ _ h => h) (Or.inl ⟨by rfl, ?_⟩) (by assumption) ?_
  rotate_left
  · (intro w hSw; (try dsimp only at hSw); go_simp; try with_reducible rfl)
  simp only [Act.put, List.setIfInBounds_toArray, List.set_cons_zero, List.set_cons_succ]
  refine wpAnyH_take (i := 3) (oi := { dst := some 14, op := Op.load 3 (Operand.tmp 13), type := 3, pos := _, after := #[{ on := 2, ground := Ground.data }], guard := none }) (v := ?_) rfl (by kernel_rfl) (by kernel_rfl) (by kernel_rfl) (fun _ _ _ h => h) (Or.inl ⟨by rfl, ?_⟩) (by assumption) ?_
  rotate_left
  · (intro w hSw; (try dsimp only at hSw); go_simp; try with_reducible rfl)
  simp only [Act.put, List.setIfInBounds_toArray, List.set_cons_zero, List.set_cons_succ]
  refine wpAnyH_take (i := 4) (oi := { dst := some 15, op := Op.fieldAddr 34 (Operand.tmp 1) 2, type := 0, pos := _, after := #[], guard := none }) (v := ?_) rfl (by kernel_rfl) (by kernel_rfl) (by kernel_rfl) (fun _ _ _ h => h) (Or.inl ⟨by rfl, ?_⟩) (by assumption) ?_
  rotate_left
  · (intro w hSw; (try dsimp only at hSw); go_simp; try with_reducible rfl)
  simp only [Act.put, List.setIfInBounds_toArray, List.set_cons_zero, List.set_cons_succ]
  refine wpAnyH_take (i := 5) (oi := { dst := some 16, op := Op.load 22 (Operand.tmp 15), type := 22, pos := _, after := #[{ on := 4, ground := Ground.data }], guard := none }) (v := ?_) rfl (by kernel_rfl) (by kernel_rfl) (by kernel_rfl) (fun _ _ _ h => h) (Or.inl ⟨by rfl, ?_⟩) (by assumption) ?_
  rotate_left
  · (intro w hSw; (try dsimp only at hSw); go_simp; try with_reducible rfl)
  simp only [Act.put, List.setIfInBounds_toArray, List.set_cons_zero, List.set_cons_succ]
  refine wpAnyH_take (i := 6) (oi := { dst := some 17, op := Op.fieldAddr 34 (Operand.tmp 1) 4, type := 0, pos := _, after := #[], guard := none }) (v := ?_) rfl (by kernel_rfl) (by kernel_rfl) (by kernel_rfl) (fun _ _ _ h => h) (Or.inl ⟨by rfl, ?_⟩) (by assumption) ?_
  rotate_left
  · (intro w hSw; (try dsimp only at hSw); go_simp; try with_reducible rfl)
  simp only [Act.put, List.setIfInBounds_toArray, List.set_cons_zero, List.set_cons_succ]
  refine wpAnyH_take (i := 7) (oi := { dst := some 18, op := Op.load 28 (Operand.tmp 17), type := 28, pos := _, after := #[{ on := 6, ground := Ground.data }], guard := none }) (v := ?_) rfl (by kernel_rfl) (by kernel_rfl) (by kernel_rfl) (fun _ _ _ h => h) (Or.inl ⟨by rfl, ?_⟩) (by assumption) ?_
  rotate_left
  · (intro w hSw; (try dsimp only at hSw); go_simp; try with_reducible rfl)
  simp only [Act.put, List.setIfInBounds_toArray, List.set_cons_zero, List.set_cons_succ]
  refine wpAnyH_take (i := 8) (oi := { dst := some 19, op := Op.build 30 #[(0, Operand.tmp 14), (1, Operand.tmp 16), (4, Operand.tmp 18)], type := 30, pos := _, after := #[{ on := 3, ground := Ground.data }, { on := 5, ground := Ground.data }, { on := 7, ground := Ground.data }], guard := none }) (v := ?_) rfl (by kernel_rfl) (by kernel_rfl) (by kernel_rfl) (fun _ _ _ h => h) (Or.inl ⟨by rfl, ?_⟩) (by assumption) ?_
  rotate_left
  · (intro w hSw; (try dsimp only at hSw); go_simp; try with_reducible rfl)
  simp only [Act.put, List.setIfInBounds_toArray, List.set_cons_zero, List.set_cons_succ]
  refine wpAnyH_ready (rs := [9]) (by kernel_rfl) (by simp) ?_
  refine AllReadyH.cons (o := { dst := some 5, op := Op.alloc 30, type := 0, pos := _, after := #[], guard := none }) rfl (fun K hK => ?_) AllReadyH.nil
  go_simp
  skip
  refine hK.out _ _ ?_ (fun hHeld => ?_)
  · ((try dsimp only); exact ⟨(HX.out _ _).cell 0, (HX.out _ _).cell 2, (HX.out _ _).cell 4, (HX.out _ _).cell 5, (HX.out _ _).cell 6, (HX.out _ _).cell 7, (HA.out _).cell 1⟩)
  clear hK K
  try simp only [Act.put, List.setIfInBounds_toArray, List.set_cons_zero, List.set_cons_succ]
  refine wpAnyH_ready (rs := [10]) (by kernel_rfl) (by simp) ?_
  refine AllReadyH.cons (o := { dst := none, op := Op.store 30 (Operand.tmp 5) (Operand.tmp 19), type := 0, pos := _, after := #[{ on := 9, ground := Ground.data }, { on := 8, ground := Ground.data }, { on := 0, ground := Ground.phase }, { on := 1, ground := Ground.phase }, { on := 2, ground := Ground.phase }, { on := 3, ground := Ground.phase }, { on := 4, ground := Ground.phase }, { on := 5, ground := Ground.phase }, { on := 6, ground := Ground.phase }, { on := 7, ground := Ground.phase }, { on := 8, ground := Ground.phase }, { on := 9, ground := Ground.phase }], guard := none }) rfl (fun K hK => ?_) AllReadyH.nil
  go_simp
  skip
  refine hK.out _ _ ?_ (fun hHeld => ?_)
  · ((try dsimp only); exact ⟨(HX.out _ _).cell 0, (HX.out _ _).cell 2, (HX.out _ _).cell 4, (HX.out _ _).cell 5, (HX.out _ _).cell 6, (HX.out _ _).cell 7, (HA.out _).cell 1⟩)
  clear hK K
  try simp only [Act.put, List.setIfInBounds_toArray, List.set_cons_zero, List.set_cons_succ]
  refine wpAnyH_done (by kernel_rfl) ?_ _
  have hz3 := (Bl.new (w1.alloc (.cells #[.int .i64 0, .int .i64 5, .int .i64 4, .int .i64 2, .int .i64 3] 58)) 30 [.int .i64 5, .int .u64 t3, .int .i64 0, .bool false, .int .i64 t5, .int .u32 t6, .bool t7, .bool t8]).drew
  have hsz3 : (w1.alloc (.cells #[.int .i64 0, .int .i64 5, .int .i64 4, .int .i64 2, .int .i64 3] 58)).heap.size = w1.heap.size + 1 := by simp
  rw [hsz3] at hz3
  have hx3 := HX.out (.cells #[.int .i64 0, .int .i64 5, .int .i64 4, .int .i64 2, .int .i64 3] 58) (.cells [.int .i64 5, .int .u64 t3, .int .i64 0, .bool false, .int .i64 t5, .int .u32 t6, .bool t7, .bool t8].toArray 30)
  have hy3 := ((hy1.below ((Below.refl _ _).alloc (Nat.le_refl _) (.cells #[.int .i64 0, .int .i64 5, .int .i64 4, .int .i64 2, .int .i64 3] 58))).below ((Below.refl _ _).alloc (Nat.le_refl _) (.cells [.int .i64 5, .int .u64 t3, .int .i64 0, .bool false, .int .i64 t5, .int .u32 t6, .bool t7, .bool t8].toArray 30))).drew
  have HB3 : Hid (Below W.heap.size W ((w1.alloc (.cells #[.int .i64 0, .int .i64 5, .int .i64 4, .int .i64 2, .int .i64 3] 58)).alloc (.cells [.int .i64 5, .int .u64 t3, .int .i64 0, .bool false, .int .i64 t5, .int .u32 t6, .bool t7, .bool t8].toArray 30)).drew) := below_drew (Below.alloc (Below.alloc HB.out HB.out.size _) (by have := HB.out.size; simp; omega) _)
  generalize hg : ((w1.alloc (.cells #[.int .i64 0, .int .i64 5, .int .i64 4, .int .i64 2, .int .i64 3] 58)).alloc (.cells #[.int .i64 5, .int .u64 t3, .int .i64 0, .bool false, .int .i64 t5, .int .u32 t6, .bool t7, .bool t8] 30)).drew = w3 at *
  clear hg hc hd hf hx1 hy1 HX HA hHeld
  have hc := hx3.cell
  have hd := hy3.cell
  have hf := hy3.frozen
  have hc2 := hz3.cell
  have hf2 := hz3.frozen
  have m1 : ¬ (w1.heap.size + 1 = W.heap.size + 1) := by omega
  have m2 : ¬ (W.heap.size = w1.heap.size) := by omega
  have m3 : ¬ (w1.heap.size = W.heap.size) := by omega
  go_wp2
  refine bodyPost_ret (v := .tuple #[.agg #[.int .i64 5, .int .u64 t3, .int .i64 0, .bool false, .int .i64 t5, .int .u32 t6, .bool t7, .bool t8], .int .i64 0]) (by simp [results, Tryd.results18, go_sem, hd, m1, m2, m3]) rfl ⟨rfl, (by (repeat (refine Below.setCell ?_ (by first | (simp; done) | (simp; omega)) _)); exact HB3.out)⟩
set_option maxRecDepth 100000 in
set_option maxHeartbeats 8000000 in
theorem rentry_2 (t2 t3 t4 t5 t6 : Int) (t7 t8 : Bool) (W : World)
    (HR : ∀ ww, Calls Tryd.prog 20 #[.agg #[.int .i64 2, .int .u32 t2, .int .u64 t3, .int .i64 t4, .int .i64 t5, .int .u32 t6, .bool t7, .bool t8]] ww fun r w' => r = .returned (.bool true) ∧ Below ww.heap.size ww w') :
    Calls Tryd.prog 18 #[.agg #[.int .i64 2, .int .u32 t2, .int .u64 t3, .int .i64 t4, .int .i64 t5, .int .u32 t6, .bool t7, .bool t8]] W fun r w' => r = .returned (.tuple #[.agg #[.int .i64 4, .int .u64 t3, .int .i64 0, .bool false, .int .i64 t5, .int .u32 t6, .bool t7, .bool t8], .int .i64 0]) ∧ Below W.heap.size W w' := by
  have hN := Bl.new W 34 [.int .i64 2, .int .u32 t2, .int .u64 t3, .int .i64 t4, .int .i64 t5, .int .u32 t6, .bool t7, .bool t8]
  have hsz : (W.alloc (.cells ([.int .i64 2, .int .u32 t2, .int .u64 t3, .int .i64 t4, .int .i64 t5, .int .u32 t6, .bool t7, .bool t8]).toArray 34)).heap.size = W.heap.size + 1 := by simp
  have hM := Bl.new (W.alloc (.cells ([.int .i64 2, .int .u32 t2, .int .u64 t3, .int .i64 t4, .int .i64 t5, .int .u32 t6, .bool t7, .bool t8]).toArray 34)) 30 [.int .i64 0, .int .u64 0, .int .i64 0, .bool false, .int .i64 0, .int .u32 0, .bool false, .bool false]
  have hN := hN.below ((Below.refl _ _).alloc (Nat.le_refl _) (.cells ([.int .i64 0, .int .u64 0, .int .i64 0, .bool false, .int .i64 0, .int .u32 0, .bool false, .bool false]).toArray 30))
  rw [hsz] at hM
  go_enter Tryd.func18, Tryd.ntmps18
  go_wp2_with (first
    | (go_at_call 20; refine (HR _).mono ?_; rintro e w1 ⟨rfl, hb⟩; have hx1 := hN.below hb; have hy1 := hM.below hb; have HB : Hid (Below W.heap.size W w1) := Below.step (by (repeat (refine Below.alloc ?_ (by simp) _)); exact Below.refl _ _) hb; clear hb hN hM; have hc := hx1.cell; have hd := hy1.cell; have hf := hy1.frozen; have hlt : W.heap.size + 1 < w1.heap.size := hy1.lt)
    | go_in)
  have HX : Hid (∀ o p, Bl ((w1.alloc o).alloc p).drew W.heap.size 34 [.int .i64 2, .int .u32 t2, .int .u64 t3, .int .i64 t4, .int .i64 t5, .int .u32 t6, .bool t7, .bool t8]) := fun o p => ((hx1.below ((Below.refl _ _).alloc (Nat.le_refl _) o)).below ((Below.refl _ _).alloc (Nat.le_refl _) p)).drew
  have HA : Hid (∀ p, Bl ((w1.alloc (.cells ([.int .i64 0, .int .i64 5, .int .i64 4, .int .i64 2, .int .i64 3]).toArray 58)).alloc p).drew w1.heap.size 58 [.int .i64 0, .int .i64 5, .int .i64 4, .int .i64 2, .int .i64 3]) := fun p => ((Bl.new w1 58 [.int .i64 0, .int .i64 5, .int .i64 4, .int .i64 2, .int .i64 3]).below ((Below.refl _ _).alloc (Nat.le_refl _) p)).drew
  refine wp_region_held_drew (S := fun w' => w'.cell? ⟨W.heap.size, 0, none⟩ = some (.int .i64 2) ∧ w'.cell? ⟨W.heap.size, 2, none⟩ = some (.int .u64 t3) ∧ w'.cell? ⟨W.heap.size, 4, none⟩ = some (.int .i64 t5) ∧ w'.cell? ⟨W.heap.size, 5, none⟩ = some (.int .u32 t6) ∧ w'.cell? ⟨W.heap.size, 6, none⟩ = some (.bool t7) ∧ w'.cell? ⟨W.heap.size, 7, none⟩ = some (.bool t8) ∧ w'.cell? ⟨w1.heap.size, 2, none⟩ = some (.int .i64 4)) (by kernel_rfl) ⟨(hx1.below ((Below.refl _ _).alloc (Nat.le_refl _) _)).drew.cell 0, (hx1.below ((Below.refl _ _).alloc (Nat.le_refl _) _)).drew.cell 2, (hx1.below ((Below.refl _ _).alloc (Nat.le_refl _) _)).drew.cell 4, (hx1.below ((Below.refl _ _).alloc (Nat.le_refl _) _)).drew.cell 5, (hx1.below ((Below.refl _ _).alloc (Nat.le_refl _) _)).drew.cell 6, (hx1.below ((Below.refl _ _).alloc (Nat.le_refl _) _)).drew.cell 7, (Bl.new w1 58 [.int .i64 0, .int .i64 5, .int .i64 4, .int .i64 2, .int .i64 3]).drew.cell 2⟩ (fun hHeld => ?_)
  refine wpAnyH_take (i := 0) (oi := { dst := some 11, op := Op.fieldAddr 34 (Operand.tmp 1) 0, type := 0, pos := _, after := #[], guard := none }) (v := ?_) rfl (by kernel_rfl) (by kernel_rfl) (by kernel_rfl) (fun _ _ _ h => h) (Or.inl ⟨by rfl, ?_⟩) (by assumption) ?_
  rotate_left
  · (intro w hSw; (try dsimp only at hSw); go_simp; try with_reducible rfl)
  simp only [Act.put, List.setIfInBounds_toArray, List.set_cons_zero, List.set_cons_succ]
  refine wpAnyH_take (i := 1) (oi := { dst := some 12, op := Op.load 3 (Operand.tmp 11), type := 3, pos := _, after := #[{ on := 0, ground := Ground.data }], guard := none }) (v := ?_) rfl (by kernel_rfl) (by kernel_rfl) (by kernel_rfl) (fun _ _ _ h => h) (Or.inl ⟨by rfl, ?_⟩) (by assumption) ?_
  rotate_left
  · (intro w hSw; (try dsimp only at hSw); go_simp; try with_reducible rfl)
  simp only [Act.put, List.setIfInBounds_toArray, List.set_cons_zero, List.set_cons_succ]
  refine wpAnyH_take (i := 2) (oi := { dst := some 13, op := Op.indexAddr 58 (Operand.tmp 4) (Operand.tmp 12), type := 0, pos := _, after := #[{ on := 1, ground := Ground.data }], guard := none }) (v := ?_) rfl (by kernel_rfl) (by kernel_rfl) (by kernel_rfl) (fun _ _ _ h => h) (Or.inl ⟨by rfl, ?_⟩) (by assumption) ?_
  rotate_left
  · (intro w hSw; (try dsimp only at hSw); go_simp; try with_reducible rfl)
  simp only [Act.put, List.setIfInBounds_toArray, List.set_cons_zero, List.set_cons_succ]
  refine wpAnyH_take (i := 3) (oi := { dst := some 14, op := Op.load 3 (Operand.tmp 13), type := 3, pos := _, after := #[{ on := 2, ground := Ground.data }], guard := none }) (v := ?_) rfl (by kernel_rfl) (by kernel_rfl) (by kernel_rfl) (fun _ _ _ h => h) (Or.inl ⟨by rfl, ?_⟩) (by assumption) ?_
  rotate_left
  · (intro w hSw; (try dsimp only at hSw); go_simp; try with_reducible rfl)
  simp only [Act.put, List.setIfInBounds_toArray, List.set_cons_zero, List.set_cons_succ]
  refine wpAnyH_take (i := 4) (oi := { dst := some 15, op := Op.fieldAddr 34 (Operand.tmp 1) 2, type := 0, pos := _, after := #[], guard := none }) (v := ?_) rfl (by kernel_rfl) (by kernel_rfl) (by kernel_rfl) (fun _ _ _ h => h) (Or.inl ⟨by rfl, ?_⟩) (by assumption) ?_
  rotate_left
  · (intro w hSw; (try dsimp only at hSw); go_simp; try with_reducible rfl)
  simp only [Act.put, List.setIfInBounds_toArray, List.set_cons_zero, List.set_cons_succ]
  refine wpAnyH_take (i := 5) (oi := { dst := some 16, op := Op.load 22 (Operand.tmp 15), type := 22, pos := _, after := #[{ on := 4, ground := Ground.data }], guard := none }) (v := ?_) rfl (by kernel_rfl) (by kernel_rfl) (by kernel_rfl) (fun _ _ _ h => h) (Or.inl ⟨by rfl, ?_⟩) (by assumption) ?_
  rotate_left
  · (intro w hSw; (try dsimp only at hSw); go_simp; try with_reducible rfl)
  simp only [Act.put, List.setIfInBounds_toArray, List.set_cons_zero, List.set_cons_succ]
  refine wpAnyH_take (i := 6) (oi := { dst := some 17, op := Op.fieldAddr 34 (Operand.tmp 1) 4, type := 0, pos := _, after := #[], guard := none }) (v := ?_) rfl (by kernel_rfl) (by kernel_rfl) (by kernel_rfl) (fun _ _ _ h => h) (Or.inl ⟨by rfl, ?_⟩) (by assumption) ?_
  rotate_left
  · (intro w hSw; (try dsimp only at hSw); go_simp; try with_reducible rfl)
  simp only [Act.put, List.setIfInBounds_toArray, List.set_cons_zero, List.set_cons_succ]
  refine wpAnyH_take (i := 7) (oi := { dst := some 18, op := Op.load 28 (Operand.tmp 17), type := 28, pos := _, after := #[{ on := 6, ground := Ground.data }], guard := none }) (v := ?_) rfl (by kernel_rfl) (by kernel_rfl) (by kernel_rfl) (fun _ _ _ h => h) (Or.inl ⟨by rfl, ?_⟩) (by assumption) ?_
  rotate_left
  · (intro w hSw; (try dsimp only at hSw); go_simp; try with_reducible rfl)
  simp only [Act.put, List.setIfInBounds_toArray, List.set_cons_zero, List.set_cons_succ]
  refine wpAnyH_take (i := 8) (oi := { dst := some 19, op := Op.build 30 #[(0, Operand.tmp 14), (1, Operand.tmp 16), (4, Operand.tmp 18)], type := 30, pos := _, after := #[{ on := 3, ground := Ground.data }, { on := 5, ground := Ground.data }, { on := 7, ground := Ground.data }], guard := none }) (v := ?_) rfl (by kernel_rfl) (by kernel_rfl) (by kernel_rfl) (fun _ _ _ h => h) (Or.inl ⟨by rfl, ?_⟩) (by assumption) ?_
  rotate_left
  · (intro w hSw; (try dsimp only at hSw); go_simp; try with_reducible rfl)
  simp only [Act.put, List.setIfInBounds_toArray, List.set_cons_zero, List.set_cons_succ]
  refine wpAnyH_ready (rs := [9]) (by kernel_rfl) (by simp) ?_
  refine AllReadyH.cons (o := { dst := some 5, op := Op.alloc 30, type := 0, pos := _, after := #[], guard := none }) rfl (fun K hK => ?_) AllReadyH.nil
  go_simp
  skip
  refine hK.out _ _ ?_ (fun hHeld => ?_)
  · ((try dsimp only); exact ⟨(HX.out _ _).cell 0, (HX.out _ _).cell 2, (HX.out _ _).cell 4, (HX.out _ _).cell 5, (HX.out _ _).cell 6, (HX.out _ _).cell 7, (HA.out _).cell 2⟩)
  clear hK K
  try simp only [Act.put, List.setIfInBounds_toArray, List.set_cons_zero, List.set_cons_succ]
  refine wpAnyH_ready (rs := [10]) (by kernel_rfl) (by simp) ?_
  refine AllReadyH.cons (o := { dst := none, op := Op.store 30 (Operand.tmp 5) (Operand.tmp 19), type := 0, pos := _, after := #[{ on := 9, ground := Ground.data }, { on := 8, ground := Ground.data }, { on := 0, ground := Ground.phase }, { on := 1, ground := Ground.phase }, { on := 2, ground := Ground.phase }, { on := 3, ground := Ground.phase }, { on := 4, ground := Ground.phase }, { on := 5, ground := Ground.phase }, { on := 6, ground := Ground.phase }, { on := 7, ground := Ground.phase }, { on := 8, ground := Ground.phase }, { on := 9, ground := Ground.phase }], guard := none }) rfl (fun K hK => ?_) AllReadyH.nil
  go_simp
  skip
  refine hK.out _ _ ?_ (fun hHeld => ?_)
  · ((try dsimp only); exact ⟨(HX.out _ _).cell 0, (HX.out _ _).cell 2, (HX.out _ _).cell 4, (HX.out _ _).cell 5, (HX.out _ _).cell 6, (HX.out _ _).cell 7, (HA.out _).cell 2⟩)
  clear hK K
  try simp only [Act.put, List.setIfInBounds_toArray, List.set_cons_zero, List.set_cons_succ]
  refine wpAnyH_done (by kernel_rfl) ?_ _
  have hz3 := (Bl.new (w1.alloc (.cells #[.int .i64 0, .int .i64 5, .int .i64 4, .int .i64 2, .int .i64 3] 58)) 30 [.int .i64 4, .int .u64 t3, .int .i64 0, .bool false, .int .i64 t5, .int .u32 t6, .bool t7, .bool t8]).drew
  have hsz3 : (w1.alloc (.cells #[.int .i64 0, .int .i64 5, .int .i64 4, .int .i64 2, .int .i64 3] 58)).heap.size = w1.heap.size + 1 := by simp
  rw [hsz3] at hz3
  have hx3 := HX.out (.cells #[.int .i64 0, .int .i64 5, .int .i64 4, .int .i64 2, .int .i64 3] 58) (.cells [.int .i64 4, .int .u64 t3, .int .i64 0, .bool false, .int .i64 t5, .int .u32 t6, .bool t7, .bool t8].toArray 30)
  have hy3 := ((hy1.below ((Below.refl _ _).alloc (Nat.le_refl _) (.cells #[.int .i64 0, .int .i64 5, .int .i64 4, .int .i64 2, .int .i64 3] 58))).below ((Below.refl _ _).alloc (Nat.le_refl _) (.cells [.int .i64 4, .int .u64 t3, .int .i64 0, .bool false, .int .i64 t5, .int .u32 t6, .bool t7, .bool t8].toArray 30))).drew
  have HB3 : Hid (Below W.heap.size W ((w1.alloc (.cells #[.int .i64 0, .int .i64 5, .int .i64 4, .int .i64 2, .int .i64 3] 58)).alloc (.cells [.int .i64 4, .int .u64 t3, .int .i64 0, .bool false, .int .i64 t5, .int .u32 t6, .bool t7, .bool t8].toArray 30)).drew) := below_drew (Below.alloc (Below.alloc HB.out HB.out.size _) (by have := HB.out.size; simp; omega) _)
  generalize hg : ((w1.alloc (.cells #[.int .i64 0, .int .i64 5, .int .i64 4, .int .i64 2, .int .i64 3] 58)).alloc (.cells #[.int .i64 4, .int .u64 t3, .int .i64 0, .bool false, .int .i64 t5, .int .u32 t6, .bool t7, .bool t8] 30)).drew = w3 at *
  clear hg hc hd hf hx1 hy1 HX HA hHeld
  have hc := hx3.cell
  have hd := hy3.cell
  have hf := hy3.frozen
  have hc2 := hz3.cell
  have hf2 := hz3.frozen
  have m1 : ¬ (w1.heap.size + 1 = W.heap.size + 1) := by omega
  have m2 : ¬ (W.heap.size = w1.heap.size) := by omega
  have m3 : ¬ (w1.heap.size = W.heap.size) := by omega
  go_wp2
  refine bodyPost_ret (v := .tuple #[.agg #[.int .i64 4, .int .u64 t3, .int .i64 0, .bool false, .int .i64 t5, .int .u32 t6, .bool t7, .bool t8], .int .i64 0]) (by simp [results, Tryd.results18, go_sem, hd, m1, m2, m3]) rfl ⟨rfl, (by (repeat (refine Below.setCell ?_ (by first | (simp; done) | (simp; omega)) _)); exact HB3.out)⟩
set_option maxRecDepth 100000 in
set_option maxHeartbeats 8000000 in
theorem rentry_3 (t2 t3 t4 t5 t6 : Int) (t7 t8 : Bool) (W : World)
    (HR : ∀ ww, Calls Tryd.prog 20 #[.agg #[.int .i64 3, .int .u32 t2, .int .u64 t3, .int .i64 t4, .int .i64 t5, .int .u32 t6, .bool t7, .bool t8]] ww fun r w' => r = .returned (.bool true) ∧ Below ww.heap.size ww w') :
    Calls Tryd.prog 18 #[.agg #[.int .i64 3, .int .u32 t2, .int .u64 t3, .int .i64 t4, .int .i64 t5, .int .u32 t6, .bool t7, .bool t8]] W fun r w' => r = .returned (.tuple #[.agg #[.int .i64 2, .int .u64 t3, .int .i64 t4, .bool false, .int .i64 t5, .int .u32 t6, .bool t7, .bool t8], .int .i64 0]) ∧ Below W.heap.size W w' := by
  have hN := Bl.new W 34 [.int .i64 3, .int .u32 t2, .int .u64 t3, .int .i64 t4, .int .i64 t5, .int .u32 t6, .bool t7, .bool t8]
  have hsz : (W.alloc (.cells ([.int .i64 3, .int .u32 t2, .int .u64 t3, .int .i64 t4, .int .i64 t5, .int .u32 t6, .bool t7, .bool t8]).toArray 34)).heap.size = W.heap.size + 1 := by simp
  have hM := Bl.new (W.alloc (.cells ([.int .i64 3, .int .u32 t2, .int .u64 t3, .int .i64 t4, .int .i64 t5, .int .u32 t6, .bool t7, .bool t8]).toArray 34)) 30 [.int .i64 0, .int .u64 0, .int .i64 0, .bool false, .int .i64 0, .int .u32 0, .bool false, .bool false]
  have hN := hN.below ((Below.refl _ _).alloc (Nat.le_refl _) (.cells ([.int .i64 0, .int .u64 0, .int .i64 0, .bool false, .int .i64 0, .int .u32 0, .bool false, .bool false]).toArray 30))
  rw [hsz] at hM
  go_enter Tryd.func18, Tryd.ntmps18
  go_wp2_with (first
    | (go_at_call 20; refine (HR _).mono ?_; rintro e w1 ⟨rfl, hb⟩; have hx1 := hN.below hb; have hy1 := hM.below hb; have HB : Hid (Below W.heap.size W w1) := Below.step (by (repeat (refine Below.alloc ?_ (by simp) _)); exact Below.refl _ _) hb; clear hb hN hM; have hc := hx1.cell; have hd := hy1.cell; have hf := hy1.frozen; have hlt : W.heap.size + 1 < w1.heap.size := hy1.lt)
    | go_in)
  have HX : Hid (∀ o p, Bl ((w1.alloc o).alloc p).drew W.heap.size 34 [.int .i64 3, .int .u32 t2, .int .u64 t3, .int .i64 t4, .int .i64 t5, .int .u32 t6, .bool t7, .bool t8]) := fun o p => ((hx1.below ((Below.refl _ _).alloc (Nat.le_refl _) o)).below ((Below.refl _ _).alloc (Nat.le_refl _) p)).drew
  have HA : Hid (∀ p, Bl ((w1.alloc (.cells ([.int .i64 0, .int .i64 5, .int .i64 4, .int .i64 2, .int .i64 3]).toArray 58)).alloc p).drew w1.heap.size 58 [.int .i64 0, .int .i64 5, .int .i64 4, .int .i64 2, .int .i64 3]) := fun p => ((Bl.new w1 58 [.int .i64 0, .int .i64 5, .int .i64 4, .int .i64 2, .int .i64 3]).below ((Below.refl _ _).alloc (Nat.le_refl _) p)).drew
  refine wp_region_held_drew (S := fun w' => w'.cell? ⟨W.heap.size, 0, none⟩ = some (.int .i64 3) ∧ w'.cell? ⟨W.heap.size, 2, none⟩ = some (.int .u64 t3) ∧ w'.cell? ⟨W.heap.size, 4, none⟩ = some (.int .i64 t5) ∧ w'.cell? ⟨W.heap.size, 5, none⟩ = some (.int .u32 t6) ∧ w'.cell? ⟨W.heap.size, 6, none⟩ = some (.bool t7) ∧ w'.cell? ⟨W.heap.size, 7, none⟩ = some (.bool t8) ∧ w'.cell? ⟨w1.heap.size, 3, none⟩ = some (.int .i64 2)) (by kernel_rfl) ⟨(hx1.below ((Below.refl _ _).alloc (Nat.le_refl _) _)).drew.cell 0, (hx1.below ((Below.refl _ _).alloc (Nat.le_refl _) _)).drew.cell 2, (hx1.below ((Below.refl _ _).alloc (Nat.le_refl _) _)).drew.cell 4, (hx1.below ((Below.refl _ _).alloc (Nat.le_refl _) _)).drew.cell 5, (hx1.below ((Below.refl _ _).alloc (Nat.le_refl _) _)).drew.cell 6, (hx1.below ((Below.refl _ _).alloc (Nat.le_refl _) _)).drew.cell 7, (Bl.new w1 58 [.int .i64 0, .int .i64 5, .int .i64 4, .int .i64 2, .int .i64 3]).drew.cell 3⟩ (fun hHeld => ?_)
  refine wpAnyH_take (i := 0) (oi := { dst := some 11, op := Op.fieldAddr 34 (Operand.tmp 1) 0, type := 0, pos := _, after := #[], guard := none }) (v := ?_) rfl (by kernel_rfl) (by kernel_rfl) (by kernel_rfl) (fun _ _ _ h => h) (Or.inl ⟨by rfl, ?_⟩) (by assumption) ?_
  rotate_left
  · (intro w hSw; (try dsimp only at hSw); go_simp; try with_reducible rfl)
  simp only [Act.put, List.setIfInBounds_toArray, List.set_cons_zero, List.set_cons_succ]
  refine wpAnyH_take (i := 1) (oi := { dst := some 12, op := Op.load 3 (Operand.tmp 11), type := 3, pos := _, after := #[{ on := 0, ground := Ground.data }], guard := none }) (v := ?_) rfl (by kernel_rfl) (by kernel_rfl) (by kernel_rfl) (fun _ _ _ h => h) (Or.inl ⟨by rfl, ?_⟩) (by assumption) ?_
  rotate_left
  · (intro w hSw; (try dsimp only at hSw); go_simp; try with_reducible rfl)
  simp only [Act.put, List.setIfInBounds_toArray, List.set_cons_zero, List.set_cons_succ]
  refine wpAnyH_take (i := 2) (oi := { dst := some 13, op := Op.indexAddr 58 (Operand.tmp 4) (Operand.tmp 12), type := 0, pos := _, after := #[{ on := 1, ground := Ground.data }], guard := none }) (v := ?_) rfl (by kernel_rfl) (by kernel_rfl) (by kernel_rfl) (fun _ _ _ h => h) (Or.inl ⟨by rfl, ?_⟩) (by assumption) ?_
  rotate_left
  · (intro w hSw; (try dsimp only at hSw); go_simp; try with_reducible rfl)
  simp only [Act.put, List.setIfInBounds_toArray, List.set_cons_zero, List.set_cons_succ]
  refine wpAnyH_take (i := 3) (oi := { dst := some 14, op := Op.load 3 (Operand.tmp 13), type := 3, pos := _, after := #[{ on := 2, ground := Ground.data }], guard := none }) (v := ?_) rfl (by kernel_rfl) (by kernel_rfl) (by kernel_rfl) (fun _ _ _ h => h) (Or.inl ⟨by rfl, ?_⟩) (by assumption) ?_
  rotate_left
  · (intro w hSw; (try dsimp only at hSw); go_simp; try with_reducible rfl)
  simp only [Act.put, List.setIfInBounds_toArray, List.set_cons_zero, List.set_cons_succ]
  refine wpAnyH_take (i := 4) (oi := { dst := some 15, op := Op.fieldAddr 34 (Operand.tmp 1) 2, type := 0, pos := _, after := #[], guard := none }) (v := ?_) rfl (by kernel_rfl) (by kernel_rfl) (by kernel_rfl) (fun _ _ _ h => h) (Or.inl ⟨by rfl, ?_⟩) (by assumption) ?_
  rotate_left
  · (intro w hSw; (try dsimp only at hSw); go_simp; try with_reducible rfl)
  simp only [Act.put, List.setIfInBounds_toArray, List.set_cons_zero, List.set_cons_succ]
  refine wpAnyH_take (i := 5) (oi := { dst := some 16, op := Op.load 22 (Operand.tmp 15), type := 22, pos := _, after := #[{ on := 4, ground := Ground.data }], guard := none }) (v := ?_) rfl (by kernel_rfl) (by kernel_rfl) (by kernel_rfl) (fun _ _ _ h => h) (Or.inl ⟨by rfl, ?_⟩) (by assumption) ?_
  rotate_left
  · (intro w hSw; (try dsimp only at hSw); go_simp; try with_reducible rfl)
  simp only [Act.put, List.setIfInBounds_toArray, List.set_cons_zero, List.set_cons_succ]
  refine wpAnyH_take (i := 6) (oi := { dst := some 17, op := Op.fieldAddr 34 (Operand.tmp 1) 4, type := 0, pos := _, after := #[], guard := none }) (v := ?_) rfl (by kernel_rfl) (by kernel_rfl) (by kernel_rfl) (fun _ _ _ h => h) (Or.inl ⟨by rfl, ?_⟩) (by assumption) ?_
  rotate_left
  · (intro w hSw; (try dsimp only at hSw); go_simp; try with_reducible rfl)
  simp only [Act.put, List.setIfInBounds_toArray, List.set_cons_zero, List.set_cons_succ]
  refine wpAnyH_take (i := 7) (oi := { dst := some 18, op := Op.load 28 (Operand.tmp 17), type := 28, pos := _, after := #[{ on := 6, ground := Ground.data }], guard := none }) (v := ?_) rfl (by kernel_rfl) (by kernel_rfl) (by kernel_rfl) (fun _ _ _ h => h) (Or.inl ⟨by rfl, ?_⟩) (by assumption) ?_
  rotate_left
  · (intro w hSw; (try dsimp only at hSw); go_simp; try with_reducible rfl)
  simp only [Act.put, List.setIfInBounds_toArray, List.set_cons_zero, List.set_cons_succ]
  refine wpAnyH_take (i := 8) (oi := { dst := some 19, op := Op.build 30 #[(0, Operand.tmp 14), (1, Operand.tmp 16), (4, Operand.tmp 18)], type := 30, pos := _, after := #[{ on := 3, ground := Ground.data }, { on := 5, ground := Ground.data }, { on := 7, ground := Ground.data }], guard := none }) (v := ?_) rfl (by kernel_rfl) (by kernel_rfl) (by kernel_rfl) (fun _ _ _ h => h) (Or.inl ⟨by rfl, ?_⟩) (by assumption) ?_
  rotate_left
  · (intro w hSw; (try dsimp only at hSw); go_simp; try with_reducible rfl)
  simp only [Act.put, List.setIfInBounds_toArray, List.set_cons_zero, List.set_cons_succ]
  refine wpAnyH_ready (rs := [9]) (by kernel_rfl) (by simp) ?_
  refine AllReadyH.cons (o := { dst := some 5, op := Op.alloc 30, type := 0, pos := _, after := #[], guard := none }) rfl (fun K hK => ?_) AllReadyH.nil
  go_simp
  skip
  refine hK.out _ _ ?_ (fun hHeld => ?_)
  · ((try dsimp only); exact ⟨(HX.out _ _).cell 0, (HX.out _ _).cell 2, (HX.out _ _).cell 4, (HX.out _ _).cell 5, (HX.out _ _).cell 6, (HX.out _ _).cell 7, (HA.out _).cell 3⟩)
  clear hK K
  try simp only [Act.put, List.setIfInBounds_toArray, List.set_cons_zero, List.set_cons_succ]
  refine wpAnyH_ready (rs := [10]) (by kernel_rfl) (by simp) ?_
  refine AllReadyH.cons (o := { dst := none, op := Op.store 30 (Operand.tmp 5) (Operand.tmp 19), type := 0, pos := _, after := #[{ on := 9, ground := Ground.data }, { on := 8, ground := Ground.data }, { on := 0, ground := Ground.phase }, { on := 1, ground := Ground.phase }, { on := 2, ground := Ground.phase }, { on := 3, ground := Ground.phase }, { on := 4, ground := Ground.phase }, { on := 5, ground := Ground.phase }, { on := 6, ground := Ground.phase }, { on := 7, ground := Ground.phase }, { on := 8, ground := Ground.phase }, { on := 9, ground := Ground.phase }], guard := none }) rfl (fun K hK => ?_) AllReadyH.nil
  go_simp
  skip
  refine hK.out _ _ ?_ (fun hHeld => ?_)
  · ((try dsimp only); exact ⟨(HX.out _ _).cell 0, (HX.out _ _).cell 2, (HX.out _ _).cell 4, (HX.out _ _).cell 5, (HX.out _ _).cell 6, (HX.out _ _).cell 7, (HA.out _).cell 3⟩)
  clear hK K
  try simp only [Act.put, List.setIfInBounds_toArray, List.set_cons_zero, List.set_cons_succ]
  refine wpAnyH_done (by kernel_rfl) ?_ _
  have hz3 := (Bl.new (w1.alloc (.cells #[.int .i64 0, .int .i64 5, .int .i64 4, .int .i64 2, .int .i64 3] 58)) 30 [.int .i64 2, .int .u64 t3, .int .i64 0, .bool false, .int .i64 t5, .int .u32 t6, .bool t7, .bool t8]).drew
  have hsz3 : (w1.alloc (.cells #[.int .i64 0, .int .i64 5, .int .i64 4, .int .i64 2, .int .i64 3] 58)).heap.size = w1.heap.size + 1 := by simp
  rw [hsz3] at hz3
  have hx3 := HX.out (.cells #[.int .i64 0, .int .i64 5, .int .i64 4, .int .i64 2, .int .i64 3] 58) (.cells [.int .i64 2, .int .u64 t3, .int .i64 0, .bool false, .int .i64 t5, .int .u32 t6, .bool t7, .bool t8].toArray 30)
  have hy3 := ((hy1.below ((Below.refl _ _).alloc (Nat.le_refl _) (.cells #[.int .i64 0, .int .i64 5, .int .i64 4, .int .i64 2, .int .i64 3] 58))).below ((Below.refl _ _).alloc (Nat.le_refl _) (.cells [.int .i64 2, .int .u64 t3, .int .i64 0, .bool false, .int .i64 t5, .int .u32 t6, .bool t7, .bool t8].toArray 30))).drew
  have HB3 : Hid (Below W.heap.size W ((w1.alloc (.cells #[.int .i64 0, .int .i64 5, .int .i64 4, .int .i64 2, .int .i64 3] 58)).alloc (.cells [.int .i64 2, .int .u64 t3, .int .i64 0, .bool false, .int .i64 t5, .int .u32 t6, .bool t7, .bool t8].toArray 30)).drew) := below_drew (Below.alloc (Below.alloc HB.out HB.out.size _) (by have := HB.out.size; simp; omega) _)
  generalize hg : ((w1.alloc (.cells #[.int .i64 0, .int .i64 5, .int .i64 4, .int .i64 2, .int .i64 3] 58)).alloc (.cells #[.int .i64 2, .int .u64 t3, .int .i64 0, .bool false, .int .i64 t5, .int .u32 t6, .bool t7, .bool t8] 30)).drew = w3 at *
  clear hg hc hd hf hx1 hy1 HX HA hHeld
  have hc := hx3.cell
  have hd := hy3.cell
  have hf := hy3.frozen
  have hc2 := hz3.cell
  have hf2 := hz3.frozen
  have m1 : ¬ (w1.heap.size + 1 = W.heap.size + 1) := by omega
  have m2 : ¬ (W.heap.size = w1.heap.size) := by omega
  have m3 : ¬ (w1.heap.size = W.heap.size) := by omega
  go_wp2
  refine bodyPost_ret (v := .tuple #[.agg #[.int .i64 2, .int .u64 t3, .int .i64 t4, .bool false, .int .i64 t5, .int .u32 t6, .bool t7, .bool t8], .int .i64 0]) (by simp [results, Tryd.results18, go_sem, hd, m1, m2, m3]) rfl ⟨rfl, (by (repeat (refine Below.setCell ?_ (by first | (simp; done) | (simp; omega)) _)); exact HB3.out)⟩
set_option maxRecDepth 100000 in
set_option maxHeartbeats 8000000 in
theorem rentry_4 (t2 t3 t4 t5 t6 : Int) (t7 t8 : Bool) (W : World)
    (HR : ∀ ww, Calls Tryd.prog 20 #[.agg #[.int .i64 4, .int .u32 t2, .int .u64 t3, .int .i64 t4, .int .i64 t5, .int .u32 t6, .bool t7, .bool t8]] ww fun r w' => r = .returned (.bool true) ∧ Below ww.heap.size ww w') :
    Calls Tryd.prog 18 #[.agg #[.int .i64 4, .int .u32 t2, .int .u64 t3, .int .i64 t4, .int .i64 t5, .int .u32 t6, .bool t7, .bool t8]] W fun r w' => r = .returned (.tuple #[.agg #[.int .i64 3, .int .u64 t3, .int .i64 0, .bool false, .int .i64 t5, .int .u32 t6, .bool t7, .bool t8], .int .i64 0]) ∧ Below W.heap.size W w' := by
  have hN := Bl.new W 34 [.int .i64 4, .int .u32 t2, .int .u64 t3, .int .i64 t4, .int .i64 t5, .int .u32 t6, .bool t7, .bool t8]
  have hsz : (W.alloc (.cells ([.int .i64 4, .int .u32 t2, .int .u64 t3, .int .i64 t4, .int .i64 t5, .int .u32 t6, .bool t7, .bool t8]).toArray 34)).heap.size = W.heap.size + 1 := by simp
  have hM := Bl.new (W.alloc (.cells ([.int .i64 4, .int .u32 t2, .int .u64 t3, .int .i64 t4, .int .i64 t5, .int .u32 t6, .bool t7, .bool t8]).toArray 34)) 30 [.int .i64 0, .int .u64 0, .int .i64 0, .bool false, .int .i64 0, .int .u32 0, .bool false, .bool false]
  have hN := hN.below ((Below.refl _ _).alloc (Nat.le_refl _) (.cells ([.int .i64 0, .int .u64 0, .int .i64 0, .bool false, .int .i64 0, .int .u32 0, .bool false, .bool false]).toArray 30))
  rw [hsz] at hM
  go_enter Tryd.func18, Tryd.ntmps18
  go_wp2_with (first
    | (go_at_call 20; refine (HR _).mono ?_; rintro e w1 ⟨rfl, hb⟩; have hx1 := hN.below hb; have hy1 := hM.below hb; have HB : Hid (Below W.heap.size W w1) := Below.step (by (repeat (refine Below.alloc ?_ (by simp) _)); exact Below.refl _ _) hb; clear hb hN hM; have hc := hx1.cell; have hd := hy1.cell; have hf := hy1.frozen; have hlt : W.heap.size + 1 < w1.heap.size := hy1.lt)
    | go_in)
  have HX : Hid (∀ o p, Bl ((w1.alloc o).alloc p).drew W.heap.size 34 [.int .i64 4, .int .u32 t2, .int .u64 t3, .int .i64 t4, .int .i64 t5, .int .u32 t6, .bool t7, .bool t8]) := fun o p => ((hx1.below ((Below.refl _ _).alloc (Nat.le_refl _) o)).below ((Below.refl _ _).alloc (Nat.le_refl _) p)).drew
  have HA : Hid (∀ p, Bl ((w1.alloc (.cells ([.int .i64 0, .int .i64 5, .int .i64 4, .int .i64 2, .int .i64 3]).toArray 58)).alloc p).drew w1.heap.size 58 [.int .i64 0, .int .i64 5, .int .i64 4, .int .i64 2, .int .i64 3]) := fun p => ((Bl.new w1 58 [.int .i64 0, .int .i64 5, .int .i64 4, .int .i64 2, .int .i64 3]).below ((Below.refl _ _).alloc (Nat.le_refl _) p)).drew
  refine wp_region_held_drew (S := fun w' => w'.cell? ⟨W.heap.size, 0, none⟩ = some (.int .i64 4) ∧ w'.cell? ⟨W.heap.size, 2, none⟩ = some (.int .u64 t3) ∧ w'.cell? ⟨W.heap.size, 4, none⟩ = some (.int .i64 t5) ∧ w'.cell? ⟨W.heap.size, 5, none⟩ = some (.int .u32 t6) ∧ w'.cell? ⟨W.heap.size, 6, none⟩ = some (.bool t7) ∧ w'.cell? ⟨W.heap.size, 7, none⟩ = some (.bool t8) ∧ w'.cell? ⟨w1.heap.size, 4, none⟩ = some (.int .i64 3)) (by kernel_rfl) ⟨(hx1.below ((Below.refl _ _).alloc (Nat.le_refl _) _)).drew.cell 0, (hx1.below ((Below.refl _ _).alloc (Nat.le_refl _) _)).drew.cell 2, (hx1.below ((Below.refl _ _).alloc (Nat.le_refl _) _)).drew.cell 4, (hx1.below ((Below.refl _ _).alloc (Nat.le_refl _) _)).drew.cell 5, (hx1.below ((Below.refl _ _).alloc (Nat.le_refl _) _)).drew.cell 6, (hx1.below ((Below.refl _ _).alloc (Nat.le_refl _) _)).drew.cell 7, (Bl.new w1 58 [.int .i64 0, .int .i64 5, .int .i64 4, .int .i64 2, .int .i64 3]).drew.cell 4⟩ (fun hHeld => ?_)
  refine wpAnyH_take (i := 0) (oi := { dst := some 11, op := Op.fieldAddr 34 (Operand.tmp 1) 0, type := 0, pos := _, after := #[], guard := none }) (v := ?_) rfl (by kernel_rfl) (by kernel_rfl) (by kernel_rfl) (fun _ _ _ h => h) (Or.inl ⟨by rfl, ?_⟩) (by assumption) ?_
  rotate_left
  · (intro w hSw; (try dsimp only at hSw); go_simp; try with_reducible rfl)
  simp only [Act.put, List.setIfInBounds_toArray, List.set_cons_zero, List.set_cons_succ]
  refine wpAnyH_take (i := 1) (oi := { dst := some 12, op := Op.load 3 (Operand.tmp 11), type := 3, pos := _, after := #[{ on := 0, ground := Ground.data }], guard := none }) (v := ?_) rfl (by kernel_rfl) (by kernel_rfl) (by kernel_rfl) (fun _ _ _ h => h) (Or.inl ⟨by rfl, ?_⟩) (by assumption) ?_
  rotate_left
  · (intro w hSw; (try dsimp only at hSw); go_simp; try with_reducible rfl)
  simp only [Act.put, List.setIfInBounds_toArray, List.set_cons_zero, List.set_cons_succ]
  refine wpAnyH_take (i := 2) (oi := { dst := some 13, op := Op.indexAddr 58 (Operand.tmp 4) (Operand.tmp 12), type := 0, pos := _, after := #[{ on := 1, ground := Ground.data }], guard := none }) (v := ?_) rfl (by kernel_rfl) (by kernel_rfl) (by kernel_rfl) (fun _ _ _ h => h) (Or.inl ⟨by rfl, ?_⟩) (by assumption) ?_
  rotate_left
  · (intro w hSw; (try dsimp only at hSw); go_simp; try with_reducible rfl)
  simp only [Act.put, List.setIfInBounds_toArray, List.set_cons_zero, List.set_cons_succ]
  refine wpAnyH_take (i := 3) (oi := { dst := some 14, op := Op.load 3 (Operand.tmp 13), type := 3, pos := _, after := #[{ on := 2, ground := Ground.data }], guard := none }) (v := ?_) rfl (by kernel_rfl) (by kernel_rfl) (by kernel_rfl) (fun _ _ _ h => h) (Or.inl ⟨by rfl, ?_⟩) (by assumption) ?_
  rotate_left
  · (intro w hSw; (try dsimp only at hSw); go_simp; try with_reducible rfl)
  simp only [Act.put, List.setIfInBounds_toArray, List.set_cons_zero, List.set_cons_succ]
  refine wpAnyH_take (i := 4) (oi := { dst := some 15, op := Op.fieldAddr 34 (Operand.tmp 1) 2, type := 0, pos := _, after := #[], guard := none }) (v := ?_) rfl (by kernel_rfl) (by kernel_rfl) (by kernel_rfl) (fun _ _ _ h => h) (Or.inl ⟨by rfl, ?_⟩) (by assumption) ?_
  rotate_left
  · (intro w hSw; (try dsimp only at hSw); go_simp; try with_reducible rfl)
  simp only [Act.put, List.setIfInBounds_toArray, List.set_cons_zero, List.set_cons_succ]
  refine wpAnyH_take (i := 5) (oi := { dst := some 16, op := Op.load 22 (Operand.tmp 15), type := 22, pos := _, after := #[{ on := 4, ground := Ground.data }], guard := none }) (v := ?_) rfl (by kernel_rfl) (by kernel_rfl) (by kernel_rfl) (fun _ _ _ h => h) (Or.inl ⟨by rfl, ?_⟩) (by assumption) ?_
  rotate_left
  · (intro w hSw; (try dsimp only at hSw); go_simp; try with_reducible rfl)
  simp only [Act.put, List.setIfInBounds_toArray, List.set_cons_zero, List.set_cons_succ]
  refine wpAnyH_take (i := 6) (oi := { dst := some 17, op := Op.fieldAddr 34 (Operand.tmp 1) 4, type := 0, pos := _, after := #[], guard := none }) (v := ?_) rfl (by kernel_rfl) (by kernel_rfl) (by kernel_rfl) (fun _ _ _ h => h) (Or.inl ⟨by rfl, ?_⟩) (by assumption) ?_
  rotate_left
  · (intro w hSw; (try dsimp only at hSw); go_simp; try with_reducible rfl)
  simp only [Act.put, List.setIfInBounds_toArray, List.set_cons_zero, List.set_cons_succ]
  refine wpAnyH_take (i := 7) (oi := { dst := some 18, op := Op.load 28 (Operand.tmp 17), type := 28, pos := _, after := #[{ on := 6, ground := Ground.data }], guard := none }) (v := ?_) rfl (by kernel_rfl) (by kernel_rfl) (by kernel_rfl) (fun _ _ _ h => h) (Or.inl ⟨by rfl, ?_⟩) (by assumption) ?_
  rotate_left
  · (intro w hSw; (try dsimp only at hSw); go_simp; try with_reducible rfl)
  simp only [Act.put, List.setIfInBounds_toArray, List.set_cons_zero, List.set_cons_succ]
  refine wpAnyH_take (i := 8) (oi := { dst := some 19, op := Op.build 30 #[(0, Operand.tmp 14), (1, Operand.tmp 16), (4, Operand.tmp 18)], type := 30, pos := _, after := #[{ on := 3, ground := Ground.data }, { on := 5, ground := Ground.data }, { on := 7, ground := Ground.data }], guard := none }) (v := ?_) rfl (by kernel_rfl) (by kernel_rfl) (by kernel_rfl) (fun _ _ _ h => h) (Or.inl ⟨by rfl, ?_⟩) (by assumption) ?_
  rotate_left
  · (intro w hSw; (try dsimp only at hSw); go_simp; try with_reducible rfl)
  simp only [Act.put, List.setIfInBounds_toArray, List.set_cons_zero, List.set_cons_succ]
  refine wpAnyH_ready (rs := [9]) (by kernel_rfl) (by simp) ?_
  refine AllReadyH.cons (o := { dst := some 5, op := Op.alloc 30, type := 0, pos := _, after := #[], guard := none }) rfl (fun K hK => ?_) AllReadyH.nil
  go_simp
  skip
  refine hK.out _ _ ?_ (fun hHeld => ?_)
  · ((try dsimp only); exact ⟨(HX.out _ _).cell 0, (HX.out _ _).cell 2, (HX.out _ _).cell 4, (HX.out _ _).cell 5, (HX.out _ _).cell 6, (HX.out _ _).cell 7, (HA.out _).cell 4⟩)
  clear hK K
  try simp only [Act.put, List.setIfInBounds_toArray, List.set_cons_zero, List.set_cons_succ]
  refine wpAnyH_ready (rs := [10]) (by kernel_rfl) (by simp) ?_
  refine AllReadyH.cons (o := { dst := none, op := Op.store 30 (Operand.tmp 5) (Operand.tmp 19), type := 0, pos := _, after := #[{ on := 9, ground := Ground.data }, { on := 8, ground := Ground.data }, { on := 0, ground := Ground.phase }, { on := 1, ground := Ground.phase }, { on := 2, ground := Ground.phase }, { on := 3, ground := Ground.phase }, { on := 4, ground := Ground.phase }, { on := 5, ground := Ground.phase }, { on := 6, ground := Ground.phase }, { on := 7, ground := Ground.phase }, { on := 8, ground := Ground.phase }, { on := 9, ground := Ground.phase }], guard := none }) rfl (fun K hK => ?_) AllReadyH.nil
  go_simp
  skip
  refine hK.out _ _ ?_ (fun hHeld => ?_)
  · ((try dsimp only); exact ⟨(HX.out _ _).cell 0, (HX.out _ _).cell 2, (HX.out _ _).cell 4, (HX.out _ _).cell 5, (HX.out _ _).cell 6, (HX.out _ _).cell 7, (HA.out _).cell 4⟩)
  clear hK K
  try simp only [Act.put, List.setIfInBounds_toArray, List.set_cons_zero, List.set_cons_succ]
  refine wpAnyH_done (by kernel_rfl) ?_ _
  have hz3 := (Bl.new (w1.alloc (.cells #[.int .i64 0, .int .i64 5, .int .i64 4, .int .i64 2, .int .i64 3] 58)) 30 [.int .i64 3, .int .u64 t3, .int .i64 0, .bool false, .int .i64 t5, .int .u32 t6, .bool t7, .bool t8]).drew
  have hsz3 : (w1.alloc (.cells #[.int .i64 0, .int .i64 5, .int .i64 4, .int .i64 2, .int .i64 3] 58)).heap.size = w1.heap.size + 1 := by simp
  rw [hsz3] at hz3
  have hx3 := HX.out (.cells #[.int .i64 0, .int .i64 5, .int .i64 4, .int .i64 2, .int .i64 3] 58) (.cells [.int .i64 3, .int .u64 t3, .int .i64 0, .bool false, .int .i64 t5, .int .u32 t6, .bool t7, .bool t8].toArray 30)
  have hy3 := ((hy1.below ((Below.refl _ _).alloc (Nat.le_refl _) (.cells #[.int .i64 0, .int .i64 5, .int .i64 4, .int .i64 2, .int .i64 3] 58))).below ((Below.refl _ _).alloc (Nat.le_refl _) (.cells [.int .i64 3, .int .u64 t3, .int .i64 0, .bool false, .int .i64 t5, .int .u32 t6, .bool t7, .bool t8].toArray 30))).drew
  have HB3 : Hid (Below W.heap.size W ((w1.alloc (.cells #[.int .i64 0, .int .i64 5, .int .i64 4, .int .i64 2, .int .i64 3] 58)).alloc (.cells [.int .i64 3, .int .u64 t3, .int .i64 0, .bool false, .int .i64 t5, .int .u32 t6, .bool t7, .bool t8].toArray 30)).drew) := below_drew (Below.alloc (Below.alloc HB.out HB.out.size _) (by have := HB.out.size; simp; omega) _)
  generalize hg : ((w1.alloc (.cells #[.int .i64 0, .int .i64 5, .int .i64 4, .int .i64 2, .int .i64 3] 58)).alloc (.cells #[.int .i64 3, .int .u64 t3, .int .i64 0, .bool false, .int .i64 t5, .int .u32 t6, .bool t7, .bool t8] 30)).drew = w3 at *
  clear hg hc hd hf hx1 hy1 HX HA hHeld
  have hc := hx3.cell
  have hd := hy3.cell
  have hf := hy3.frozen
  have hc2 := hz3.cell
  have hf2 := hz3.frozen
  have m1 : ¬ (w1.heap.size + 1 = W.heap.size + 1) := by omega
  have m2 : ¬ (W.heap.size = w1.heap.size) := by omega
  have m3 : ¬ (w1.heap.size = W.heap.size) := by omega
  go_wp2
  refine bodyPost_ret (v := .tuple #[.agg #[.int .i64 3, .int .u64 t3, .int .i64 0, .bool false, .int .i64 t5, .int .u32 t6, .bool t7, .bool t8], .int .i64 0]) (by simp [results, Tryd.results18, go_sem, hd, m1, m2, m3]) rfl ⟨rfl, (by (repeat (refine Below.setCell ?_ (by first | (simp; done) | (simp; omega)) _)); exact HB3.out)⟩
theorem rentry_any (t : Tra) (W : World) (hv : 0 ≤ t.va ∧ t.va < 4294967296) (hO : Ok (enF t)) : Calls Tryd.prog 18 #[.agg #[.int .i64 t.size, .int .u32 t.va, .int .u64 t.pa, .int .i64 t.dom, .int .i64 t.ap, .int .u32 t.bits, .bool t.ng, .bool t.xn]] W fun r w' => r = .returned (if riF t then .tuple #[.agg #[.int .i64 (enF t).kind, .int .u64 (enF t).base, .int .i64 (enF t).dom, .bool (enF t).ns, .int .i64 (enF t).ap, .int .u32 (enF t).bits, .bool (enF t).ng, .bool (enF t).xn], .int .i64 0] else .tuple #[.agg #[.int .i64 dZ.kind, .int .u64 dZ.base, .int .i64 dZ.dom, .bool dZ.ns, .int .i64 dZ.ap, .int .u32 dZ.bits, .bool dZ.ng, .bool dZ.xn], .int .i64 50]) ∧ Below W.heap.size W w' := by
  have HR := fun ww => rright_any t ww hv hO
  cases h : riF t with
  | false =>
    rw [h] at HR
    exact rentry_no _ _ _ _ _ _ _ _ W HR
  | true =>
    rw [h] at HR
    have hs : 1 ≤ t.size ∧ t.size ≤ 4 := by
      unfold riF at h
      simp at h
      exact h.1
    obtain ⟨s, t2, t3, t4, t5, t6, t7, t8⟩ := t
    simp only at hs
    rcases (show s = 1 ∨ s = 2 ∨ s = 3 ∨ s = 4 by omega) with rfl | rfl | rfl | rfl
    · exact rentry_1 t2 t3 t4 t5 t6 t7 t8 W HR
    · exact rentry_2 t2 t3 t4 t5 t6 t7 t8 W HR
    · exact rentry_3 t2 t3 t4 t5 t6 t7 t8 W HR
    · exact rentry_4 t2 t3 t4 t5 t6 t7 t8 W HR
end Go.Proofs.YtcpcmjmgiagnoaaDoor
