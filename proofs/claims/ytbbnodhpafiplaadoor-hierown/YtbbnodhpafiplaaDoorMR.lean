import Derived.Test.YtbbnodhpafiplaaDoorMS
import Derived.Test.YtbbnodhpafiplaaDoorRz
namespace Go.Proofs.YtbbnodhpafiplaaDoor
open Go.RowKit
set_option linter.unusedVariables false
set_option linter.unusedSimpArgs false

set_option maxRecDepth 100000 in
theorem rplace_24_32 (b : Int) (w : World) (hb : 0 ≤ b) : Calls Tryd.prog 83 #[.int .u64 b, .int .i64 24, .int .i64 32] w fun e w' => e = .returned (.bool (decide (b % 16777216 = 0) && decide (b < 4294967296))) ∧ w = w' := by
  have hp1 := fun w => power_lit2 24 16777216 w (by decide) (by decide) 24 rfl
  have hp2 := fun w => power_lit2 32 4294967296 w (by decide) (by decide) 32 rfl
  have ht : b.tmod 16777216 = b % 16777216 := Int.tmod_eq_emod_of_nonneg hb
  by_cases h : b % 16777216 = 0
  · have q : (b % 16777216 == 0) = true := by simp [h]
    go_enter Tryd.func83, Tryd.ntmps83
    go_wp2_with (first
      | (go_at_call_of 85 (Value.int IntKind.i64 24); refine (hp1 _).mono ?_; rintro e w' ⟨rfl, rfl⟩)
      | (go_at_call_of 85 (Value.int IntKind.i64 32); refine (hp2 _).mono ?_; rintro e w' ⟨rfl, rfl⟩)
      | go_in)
    go_ret
    exact ⟨by simp [h], rfl⟩
  · have q : (b % 16777216 == 0) = false := by simp [h]
    go_enter Tryd.func83, Tryd.ntmps83
    go_wp2_with (first
      | (go_at_call_of 85 (Value.int IntKind.i64 24); refine (hp1 _).mono ?_; rintro e w' ⟨rfl, rfl⟩)
      | (go_at_call_of 85 (Value.int IntKind.i64 32); refine (hp2 _).mono ?_; rintro e w' ⟨rfl, rfl⟩)
      | go_in)
    go_ret
    exact ⟨by simp [h], rfl⟩
end Go.Proofs.YtbbnodhpafiplaaDoor
namespace Go.Proofs.YtbbnodhpafiplaaDoor
open Go.RowKit
set_option linter.unusedVariables false
set_option linter.unusedSimpArgs false

set_option maxRecDepth 100000 in
set_option maxHeartbeats 8000000 in
theorem rright_1 (t2 t3 t4 t5 t6 : Int) (t7 t8 : Bool) (W : World) (P L a b Q z : Bool) (hw : t2 % 18446744073709551616 = t2) (ha : decide (t4 < 0) = a) (hb : decide (15 < t4) = b) (hz : (t4 == 0) = z)
    (HS : ∀ w, Calls Tryd.prog 82 #[.int .i64 1] w fun e w' => e = .returned (.int .i64 12) ∧ w = w')
    (HV : ∀ w, Calls Tryd.prog 83 #[.int .u64 t2, .int .i64 12, .int .i64 32] w fun e w' => e = .returned (.bool P) ∧ w = w')
    (HQ : ∀ w, Calls Tryd.prog 83 #[.int .u64 t3, .int .i64 12, .int .i64 32] w fun e w' => e = .returned (.bool Q) ∧ w = w')
    (HL : ∀ w, Calls Tryd.prog 84 #[.agg #[.int .i64 t5, .int .u32 t6, .bool t7, .bool t8]] w fun e w' => e = .returned (.bool L) ∧ Below w.heap.size w w') :
    Calls Tryd.prog 77 #[.agg #[.int .i64 1, .int .u32 t2, .int .u64 t3, .int .i64 t4, .int .i64 t5, .int .u32 t6, .bool t7, .bool t8]] W fun r w' => r = .returned (.bool (if P && (L && (!a && !b)) then Q else false)) ∧ Below W.heap.size W w' := by
  have hN := Bl.new W 36 [.int .i64 1, .int .u32 t2, .int .u64 t3, .int .i64 t4, .int .i64 t5, .int .u32 t6, .bool t7, .bool t8]
  have HB0 : Hid (∀ o, Below W.heap.size W (W.alloc o)) := fun o => ((Below.refl _ _).alloc (Nat.le_refl _) o)
  cases P <;> cases L <;> cases a <;> cases b
  all_goals
    go_enter Tryd.func77, Tryd.ntmps77
    go_wp2_with (first
      | (go_at_call 82; refine (HS _).mono ?_; rintro e w' ⟨rfl, rfl⟩)
      | (go_at_call_of 83 (Value.int IntKind.u64 t2); refine (HV _).mono ?_; rintro e w' ⟨rfl, rfl⟩)
      | (go_at_call_of 83 (Value.int IntKind.u64 t3); refine (HQ _).mono ?_; rintro e w' ⟨rfl, rfl⟩)
      | (go_at_call 84; refine (HL _).mono ?_; rintro e w2 ⟨rfl, hbb⟩; have hx2 := hN.below hbb; have HBL : Hid (Below W.heap.size W w2) := Below.one hbb; clear hbb hN; have hc := hx2.cell)
      | go_in)
    go_ret
    exact ⟨rfl, (by first | exact HBL.out | exact HB0.out _)⟩
end Go.Proofs.YtbbnodhpafiplaaDoor
namespace Go.Proofs.YtbbnodhpafiplaaDoor
open Go.RowKit
set_option linter.unusedVariables false
set_option linter.unusedSimpArgs false

set_option maxRecDepth 100000 in
set_option maxHeartbeats 8000000 in
theorem rright_2 (t2 t3 t4 t5 t6 : Int) (t7 t8 : Bool) (W : World) (P L a b Q z : Bool) (hw : t2 % 18446744073709551616 = t2) (ha : decide (t4 < 0) = a) (hb : decide (15 < t4) = b) (hz : (t4 == 0) = z)
    (HS : ∀ w, Calls Tryd.prog 82 #[.int .i64 2] w fun e w' => e = .returned (.int .i64 16) ∧ w = w')
    (HV : ∀ w, Calls Tryd.prog 83 #[.int .u64 t2, .int .i64 16, .int .i64 32] w fun e w' => e = .returned (.bool P) ∧ w = w')
    (HQ : ∀ w, Calls Tryd.prog 83 #[.int .u64 t3, .int .i64 16, .int .i64 32] w fun e w' => e = .returned (.bool Q) ∧ w = w')
    (HL : ∀ w, Calls Tryd.prog 84 #[.agg #[.int .i64 t5, .int .u32 t6, .bool t7, .bool t8]] w fun e w' => e = .returned (.bool L) ∧ Below w.heap.size w w') :
    Calls Tryd.prog 77 #[.agg #[.int .i64 2, .int .u32 t2, .int .u64 t3, .int .i64 t4, .int .i64 t5, .int .u32 t6, .bool t7, .bool t8]] W fun r w' => r = .returned (.bool (if P && (L && (!a && !b)) then Q else false)) ∧ Below W.heap.size W w' := by
  have hN := Bl.new W 36 [.int .i64 2, .int .u32 t2, .int .u64 t3, .int .i64 t4, .int .i64 t5, .int .u32 t6, .bool t7, .bool t8]
  have HB0 : Hid (∀ o, Below W.heap.size W (W.alloc o)) := fun o => ((Below.refl _ _).alloc (Nat.le_refl _) o)
  cases P <;> cases L <;> cases a <;> cases b
  all_goals
    go_enter Tryd.func77, Tryd.ntmps77
    go_wp2_with (first
      | (go_at_call 82; refine (HS _).mono ?_; rintro e w' ⟨rfl, rfl⟩)
      | (go_at_call_of 83 (Value.int IntKind.u64 t2); refine (HV _).mono ?_; rintro e w' ⟨rfl, rfl⟩)
      | (go_at_call_of 83 (Value.int IntKind.u64 t3); refine (HQ _).mono ?_; rintro e w' ⟨rfl, rfl⟩)
      | (go_at_call 84; refine (HL _).mono ?_; rintro e w2 ⟨rfl, hbb⟩; have hx2 := hN.below hbb; have HBL : Hid (Below W.heap.size W w2) := Below.one hbb; clear hbb hN; have hc := hx2.cell)
      | go_in)
    go_ret
    exact ⟨rfl, (by first | exact HBL.out | exact HB0.out _)⟩
end Go.Proofs.YtbbnodhpafiplaaDoor
namespace Go.Proofs.YtbbnodhpafiplaaDoor
open Go.RowKit
set_option linter.unusedVariables false
set_option linter.unusedSimpArgs false

set_option maxRecDepth 100000 in
set_option maxHeartbeats 8000000 in
theorem rright_3 (t2 t3 t4 t5 t6 : Int) (t7 t8 : Bool) (W : World) (P L a b Q z : Bool) (hw : t2 % 18446744073709551616 = t2) (ha : decide (t4 < 0) = a) (hb : decide (15 < t4) = b) (hz : (t4 == 0) = z)
    (HS : ∀ w, Calls Tryd.prog 82 #[.int .i64 3] w fun e w' => e = .returned (.int .i64 20) ∧ w = w')
    (HV : ∀ w, Calls Tryd.prog 83 #[.int .u64 t2, .int .i64 20, .int .i64 32] w fun e w' => e = .returned (.bool P) ∧ w = w')
    (HQ : ∀ w, Calls Tryd.prog 83 #[.int .u64 t3, .int .i64 20, .int .i64 32] w fun e w' => e = .returned (.bool Q) ∧ w = w')
    (HL : ∀ w, Calls Tryd.prog 84 #[.agg #[.int .i64 t5, .int .u32 t6, .bool t7, .bool t8]] w fun e w' => e = .returned (.bool L) ∧ Below w.heap.size w w') :
    Calls Tryd.prog 77 #[.agg #[.int .i64 3, .int .u32 t2, .int .u64 t3, .int .i64 t4, .int .i64 t5, .int .u32 t6, .bool t7, .bool t8]] W fun r w' => r = .returned (.bool (if P && (L && (!a && !b)) then Q else false)) ∧ Below W.heap.size W w' := by
  have hN := Bl.new W 36 [.int .i64 3, .int .u32 t2, .int .u64 t3, .int .i64 t4, .int .i64 t5, .int .u32 t6, .bool t7, .bool t8]
  have HB0 : Hid (∀ o, Below W.heap.size W (W.alloc o)) := fun o => ((Below.refl _ _).alloc (Nat.le_refl _) o)
  cases P <;> cases L <;> cases a <;> cases b
  all_goals
    go_enter Tryd.func77, Tryd.ntmps77
    go_wp2_with (first
      | (go_at_call 82; refine (HS _).mono ?_; rintro e w' ⟨rfl, rfl⟩)
      | (go_at_call_of 83 (Value.int IntKind.u64 t2); refine (HV _).mono ?_; rintro e w' ⟨rfl, rfl⟩)
      | (go_at_call_of 83 (Value.int IntKind.u64 t3); refine (HQ _).mono ?_; rintro e w' ⟨rfl, rfl⟩)
      | (go_at_call 84; refine (HL _).mono ?_; rintro e w2 ⟨rfl, hbb⟩; have hx2 := hN.below hbb; have HBL : Hid (Below W.heap.size W w2) := Below.one hbb; clear hbb hN; have hc := hx2.cell)
      | go_in)
    go_ret
    exact ⟨rfl, (by first | exact HBL.out | exact HB0.out _)⟩
end Go.Proofs.YtbbnodhpafiplaaDoor
namespace Go.Proofs.YtbbnodhpafiplaaDoor
open Go.RowKit
set_option linter.unusedVariables false
set_option linter.unusedSimpArgs false

set_option maxRecDepth 100000 in
set_option maxHeartbeats 8000000 in
theorem rright_4 (t2 t3 t4 t5 t6 : Int) (t7 t8 : Bool) (W : World) (P L a b Q z : Bool) (hw : t2 % 18446744073709551616 = t2) (ha : decide (t4 < 0) = a) (hb : decide (15 < t4) = b) (hz : (t4 == 0) = z)
    (HS : ∀ w, Calls Tryd.prog 82 #[.int .i64 4] w fun e w' => e = .returned (.int .i64 24) ∧ w = w')
    (HV : ∀ w, Calls Tryd.prog 83 #[.int .u64 t2, .int .i64 24, .int .i64 32] w fun e w' => e = .returned (.bool P) ∧ w = w')
    (HQ : ∀ w, Calls Tryd.prog 83 #[.int .u64 t3, .int .i64 24, .int .i64 40] w fun e w' => e = .returned (.bool Q) ∧ w = w')
    (HL : ∀ w, Calls Tryd.prog 84 #[.agg #[.int .i64 t5, .int .u32 t6, .bool t7, .bool t8]] w fun e w' => e = .returned (.bool L) ∧ Below w.heap.size w w') :
    Calls Tryd.prog 77 #[.agg #[.int .i64 4, .int .u32 t2, .int .u64 t3, .int .i64 t4, .int .i64 t5, .int .u32 t6, .bool t7, .bool t8]] W fun r w' => r = .returned (.bool (if P && (L && (!a && !b)) then Q && z else false)) ∧ Below W.heap.size W w' := by
  have hN := Bl.new W 36 [.int .i64 4, .int .u32 t2, .int .u64 t3, .int .i64 t4, .int .i64 t5, .int .u32 t6, .bool t7, .bool t8]
  have HB0 : Hid (∀ o, Below W.heap.size W (W.alloc o)) := fun o => ((Below.refl _ _).alloc (Nat.le_refl _) o)
  cases P <;> cases L <;> cases a <;> cases b <;> cases Q
  all_goals
    go_enter Tryd.func77, Tryd.ntmps77
    go_wp2_with (first
      | (go_at_call 82; refine (HS _).mono ?_; rintro e w' ⟨rfl, rfl⟩)
      | (go_at_call_of 83 (Value.int IntKind.u64 t2); refine (HV _).mono ?_; rintro e w' ⟨rfl, rfl⟩)
      | (go_at_call_of 83 (Value.int IntKind.u64 t3); refine (HQ _).mono ?_; rintro e w' ⟨rfl, rfl⟩)
      | (go_at_call 84; refine (HL _).mono ?_; rintro e w2 ⟨rfl, hbb⟩; have hx2 := hN.below hbb; have HBL : Hid (Below W.heap.size W w2) := Below.one hbb; clear hbb hN; have hc := hx2.cell)
      | go_in)
    go_ret
    exact ⟨rfl, (by first | exact HBL.out | exact HB0.out _)⟩
end Go.Proofs.YtbbnodhpafiplaaDoor
namespace Go.Proofs.YtbbnodhpafiplaaDoor
open Go.RowKit
set_option linter.unusedVariables false
set_option linter.unusedSimpArgs false

set_option maxRecDepth 100000 in
set_option maxHeartbeats 4000000 in
theorem rright_no (t : Tra) (W : World) (HS : ∀ w, Calls Tryd.prog 82 #[.int .i64 t.size] w fun e w' => e = .returned (.int .i64 0) ∧ w = w') : Calls Tryd.prog 77 #[.agg #[.int .i64 t.size, .int .u32 t.va, .int .u64 t.pa, .int .i64 t.dom, .int .i64 t.ap, .int .u32 t.bits, .bool t.ng, .bool t.xn]] W fun r w' => r = .returned (.bool false) ∧ Below W.heap.size W w' := by
  have HB0 : Hid (∀ o, Below W.heap.size W (W.alloc o)) := fun o => ((Below.refl _ _).alloc (Nat.le_refl _) o)
  go_enter Tryd.func77, Tryd.ntmps77
  go_wp2_with (first
    | (go_at_call 82; refine (HS _).mono ?_; rintro e w' ⟨rfl, rfl⟩)
    | go_in)
  go_ret
  exact ⟨rfl, HB0.out _⟩
theorem rright_any (t : Tra) (W : World) (hv : 0 ≤ t.va ∧ t.va < 4294967296) (hO : Ok (enF t)) : Calls Tryd.prog 77 #[.agg #[.int .i64 t.size, .int .u32 t.va, .int .u64 t.pa, .int .i64 t.dom, .int .i64 t.ap, .int .u32 t.bits, .bool t.ng, .bool t.xn]] W fun r w' => r = .returned (.bool (riF t)) ∧ Below W.heap.size W w' := by
  have hp : 0 ≤ t.pa := hO.1.1
  by_cases hs : 1 ≤ t.size ∧ t.size ≤ 4
  · have hri := ri_iff t hO hs
    have HL := fun w => rleaf_any t.ap t.bits t.ng t.xn w
    have hw : t.va % 18446744073709551616 = t.va := by omega
    obtain ⟨s, t2, t3, t4, t5, t6, t7, t8⟩ := t
    simp only at hs hv hp hw HL
    rcases (show s = 1 ∨ s = 2 ∨ s = 3 ∨ s = 4 by omega) with rfl | rfl | rfl | rfl
    · have hB : (if (decide (t2 % 4096 = 0) && decide (t2 < 4294967296)) && (lfB t5 t6 && (!(decide (t4 < 0)) && !(decide (15 < t4)))) then (decide (t3 % 4096 = 0) && decide (t3 < 4294967296)) else false) = riF ⟨1, t2, t3, t4, t5, t6, t7, t8⟩ := by
        apply Bool.eq_iff_iff.2
        rw [hri]
        have e4 : byN 1 = 4096 := rfl
        simp only [RR, e4, show ¬ ((1 : Int) = 4) from by decide, if_false]
        split
        · rename_i h
          simp only [Bool.and_eq_true, decide_eq_true_eq, lfB_iff, Bool.not_eq_true', decide_eq_false_iff_not, beq_iff_eq] at h ⊢
          omega
        · rename_i h
          simp only [Bool.and_eq_true, decide_eq_true_eq, lfB_iff, Bool.not_eq_true', decide_eq_false_iff_not] at h
          constructor
          · intro f
            cases f
          · intro g
            exfalso
            omega
      rw [← hB]
      exact rright_1 t2 t3 t4 t5 t6 t7 t8 W _ _ _ _ _ _ hw rfl rfl rfl (fun w => shift_any 1 w) (fun w => rplace_12_32 t2 w hv.1) (fun w => rplace_12_32 t3 w hp) HL
    · have hB : (if (decide (t2 % 65536 = 0) && decide (t2 < 4294967296)) && (lfB t5 t6 && (!(decide (t4 < 0)) && !(decide (15 < t4)))) then (decide (t3 % 65536 = 0) && decide (t3 < 4294967296)) else false) = riF ⟨2, t2, t3, t4, t5, t6, t7, t8⟩ := by
        apply Bool.eq_iff_iff.2
        rw [hri]
        have e4 : byN 2 = 65536 := rfl
        simp only [RR, e4, show ¬ ((2 : Int) = 4) from by decide, if_false]
        split
        · rename_i h
          simp only [Bool.and_eq_true, decide_eq_true_eq, lfB_iff, Bool.not_eq_true', decide_eq_false_iff_not, beq_iff_eq] at h ⊢
          omega
        · rename_i h
          simp only [Bool.and_eq_true, decide_eq_true_eq, lfB_iff, Bool.not_eq_true', decide_eq_false_iff_not] at h
          constructor
          · intro f
            cases f
          · intro g
            exfalso
            omega
      rw [← hB]
      exact rright_2 t2 t3 t4 t5 t6 t7 t8 W _ _ _ _ _ _ hw rfl rfl rfl (fun w => shift_any 2 w) (fun w => rplace_16_32 t2 w hv.1) (fun w => rplace_16_32 t3 w hp) HL
    · have hB : (if (decide (t2 % 1048576 = 0) && decide (t2 < 4294967296)) && (lfB t5 t6 && (!(decide (t4 < 0)) && !(decide (15 < t4)))) then (decide (t3 % 1048576 = 0) && decide (t3 < 4294967296)) else false) = riF ⟨3, t2, t3, t4, t5, t6, t7, t8⟩ := by
        apply Bool.eq_iff_iff.2
        rw [hri]
        have e4 : byN 3 = 1048576 := rfl
        simp only [RR, e4, show ¬ ((3 : Int) = 4) from by decide, if_false]
        split
        · rename_i h
          simp only [Bool.and_eq_true, decide_eq_true_eq, lfB_iff, Bool.not_eq_true', decide_eq_false_iff_not, beq_iff_eq] at h ⊢
          omega
        · rename_i h
          simp only [Bool.and_eq_true, decide_eq_true_eq, lfB_iff, Bool.not_eq_true', decide_eq_false_iff_not] at h
          constructor
          · intro f
            cases f
          · intro g
            exfalso
            omega
      rw [← hB]
      exact rright_3 t2 t3 t4 t5 t6 t7 t8 W _ _ _ _ _ _ hw rfl rfl rfl (fun w => shift_any 3 w) (fun w => rplace_20_32 t2 w hv.1) (fun w => rplace_20_32 t3 w hp) HL
    · have hB : (if (decide (t2 % 16777216 = 0) && decide (t2 < 4294967296)) && (lfB t5 t6 && (!(decide (t4 < 0)) && !(decide (15 < t4)))) then (decide (t3 % 16777216 = 0) && decide (t3 < 1099511627776)) && (t4 == 0) else false) = riF ⟨4, t2, t3, t4, t5, t6, t7, t8⟩ := by
        apply Bool.eq_iff_iff.2
        rw [hri]
        have e4 : byN 4 = 16777216 := rfl
        simp only [RR, e4, if_true]
        split
        · rename_i h
          simp only [Bool.and_eq_true, decide_eq_true_eq, lfB_iff, Bool.not_eq_true', decide_eq_false_iff_not, beq_iff_eq] at h ⊢
          omega
        · rename_i h
          simp only [Bool.and_eq_true, decide_eq_true_eq, lfB_iff, Bool.not_eq_true', decide_eq_false_iff_not] at h
          constructor
          · intro f
            cases f
          · intro g
            exfalso
            omega
      rw [← hB]
      exact rright_4 t2 t3 t4 t5 t6 t7 t8 W _ _ _ _ _ _ hw rfl rfl rfl (fun w => shift_any 4 w) (fun w => rplace_24_32 t2 w hv.1) (fun w => rplace_24_40 t3 w hp) HL
  · have hf : riF t = false := by
      have q : (decide (1 ≤ t.size) && decide (t.size ≤ 4)) = false := by simp; omega
      unfold riF; rw [q]; rfl
    rw [hf]
    have HS := fun w => shift_any t.size w
    rw [show shN t.size = 0 by unfold shN; rw [if_neg (by omega), if_neg (by omega), if_neg (by omega), if_neg (by omega)]] at HS
    exact rright_no t W HS
end Go.Proofs.YtbbnodhpafiplaaDoor
