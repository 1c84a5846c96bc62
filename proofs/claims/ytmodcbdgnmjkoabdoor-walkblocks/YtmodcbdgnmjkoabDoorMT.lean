import Derived.Test.YtmodcbdgnmjkoabDoorMS
import Derived.Test.YtmodcbdgnmjkoabDoorRz
import Derived.Test.YtmodcbdgnmjkoabDoorTa
namespace Go.Proofs.YtmodcbdgnmjkoabDoor
open Go.RowKit
set_option linter.unusedVariables false
set_option linter.unusedSimpArgs false
set_option maxRecDepth 100000 in
theorem sizeOf_ref (k : Int) (w : World) : Calls Tryd.prog 44 #[.int .i64 k] w fun e w' => e = .returned (.int .i64 (szK k)) ∧ w = w' := by
  by_cases h : k = 2 ∨ k = 3 ∨ k = 4 ∨ k = 5
  · rcases h with rfl | rfl | rfl | rfl
    all_goals
      go_enter Tryd.func44, Tryd.ntmps44
      go_wp2
      go_ret
      exact ⟨rfl, rfl⟩
  · have q1 : (k == 2) = false := by simp; omega
    have q2 : (k == 3) = false := by simp; omega
    have q3 : (k == 4) = false := by simp; omega
    have q4 : (k == 5) = false := by simp; omega
    have hz : szK k = 0 := by unfold szK; rw [if_neg (by omega), if_neg (by omega), if_neg (by omega), if_neg (by omega)]
    rw [hz]
    clear h
    go_enter Tryd.func44, Tryd.ntmps44
    go_wp2
    go_ret
    exact ⟨rfl, rfl⟩
end Go.Proofs.YtmodcbdgnmjkoabDoor
namespace Go.Proofs.YtmodcbdgnmjkoabDoor
open Go.RowKit
set_option linter.unusedVariables false
set_option linter.unusedSimpArgs false

set_option maxRecDepth 100000 in
set_option maxHeartbeats 8000000 in
theorem rtrans_no (k1 k2 k3 : Int) (k4 : Bool) (k5 k6 : Int) (k7 k8 : Bool) (dm va : Int) (W : World) (HZ : ∀ w, Calls Tryd.prog 44 #[.int .i64 k1] w fun e w' => e = .returned (.int .i64 0) ∧ w = w') :
    Calls Tryd.prog 22 #[.agg #[.int .i64 k1, .int .u64 k2, .int .i64 k3, .bool k4, .int .i64 k5, .int .u32 k6, .bool k7, .bool k8], .int .i64 dm, .int .u32 va] W fun r w' => r = .returned (.agg #[.int .i64 0, .int .u32 0, .int .u64 0, .int .i64 0, .int .i64 0, .int .u32 0, .bool false, .bool false]) ∧ Below W.heap.size W w' := by
  have hN := (Bl.new W 70 [.int .i64 k1, .int .u64 k2, .int .i64 k3, .bool k4, .int .i64 k5, .int .u32 k6, .bool k7, .bool k8])
  have hsz : (W.alloc (.cells ([.int .i64 k1, .int .u64 k2, .int .i64 k3, .bool k4, .int .i64 k5, .int .u32 k6, .bool k7, .bool k8]).toArray 70)).heap.size = W.heap.size + 1 := by simp
  have hM := Bl.new (W.alloc (.cells ([.int .i64 k1, .int .u64 k2, .int .i64 k3, .bool k4, .int .i64 k5, .int .u32 k6, .bool k7, .bool k8]).toArray 70)) 49 [.int .i64 0, .int .u32 0, .int .u64 0, .int .i64 0, .int .i64 0, .int .u32 0, .bool false, .bool false]
  have hN := hN.below ((Below.refl _ _).alloc (Nat.le_refl _) (.cells ([.int .i64 0, .int .u32 0, .int .u64 0, .int .i64 0, .int .i64 0, .int .u32 0, .bool false, .bool false]).toArray 49))
  rw [hsz] at hM
  have HB0 : Hid (∀ o p, Below W.heap.size W ((W.alloc o).alloc p)) := fun o p => (((Below.refl _ _).alloc (Nat.le_refl _) o).alloc (by simp) p)
  go_enter Tryd.func22, Tryd.ntmps22
  go_wp2_with (first
    | (go_at_call 44; refine (HZ _).mono ?_; rintro e w' ⟨rfl, rfl⟩)
    | go_in)
  refine bodyPost_ret (v := .agg #[.int .i64 0, .int .u32 0, .int .u64 0, .int .i64 0, .int .i64 0, .int .u32 0, .bool false, .bool false]) (by simp [results, Tryd.results22, go_sem]) rfl ⟨rfl, (by (repeat (refine Below.setCell ?_ (by simp) _)); exact HB0.out _ _)⟩
set_option maxRecDepth 100000 in
set_option maxHeartbeats 8000000 in
theorem rtrans_2n (k2 k3 : Int) (k4 : Bool) (k5 k6 : Int) (k7 k8 : Bool) (dm va : Int) (W : World) (HZ : ∀ w, Calls Tryd.prog 44 #[.int .i64 2] w fun e w' => e = .returned (.int .i64 3) ∧ w = w') (HS : ∀ w, Calls Tryd.prog 45 #[.agg #[.int .i64 2, .int .u64 k2, .int .i64 k3, .bool k4, .int .i64 k5, .int .u32 k6, .bool k7, .bool k8]] w fun r w' => r = .returned (.bool false) ∧ Below w.heap.size w w') :
    Calls Tryd.prog 22 #[.agg #[.int .i64 2, .int .u64 k2, .int .i64 k3, .bool k4, .int .i64 k5, .int .u32 k6, .bool k7, .bool k8], .int .i64 dm, .int .u32 va] W fun r w' => r = .returned (.agg #[.int .i64 0, .int .u32 0, .int .u64 0, .int .i64 0, .int .i64 0, .int .u32 0, .bool false, .bool false]) ∧ Below W.heap.size W w' := by
  have hN := (Bl.new W 70 [.int .i64 2, .int .u64 k2, .int .i64 k3, .bool k4, .int .i64 k5, .int .u32 k6, .bool k7, .bool k8])
  have hsz : (W.alloc (.cells ([.int .i64 2, .int .u64 k2, .int .i64 k3, .bool k4, .int .i64 k5, .int .u32 k6, .bool k7, .bool k8]).toArray 70)).heap.size = W.heap.size + 1 := by simp
  have hM := Bl.new (W.alloc (.cells ([.int .i64 2, .int .u64 k2, .int .i64 k3, .bool k4, .int .i64 k5, .int .u32 k6, .bool k7, .bool k8]).toArray 70)) 49 [.int .i64 0, .int .u32 0, .int .u64 0, .int .i64 0, .int .i64 0, .int .u32 0, .bool false, .bool false]
  have hN := hN.below ((Below.refl _ _).alloc (Nat.le_refl _) (.cells ([.int .i64 0, .int .u32 0, .int .u64 0, .int .i64 0, .int .i64 0, .int .u32 0, .bool false, .bool false]).toArray 49))
  rw [hsz] at hM
  have HB0 : Hid (∀ o p, Below W.heap.size W ((W.alloc o).alloc p)) := fun o p => (((Below.refl _ _).alloc (Nat.le_refl _) o).alloc (by simp) p)
  go_enter Tryd.func22, Tryd.ntmps22
  go_wp2_with (first
    | (go_at_call 44; refine (HZ _).mono ?_; rintro e w' ⟨rfl, rfl⟩)
    | (go_at_call 45; refine (HS _).mono ?_; rintro e w1 ⟨rfl, hb⟩; have hx1 := hN.below hb; have hy1 := hM.below hb; have HB : Hid (Below W.heap.size W w1) := Below.step (by (repeat (refine Below.alloc ?_ (by simp) _)); exact Below.refl _ _) hb; clear hb hN hM; have hc := hx1.cell; have hd := hy1.cell; have hf := hy1.frozen; have hlt : W.heap.size + 1 < w1.heap.size := hy1.lt; have hne : ¬ (W.heap.size + 1 = w1.heap.size) := (by omega); have hne2 : ¬ (W.heap.size = w1.heap.size) := (by omega))
    | go_in)
  refine bodyPost_ret (v := .agg #[.int .i64 0, .int .u32 0, .int .u64 0, .int .i64 0, .int .i64 0, .int .u32 0, .bool false, .bool false]) (by simp [results, Tryd.results22, go_sem, hd]) rfl ⟨rfl, (by (repeat (refine Below.setCell ?_ (by simp) _)); exact HB.out)⟩
set_option maxRecDepth 100000 in
set_option maxHeartbeats 8000000 in
theorem rtrans_2y (k2 k3 : Int) (k4 : Bool) (k5 k6 : Int) (k7 k8 : Bool) (dm va : Int) (W : World) (HZ : ∀ w, Calls Tryd.prog 44 #[.int .i64 2] w fun e w' => e = .returned (.int .i64 3) ∧ w = w') (HY : ∀ w, Calls Tryd.prog 47 #[.int .i64 3] w fun e w' => e = .returned (.int .u64 1048576) ∧ w = w') (HS : ∀ w, Calls Tryd.prog 45 #[.agg #[.int .i64 2, .int .u64 k2, .int .i64 k3, .bool k4, .int .i64 k5, .int .u32 k6, .bool k7, .bool k8]] w fun r w' => r = .returned (.bool true) ∧ Below w.heap.size w w') (hva : 0 ≤ va ∧ va < 4294967296) :
    Calls Tryd.prog 22 #[.agg #[.int .i64 2, .int .u64 k2, .int .i64 k3, .bool k4, .int .i64 k5, .int .u32 k6, .bool k7, .bool k8], .int .i64 dm, .int .u32 va] W fun r w' => r = .returned (.agg #[.int .i64 3, .int .u32 (va / 1048576 * 1048576), .int .u64 k2, .int .i64 k3, .int .i64 k5, .int .u32 k6, .bool k7, .bool k8]) ∧ Below W.heap.size W w' := by
  have hN := (Bl.new W 70 [.int .i64 2, .int .u64 k2, .int .i64 k3, .bool k4, .int .i64 k5, .int .u32 k6, .bool k7, .bool k8])
  have hsz : (W.alloc (.cells ([.int .i64 2, .int .u64 k2, .int .i64 k3, .bool k4, .int .i64 k5, .int .u32 k6, .bool k7, .bool k8]).toArray 70)).heap.size = W.heap.size + 1 := by simp
  have hM := Bl.new (W.alloc (.cells ([.int .i64 2, .int .u64 k2, .int .i64 k3, .bool k4, .int .i64 k5, .int .u32 k6, .bool k7, .bool k8]).toArray 70)) 49 [.int .i64 0, .int .u32 0, .int .u64 0, .int .i64 0, .int .i64 0, .int .u32 0, .bool false, .bool false]
  have hN := hN.below ((Below.refl _ _).alloc (Nat.le_refl _) (.cells ([.int .i64 0, .int .u32 0, .int .u64 0, .int .i64 0, .int .i64 0, .int .u32 0, .bool false, .bool false]).toArray 49))
  rw [hsz] at hM
  have HB0 : Hid (∀ o p, Below W.heap.size W ((W.alloc o).alloc p)) := fun o p => (((Below.refl _ _).alloc (Nat.le_refl _) o).alloc (by simp) p)
  have hv : (va - va % 1048576) % 4294967296 = va / 1048576 * 1048576 := by omega
  have htm : va.tmod 1048576 = va % 1048576 := Int.tmod_eq_emod_of_nonneg hva.1
  have hv2 : va - va % 1048576 = va / 1048576 * 1048576 := by omega
  clear hva
  go_enter Tryd.func22, Tryd.ntmps22
  go_wp2_with (first
    | (go_at_call 44; refine (HZ _).mono ?_; rintro e w' ⟨rfl, rfl⟩)
    | (go_at_call 47; refine (HY _).mono ?_; rintro e w' ⟨rfl, rfl⟩)
    | (go_at_call 45; refine (HS _).mono ?_; rintro e w1 ⟨rfl, hb⟩; have hx1 := hN.below hb; have hy1 := hM.below hb; have HB : Hid (Below W.heap.size W w1) := Below.step (by (repeat (refine Below.alloc ?_ (by simp) _)); exact Below.refl _ _) hb; clear hb hN hM; have hc := hx1.cell; have hd := hy1.cell; have hf := hy1.frozen; have hlt : W.heap.size + 1 < w1.heap.size := hy1.lt; have hne : ¬ (W.heap.size + 1 = w1.heap.size) := (by omega); have hne2 : ¬ (W.heap.size = w1.heap.size) := (by omega))
    | go_in)
  refine bodyPost_ret (v := .agg #[.int .i64 3, .int .u32 (va / 1048576 * 1048576), .int .u64 k2, .int .i64 k3, .int .i64 k5, .int .u32 k6, .bool k7, .bool k8]) (by simp [results, Tryd.results22, go_sem, hd, IntKind.wrap_u32, hv, hv2, hne, hlt]) rfl ⟨rfl, (by refine Below.alloc ?_ (by have := HB.out.size; simp; omega) _; (repeat (refine Below.setCell ?_ (by simp) _)); exact HB.out)⟩
set_option maxRecDepth 100000 in
set_option maxHeartbeats 8000000 in
theorem rtrans_3n (k2 k3 : Int) (k4 : Bool) (k5 k6 : Int) (k7 k8 : Bool) (dm va : Int) (W : World) (HZ : ∀ w, Calls Tryd.prog 44 #[.int .i64 3] w fun e w' => e = .returned (.int .i64 4) ∧ w = w') (HS : ∀ w, Calls Tryd.prog 45 #[.agg #[.int .i64 3, .int .u64 k2, .int .i64 k3, .bool k4, .int .i64 k5, .int .u32 k6, .bool k7, .bool k8]] w fun r w' => r = .returned (.bool false) ∧ Below w.heap.size w w') :
    Calls Tryd.prog 22 #[.agg #[.int .i64 3, .int .u64 k2, .int .i64 k3, .bool k4, .int .i64 k5, .int .u32 k6, .bool k7, .bool k8], .int .i64 dm, .int .u32 va] W fun r w' => r = .returned (.agg #[.int .i64 0, .int .u32 0, .int .u64 0, .int .i64 0, .int .i64 0, .int .u32 0, .bool false, .bool false]) ∧ Below W.heap.size W w' := by
  have hN := (Bl.new W 70 [.int .i64 3, .int .u64 k2, .int .i64 k3, .bool k4, .int .i64 k5, .int .u32 k6, .bool k7, .bool k8])
  have hsz : (W.alloc (.cells ([.int .i64 3, .int .u64 k2, .int .i64 k3, .bool k4, .int .i64 k5, .int .u32 k6, .bool k7, .bool k8]).toArray 70)).heap.size = W.heap.size + 1 := by simp
  have hM := Bl.new (W.alloc (.cells ([.int .i64 3, .int .u64 k2, .int .i64 k3, .bool k4, .int .i64 k5, .int .u32 k6, .bool k7, .bool k8]).toArray 70)) 49 [.int .i64 0, .int .u32 0, .int .u64 0, .int .i64 0, .int .i64 0, .int .u32 0, .bool false, .bool false]
  have hN := hN.below ((Below.refl _ _).alloc (Nat.le_refl _) (.cells ([.int .i64 0, .int .u32 0, .int .u64 0, .int .i64 0, .int .i64 0, .int .u32 0, .bool false, .bool false]).toArray 49))
  rw [hsz] at hM
  have HB0 : Hid (∀ o p, Below W.heap.size W ((W.alloc o).alloc p)) := fun o p => (((Below.refl _ _).alloc (Nat.le_refl _) o).alloc (by simp) p)
  go_enter Tryd.func22, Tryd.ntmps22
  go_wp2_with (first
    | (go_at_call 44; refine (HZ _).mono ?_; rintro e w' ⟨rfl, rfl⟩)
    | (go_at_call 45; refine (HS _).mono ?_; rintro e w1 ⟨rfl, hb⟩; have hx1 := hN.below hb; have hy1 := hM.below hb; have HB : Hid (Below W.heap.size W w1) := Below.step (by (repeat (refine Below.alloc ?_ (by simp) _)); exact Below.refl _ _) hb; clear hb hN hM; have hc := hx1.cell; have hd := hy1.cell; have hf := hy1.frozen; have hlt : W.heap.size + 1 < w1.heap.size := hy1.lt; have hne : ¬ (W.heap.size + 1 = w1.heap.size) := (by omega); have hne2 : ¬ (W.heap.size = w1.heap.size) := (by omega))
    | go_in)
  refine bodyPost_ret (v := .agg #[.int .i64 0, .int .u32 0, .int .u64 0, .int .i64 0, .int .i64 0, .int .u32 0, .bool false, .bool false]) (by simp [results, Tryd.results22, go_sem, hd]) rfl ⟨rfl, (by (repeat (refine Below.setCell ?_ (by simp) _)); exact HB.out)⟩
set_option maxRecDepth 100000 in
set_option maxHeartbeats 8000000 in
theorem rtrans_3y (k2 k3 : Int) (k4 : Bool) (k5 k6 : Int) (k7 k8 : Bool) (dm va : Int) (W : World) (HZ : ∀ w, Calls Tryd.prog 44 #[.int .i64 3] w fun e w' => e = .returned (.int .i64 4) ∧ w = w') (HY : ∀ w, Calls Tryd.prog 47 #[.int .i64 4] w fun e w' => e = .returned (.int .u64 16777216) ∧ w = w') (HS : ∀ w, Calls Tryd.prog 45 #[.agg #[.int .i64 3, .int .u64 k2, .int .i64 k3, .bool k4, .int .i64 k5, .int .u32 k6, .bool k7, .bool k8]] w fun r w' => r = .returned (.bool true) ∧ Below w.heap.size w w') (hva : 0 ≤ va ∧ va < 4294967296) :
    Calls Tryd.prog 22 #[.agg #[.int .i64 3, .int .u64 k2, .int .i64 k3, .bool k4, .int .i64 k5, .int .u32 k6, .bool k7, .bool k8], .int .i64 dm, .int .u32 va] W fun r w' => r = .returned (.agg #[.int .i64 4, .int .u32 (va / 16777216 * 16777216), .int .u64 k2, .int .i64 k3, .int .i64 k5, .int .u32 k6, .bool k7, .bool k8]) ∧ Below W.heap.size W w' := by
  have hN := (Bl.new W 70 [.int .i64 3, .int .u64 k2, .int .i64 k3, .bool k4, .int .i64 k5, .int .u32 k6, .bool k7, .bool k8])
  have hsz : (W.alloc (.cells ([.int .i64 3, .int .u64 k2, .int .i64 k3, .bool k4, .int .i64 k5, .int .u32 k6, .bool k7, .bool k8]).toArray 70)).heap.size = W.heap.size + 1 := by simp
  have hM := Bl.new (W.alloc (.cells ([.int .i64 3, .int .u64 k2, .int .i64 k3, .bool k4, .int .i64 k5, .int .u32 k6, .bool k7, .bool k8]).toArray 70)) 49 [.int .i64 0, .int .u32 0, .int .u64 0, .int .i64 0, .int .i64 0, .int .u32 0, .bool false, .bool false]
  have hN := hN.below ((Below.refl _ _).alloc (Nat.le_refl _) (.cells ([.int .i64 0, .int .u32 0, .int .u64 0, .int .i64 0, .int .i64 0, .int .u32 0, .bool false, .bool false]).toArray 49))
  rw [hsz] at hM
  have HB0 : Hid (∀ o p, Below W.heap.size W ((W.alloc o).alloc p)) := fun o p => (((Below.refl _ _).alloc (Nat.le_refl _) o).alloc (by simp) p)
  have hv : (va - va % 16777216) % 4294967296 = va / 16777216 * 16777216 := by omega
  have htm : va.tmod 16777216 = va % 16777216 := Int.tmod_eq_emod_of_nonneg hva.1
  have hv2 : va - va % 16777216 = va / 16777216 * 16777216 := by omega
  clear hva
  go_enter Tryd.func22, Tryd.ntmps22
  go_wp2_with (first
    | (go_at_call 44; refine (HZ _).mono ?_; rintro e w' ⟨rfl, rfl⟩)
    | (go_at_call 47; refine (HY _).mono ?_; rintro e w' ⟨rfl, rfl⟩)
    | (go_at_call 45; refine (HS _).mono ?_; rintro e w1 ⟨rfl, hb⟩; have hx1 := hN.below hb; have hy1 := hM.below hb; have HB : Hid (Below W.heap.size W w1) := Below.step (by (repeat (refine Below.alloc ?_ (by simp) _)); exact Below.refl _ _) hb; clear hb hN hM; have hc := hx1.cell; have hd := hy1.cell; have hf := hy1.frozen; have hlt : W.heap.size + 1 < w1.heap.size := hy1.lt; have hne : ¬ (W.heap.size + 1 = w1.heap.size) := (by omega); have hne2 : ¬ (W.heap.size = w1.heap.size) := (by omega))
    | go_in)
  refine bodyPost_ret (v := .agg #[.int .i64 4, .int .u32 (va / 16777216 * 16777216), .int .u64 k2, .int .i64 k3, .int .i64 k5, .int .u32 k6, .bool k7, .bool k8]) (by simp [results, Tryd.results22, go_sem, hd, IntKind.wrap_u32, hv, hv2, hne, hlt]) rfl ⟨rfl, (by refine Below.alloc ?_ (by have := HB.out.size; simp; omega) _; (repeat (refine Below.setCell ?_ (by simp) _)); exact HB.out)⟩
set_option maxRecDepth 100000 in
set_option maxHeartbeats 8000000 in
theorem rtrans_4n (k2 k3 : Int) (k4 : Bool) (k5 k6 : Int) (k7 k8 : Bool) (dm va : Int) (W : World) (HZ : ∀ w, Calls Tryd.prog 44 #[.int .i64 4] w fun e w' => e = .returned (.int .i64 2) ∧ w = w') (HS : ∀ w, Calls Tryd.prog 46 #[.agg #[.int .i64 4, .int .u64 k2, .int .i64 k3, .bool k4, .int .i64 k5, .int .u32 k6, .bool k7, .bool k8]] w fun r w' => r = .returned (.bool false) ∧ Below w.heap.size w w') :
    Calls Tryd.prog 22 #[.agg #[.int .i64 4, .int .u64 k2, .int .i64 k3, .bool k4, .int .i64 k5, .int .u32 k6, .bool k7, .bool k8], .int .i64 dm, .int .u32 va] W fun r w' => r = .returned (.agg #[.int .i64 0, .int .u32 0, .int .u64 0, .int .i64 0, .int .i64 0, .int .u32 0, .bool false, .bool false]) ∧ Below W.heap.size W w' := by
  have hN := (Bl.new W 70 [.int .i64 4, .int .u64 k2, .int .i64 k3, .bool k4, .int .i64 k5, .int .u32 k6, .bool k7, .bool k8])
  have hsz : (W.alloc (.cells ([.int .i64 4, .int .u64 k2, .int .i64 k3, .bool k4, .int .i64 k5, .int .u32 k6, .bool k7, .bool k8]).toArray 70)).heap.size = W.heap.size + 1 := by simp
  have hM := Bl.new (W.alloc (.cells ([.int .i64 4, .int .u64 k2, .int .i64 k3, .bool k4, .int .i64 k5, .int .u32 k6, .bool k7, .bool k8]).toArray 70)) 49 [.int .i64 0, .int .u32 0, .int .u64 0, .int .i64 0, .int .i64 0, .int .u32 0, .bool false, .bool false]
  have hN := hN.below ((Below.refl _ _).alloc (Nat.le_refl _) (.cells ([.int .i64 0, .int .u32 0, .int .u64 0, .int .i64 0, .int .i64 0, .int .u32 0, .bool false, .bool false]).toArray 49))
  rw [hsz] at hM
  have HB0 : Hid (∀ o p, Below W.heap.size W ((W.alloc o).alloc p)) := fun o p => (((Below.refl _ _).alloc (Nat.le_refl _) o).alloc (by simp) p)
  go_enter Tryd.func22, Tryd.ntmps22
  go_wp2_with (first
    | (go_at_call 44; refine (HZ _).mono ?_; rintro e w' ⟨rfl, rfl⟩)
    | (go_at_call 46; refine (HS _).mono ?_; rintro e w1 ⟨rfl, hb⟩; have hx1 := hN.below hb; have hy1 := hM.below hb; have HB : Hid (Below W.heap.size W w1) := Below.step (by (repeat (refine Below.alloc ?_ (by simp) _)); exact Below.refl _ _) hb; clear hb hN hM; have hc := hx1.cell; have hd := hy1.cell; have hf := hy1.frozen; have hlt : W.heap.size + 1 < w1.heap.size := hy1.lt; have hne : ¬ (W.heap.size + 1 = w1.heap.size) := (by omega); have hne2 : ¬ (W.heap.size = w1.heap.size) := (by omega))
    | go_in)
  refine bodyPost_ret (v := .agg #[.int .i64 0, .int .u32 0, .int .u64 0, .int .i64 0, .int .i64 0, .int .u32 0, .bool false, .bool false]) (by simp [results, Tryd.results22, go_sem, hd]) rfl ⟨rfl, (by (repeat (refine Below.setCell ?_ (by simp) _)); exact HB.out)⟩
set_option maxRecDepth 100000 in
set_option maxHeartbeats 8000000 in
theorem rtrans_4y (k2 k3 : Int) (k4 : Bool) (k5 k6 : Int) (k7 k8 : Bool) (dm va : Int) (W : World) (HZ : ∀ w, Calls Tryd.prog 44 #[.int .i64 4] w fun e w' => e = .returned (.int .i64 2) ∧ w = w') (HY : ∀ w, Calls Tryd.prog 47 #[.int .i64 2] w fun e w' => e = .returned (.int .u64 65536) ∧ w = w') (HS : ∀ w, Calls Tryd.prog 46 #[.agg #[.int .i64 4, .int .u64 k2, .int .i64 k3, .bool k4, .int .i64 k5, .int .u32 k6, .bool k7, .bool k8]] w fun r w' => r = .returned (.bool true) ∧ Below w.heap.size w w') (hva : 0 ≤ va ∧ va < 4294967296) (hd1 : decide (0 ≤ dm) = true) (hd2 : decide (dm ≤ 15) = true) :
    Calls Tryd.prog 22 #[.agg #[.int .i64 4, .int .u64 k2, .int .i64 k3, .bool k4, .int .i64 k5, .int .u32 k6, .bool k7, .bool k8], .int .i64 dm, .int .u32 va] W fun r w' => r = .returned (.agg #[.int .i64 2, .int .u32 (va / 65536 * 65536), .int .u64 k2, .int .i64 dm, .int .i64 k5, .int .u32 k6, .bool k7, .bool k8]) ∧ Below W.heap.size W w' := by
  have hN := (Bl.new W 70 [.int .i64 4, .int .u64 k2, .int .i64 k3, .bool k4, .int .i64 k5, .int .u32 k6, .bool k7, .bool k8])
  have hsz : (W.alloc (.cells ([.int .i64 4, .int .u64 k2, .int .i64 k3, .bool k4, .int .i64 k5, .int .u32 k6, .bool k7, .bool k8]).toArray 70)).heap.size = W.heap.size + 1 := by simp
  have hM := Bl.new (W.alloc (.cells ([.int .i64 4, .int .u64 k2, .int .i64 k3, .bool k4, .int .i64 k5, .int .u32 k6, .bool k7, .bool k8]).toArray 70)) 49 [.int .i64 0, .int .u32 0, .int .u64 0, .int .i64 0, .int .i64 0, .int .u32 0, .bool false, .bool false]
  have hN := hN.below ((Below.refl _ _).alloc (Nat.le_refl _) (.cells ([.int .i64 0, .int .u32 0, .int .u64 0, .int .i64 0, .int .i64 0, .int .u32 0, .bool false, .bool false]).toArray 49))
  rw [hsz] at hM
  have HB0 : Hid (∀ o p, Below W.heap.size W ((W.alloc o).alloc p)) := fun o p => (((Below.refl _ _).alloc (Nat.le_refl _) o).alloc (by simp) p)
  have hv : (va - va % 65536) % 4294967296 = va / 65536 * 65536 := by omega
  have htm : va.tmod 65536 = va % 65536 := Int.tmod_eq_emod_of_nonneg hva.1
  have hv2 : va - va % 65536 = va / 65536 * 65536 := by omega
  clear hva
  go_enter Tryd.func22, Tryd.ntmps22
  go_wp2_with (first
    | (go_at_call 44; refine (HZ _).mono ?_; rintro e w' ⟨rfl, rfl⟩)
    | (go_at_call 47; refine (HY _).mono ?_; rintro e w' ⟨rfl, rfl⟩)
    | (go_at_call 46; refine (HS _).mono ?_; rintro e w1 ⟨rfl, hb⟩; have hx1 := hN.below hb; have hy1 := hM.below hb; have HB : Hid (Below W.heap.size W w1) := Below.step (by (repeat (refine Below.alloc ?_ (by simp) _)); exact Below.refl _ _) hb; clear hb hN hM; have hc := hx1.cell; have hd := hy1.cell; have hf := hy1.frozen; have hlt : W.heap.size + 1 < w1.heap.size := hy1.lt; have hne : ¬ (W.heap.size + 1 = w1.heap.size) := (by omega); have hne2 : ¬ (W.heap.size = w1.heap.size) := (by omega))
    | go_in)
  refine bodyPost_ret (v := .agg #[.int .i64 2, .int .u32 (va / 65536 * 65536), .int .u64 k2, .int .i64 dm, .int .i64 k5, .int .u32 k6, .bool k7, .bool k8]) (by simp [results, Tryd.results22, go_sem, hd, IntKind.wrap_u32, hv, hv2, hne, hlt]) rfl ⟨rfl, (by refine Below.alloc ?_ (by have := HB.out.size; simp; omega) _; (repeat (refine Below.setCell ?_ (by simp) _)); exact HB.out)⟩
set_option maxRecDepth 100000 in
set_option maxHeartbeats 8000000 in
theorem rtrans_4lo (k2 k3 : Int) (k4 : Bool) (k5 k6 : Int) (k7 k8 : Bool) (dm va : Int) (W : World) (HZ : ∀ w, Calls Tryd.prog 44 #[.int .i64 4] w fun e w' => e = .returned (.int .i64 2) ∧ w = w') (HS : ∀ w, Calls Tryd.prog 46 #[.agg #[.int .i64 4, .int .u64 k2, .int .i64 k3, .bool k4, .int .i64 k5, .int .u32 k6, .bool k7, .bool k8]] w fun r w' => r = .returned (.bool true) ∧ Below w.heap.size w w') (hd1 : decide (0 ≤ dm) = false) :
    Calls Tryd.prog 22 #[.agg #[.int .i64 4, .int .u64 k2, .int .i64 k3, .bool k4, .int .i64 k5, .int .u32 k6, .bool k7, .bool k8], .int .i64 dm, .int .u32 va] W fun r w' => r = .returned (.agg #[.int .i64 0, .int .u32 0, .int .u64 0, .int .i64 0, .int .i64 0, .int .u32 0, .bool false, .bool false]) ∧ Below W.heap.size W w' := by
  have hN := (Bl.new W 70 [.int .i64 4, .int .u64 k2, .int .i64 k3, .bool k4, .int .i64 k5, .int .u32 k6, .bool k7, .bool k8])
  have hsz : (W.alloc (.cells ([.int .i64 4, .int .u64 k2, .int .i64 k3, .bool k4, .int .i64 k5, .int .u32 k6, .bool k7, .bool k8]).toArray 70)).heap.size = W.heap.size + 1 := by simp
  have hM := Bl.new (W.alloc (.cells ([.int .i64 4, .int .u64 k2, .int .i64 k3, .bool k4, .int .i64 k5, .int .u32 k6, .bool k7, .bool k8]).toArray 70)) 49 [.int .i64 0, .int .u32 0, .int .u64 0, .int .i64 0, .int .i64 0, .int .u32 0, .bool false, .bool false]
  have hN := hN.below ((Below.refl _ _).alloc (Nat.le_refl _) (.cells ([.int .i64 0, .int .u32 0, .int .u64 0, .int .i64 0, .int .i64 0, .int .u32 0, .bool false, .bool false]).toArray 49))
  rw [hsz] at hM
  have HB0 : Hid (∀ o p, Below W.heap.size W ((W.alloc o).alloc p)) := fun o p => (((Below.refl _ _).alloc (Nat.le_refl _) o).alloc (by simp) p)
  go_enter Tryd.func22, Tryd.ntmps22
  go_wp2_with (first
    | (go_at_call 44; refine (HZ _).mono ?_; rintro e w' ⟨rfl, rfl⟩)
    | (go_at_call 46; refine (HS _).mono ?_; rintro e w1 ⟨rfl, hb⟩; have hx1 := hN.below hb; have hy1 := hM.below hb; have HB : Hid (Below W.heap.size W w1) := Below.step (by (repeat (refine Below.alloc ?_ (by simp) _)); exact Below.refl _ _) hb; clear hb hN hM; have hc := hx1.cell; have hd := hy1.cell; have hf := hy1.frozen; have hlt : W.heap.size + 1 < w1.heap.size := hy1.lt; have hne : ¬ (W.heap.size + 1 = w1.heap.size) := (by omega); have hne2 : ¬ (W.heap.size = w1.heap.size) := (by omega))
    | go_in)
  refine bodyPost_ret (v := .agg #[.int .i64 0, .int .u32 0, .int .u64 0, .int .i64 0, .int .i64 0, .int .u32 0, .bool false, .bool false]) (by simp [results, Tryd.results22, go_sem, hd]) rfl ⟨rfl, (by (repeat (refine Below.setCell ?_ (by simp) _)); exact HB.out)⟩
set_option maxRecDepth 100000 in
set_option maxHeartbeats 8000000 in
theorem rtrans_4hi (k2 k3 : Int) (k4 : Bool) (k5 k6 : Int) (k7 k8 : Bool) (dm va : Int) (W : World) (HZ : ∀ w, Calls Tryd.prog 44 #[.int .i64 4] w fun e w' => e = .returned (.int .i64 2) ∧ w = w') (HS : ∀ w, Calls Tryd.prog 46 #[.agg #[.int .i64 4, .int .u64 k2, .int .i64 k3, .bool k4, .int .i64 k5, .int .u32 k6, .bool k7, .bool k8]] w fun r w' => r = .returned (.bool true) ∧ Below w.heap.size w w') (hd1 : decide (0 ≤ dm) = true) (hd2 : decide (dm ≤ 15) = false) :
    Calls Tryd.prog 22 #[.agg #[.int .i64 4, .int .u64 k2, .int .i64 k3, .bool k4, .int .i64 k5, .int .u32 k6, .bool k7, .bool k8], .int .i64 dm, .int .u32 va] W fun r w' => r = .returned (.agg #[.int .i64 0, .int .u32 0, .int .u64 0, .int .i64 0, .int .i64 0, .int .u32 0, .bool false, .bool false]) ∧ Below W.heap.size W w' := by
  have hN := (Bl.new W 70 [.int .i64 4, .int .u64 k2, .int .i64 k3, .bool k4, .int .i64 k5, .int .u32 k6, .bool k7, .bool k8])
  have hsz : (W.alloc (.cells ([.int .i64 4, .int .u64 k2, .int .i64 k3, .bool k4, .int .i64 k5, .int .u32 k6, .bool k7, .bool k8]).toArray 70)).heap.size = W.heap.size + 1 := by simp
  have hM := Bl.new (W.alloc (.cells ([.int .i64 4, .int .u64 k2, .int .i64 k3, .bool k4, .int .i64 k5, .int .u32 k6, .bool k7, .bool k8]).toArray 70)) 49 [.int .i64 0, .int .u32 0, .int .u64 0, .int .i64 0, .int .i64 0, .int .u32 0, .bool false, .bool false]
  have hN := hN.below ((Below.refl _ _).alloc (Nat.le_refl _) (.cells ([.int .i64 0, .int .u32 0, .int .u64 0, .int .i64 0, .int .i64 0, .int .u32 0, .bool false, .bool false]).toArray 49))
  rw [hsz] at hM
  have HB0 : Hid (∀ o p, Below W.heap.size W ((W.alloc o).alloc p)) := fun o p => (((Below.refl _ _).alloc (Nat.le_refl _) o).alloc (by simp) p)
  go_enter Tryd.func22, Tryd.ntmps22
  go_wp2_with (first
    | (go_at_call 44; refine (HZ _).mono ?_; rintro e w' ⟨rfl, rfl⟩)
    | (go_at_call 46; refine (HS _).mono ?_; rintro e w1 ⟨rfl, hb⟩; have hx1 := hN.below hb; have hy1 := hM.below hb; have HB : Hid (Below W.heap.size W w1) := Below.step (by (repeat (refine Below.alloc ?_ (by simp) _)); exact Below.refl _ _) hb; clear hb hN hM; have hc := hx1.cell; have hd := hy1.cell; have hf := hy1.frozen; have hlt : W.heap.size + 1 < w1.heap.size := hy1.lt; have hne : ¬ (W.heap.size + 1 = w1.heap.size) := (by omega); have hne2 : ¬ (W.heap.size = w1.heap.size) := (by omega))
    | go_in)
  refine bodyPost_ret (v := .agg #[.int .i64 0, .int .u32 0, .int .u64 0, .int .i64 0, .int .i64 0, .int .u32 0, .bool false, .bool false]) (by simp [results, Tryd.results22, go_sem, hd]) rfl ⟨rfl, (by (repeat (refine Below.setCell ?_ (by simp) _)); exact HB.out)⟩
set_option maxRecDepth 100000 in
set_option maxHeartbeats 8000000 in
theorem rtrans_5n (k2 k3 : Int) (k4 : Bool) (k5 k6 : Int) (k7 k8 : Bool) (dm va : Int) (W : World) (HZ : ∀ w, Calls Tryd.prog 44 #[.int .i64 5] w fun e w' => e = .returned (.int .i64 1) ∧ w = w') (HS : ∀ w, Calls Tryd.prog 46 #[.agg #[.int .i64 5, .int .u64 k2, .int .i64 k3, .bool k4, .int .i64 k5, .int .u32 k6, .bool k7, .bool k8]] w fun r w' => r = .returned (.bool false) ∧ Below w.heap.size w w') :
    Calls Tryd.prog 22 #[.agg #[.int .i64 5, .int .u64 k2, .int .i64 k3, .bool k4, .int .i64 k5, .int .u32 k6, .bool k7, .bool k8], .int .i64 dm, .int .u32 va] W fun r w' => r = .returned (.agg #[.int .i64 0, .int .u32 0, .int .u64 0, .int .i64 0, .int .i64 0, .int .u32 0, .bool false, .bool false]) ∧ Below W.heap.size W w' := by
  have hN := (Bl.new W 70 [.int .i64 5, .int .u64 k2, .int .i64 k3, .bool k4, .int .i64 k5, .int .u32 k6, .bool k7, .bool k8])
  have hsz : (W.alloc (.cells ([.int .i64 5, .int .u64 k2, .int .i64 k3, .bool k4, .int .i64 k5, .int .u32 k6, .bool k7, .bool k8]).toArray 70)).heap.size = W.heap.size + 1 := by simp
  have hM := Bl.new (W.alloc (.cells ([.int .i64 5, .int .u64 k2, .int .i64 k3, .bool k4, .int .i64 k5, .int .u32 k6, .bool k7, .bool k8]).toArray 70)) 49 [.int .i64 0, .int .u32 0, .int .u64 0, .int .i64 0, .int .i64 0, .int .u32 0, .bool false, .bool false]
  have hN := hN.below ((Below.refl _ _).alloc (Nat.le_refl _) (.cells ([.int .i64 0, .int .u32 0, .int .u64 0, .int .i64 0, .int .i64 0, .int .u32 0, .bool false, .bool false]).toArray 49))
  rw [hsz] at hM
  have HB0 : Hid (∀ o p, Below W.heap.size W ((W.alloc o).alloc p)) := fun o p => (((Below.refl _ _).alloc (Nat.le_refl _) o).alloc (by simp) p)
  go_enter Tryd.func22, Tryd.ntmps22
  go_wp2_with (first
    | (go_at_call 44; refine (HZ _).mono ?_; rintro e w' ⟨rfl, rfl⟩)
    | (go_at_call 46; refine (HS _).mono ?_; rintro e w1 ⟨rfl, hb⟩; have hx1 := hN.below hb; have hy1 := hM.below hb; have HB : Hid (Below W.heap.size W w1) := Below.step (by (repeat (refine Below.alloc ?_ (by simp) _)); exact Below.refl _ _) hb; clear hb hN hM; have hc := hx1.cell; have hd := hy1.cell; have hf := hy1.frozen; have hlt : W.heap.size + 1 < w1.heap.size := hy1.lt; have hne : ¬ (W.heap.size + 1 = w1.heap.size) := (by omega); have hne2 : ¬ (W.heap.size = w1.heap.size) := (by omega))
    | go_in)
  refine bodyPost_ret (v := .agg #[.int .i64 0, .int .u32 0, .int .u64 0, .int .i64 0, .int .i64 0, .int .u32 0, .bool false, .bool false]) (by simp [results, Tryd.results22, go_sem, hd]) rfl ⟨rfl, (by (repeat (refine Below.setCell ?_ (by simp) _)); exact HB.out)⟩
set_option maxRecDepth 100000 in
set_option maxHeartbeats 8000000 in
theorem rtrans_5y (k2 k3 : Int) (k4 : Bool) (k5 k6 : Int) (k7 k8 : Bool) (dm va : Int) (W : World) (HZ : ∀ w, Calls Tryd.prog 44 #[.int .i64 5] w fun e w' => e = .returned (.int .i64 1) ∧ w = w') (HY : ∀ w, Calls Tryd.prog 47 #[.int .i64 1] w fun e w' => e = .returned (.int .u64 4096) ∧ w = w') (HS : ∀ w, Calls Tryd.prog 46 #[.agg #[.int .i64 5, .int .u64 k2, .int .i64 k3, .bool k4, .int .i64 k5, .int .u32 k6, .bool k7, .bool k8]] w fun r w' => r = .returned (.bool true) ∧ Below w.heap.size w w') (hva : 0 ≤ va ∧ va < 4294967296) (hd1 : decide (0 ≤ dm) = true) (hd2 : decide (dm ≤ 15) = true) :
    Calls Tryd.prog 22 #[.agg #[.int .i64 5, .int .u64 k2, .int .i64 k3, .bool k4, .int .i64 k5, .int .u32 k6, .bool k7, .bool k8], .int .i64 dm, .int .u32 va] W fun r w' => r = .returned (.agg #[.int .i64 1, .int .u32 (va / 4096 * 4096), .int .u64 k2, .int .i64 dm, .int .i64 k5, .int .u32 k6, .bool k7, .bool k8]) ∧ Below W.heap.size W w' := by
  have hN := (Bl.new W 70 [.int .i64 5, .int .u64 k2, .int .i64 k3, .bool k4, .int .i64 k5, .int .u32 k6, .bool k7, .bool k8])
  have hsz : (W.alloc (.cells ([.int .i64 5, .int .u64 k2, .int .i64 k3, .bool k4, .int .i64 k5, .int .u32 k6, .bool k7, .bool k8]).toArray 70)).heap.size = W.heap.size + 1 := by simp
  have hM := Bl.new (W.alloc (.cells ([.int .i64 5, .int .u64 k2, .int .i64 k3, .bool k4, .int .i64 k5, .int .u32 k6, .bool k7, .bool k8]).toArray 70)) 49 [.int .i64 0, .int .u32 0, .int .u64 0, .int .i64 0, .int .i64 0, .int .u32 0, .bool false, .bool false]
  have hN := hN.below ((Below.refl _ _).alloc (Nat.le_refl _) (.cells ([.int .i64 0, .int .u32 0, .int .u64 0, .int .i64 0, .int .i64 0, .int .u32 0, .bool false, .bool false]).toArray 49))
  rw [hsz] at hM
  have HB0 : Hid (∀ o p, Below W.heap.size W ((W.alloc o).alloc p)) := fun o p => (((Below.refl _ _).alloc (Nat.le_refl _) o).alloc (by simp) p)
  have hv : (va - va % 4096) % 4294967296 = va / 4096 * 4096 := by omega
  have htm : va.tmod 4096 = va % 4096 := Int.tmod_eq_emod_of_nonneg hva.1
  have hv2 : va - va % 4096 = va / 4096 * 4096 := by omega
  clear hva
  go_enter Tryd.func22, Tryd.ntmps22
  go_wp2_with (first
    | (go_at_call 44; refine (HZ _).mono ?_; rintro e w' ⟨rfl, rfl⟩)
    | (go_at_call 47; refine (HY _).mono ?_; rintro e w' ⟨rfl, rfl⟩)
    | (go_at_call 46; refine (HS _).mono ?_; rintro e w1 ⟨rfl, hb⟩; have hx1 := hN.below hb; have hy1 := hM.below hb; have HB : Hid (Below W.heap.size W w1) := Below.step (by (repeat (refine Below.alloc ?_ (by simp) _)); exact Below.refl _ _) hb; clear hb hN hM; have hc := hx1.cell; have hd := hy1.cell; have hf := hy1.frozen; have hlt : W.heap.size + 1 < w1.heap.size := hy1.lt; have hne : ¬ (W.heap.size + 1 = w1.heap.size) := (by omega); have hne2 : ¬ (W.heap.size = w1.heap.size) := (by omega))
    | go_in)
  refine bodyPost_ret (v := .agg #[.int .i64 1, .int .u32 (va / 4096 * 4096), .int .u64 k2, .int .i64 dm, .int .i64 k5, .int .u32 k6, .bool k7, .bool k8]) (by simp [results, Tryd.results22, go_sem, hd, IntKind.wrap_u32, hv, hv2, hne, hlt]) rfl ⟨rfl, (by refine Below.alloc ?_ (by have := HB.out.size; simp; omega) _; (repeat (refine Below.setCell ?_ (by simp) _)); exact HB.out)⟩
set_option maxRecDepth 100000 in
set_option maxHeartbeats 8000000 in
theorem rtrans_5lo (k2 k3 : Int) (k4 : Bool) (k5 k6 : Int) (k7 k8 : Bool) (dm va : Int) (W : World) (HZ : ∀ w, Calls Tryd.prog 44 #[.int .i64 5] w fun e w' => e = .returned (.int .i64 1) ∧ w = w') (HS : ∀ w, Calls Tryd.prog 46 #[.agg #[.int .i64 5, .int .u64 k2, .int .i64 k3, .bool k4, .int .i64 k5, .int .u32 k6, .bool k7, .bool k8]] w fun r w' => r = .returned (.bool true) ∧ Below w.heap.size w w') (hd1 : decide (0 ≤ dm) = false) :
    Calls Tryd.prog 22 #[.agg #[.int .i64 5, .int .u64 k2, .int .i64 k3, .bool k4, .int .i64 k5, .int .u32 k6, .bool k7, .bool k8], .int .i64 dm, .int .u32 va] W fun r w' => r = .returned (.agg #[.int .i64 0, .int .u32 0, .int .u64 0, .int .i64 0, .int .i64 0, .int .u32 0, .bool false, .bool false]) ∧ Below W.heap.size W w' := by
  have hN := (Bl.new W 70 [.int .i64 5, .int .u64 k2, .int .i64 k3, .bool k4, .int .i64 k5, .int .u32 k6, .bool k7, .bool k8])
  have hsz : (W.alloc (.cells ([.int .i64 5, .int .u64 k2, .int .i64 k3, .bool k4, .int .i64 k5, .int .u32 k6, .bool k7, .bool k8]).toArray 70)).heap.size = W.heap.size + 1 := by simp
  have hM := Bl.new (W.alloc (.cells ([.int .i64 5, .int .u64 k2, .int .i64 k3, .bool k4, .int .i64 k5, .int .u32 k6, .bool k7, .bool k8]).toArray 70)) 49 [.int .i64 0, .int .u32 0, .int .u64 0, .int .i64 0, .int .i64 0, .int .u32 0, .bool false, .bool false]
  have hN := hN.below ((Below.refl _ _).alloc (Nat.le_refl _) (.cells ([.int .i64 0, .int .u32 0, .int .u64 0, .int .i64 0, .int .i64 0, .int .u32 0, .bool false, .bool false]).toArray 49))
  rw [hsz] at hM
  have HB0 : Hid (∀ o p, Below W.heap.size W ((W.alloc o).alloc p)) := fun o p => (((Below.refl _ _).alloc (Nat.le_refl _) o).alloc (by simp) p)
  go_enter Tryd.func22, Tryd.ntmps22
  go_wp2_with (first
    | (go_at_call 44; refine (HZ _).mono ?_; rintro e w' ⟨rfl, rfl⟩)
    | (go_at_call 46; refine (HS _).mono ?_; rintro e w1 ⟨rfl, hb⟩; have hx1 := hN.below hb; have hy1 := hM.below hb; have HB : Hid (Below W.heap.size W w1) := Below.step (by (repeat (refine Below.alloc ?_ (by simp) _)); exact Below.refl _ _) hb; clear hb hN hM; have hc := hx1.cell; have hd := hy1.cell; have hf := hy1.frozen; have hlt : W.heap.size + 1 < w1.heap.size := hy1.lt; have hne : ¬ (W.heap.size + 1 = w1.heap.size) := (by omega); have hne2 : ¬ (W.heap.size = w1.heap.size) := (by omega))
    | go_in)
  refine bodyPost_ret (v := .agg #[.int .i64 0, .int .u32 0, .int .u64 0, .int .i64 0, .int .i64 0, .int .u32 0, .bool false, .bool false]) (by simp [results, Tryd.results22, go_sem, hd]) rfl ⟨rfl, (by (repeat (refine Below.setCell ?_ (by simp) _)); exact HB.out)⟩
set_option maxRecDepth 100000 in
set_option maxHeartbeats 8000000 in
theorem rtrans_5hi (k2 k3 : Int) (k4 : Bool) (k5 k6 : Int) (k7 k8 : Bool) (dm va : Int) (W : World) (HZ : ∀ w, Calls Tryd.prog 44 #[.int .i64 5] w fun e w' => e = .returned (.int .i64 1) ∧ w = w') (HS : ∀ w, Calls Tryd.prog 46 #[.agg #[.int .i64 5, .int .u64 k2, .int .i64 k3, .bool k4, .int .i64 k5, .int .u32 k6, .bool k7, .bool k8]] w fun r w' => r = .returned (.bool true) ∧ Below w.heap.size w w') (hd1 : decide (0 ≤ dm) = true) (hd2 : decide (dm ≤ 15) = false) :
    Calls Tryd.prog 22 #[.agg #[.int .i64 5, .int .u64 k2, .int .i64 k3, .bool k4, .int .i64 k5, .int .u32 k6, .bool k7, .bool k8], .int .i64 dm, .int .u32 va] W fun r w' => r = .returned (.agg #[.int .i64 0, .int .u32 0, .int .u64 0, .int .i64 0, .int .i64 0, .int .u32 0, .bool false, .bool false]) ∧ Below W.heap.size W w' := by
  have hN := (Bl.new W 70 [.int .i64 5, .int .u64 k2, .int .i64 k3, .bool k4, .int .i64 k5, .int .u32 k6, .bool k7, .bool k8])
  have hsz : (W.alloc (.cells ([.int .i64 5, .int .u64 k2, .int .i64 k3, .bool k4, .int .i64 k5, .int .u32 k6, .bool k7, .bool k8]).toArray 70)).heap.size = W.heap.size + 1 := by simp
  have hM := Bl.new (W.alloc (.cells ([.int .i64 5, .int .u64 k2, .int .i64 k3, .bool k4, .int .i64 k5, .int .u32 k6, .bool k7, .bool k8]).toArray 70)) 49 [.int .i64 0, .int .u32 0, .int .u64 0, .int .i64 0, .int .i64 0, .int .u32 0, .bool false, .bool false]
  have hN := hN.below ((Below.refl _ _).alloc (Nat.le_refl _) (.cells ([.int .i64 0, .int .u32 0, .int .u64 0, .int .i64 0, .int .i64 0, .int .u32 0, .bool false, .bool false]).toArray 49))
  rw [hsz] at hM
  have HB0 : Hid (∀ o p, Below W.heap.size W ((W.alloc o).alloc p)) := fun o p => (((Below.refl _ _).alloc (Nat.le_refl _) o).alloc (by simp) p)
  go_enter Tryd.func22, Tryd.ntmps22
  go_wp2_with (first
    | (go_at_call 44; refine (HZ _).mono ?_; rintro e w' ⟨rfl, rfl⟩)
    | (go_at_call 46; refine (HS _).mono ?_; rintro e w1 ⟨rfl, hb⟩; have hx1 := hN.below hb; have hy1 := hM.below hb; have HB : Hid (Below W.heap.size W w1) := Below.step (by (repeat (refine Below.alloc ?_ (by simp) _)); exact Below.refl _ _) hb; clear hb hN hM; have hc := hx1.cell; have hd := hy1.cell; have hf := hy1.frozen; have hlt : W.heap.size + 1 < w1.heap.size := hy1.lt; have hne : ¬ (W.heap.size + 1 = w1.heap.size) := (by omega); have hne2 : ¬ (W.heap.size = w1.heap.size) := (by omega))
    | go_in)
  refine bodyPost_ret (v := .agg #[.int .i64 0, .int .u32 0, .int .u64 0, .int .i64 0, .int .i64 0, .int .u32 0, .bool false, .bool false]) (by simp [results, Tryd.results22, go_sem, hd]) rfl ⟨rfl, (by (repeat (refine Below.setCell ?_ (by simp) _)); exact HB.out)⟩
end Go.Proofs.YtmodcbdgnmjkoabDoor
namespace Go.Proofs.YtmodcbdgnmjkoabDoor
open Go.RowKit
set_option linter.unusedVariables false
set_option linter.unusedSimpArgs false
theorem dom_of_sb {e : Ent} (hO : Ok e) (h : e.kind = 2 ∨ e.kind = 3) (hs : (D1 (E e)).same e = true) : 0 ≤ e.dom ∧ e.dom ≤ 15 := by
  have g := (says1_iff e hO).1 ((Ent.same_iff _ _).1 hs)
  rcases g with g | ⟨g, _⟩ | ⟨_, _, g, _⟩ | ⟨_, _, g, _⟩
  · have := dZ_kind g; omega
  · omega
  · exact g
  · omega
theorem rtrans_any (e : Ent) (dm va : Int) (W : World) (hO : Ok e) (hva : 0 ≤ va ∧ va < 4294967296) :
    Calls Tryd.prog 22 #[.agg #[.int .i64 e.kind, .int .u64 e.base, .int .i64 e.dom, .bool e.ns, .int .i64 e.ap, .int .u32 e.bits, .bool e.ng, .bool e.xn], .int .i64 dm, .int .u32 va] W fun r w' => r = .returned (.agg #[.int .i64 (trF e dm va).size, .int .u32 (trF e dm va).va, .int .u64 (trF e dm va).pa, .int .i64 (trF e dm va).dom, .int .i64 (trF e dm va).ap, .int .u32 (trF e dm va).bits, .bool (trF e dm va).ng, .bool (trF e dm va).xn]) ∧ Below W.heap.size W w' := by
  have HZ := fun w => sizeOf_ref e.kind w
  have H1 := fun w => says1_ref e w hO
  have H2 := fun w => says2_ref e w hO
  by_cases hk : e.kind = 2 ∨ e.kind = 3 ∨ e.kind = 4 ∨ e.kind = 5
  · by_cases h1 : e.kind = 2 ∨ e.kind = 3
    · have hsb : sb e = (D1 (E e)).same e := by unfold sb; rw [if_pos h1]
      have hD : domOf e dm = e.dom := by unfold domOf; rw [if_pos h1]
      cases hs : (D1 (E e)).same e with
      | false =>
        rw [hs] at H1 hsb
        rw [show trF e dm va = tZ by unfold trF; rw [if_neg (by rw [hsb]; simp)]]
        rcases h1 with h | h
        · rw [h] at HZ H1 ⊢
          exact rtrans_2n _ _ _ _ _ _ _ dm va W HZ H1
        · rw [h] at HZ H1 ⊢
          exact rtrans_3n _ _ _ _ _ _ _ dm va W HZ H1
      | true =>
        have hdm := dom_of_sb hO h1 hs
        rw [hs] at H1 hsb
        rw [show trF e dm va = ⟨szK e.kind, va / byN (szK e.kind) * byN (szK e.kind), e.base, e.dom, e.ap, e.bits, e.ng, e.xn⟩ by unfold trF; rw [hD, if_pos ⟨hsb, hdm.1, hdm.2⟩]]
        rcases h1 with h | h
        · rw [h] at HZ H1 ⊢
          exact rtrans_2y _ _ _ _ _ _ _ dm va W HZ (fun w => refBytes_any 3 w) H1 hva
        · rw [h] at HZ H1 ⊢
          exact rtrans_3y _ _ _ _ _ _ _ dm va W HZ (fun w => refBytes_any 4 w) H1 hva
    · have h45 : e.kind = 4 ∨ e.kind = 5 := by omega
      have hsb : sb e = (D2 (E e)).same e := by unfold sb; rw [if_neg h1, if_pos h45]
      have hD : domOf e dm = dm := by unfold domOf; rw [if_neg h1]
      cases hs : (D2 (E e)).same e with
      | false =>
        rw [hs] at H2 hsb
        rw [show trF e dm va = tZ by unfold trF; rw [if_neg (by rw [hsb]; simp)]]
        rcases h45 with h | h
        · rw [h] at HZ H2 ⊢
          exact rtrans_4n _ _ _ _ _ _ _ dm va W HZ H2
        · rw [h] at HZ H2 ⊢
          exact rtrans_5n _ _ _ _ _ _ _ dm va W HZ H2
      | true =>
        rw [hs] at H2 hsb
        by_cases hlo : 0 ≤ dm
        · by_cases hhi : dm ≤ 15
          · rw [show trF e dm va = ⟨szK e.kind, va / byN (szK e.kind) * byN (szK e.kind), e.base, dm, e.ap, e.bits, e.ng, e.xn⟩ by unfold trF; rw [hD, if_pos ⟨hsb, hlo, hhi⟩]]
            rcases h45 with h | h
            · rw [h] at HZ H2 ⊢
              exact rtrans_4y _ _ _ _ _ _ _ dm va W HZ (fun w => refBytes_any 2 w) H2 hva (decide_eq_true hlo) (decide_eq_true hhi)
            · rw [h] at HZ H2 ⊢
              exact rtrans_5y _ _ _ _ _ _ _ dm va W HZ (fun w => refBytes_any 1 w) H2 hva (decide_eq_true hlo) (decide_eq_true hhi)
          · rw [show trF e dm va = tZ by unfold trF; rw [hD, if_neg (by omega)]]
            rcases h45 with h | h
            · rw [h] at HZ H2 ⊢
              exact rtrans_4hi _ _ _ _ _ _ _ dm va W HZ H2 (decide_eq_true hlo) (decide_eq_false hhi)
            · rw [h] at HZ H2 ⊢
              exact rtrans_5hi _ _ _ _ _ _ _ dm va W HZ H2 (decide_eq_true hlo) (decide_eq_false hhi)
        · rw [show trF e dm va = tZ by unfold trF; rw [hD, if_neg (by omega)]]
          rcases h45 with h | h
          · rw [h] at HZ H2 ⊢
            exact rtrans_4lo _ _ _ _ _ _ _ dm va W HZ H2 (decide_eq_false hlo)
          · rw [h] at HZ H2 ⊢
            exact rtrans_5lo _ _ _ _ _ _ _ dm va W HZ H2 (decide_eq_false hlo)
  · have hsb : sb e = false := by unfold sb; rw [if_neg (by omega), if_neg (by omega)]
    rw [show trF e dm va = tZ by unfold trF; rw [if_neg (by rw [hsb]; simp)]]
    rw [show szK e.kind = 0 by unfold szK; rw [if_neg (by omega), if_neg (by omega), if_neg (by omega), if_neg (by omega)]] at HZ
    exact rtrans_no _ _ _ _ _ _ _ _ dm va W HZ
end Go.Proofs.YtmodcbdgnmjkoabDoor
