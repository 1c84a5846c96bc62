import Derived.Test.YtcpcmjmgiagnoaaDoorRz2
import Derived.Test.YtcpcmjmgiagnoaaDoorRz
import Derived.Test.YtcpcmjmgiagnoaaDoorTa
namespace Go.Proofs.YtcpcmjmgiagnoaaDoor
open Go.RowKit
set_option linter.unusedVariables false
set_option linter.unusedSimpArgs false

set_option maxRecDepth 100000 in
set_option maxHeartbeats 8000000 in
theorem rtrans_no (k1 k2 k3 : Int) (k4 : Bool) (k5 k6 : Int) (k7 k8 : Bool) (dm va : Int) (W : World) (HZ : ∀ w, Calls Tryd.prog 40 #[.int .i64 k1] w fun e w' => e = .returned (.int .i64 0) ∧ w = w') :
    Calls Tryd.prog 27 #[.agg #[.int .i64 k1, .int .u64 k2, .int .i64 k3, .bool k4, .int .i64 k5, .int .u32 k6, .bool k7, .bool k8], .int .i64 dm, .int .u32 va] W fun r w' => r = .returned (.agg #[.int .i64 0, .int .u32 0, .int .u64 0, .int .i64 0, .int .i64 0, .int .u32 0, .bool false, .bool false]) ∧ Below W.heap.size W w' := by
  have hN := (Bl.new W 30 [.int .i64 k1, .int .u64 k2, .int .i64 k3, .bool k4, .int .i64 k5, .int .u32 k6, .bool k7, .bool k8])
  have hsz : (W.alloc (.cells ([.int .i64 k1, .int .u64 k2, .int .i64 k3, .bool k4, .int .i64 k5, .int .u32 k6, .bool k7, .bool k8]).toArray 30)).heap.size = W.heap.size + 1 := by simp
  have hM := Bl.new (W.alloc (.cells ([.int .i64 k1, .int .u64 k2, .int .i64 k3, .bool k4, .int .i64 k5, .int .u32 k6, .bool k7, .bool k8]).toArray 30)) 34 [.int .i64 0, .int .u32 0, .int .u64 0, .int .i64 0, .int .i64 0, .int .u32 0, .bool false, .bool false]
  have hN := hN.below ((Below.refl _ _).alloc (Nat.le_refl _) (.cells ([.int .i64 0, .int .u32 0, .int .u64 0, .int .i64 0, .int .i64 0, .int .u32 0, .bool false, .bool false]).toArray 34))
  rw [hsz] at hM
  have HB0 : Hid (∀ o p, Below W.heap.size W ((W.alloc o).alloc p)) := fun o p => (((Below.refl _ _).alloc (Nat.le_refl _) o).alloc (by simp) p)
  go_enter Tryd.func27, Tryd.ntmps27
  go_wp2_with (first
    | (go_at_call 40; refine (HZ _).mono ?_; rintro e w' ⟨rfl, rfl⟩)
    | go_in)
  refine bodyPost_ret (v := .agg #[.int .i64 0, .int .u32 0, .int .u64 0, .int .i64 0, .int .i64 0, .int .u32 0, .bool false, .bool false]) (by simp [results, Tryd.results27, go_sem]) rfl ⟨rfl, (by (repeat (refine Below.setCell ?_ (by simp) _)); exact HB0.out _ _)⟩
set_option maxRecDepth 100000 in
set_option maxHeartbeats 8000000 in
theorem rtrans_2n (k2 k3 : Int) (k4 : Bool) (k5 k6 : Int) (k7 k8 : Bool) (dm va : Int) (W : World) (HZ : ∀ w, Calls Tryd.prog 40 #[.int .i64 2] w fun e w' => e = .returned (.int .i64 3) ∧ w = w') (HS : ∀ w, Calls Tryd.prog 41 #[.agg #[.int .i64 2, .int .u64 k2, .int .i64 k3, .bool k4, .int .i64 k5, .int .u32 k6, .bool k7, .bool k8]] w fun r w' => r = .returned (.bool false) ∧ Below w.heap.size w w') :
    Calls Tryd.prog 27 #[.agg #[.int .i64 2, .int .u64 k2, .int .i64 k3, .bool k4, .int .i64 k5, .int .u32 k6, .bool k7, .bool k8], .int .i64 dm, .int .u32 va] W fun r w' => r = .returned (.agg #[.int .i64 0, .int .u32 0, .int .u64 0, .int .i64 0, .int .i64 0, .int .u32 0, .bool false, .bool false]) ∧ Below W.heap.size W w' := by
  have hN := (Bl.new W 30 [.int .i64 2, .int .u64 k2, .int .i64 k3, .bool k4, .int .i64 k5, .int .u32 k6, .bool k7, .bool k8])
  have hsz : (W.alloc (.cells ([.int .i64 2, .int .u64 k2, .int .i64 k3, .bool k4, .int .i64 k5, .int .u32 k6, .bool k7, .bool k8]).toArray 30)).heap.size = W.heap.size + 1 := by simp
  have hM := Bl.new (W.alloc (.cells ([.int .i64 2, .int .u64 k2, .int .i64 k3, .bool k4, .int .i64 k5, .int .u32 k6, .bool k7, .bool k8]).toArray 30)) 34 [.int .i64 0, .int .u32 0, .int .u64 0, .int .i64 0, .int .i64 0, .int .u32 0, .bool false, .bool false]
  have hN := hN.below ((Below.refl _ _).alloc (Nat.le_refl _) (.cells ([.int .i64 0, .int .u32 0, .int .u64 0, .int .i64 0, .int .i64 0, .int .u32 0, .bool false, .bool false]).toArray 34))
  rw [hsz] at hM
  have HB0 : Hid (∀ o p, Below W.heap.size W ((W.alloc o).alloc p)) := fun o p => (((Below.refl _ _).alloc (Nat.le_refl _) o).alloc (by simp) p)
  go_enter Tryd.func27, Tryd.ntmps27
  go_wp2_with (first
    | (go_at_call 40; refine (HZ _).mono ?_; rintro e w' ⟨rfl, rfl⟩)
    | (go_at_call 41; refine (HS _).mono ?_; rintro e w1 ⟨rfl, hb⟩; have hx1 := hN.below hb; have hy1 := hM.below hb; have HB : Hid (Below W.heap.size W w1) := Below.step (by (repeat (refine Below.alloc ?_ (by simp) _)); exact Below.refl _ _) hb; clear hb hN hM; have hc := hx1.cell; have hd := hy1.cell; have hf := hy1.frozen; have hlt : W.heap.size + 1 < w1.heap.size := hy1.lt; have hne : ¬ (W.heap.size + 1 = w1.heap.size) := (by omega); have hne2 : ¬ (W.heap.size = w1.heap.size) := (by omega))
    | go_in)
  refine bodyPost_ret (v := .agg #[.int .i64 0, .int .u32 0, .int .u64 0, .int .i64 0, .int .i64 0, .int .u32 0, .bool false, .bool false]) (by simp [results, Tryd.results27, go_sem, hd]) rfl ⟨rfl, (by (repeat (refine Below.setCell ?_ (by simp) _)); exact HB.out)⟩
set_option maxRecDepth 100000 in
set_option maxHeartbeats 8000000 in
theorem rtrans_2y (k2 k3 : Int) (k4 : Bool) (k5 k6 : Int) (k7 k8 : Bool) (dm va : Int) (W : World) (HZ : ∀ w, Calls Tryd.prog 40 #[.int .i64 2] w fun e w' => e = .returned (.int .i64 3) ∧ w = w') (HY : ∀ w, Calls Tryd.prog 10 #[.int .i64 3] w fun e w' => e = .returned (.int .u64 1048576) ∧ w = w') (HS : ∀ w, Calls Tryd.prog 41 #[.agg #[.int .i64 2, .int .u64 k2, .int .i64 k3, .bool k4, .int .i64 k5, .int .u32 k6, .bool k7, .bool k8]] w fun r w' => r = .returned (.bool true) ∧ Below w.heap.size w w') (hva : 0 ≤ va ∧ va < 4294967296) :
    Calls Tryd.prog 27 #[.agg #[.int .i64 2, .int .u64 k2, .int .i64 k3, .bool k4, .int .i64 k5, .int .u32 k6, .bool k7, .bool k8], .int .i64 dm, .int .u32 va] W fun r w' => r = .returned (.agg #[.int .i64 3, .int .u32 (va / 1048576 * 1048576), .int .u64 k2, .int .i64 k3, .int .i64 k5, .int .u32 k6, .bool k7, .bool k8]) ∧ Below W.heap.size W w' := by
  have hN := (Bl.new W 30 [.int .i64 2, .int .u64 k2, .int .i64 k3, .bool k4, .int .i64 k5, .int .u32 k6, .bool k7, .bool k8])
  have hsz : (W.alloc (.cells ([.int .i64 2, .int .u64 k2, .int .i64 k3, .bool k4, .int .i64 k5, .int .u32 k6, .bool k7, .bool k8]).toArray 30)).heap.size = W.heap.size + 1 := by simp
  have hM := Bl.new (W.alloc (.cells ([.int .i64 2, .int .u64 k2, .int .i64 k3, .bool k4, .int .i64 k5, .int .u32 k6, .bool k7, .bool k8]).toArray 30)) 34 [.int .i64 0, .int .u32 0, .int .u64 0, .int .i64 0, .int .i64 0, .int .u32 0, .bool false, .bool false]
  have hN := hN.below ((Below.refl _ _).alloc (Nat.le_refl _) (.cells ([.int .i64 0, .int .u32 0, .int .u64 0, .int .i64 0, .int .i64 0, .int .u32 0, .bool false, .bool false]).toArray 34))
  rw [hsz] at hM
  have HB0 : Hid (∀ o p, Below W.heap.size W ((W.alloc o).alloc p)) := fun o p => (((Below.refl _ _).alloc (Nat.le_refl _) o).alloc (by simp) p)
  have hv : (va - va % 1048576) % 4294967296 = va / 1048576 * 1048576 := by omega
  have htm : va.tmod 1048576 = va % 1048576 := Int.tmod_eq_emod_of_nonneg hva.1
  have hv2 : va - va % 1048576 = va / 1048576 * 1048576 := by omega
  clear hva
  go_enter Tryd.func27, Tryd.ntmps27
  go_wp2_with (first
    | (go_at_call 40; refine (HZ _).mono ?_; rintro e w' ⟨rfl, rfl⟩)
    | (go_at_call 10; refine (HY _).mono ?_; rintro e w' ⟨rfl, rfl⟩)
    | (go_at_call 41; refine (HS _).mono ?_; rintro e w1 ⟨rfl, hb⟩; have hx1 := hN.below hb; have hy1 := hM.below hb; have HB : Hid (Below W.heap.size W w1) := Below.step (by (repeat (refine Below.alloc ?_ (by simp) _)); exact Below.refl _ _) hb; clear hb hN hM; have hc := hx1.cell; have hd := hy1.cell; have hf := hy1.frozen; have hlt : W.heap.size + 1 < w1.heap.size := hy1.lt; have hne : ¬ (W.heap.size + 1 = w1.heap.size) := (by omega); have hne2 : ¬ (W.heap.size = w1.heap.size) := (by omega))
    | go_in)
  refine bodyPost_ret (v := .agg #[.int .i64 3, .int .u32 (va / 1048576 * 1048576), .int .u64 k2, .int .i64 k3, .int .i64 k5, .int .u32 k6, .bool k7, .bool k8]) (by simp [results, Tryd.results27, go_sem, hd, IntKind.wrap_u32, hv, hv2, hne, hlt]) rfl ⟨rfl, (by refine Below.alloc ?_ (by have := HB.out.size; simp; omega) _; (repeat (refine Below.setCell ?_ (by simp) _)); exact HB.out)⟩
set_option maxRecDepth 100000 in
set_option maxHeartbeats 8000000 in
theorem rtrans_3n (k2 k3 : Int) (k4 : Bool) (k5 k6 : Int) (k7 k8 : Bool) (dm va : Int) (W : World) (HZ : ∀ w, Calls Tryd.prog 40 #[.int .i64 3] w fun e w' => e = .returned (.int .i64 4) ∧ w = w') (HS : ∀ w, Calls Tryd.prog 41 #[.agg #[.int .i64 3, .int .u64 k2, .int .i64 k3, .bool k4, .int .i64 k5, .int .u32 k6, .bool k7, .bool k8]] w fun r w' => r = .returned (.bool false) ∧ Below w.heap.size w w') :
    Calls Tryd.prog 27 #[.agg #[.int .i64 3, .int .u64 k2, .int .i64 k3, .bool k4, .int .i64 k5, .int .u32 k6, .bool k7, .bool k8], .int .i64 dm, .int .u32 va] W fun r w' => r = .returned (.agg #[.int .i64 0, .int .u32 0, .int .u64 0, .int .i64 0, .int .i64 0, .int .u32 0, .bool false, .bool false]) ∧ Below W.heap.size W w' := by
  have hN := (Bl.new W 30 [.int .i64 3, .int .u64 k2, .int .i64 k3, .bool k4, .int .i64 k5, .int .u32 k6, .bool k7, .bool k8])
  have hsz : (W.alloc (.cells ([.int .i64 3, .int .u64 k2, .int .i64 k3, .bool k4, .int .i64 k5, .int .u32 k6, .bool k7, .bool k8]).toArray 30)).heap.size = W.heap.size + 1 := by simp
  have hM := Bl.new (W.alloc (.cells ([.int .i64 3, .int .u64 k2, .int .i64 k3, .bool k4, .int .i64 k5, .int .u32 k6, .bool k7, .bool k8]).toArray 30)) 34 [.int .i64 0, .int .u32 0, .int .u64 0, .int .i64 0, .int .i64 0, .int .u32 0, .bool false, .bool false]
  have hN := hN.below ((Below.refl _ _).alloc (Nat.le_refl _) (.cells ([.int .i64 0, .int .u32 0, .int .u64 0, .int .i64 0, .int .i64 0, .int .u32 0, .bool false, .bool false]).toArray 34))
  rw [hsz] at hM
  have HB0 : Hid (∀ o p, Below W.heap.size W ((W.alloc o).alloc p)) := fun o p => (((Below.refl _ _).alloc (Nat.le_refl _) o).alloc (by simp) p)
  go_enter Tryd.func27, Tryd.ntmps27
  go_wp2_with (first
    | (go_at_call 40; refine (HZ _).mono ?_; rintro e w' ⟨rfl, rfl⟩)
    | (go_at_call 41; refine (HS _).mono ?_; rintro e w1 ⟨rfl, hb⟩; have hx1 := hN.below hb; have hy1 := hM.below hb; have HB : Hid (Below W.heap.size W w1) := Below.step (by (repeat (refine Below.alloc ?_ (by simp) _)); exact Below.refl _ _) hb; clear hb hN hM; have hc := hx1.cell; have hd := hy1.cell; have hf := hy1.frozen; have hlt : W.heap.size + 1 < w1.heap.size := hy1.lt; have hne : ¬ (W.heap.size + 1 = w1.heap.size) := (by omega); have hne2 : ¬ (W.heap.size = w1.heap.size) := (by omega))
    | go_in)
  refine bodyPost_ret (v := .agg #[.int .i64 0, .int .u32 0, .int .u64 0, .int .i64 0, .int .i64 0, .int .u32 0, .bool false, .bool false]) (by simp [results, Tryd.results27, go_sem, hd]) rfl ⟨rfl, (by (repeat (refine Below.setCell ?_ (by simp) _)); exact HB.out)⟩
set_option maxRecDepth 100000 in
set_option maxHeartbeats 8000000 in
theorem rtrans_3y (k2 k3 : Int) (k4 : Bool) (k5 k6 : Int) (k7 k8 : Bool) (dm va : Int) (W : World) (HZ : ∀ w, Calls Tryd.prog 40 #[.int .i64 3] w fun e w' => e = .returned (.int .i64 4) ∧ w = w') (HY : ∀ w, Calls Tryd.prog 10 #[.int .i64 4] w fun e w' => e = .returned (.int .u64 16777216) ∧ w = w') (HS : ∀ w, Calls Tryd.prog 41 #[.agg #[.int .i64 3, .int .u64 k2, .int .i64 k3, .bool k4, .int .i64 k5, .int .u32 k6, .bool k7, .bool k8]] w fun r w' => r = .returned (.bool true) ∧ Below w.heap.size w w') (hva : 0 ≤ va ∧ va < 4294967296) :
    Calls Tryd.prog 27 #[.agg #[.int .i64 3, .int .u64 k2, .int .i64 k3, .bool k4, .int .i64 k5, .int .u32 k6, .bool k7, .bool k8], .int .i64 dm, .int .u32 va] W fun r w' => r = .returned (.agg #[.int .i64 4, .int .u32 (va / 16777216 * 16777216), .int .u64 k2, .int .i64 k3, .int .i64 k5, .int .u32 k6, .bool k7, .bool k8]) ∧ Below W.heap.size W w' := by
  have hN := (Bl.new W 30 [.int .i64 3, .int .u64 k2, .int .i64 k3, .bool k4, .int .i64 k5, .int .u32 k6, .bool k7, .bool k8])
  have hsz : (W.alloc (.cells ([.int .i64 3, .int .u64 k2, .int .i64 k3, .bool k4, .int .i64 k5, .int .u32 k6, .bool k7, .bool k8]).toArray 30)).heap.size = W.heap.size + 1 := by simp
  have hM := Bl.new (W.alloc (.cells ([.int .i64 3, .int .u64 k2, .int .i64 k3, .bool k4, .int .i64 k5, .int .u32 k6, .bool k7, .bool k8]).toArray 30)) 34 [.int .i64 0, .int .u32 0, .int .u64 0, .int .i64 0, .int .i64 0, .int .u32 0, .bool false, .bool false]
  have hN := hN.below ((Below.refl _ _).alloc (Nat.le_refl _) (.cells ([.int .i64 0, .int .u32 0, .int .u64 0, .int .i64 0, .int .i64 0, .int .u32 0, .bool false, .bool false]).toArray 34))
  rw [hsz] at hM
  have HB0 : Hid (∀ o p, Below W.heap.size W ((W.alloc o).alloc p)) := fun o p => (((Below.refl _ _).alloc (Nat.le_refl _) o).alloc (by simp) p)
  have hv : (va - va % 16777216) % 4294967296 = va / 16777216 * 16777216 := by omega
  have htm : va.tmod 16777216 = va % 16777216 := Int.tmod_eq_emod_of_nonneg hva.1
  have hv2 : va - va % 16777216 = va / 16777216 * 16777216 := by omega
  clear hva
  go_enter Tryd.func27, Tryd.ntmps27
  go_wp2_with (first
    | (go_at_call 40; refine (HZ _).mono ?_; rintro e w' ⟨rfl, rfl⟩)
    | (go_at_call 10; refine (HY _).mono ?_; rintro e w' ⟨rfl, rfl⟩)
    | (go_at_call 41; refine (HS _).mono ?_; rintro e w1 ⟨rfl, hb⟩; have hx1 := hN.below hb; have hy1 := hM.below hb; have HB : Hid (Below W.heap.size W w1) := Below.step (by (repeat (refine Below.alloc ?_ (by simp) _)); exact Below.refl _ _) hb; clear hb hN hM; have hc := hx1.cell; have hd := hy1.cell; have hf := hy1.frozen; have hlt : W.heap.size + 1 < w1.heap.size := hy1.lt; have hne : ¬ (W.heap.size + 1 = w1.heap.size) := (by omega); have hne2 : ¬ (W.heap.size = w1.heap.size) := (by omega))
    | go_in)
  refine bodyPost_ret (v := .agg #[.int .i64 4, .int .u32 (va / 16777216 * 16777216), .int .u64 k2, .int .i64 k3, .int .i64 k5, .int .u32 k6, .bool k7, .bool k8]) (by simp [results, Tryd.results27, go_sem, hd, IntKind.wrap_u32, hv, hv2, hne, hlt]) rfl ⟨rfl, (by refine Below.alloc ?_ (by have := HB.out.size; simp; omega) _; (repeat (refine Below.setCell ?_ (by simp) _)); exact HB.out)⟩
set_option maxRecDepth 100000 in
set_option maxHeartbeats 8000000 in
theorem rtrans_4n (k2 k3 : Int) (k4 : Bool) (k5 k6 : Int) (k7 k8 : Bool) (dm va : Int) (W : World) (HZ : ∀ w, Calls Tryd.prog 40 #[.int .i64 4] w fun e w' => e = .returned (.int .i64 2) ∧ w = w') (HS : ∀ w, Calls Tryd.prog 42 #[.agg #[.int .i64 4, .int .u64 k2, .int .i64 k3, .bool k4, .int .i64 k5, .int .u32 k6, .bool k7, .bool k8]] w fun r w' => r = .returned (.bool false) ∧ Below w.heap.size w w') :
    Calls Tryd.prog 27 #[.agg #[.int .i64 4, .int .u64 k2, .int .i64 k3, .bool k4, .int .i64 k5, .int .u32 k6, .bool k7, .bool k8], .int .i64 dm, .int .u32 va] W fun r w' => r = .returned (.agg #[.int .i64 0, .int .u32 0, .int .u64 0, .int .i64 0, .int .i64 0, .int .u32 0, .bool false, .bool false]) ∧ Below W.heap.size W w' := by
  have hN := (Bl.new W 30 [.int .i64 4, .int .u64 k2, .int .i64 k3, .bool k4, .int .i64 k5, .int .u32 k6, .bool k7, .bool k8])
  have hsz : (W.alloc (.cells ([.int .i64 4, .int .u64 k2, .int .i64 k3, .bool k4, .int .i64 k5, .int .u32 k6, .bool k7, .bool k8]).toArray 30)).heap.size = W.heap.size + 1 := by simp
  have hM := Bl.new (W.alloc (.cells ([.int .i64 4, .int .u64 k2, .int .i64 k3, .bool k4, .int .i64 k5, .int .u32 k6, .bool k7, .bool k8]).toArray 30)) 34 [.int .i64 0, .int .u32 0, .int .u64 0, .int .i64 0, .int .i64 0, .int .u32 0, .bool false, .bool false]
  have hN := hN.below ((Below.refl _ _).alloc (Nat.le_refl _) (.cells ([.int .i64 0, .int .u32 0, .int .u64 0, .int .i64 0, .int .i64 0, .int .u32 0, .bool false, .bool false]).toArray 34))
  rw [hsz] at hM
  have HB0 : Hid (∀ o p, Below W.heap.size W ((W.alloc o).alloc p)) := fun o p => (((Below.refl _ _).alloc (Nat.le_refl _) o).alloc (by simp) p)
  go_enter Tryd.func27, Tryd.ntmps27
  go_wp2_with (first
    | (go_at_call 40; refine (HZ _).mono ?_; rintro e w' ⟨rfl, rfl⟩)
    | (go_at_call 42; refine (HS _).mono ?_; rintro e w1 ⟨rfl, hb⟩; have hx1 := hN.below hb; have hy1 := hM.below hb; have HB : Hid (Below W.heap.size W w1) := Below.step (by (repeat (refine Below.alloc ?_ (by simp) _)); exact Below.refl _ _) hb; clear hb hN hM; have hc := hx1.cell; have hd := hy1.cell; have hf := hy1.frozen; have hlt : W.heap.size + 1 < w1.heap.size := hy1.lt; have hne : ¬ (W.heap.size + 1 = w1.heap.size) := (by omega); have hne2 : ¬ (W.heap.size = w1.heap.size) := (by omega))
    | go_in)
  refine bodyPost_ret (v := .agg #[.int .i64 0, .int .u32 0, .int .u64 0, .int .i64 0, .int .i64 0, .int .u32 0, .bool false, .bool false]) (by simp [results, Tryd.results27, go_sem, hd]) rfl ⟨rfl, (by (repeat (refine Below.setCell ?_ (by simp) _)); exact HB.out)⟩
set_option maxRecDepth 100000 in
set_option maxHeartbeats 8000000 in
theorem rtrans_4y (k2 k3 : Int) (k4 : Bool) (k5 k6 : Int) (k7 k8 : Bool) (dm va : Int) (W : World) (HZ : ∀ w, Calls Tryd.prog 40 #[.int .i64 4] w fun e w' => e = .returned (.int .i64 2) ∧ w = w') (HY : ∀ w, Calls Tryd.prog 10 #[.int .i64 2] w fun e w' => e = .returned (.int .u64 65536) ∧ w = w') (HS : ∀ w, Calls Tryd.prog 42 #[.agg #[.int .i64 4, .int .u64 k2, .int .i64 k3, .bool k4, .int .i64 k5, .int .u32 k6, .bool k7, .bool k8]] w fun r w' => r = .returned (.bool true) ∧ Below w.heap.size w w') (hva : 0 ≤ va ∧ va < 4294967296) (hd1 : decide (0 ≤ dm) = true) (hd2 : decide (dm ≤ 15) = true) :
    Calls Tryd.prog 27 #[.agg #[.int .i64 4, .int .u64 k2, .int .i64 k3, .bool k4, .int .i64 k5, .int .u32 k6, .bool k7, .bool k8], .int .i64 dm, .int .u32 va] W fun r w' => r = .returned (.agg #[.int .i64 2, .int .u32 (va / 65536 * 65536), .int .u64 k2, .int .i64 dm, .int .i64 k5, .int .u32 k6, .bool k7, .bool k8]) ∧ Below W.heap.size W w' := by
  have hN := (Bl.new W 30 [.int .i64 4, .int .u64 k2, .int .i64 k3, .bool k4, .int .i64 k5, .int .u32 k6, .bool k7, .bool k8])
  have hsz : (W.alloc (.cells ([.int .i64 4, .int .u64 k2, .int .i64 k3, .bool k4, .int .i64 k5, .int .u32 k6, .bool k7, .bool k8]).toArray 30)).heap.size = W.heap.size + 1 := by simp
  have hM := Bl.new (W.alloc (.cells ([.int .i64 4, .int .u64 k2, .int .i64 k3, .bool k4, .int .i64 k5, .int .u32 k6, .bool k7, .bool k8]).toArray 30)) 34 [.int .i64 0, .int .u32 0, .int .u64 0, .int .i64 0, .int .i64 0, .int .u32 0, .bool false, .bool false]
  have hN := hN.below ((Below.refl _ _).alloc (Nat.le_refl _) (.cells ([.int .i64 0, .int .u32 0, .int .u64 0, .int .i64 0, .int .i64 0, .int .u32 0, .bool false, .bool false]).toArray 34))
  rw [hsz] at hM
  have HB0 : Hid (∀ o p, Below W.heap.size W ((W.alloc o).alloc p)) := fun o p => (((Below.refl _ _).alloc (Nat.le_refl _) o).alloc (by simp) p)
  have hv : (va - va % 65536) % 4294967296 = va / 65536 * 65536 := by omega
  have htm : va.tmod 65536 = va % 65536 := Int.tmod_eq_emod_of_nonneg hva.1
  have hv2 : va - va % 65536 = va / 65536 * 65536 := by omega
  clear hva
  go_enter Tryd.func27, Tryd.ntmps27
  go_wp2_with (first
    | (go_at_call 40; refine (HZ _).mono ?_; rintro e w' ⟨rfl, rfl⟩)
    | (go_at_call 10; refine (HY _).mono ?_; rintro e w' ⟨rfl, rfl⟩)
    | (go_at_call 42; refine (HS _).mono ?_; rintro e w1 ⟨rfl, hb⟩; have hx1 := hN.below hb; have hy1 := hM.below hb; have HB : Hid (Below W.heap.size W w1) := Below.step (by (repeat (refine Below.alloc ?_ (by simp) _)); exact Below.refl _ _) hb; clear hb hN hM; have hc := hx1.cell; have hd := hy1.cell; have hf := hy1.frozen; have hlt : W.heap.size + 1 < w1.heap.size := hy1.lt; have hne : ¬ (W.heap.size + 1 = w1.heap.size) := (by omega); have hne2 : ¬ (W.heap.size = w1.heap.size) := (by omega))
    | go_in)
  refine bodyPost_ret (v := .agg #[.int .i64 2, .int .u32 (va / 65536 * 65536), .int .u64 k2, .int .i64 dm, .int .i64 k5, .int .u32 k6, .bool k7, .bool k8]) (by simp [results, Tryd.results27, go_sem, hd, IntKind.wrap_u32, hv, hv2, hne, hlt]) rfl ⟨rfl, (by refine Below.alloc ?_ (by have := HB.out.size; simp; omega) _; (repeat (refine Below.setCell ?_ (by simp) _)); exact HB.out)⟩
set_option maxRecDepth 100000 in
set_option maxHeartbeats 8000000 in
theorem rtrans_4lo (k2 k3 : Int) (k4 : Bool) (k5 k6 : Int) (k7 k8 : Bool) (dm va : Int) (W : World) (HZ : ∀ w, Calls Tryd.prog 40 #[.int .i64 4] w fun e w' => e = .returned (.int .i64 2) ∧ w = w') (HS : ∀ w, Calls Tryd.prog 42 #[.agg #[.int .i64 4, .int .u64 k2, .int .i64 k3, .bool k4, .int .i64 k5, .int .u32 k6, .bool k7, .bool k8]] w fun r w' => r = .returned (.bool true) ∧ Below w.heap.size w w') (hd1 : decide (0 ≤ dm) = false) :
    Calls Tryd.prog 27 #[.agg #[.int .i64 4, .int .u64 k2, .int .i64 k3, .bool k4, .int .i64 k5, .int .u32 k6, .bool k7, .bool k8], .int .i64 dm, .int .u32 va] W fun r w' => r = .returned (.agg #[.int .i64 0, .int .u32 0, .int .u64 0, .int .i64 0, .int .i64 0, .int .u32 0, .bool false, .bool false]) ∧ Below W.heap.size W w' := by
  have hN := (Bl.new W 30 [.int .i64 4, .int .u64 k2, .int .i64 k3, .bool k4, .int .i64 k5, .int .u32 k6, .bool k7, .bool k8])
  have hsz : (W.alloc (.cells ([.int .i64 4, .int .u64 k2, .int .i64 k3, .bool k4, .int .i64 k5, .int .u32 k6, .bool k7, .bool k8]).toArray 30)).heap.size = W.heap.size + 1 := by simp
  have hM := Bl.new (W.alloc (.cells ([.int .i64 4, .int .u64 k2, .int .i64 k3, .bool k4, .int .i64 k5, .int .u32 k6, .bool k7, .bool k8]).toArray 30)) 34 [.int .i64 0, .int .u32 0, .int .u64 0, .int .i64 0, .int .i64 0, .int .u32 0, .bool false, .bool false]
  have hN := hN.below ((Below.refl _ _).alloc (Nat.le_refl _) (.cells ([.int .i64 0, .int .u32 0, .int .u64 0, .int .i64 0, .int .i64 0, .int .u32 0, .bool false, .bool false]).toArray 34))
  rw [hsz] at hM
  have HB0 : Hid (∀ o p, Below W.heap.size W ((W.alloc o).alloc p)) := fun o p => (((Below.refl _ _).alloc (Nat.le_refl _) o).alloc (by simp) p)
  go_enter Tryd.func27, Tryd.ntmps27
  go_wp2_with (first
    | (go_at_call 40; refine (HZ _).mono ?_; rintro e w' ⟨rfl, rfl⟩)
    | (go_at_call 42; refine (HS _).mono ?_; rintro e w1 ⟨rfl, hb⟩; have hx1 := hN.below hb; have hy1 := hM.below hb; have HB : Hid (Below W.heap.size W w1) := Below.step (by (repeat (refine Below.alloc ?_ (by simp) _)); exact Below.refl _ _) hb; clear hb hN hM; have hc := hx1.cell; have hd := hy1.cell; have hf := hy1.frozen; have hlt : W.heap.size + 1 < w1.heap.size := hy1.lt; have hne : ¬ (W.heap.size + 1 = w1.heap.size) := (by omega); have hne2 : ¬ (W.heap.size = w1.heap.size) := (by omega))
    | go_in)
  refine bodyPost_ret (v := .agg #[.int .i64 0, .int .u32 0, .int .u64 0, .int .i64 0, .int .i64 0, .int .u32 0, .bool false, .bool false]) (by simp [results, Tryd.results27, go_sem, hd]) rfl ⟨rfl, (by (repeat (refine Below.setCell ?_ (by simp) _)); exact HB.out)⟩
set_option maxRecDepth 100000 in
set_option maxHeartbeats 8000000 in
theorem rtrans_4hi (k2 k3 : Int) (k4 : Bool) (k5 k6 : Int) (k7 k8 : Bool) (dm va : Int) (W : World) (HZ : ∀ w, Calls Tryd.prog 40 #[.int .i64 4] w fun e w' => e = .returned (.int .i64 2) ∧ w = w') (HS : ∀ w, Calls Tryd.prog 42 #[.agg #[.int .i64 4, .int .u64 k2, .int .i64 k3, .bool k4, .int .i64 k5, .int .u32 k6, .bool k7, .bool k8]] w fun r w' => r = .returned (.bool true) ∧ Below w.heap.size w w') (hd1 : decide (0 ≤ dm) = true) (hd2 : decide (dm ≤ 15) = false) :
    Calls Tryd.prog 27 #[.agg #[.int .i64 4, .int .u64 k2, .int .i64 k3, .bool k4, .int .i64 k5, .int .u32 k6, .bool k7, .bool k8], .int .i64 dm, .int .u32 va] W fun r w' => r = .returned (.agg #[.int .i64 0, .int .u32 0, .int .u64 0, .int .i64 0, .int .i64 0, .int .u32 0, .bool false, .bool false]) ∧ Below W.heap.size W w' := by
  have hN := (Bl.new W 30 [.int .i64 4, .int .u64 k2, .int .i64 k3, .bool k4, .int .i64 k5, .int .u32 k6, .bool k7, .bool k8])
  have hsz : (W.alloc (.cells ([.int .i64 4, .int .u64 k2, .int .i64 k3, .bool k4, .int .i64 k5, .int .u32 k6, .bool k7, .bool k8]).toArray 30)).heap.size = W.heap.size + 1 := by simp
  have hM := Bl.new (W.alloc (.cells ([.int .i64 4, .int .u64 k2, .int .i64 k3, .bool k4, .int .i64 k5, .int .u32 k6, .bool k7, .bool k8]).toArray 30)) 34 [.int .i64 0, .int .u32 0, .int .u64 0, .int .i64 0, .int .i64 0, .int .u32 0, .bool false, .bool false]
  have hN := hN.below ((Below.refl _ _).alloc (Nat.le_refl _) (.cells ([.int .i64 0, .int .u32 0, .int .u64 0, .int .i64 0, .int .i64 0, .int .u32 0, .bool false, .bool false]).toArray 34))
  rw [hsz] at hM
  have HB0 : Hid (∀ o p, Below W.heap.size W ((W.alloc o).alloc p)) := fun o p => (((Below.refl _ _).alloc (Nat.le_refl _) o).alloc (by simp) p)
  go_enter Tryd.func27, Tryd.ntmps27
  go_wp2_with (first
    | (go_at_call 40; refine (HZ _).mono ?_; rintro e w' ⟨rfl, rfl⟩)
    | (go_at_call 42; refine (HS _).mono ?_; rintro e w1 ⟨rfl, hb⟩; have hx1 := hN.below hb; have hy1 := hM.below hb; have HB : Hid (Below W.heap.size W w1) := Below.step (by (repeat (refine Below.alloc ?_ (by simp) _)); exact Below.refl _ _) hb; clear hb hN hM; have hc := hx1.cell; have hd := hy1.cell; have hf := hy1.frozen; have hlt : W.heap.size + 1 < w1.heap.size := hy1.lt; have hne : ¬ (W.heap.size + 1 = w1.heap.size) := (by omega); have hne2 : ¬ (W.heap.size = w1.heap.size) := (by omega))
    | go_in)
  refine bodyPost_ret (v := .agg #[.int .i64 0, .int .u32 0, .int .u64 0, .int .i64 0, .int .i64 0, .int .u32 0, .bool false, .bool false]) (by simp [results, Tryd.results27, go_sem, hd]) rfl ⟨rfl, (by (repeat (refine Below.setCell ?_ (by simp) _)); exact HB.out)⟩
set_option maxRecDepth 100000 in
set_option maxHeartbeats 8000000 in
theorem rtrans_5n (k2 k3 : Int) (k4 : Bool) (k5 k6 : Int) (k7 k8 : Bool) (dm va : Int) (W : World) (HZ : ∀ w, Calls Tryd.prog 40 #[.int .i64 5] w fun e w' => e = .returned (.int .i64 1) ∧ w = w') (HS : ∀ w, Calls Tryd.prog 42 #[.agg #[.int .i64 5, .int .u64 k2, .int .i64 k3, .bool k4, .int .i64 k5, .int .u32 k6, .bool k7, .bool k8]] w fun r w' => r = .returned (.bool false) ∧ Below w.heap.size w w') :
    Calls Tryd.prog 27 #[.agg #[.int .i64 5, .int .u64 k2, .int .i64 k3, .bool k4, .int .i64 k5, .int .u32 k6, .bool k7, .bool k8], .int .i64 dm, .int .u32 va] W fun r w' => r = .returned (.agg #[.int .i64 0, .int .u32 0, .int .u64 0, .int .i64 0, .int .i64 0, .int .u32 0, .bool false, .bool false]) ∧ Below W.heap.size W w' := by
  have hN := (Bl.new W 30 [.int .i64 5, .int .u64 k2, .int .i64 k3, .bool k4, .int .i64 k5, .int .u32 k6, .bool k7, .bool k8])
  have hsz : (W.alloc (.cells ([.int .i64 5, .int .u64 k2, .int .i64 k3, .bool k4, .int .i64 k5, .int .u32 k6, .bool k7, .bool k8]).toArray 30)).heap.size = W.heap.size + 1 := by simp
  have hM := Bl.new (W.alloc (.cells ([.int .i64 5, .int .u64 k2, .int .i64 k3, .bool k4, .int .i64 k5, .int .u32 k6, .bool k7, .bool k8]).toArray 30)) 34 [.int .i64 0, .int .u32 0, .int .u64 0, .int .i64 0, .int .i64 0, .int .u32 0, .bool false, .bool false]
  have hN := hN.below ((Below.refl _ _).alloc (Nat.le_refl _) (.cells ([.int .i64 0, .int .u32 0, .int .u64 0, .int .i64 0, .int .i64 0, .int .u32 0, .bool false, .bool false]).toArray 34))
  rw [hsz] at hM
  have HB0 : Hid (∀ o p, Below W.heap.size W ((W.alloc o).alloc p)) := fun o p => (((Below.refl _ _).alloc (Nat.le_refl _) o).alloc (by simp) p)
  go_enter Tryd.func27, Tryd.ntmps27
  go_wp2_with (first
    | (go_at_call 40; refine (HZ _).mono ?_; rintro e w' ⟨rfl, rfl⟩)
    | (go_at_call 42; refine (HS _).mono ?_; rintro e w1 ⟨rfl, hb⟩; have hx1 := hN.below hb; have hy1 := hM.below hb; have HB : Hid (Below W.heap.size W w1) := Below.step (by (repeat (refine Below.alloc ?_ (by simp) _)); exact Below.refl _ _) hb; clear hb hN hM; have hc := hx1.cell; have hd := hy1.cell; have hf := hy1.frozen; have hlt : W.heap.size + 1 < w1.heap.size := hy1.lt; have hne : ¬ (W.heap.size + 1 = w1.heap.size) := (by omega); have hne2 : ¬ (W.heap.size = w1.heap.size) := (by omega))
    | go_in)
  refine bodyPost_ret (v := .agg #[.int .i64 0, .int .u32 0, .int .u64 0, .int .i64 0, .int .i64 0, .int .u32 0, .bool false, .bool false]) (by simp [results, Tryd.results27, go_sem, hd]) rfl ⟨rfl, (by (repeat (refine Below.setCell ?_ (by simp) _)); exact HB.out)⟩
set_option maxRecDepth 100000 in
set_option maxHeartbeats 8000000 in
theorem rtrans_5y (k2 k3 : Int) (k4 : Bool) (k5 k6 : Int) (k7 k8 : Bool) (dm va : Int) (W : World) (HZ : ∀ w, Calls Tryd.prog 40 #[.int .i64 5] w fun e w' => e = .returned (.int .i64 1) ∧ w = w') (HY : ∀ w, Calls Tryd.prog 10 #[.int .i64 1] w fun e w' => e = .returned (.int .u64 4096) ∧ w = w') (HS : ∀ w, Calls Tryd.prog 42 #[.agg #[.int .i64 5, .int .u64 k2, .int .i64 k3, .bool k4, .int .i64 k5, .int .u32 k6, .bool k7, .bool k8]] w fun r w' => r = .returned (.bool true) ∧ Below w.heap.size w w') (hva : 0 ≤ va ∧ va < 4294967296) (hd1 : decide (0 ≤ dm) = true) (hd2 : decide (dm ≤ 15) = true) :
    Calls Tryd.prog 27 #[.agg #[.int .i64 5, .int .u64 k2, .int .i64 k3, .bool k4, .int .i64 k5, .int .u32 k6, .bool k7, .bool k8], .int .i64 dm, .int .u32 va] W fun r w' => r = .returned (.agg #[.int .i64 1, .int .u32 (va / 4096 * 4096), .int .u64 k2, .int .i64 dm, .int .i64 k5, .int .u32 k6, .bool k7, .bool k8]) ∧ Below W.heap.size W w' := by
  have hN := (Bl.new W 30 [.int .i64 5, .int .u64 k2, .int .i64 k3, .bool k4, .int .i64 k5, .int .u32 k6, .bool k7, .bool k8])
  have hsz : (W.alloc (.cells ([.int .i64 5, .int .u64 k2, .int .i64 k3, .bool k4, .int .i64 k5, .int .u32 k6, .bool k7, .bool k8]).toArray 30)).heap.size = W.heap.size + 1 := by simp
  have hM := Bl.new (W.alloc (.cells ([.int .i64 5, .int .u64 k2, .int .i64 k3, .bool k4, .int .i64 k5, .int .u32 k6, .bool k7, .bool k8]).toArray 30)) 34 [.int .i64 0, .int .u32 0, .int .u64 0, .int .i64 0, .int .i64 0, .int .u32 0, .bool false, .bool false]
  have hN := hN.below ((Below.refl _ _).alloc (Nat.le_refl _) (.cells ([.int .i64 0, .int .u32 0, .int .u64 0, .int .i64 0, .int .i64 0, .int .u32 0, .bool false, .bool false]).toArray 34))
  rw [hsz] at hM
  have HB0 : Hid (∀ o p, Below W.heap.size W ((W.alloc o).alloc p)) := fun o p => (((Below.refl _ _).alloc (Nat.le_refl _) o).alloc (by simp) p)
  have hv : (va - va % 4096) % 4294967296 = va / 4096 * 4096 := by omega
  have htm : va.tmod 4096 = va % 4096 := Int.tmod_eq_emod_of_nonneg hva.1
  have hv2 : va - va % 4096 = va / 4096 * 4096 := by omega
  clear hva
  go_enter Tryd.func27, Tryd.ntmps27
  go_wp2_with (first
    | (go_at_call 40; refine (HZ _).mono ?_; rintro e w' ⟨rfl, rfl⟩)
    | (go_at_call 10; refine (HY _).mono ?_; rintro e w' ⟨rfl, rfl⟩)
    | (go_at_call 42; refine (HS _).mono ?_; rintro e w1 ⟨rfl, hb⟩; have hx1 := hN.below hb; have hy1 := hM.below hb; have HB : Hid (Below W.heap.size W w1) := Below.step (by (repeat (refine Below.alloc ?_ (by simp) _)); exact Below.refl _ _) hb; clear hb hN hM; have hc := hx1.cell; have hd := hy1.cell; have hf := hy1.frozen; have hlt : W.heap.size + 1 < w1.heap.size := hy1.lt; have hne : ¬ (W.heap.size + 1 = w1.heap.size) := (by omega); have hne2 : ¬ (W.heap.size = w1.heap.size) := (by omega))
    | go_in)
  refine bodyPost_ret (v := .agg #[.int .i64 1, .int .u32 (va / 4096 * 4096), .int .u64 k2, .int .i64 dm, .int .i64 k5, .int .u32 k6, .bool k7, .bool k8]) (by simp [results, Tryd.results27, go_sem, hd, IntKind.wrap_u32, hv, hv2, hne, hlt]) rfl ⟨rfl, (by refine Below.alloc ?_ (by have := HB.out.size; simp; omega) _; (repeat (refine Below.setCell ?_ (by simp) _)); exact HB.out)⟩
set_option maxRecDepth 100000 in
set_option maxHeartbeats 8000000 in
theorem rtrans_5lo (k2 k3 : Int) (k4 : Bool) (k5 k6 : Int) (k7 k8 : Bool) (dm va : Int) (W : World) (HZ : ∀ w, Calls Tryd.prog 40 #[.int .i64 5] w fun e w' => e = .returned (.int .i64 1) ∧ w = w') (HS : ∀ w, Calls Tryd.prog 42 #[.agg #[.int .i64 5, .int .u64 k2, .int .i64 k3, .bool k4, .int .i64 k5, .int .u32 k6, .bool k7, .bool k8]] w fun r w' => r = .returned (.bool true) ∧ Below w.heap.size w w') (hd1 : decide (0 ≤ dm) = false) :
    Calls Tryd.prog 27 #[.agg #[.int .i64 5, .int .u64 k2, .int .i64 k3, .bool k4, .int .i64 k5, .int .u32 k6, .bool k7, .bool k8], .int .i64 dm, .int .u32 va] W fun r w' => r = .returned (.agg #[.int .i64 0, .int .u32 0, .int .u64 0, .int .i64 0, .int .i64 0, .int .u32 0, .bool false, .bool false]) ∧ Below W.heap.size W w' := by
  have hN := (Bl.new W 30 [.int .i64 5, .int .u64 k2, .int .i64 k3, .bool k4, .int .i64 k5, .int .u32 k6, .bool k7, .bool k8])
  have hsz : (W.alloc (.cells ([.int .i64 5, .int .u64 k2, .int .i64 k3, .bool k4, .int .i64 k5, .int .u32 k6, .bool k7, .bool k8]).toArray 30)).heap.size = W.heap.size + 1 := by simp
  have hM := Bl.new (W.alloc (.cells ([.int .i64 5, .int .u64 k2, .int .i64 k3, .bool k4, .int .i64 k5, .int .u32 k6, .bool k7, .bool k8]).toArray 30)) 34 [.int .i64 0, .int .u32 0, .int .u64 0, .int .i64 0, .int .i64 0, .int .u32 0, .bool false, .bool false]
  have hN := hN.below ((Below.refl _ _).alloc (Nat.le_refl _) (.cells ([.int .i64 0, .int .u32 0, .int .u64 0, .int .i64 0, .int .i64 0, .int .u32 0, .bool false, .bool false]).toArray 34))
  rw [hsz] at hM
  have HB0 : Hid (∀ o p, Below W.heap.size W ((W.alloc o).alloc p)) := fun o p => (((Below.refl _ _).alloc (Nat.le_refl _) o).alloc (by simp) p)
  go_enter Tryd.func27, Tryd.ntmps27
  go_wp2_with (first
    | (go_at_call 40; refine (HZ _).mono ?_; rintro e w' ⟨rfl, rfl⟩)
    | (go_at_call 42; refine (HS _).mono ?_; rintro e w1 ⟨rfl, hb⟩; have hx1 := hN.below hb; have hy1 := hM.below hb; have HB : Hid (Below W.heap.size W w1) := Below.step (by (repeat (refine Below.alloc ?_ (by simp) _)); exact Below.refl _ _) hb; clear hb hN hM; have hc := hx1.cell; have hd := hy1.cell; have hf := hy1.frozen; have hlt : W.heap.size + 1 < w1.heap.size := hy1.lt; have hne : ¬ (W.heap.size + 1 = w1.heap.size) := (by omega); have hne2 : ¬ (W.heap.size = w1.heap.size) := (by omega))
    | go_in)
  refine bodyPost_ret (v := .agg #[.int .i64 0, .int .u32 0, .int .u64 0, .int .i64 0, .int .i64 0, .int .u32 0, .bool false, .bool false]) (by simp [results, Tryd.results27, go_sem, hd]) rfl ⟨rfl, (by (repeat (refine Below.setCell ?_ (by simp) _)); exact HB.out)⟩
set_option maxRecDepth 100000 in
set_option maxHeartbeats 8000000 in
theorem rtrans_5hi (k2 k3 : Int) (k4 : Bool) (k5 k6 : Int) (k7 k8 : Bool) (dm va : Int) (W : World) (HZ : ∀ w, Calls Tryd.prog 40 #[.int .i64 5] w fun e w' => e = .returned (.int .i64 1) ∧ w = w') (HS : ∀ w, Calls Tryd.prog 42 #[.agg #[.int .i64 5, .int .u64 k2, .int .i64 k3, .bool k4, .int .i64 k5, .int .u32 k6, .bool k7, .bool k8]] w fun r w' => r = .returned (.bool true) ∧ Below w.heap.size w w') (hd1 : decide (0 ≤ dm) = true) (hd2 : decide (dm ≤ 15) = false) :
    Calls Tryd.prog 27 #[.agg #[.int .i64 5, .int .u64 k2, .int .i64 k3, .bool k4, .int .i64 k5, .int .u32 k6, .bool k7, .bool k8], .int .i64 dm, .int .u32 va] W fun r w' => r = .returned (.agg #[.int .i64 0, .int .u32 0, .int .u64 0, .int .i64 0, .int .i64 0, .int .u32 0, .bool false, .bool false]) ∧ Below W.heap.size W w' := by
  have hN := (Bl.new W 30 [.int .i64 5, .int .u64 k2, .int .i64 k3, .bool k4, .int .i64 k5, .int .u32 k6, .bool k7, .bool k8])
  have hsz : (W.alloc (.cells ([.int .i64 5, .int .u64 k2, .int .i64 k3, .bool k4, .int .i64 k5, .int .u32 k6, .bool k7, .bool k8]).toArray 30)).heap.size = W.heap.size + 1 := by simp
  have hM := Bl.new (W.alloc (.cells ([.int .i64 5, .int .u64 k2, .int .i64 k3, .bool k4, .int .i64 k5, .int .u32 k6, .bool k7, .bool k8]).toArray 30)) 34 [.int .i64 0, .int .u32 0, .int .u64 0, .int .i64 0, .int .i64 0, .int .u32 0, .bool false, .bool false]
  have hN := hN.below ((Below.refl _ _).alloc (Nat.le_refl _) (.cells ([.int .i64 0, .int .u32 0, .int .u64 0, .int .i64 0, .int .i64 0, .int .u32 0, .bool false, .bool false]).toArray 34))
  rw [hsz] at hM
  have HB0 : Hid (∀ o p, Below W.heap.size W ((W.alloc o).alloc p)) := fun o p => (((Below.refl _ _).alloc (Nat.le_refl _) o).alloc (by simp) p)
  go_enter Tryd.func27, Tryd.ntmps27
  go_wp2_with (first
    | (go_at_call 40; refine (HZ _).mono ?_; rintro e w' ⟨rfl, rfl⟩)
    | (go_at_call 42; refine (HS _).mono ?_; rintro e w1 ⟨rfl, hb⟩; have hx1 := hN.below hb; have hy1 := hM.below hb; have HB : Hid (Below W.heap.size W w1) := Below.step (by (repeat (refine Below.alloc ?_ (by simp) _)); exact Below.refl _ _) hb; clear hb hN hM; have hc := hx1.cell; have hd := hy1.cell; have hf := hy1.frozen; have hlt : W.heap.size + 1 < w1.heap.size := hy1.lt; have hne : ¬ (W.heap.size + 1 = w1.heap.size) := (by omega); have hne2 : ¬ (W.heap.size = w1.heap.size) := (by omega))
    | go_in)
  refine bodyPost_ret (v := .agg #[.int .i64 0, .int .u32 0, .int .u64 0, .int .i64 0, .int .i64 0, .int .u32 0, .bool false, .bool false]) (by simp [results, Tryd.results27, go_sem, hd]) rfl ⟨rfl, (by (repeat (refine Below.setCell ?_ (by simp) _)); exact HB.out)⟩
end Go.Proofs.YtcpcmjmgiagnoaaDoor
