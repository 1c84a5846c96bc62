import Derived.Test.YtmcloaonpkfibabDoorRm
namespace Go.Proofs.YtmcloaonpkfibabDoor
open Go.RowKit
set_option linter.unusedVariables false
set_option linter.unusedSimpArgs false
set_option maxRecDepth 100000 in
theorem field_any (x : Int) (k : Nat) (w : World) (hx : 0 ≤ x ∧ x < 4294967296) (hk : k < 32) :
    Calls Tryd.prog 22 #[.int .u32 x, .int .i64 k] w fun e w' => e = .returned (.int .i64 (pr x k)) ∧ w = w' := by
  have h3 := and3 (x / 2 ^ k) (shr_range x _ hx)
  have hw : IntKind.i64.wrap (x / 2 ^ k % 4) = x / 2 ^ k % 4 := by rw [IntKind.wrap_i64]; omega
  have hu : IntKind.u64.wrap (k : Int) = (k : Int) := by rw [IntKind.wrap_u64]; omega
  go_enter Tryd.func22, Tryd.ntmps22
  go_wp2
  go_ret
  exact ⟨rfl, rfl⟩
set_option maxRecDepth 100000 in
theorem set_any (x : Int) (k : Nat) (w : World) (hx : 0 ≤ x ∧ x < 4294967296) (hk : k < 32) :
    Calls Tryd.prog 23 #[.int .u32 x, .int .i64 k] w fun e w' => e = .returned (.bool (bt x k == 1)) ∧ w = w' := by
  have h3 := and1 (x / 2 ^ k) (shr_range x _ hx)
  have hu : IntKind.u64.wrap (k : Int) = (k : Int) := by rw [IntKind.wrap_u64]; omega
  go_enter Tryd.func23, Tryd.ntmps23
  go_wp2
  go_ret
  exact ⟨rfl, rfl⟩
set_option maxRecDepth 100000 in
set_option maxHeartbeats 4000000 in
theorem map_6 (p q x x4 y n n2 : Int) (b : Nat) (T : Int) (w : World) (a1 : bits .and .u32 ((b : Int) / 8) 1 = x) (w1 : IntKind.i64.wrap x = x) (w2 : IntKind.i64.wrap (4 * x) = x4) (a2 : bits .and .u32 ((b : Int) / 2) 3 = y) (w3 : IntKind.i64.wrap y = y) (w4 : IntKind.i64.wrap (x4 + y) = n) (w5 : IntKind.i64.wrap (2 * n) = n2) (H1 : (∀ w, Calls Tryd.prog 22 #[.int .u32 p, .int .i64 n2] w fun e w' => e = .returned (.int .i64 T) ∧ w = w')) (hn : (n == 6) = true) :
    Calls Tryd.prog 14 #[.int .u32 p, .int .u32 q, .int .u32 b] w fun e w' => e = .returned (.tuple #[.agg #[.int .i64 0, .int .i64 0, .int .i64 0, .int .i64 0], .int .i64 61]) ∧ Below w.heap.size w w' := by
  have G1 : Hid _ := H1
  clear H1
  go_enter Tryd.func14, Tryd.ntmps14
  go_wp2_with (first | (go_at_call 22; with_reducible refine (G1.out _).mono ?_; rintro e w' ⟨rfl, rfl⟩) | go_in)
  refine bodyPost_ret (v := .tuple #[.agg #[.int .i64 0, .int .i64 0, .int .i64 0, .int .i64 0], .int .i64 61]) (by simp [results, Tryd.results14, go_sem]) rfl ⟨rfl, (by (repeat (with_reducible first | refine Below.setCell ?_ (by simp) _ | refine below_drew ?_ | refine Below.alloc ?_ (by simp) _)); exact Below.refl _ _)⟩
set_option maxRecDepth 100000 in
set_option maxHeartbeats 4000000 in
theorem map_3 (p q x x4 y n n2 : Int) (b : Nat) (w : World) (a1 : bits .and .u32 ((b : Int) / 8) 1 = x) (w1 : IntKind.i64.wrap x = x) (w2 : IntKind.i64.wrap (4 * x) = x4) (a2 : bits .and .u32 ((b : Int) / 2) 3 = y) (w3 : IntKind.i64.wrap y = y) (w4 : IntKind.i64.wrap (x4 + y) = n) (w5 : IntKind.i64.wrap (2 * n) = n2) (H1 : (∀ w, Calls Tryd.prog 22 #[.int .u32 p, .int .i64 n2] w fun e w' => e = .returned (.int .i64 3) ∧ w = w')) (hn : (n == 6) = false) :
    Calls Tryd.prog 14 #[.int .u32 p, .int .u32 q, .int .u32 b] w fun e w' => e = .returned (.tuple #[.agg #[.int .i64 0, .int .i64 0, .int .i64 0, .int .i64 0], .int .i64 61]) ∧ Below w.heap.size w w' := by
  have G1 : Hid _ := H1
  clear H1
  go_enter Tryd.func14, Tryd.ntmps14
  go_wp2_with (first | (go_at_call 22; with_reducible refine (G1.out _).mono ?_; rintro e w' ⟨rfl, rfl⟩) | go_in)
  refine bodyPost_ret (v := .tuple #[.agg #[.int .i64 0, .int .i64 0, .int .i64 0, .int .i64 0], .int .i64 61]) (by simp [results, Tryd.results14, go_sem]) rfl ⟨rfl, (by (repeat (with_reducible first | refine Below.setCell ?_ (by simp) _ | refine below_drew ?_ | refine Below.alloc ?_ (by simp) _)); exact Below.refl _ _)⟩
set_option maxRecDepth 100000 in
set_option maxHeartbeats 4000000 in
theorem map_0 (p q x x4 y n n2 : Int) (b : Nat) (w : World) (a1 : bits .and .u32 ((b : Int) / 8) 1 = x) (w1 : IntKind.i64.wrap x = x) (w2 : IntKind.i64.wrap (4 * x) = x4) (a2 : bits .and .u32 ((b : Int) / 2) 3 = y) (w3 : IntKind.i64.wrap y = y) (w4 : IntKind.i64.wrap (x4 + y) = n) (w5 : IntKind.i64.wrap (2 * n) = n2) (H1 : (∀ w, Calls Tryd.prog 22 #[.int .u32 p, .int .i64 n2] w fun e w' => e = .returned (.int .i64 0) ∧ w = w')) (hn : (n == 6) = false) :
    Calls Tryd.prog 14 #[.int .u32 p, .int .u32 q, .int .u32 b] w fun e w' => e = .returned (.tuple #[.agg #[.int .i64 0, .int .i64 0, .int .i64 0, .int .i64 2], .int .i64 0]) ∧ Below w.heap.size w w' := by
  have G1 : Hid _ := H1
  clear H1
  go_enter Tryd.func14, Tryd.ntmps14
  go_wp2_with (first | (go_at_call 22; with_reducible refine (G1.out _).mono ?_; rintro e w' ⟨rfl, rfl⟩) | go_in)
  refine bodyPost_ret (v := .tuple #[.agg #[.int .i64 0, .int .i64 0, .int .i64 0, .int .i64 2], .int .i64 0]) (by simp [results, Tryd.results14, go_sem]) rfl ⟨rfl, (by (repeat (with_reducible first | refine Below.setCell ?_ (by simp) _ | refine below_drew ?_ | refine Below.alloc ?_ (by simp) _)); exact Below.refl _ _)⟩
set_option maxRecDepth 100000 in
set_option maxHeartbeats 4000000 in
theorem map_1 (p q x x4 y n n2 : Int) (b : Nat) (s k n24 : Int) (A B : Bool) (w : World) (a1 : bits .and .u32 ((b : Int) / 8) 1 = x) (w1 : IntKind.i64.wrap x = x) (w2 : IntKind.i64.wrap (4 * x) = x4) (a2 : bits .and .u32 ((b : Int) / 2) 3 = y) (w3 : IntKind.i64.wrap y = y) (w4 : IntKind.i64.wrap (x4 + y) = n) (w5 : IntKind.i64.wrap (2 * n) = n2) (H1 : (∀ w, Calls Tryd.prog 22 #[.int .u32 p, .int .i64 n2] w fun e w' => e = .returned (.int .i64 1) ∧ w = w')) (hn : (n == 6) = false) (a3 : bits .and .u32 (b : Int) 1 = s) (w6 : IntKind.i64.wrap s = s) (w7 : IntKind.i64.wrap (16 + s) = k) (w8 : IntKind.i64.wrap (24 + n) = n24) (H2 : (∀ w, Calls Tryd.prog 23 #[.int .u32 p, .int .i64 k] w fun e w' => e = .returned (.bool A) ∧ w = w')) (H3 : (∀ w, Calls Tryd.prog 23 #[.int .u32 p, .int .i64 n24] w fun e w' => e = .returned (.bool B) ∧ w = w')) :
    Calls Tryd.prog 14 #[.int .u32 p, .int .u32 q, .int .u32 b] w fun e w' => e = .returned (.tuple #[.agg #[.int .i64 1, .int .i64 0, .int .i64 0, .int .i64 (if A then (if B then 1 else 2) else 0)], .int .i64 0]) ∧ Below w.heap.size w w' := by
  have G1 : Hid _ := H1
  have G2 : Hid _ := H2
  have G3 : Hid _ := H3
  clear H1 H2 H3
  cases A <;> cases B
  · simp only [if_true, if_false, Bool.false_eq_true, ite_true, ite_false]
    go_enter Tryd.func14, Tryd.ntmps14
    go_wp2_with (first | (go_at_call 22; with_reducible refine (G1.out _).mono ?_; rintro e w' ⟨rfl, rfl⟩) | (go_at_call 23; with_reducible refine (G2.out _).mono ?_; rintro e w' ⟨rfl, rfl⟩) | (go_at_call 23; with_reducible refine (G3.out _).mono ?_; rintro e w' ⟨rfl, rfl⟩) | go_in)
    refine bodyPost_ret (v := .tuple #[.agg #[.int .i64 1, .int .i64 0, .int .i64 0, .int .i64 0], .int .i64 0]) (by simp [results, Tryd.results14, go_sem]) rfl ⟨rfl, (by (repeat (with_reducible first | refine Below.setCell ?_ (by simp) _ | refine below_drew ?_ | refine Below.alloc ?_ (by simp) _)); exact Below.refl _ _)⟩
  · simp only [if_true, if_false, Bool.false_eq_true, ite_true, ite_false]
    go_enter Tryd.func14, Tryd.ntmps14
    go_wp2_with (first | (go_at_call 22; with_reducible refine (G1.out _).mono ?_; rintro e w' ⟨rfl, rfl⟩) | (go_at_call 23; with_reducible refine (G2.out _).mono ?_; rintro e w' ⟨rfl, rfl⟩) | (go_at_call 23; with_reducible refine (G3.out _).mono ?_; rintro e w' ⟨rfl, rfl⟩) | go_in)
    refine bodyPost_ret (v := .tuple #[.agg #[.int .i64 1, .int .i64 0, .int .i64 0, .int .i64 0], .int .i64 0]) (by simp [results, Tryd.results14, go_sem]) rfl ⟨rfl, (by (repeat (with_reducible first | refine Below.setCell ?_ (by simp) _ | refine below_drew ?_ | refine Below.alloc ?_ (by simp) _)); exact Below.refl _ _)⟩
  · simp only [if_true, if_false, Bool.false_eq_true, ite_true, ite_false]
    go_enter Tryd.func14, Tryd.ntmps14
    go_wp2_with (first | (go_at_call 22; with_reducible refine (G1.out _).mono ?_; rintro e w' ⟨rfl, rfl⟩) | (go_at_call 23; with_reducible refine (G2.out _).mono ?_; rintro e w' ⟨rfl, rfl⟩) | (go_at_call 23; with_reducible refine (G3.out _).mono ?_; rintro e w' ⟨rfl, rfl⟩) | go_in)
    refine bodyPost_ret (v := .tuple #[.agg #[.int .i64 1, .int .i64 0, .int .i64 0, .int .i64 2], .int .i64 0]) (by simp [results, Tryd.results14, go_sem]) rfl ⟨rfl, (by (repeat (with_reducible first | refine Below.setCell ?_ (by simp) _ | refine below_drew ?_ | refine Below.alloc ?_ (by simp) _)); exact Below.refl _ _)⟩
  · simp only [if_true, if_false, Bool.false_eq_true, ite_true, ite_false]
    go_enter Tryd.func14, Tryd.ntmps14
    go_wp2_with (first | (go_at_call 22; with_reducible refine (G1.out _).mono ?_; rintro e w' ⟨rfl, rfl⟩) | (go_at_call 23; with_reducible refine (G2.out _).mono ?_; rintro e w' ⟨rfl, rfl⟩) | (go_at_call 23; with_reducible refine (G3.out _).mono ?_; rintro e w' ⟨rfl, rfl⟩) | go_in)
    refine bodyPost_ret (v := .tuple #[.agg #[.int .i64 1, .int .i64 0, .int .i64 0, .int .i64 1], .int .i64 0]) (by simp [results, Tryd.results14, go_sem]) rfl ⟨rfl, (by (repeat (with_reducible first | refine Below.setCell ?_ (by simp) _ | refine below_drew ?_ | refine Below.alloc ?_ (by simp) _)); exact Below.refl _ _)⟩
set_option maxRecDepth 100000 in
set_option maxHeartbeats 4000000 in
theorem map_2 (p q x x4 y n n2 : Int) (b : Nat) (s k n24 : Int) (A B : Bool) (n16 I O : Int) (w : World) (a1 : bits .and .u32 ((b : Int) / 8) 1 = x) (w1 : IntKind.i64.wrap x = x) (w2 : IntKind.i64.wrap (4 * x) = x4) (a2 : bits .and .u32 ((b : Int) / 2) 3 = y) (w3 : IntKind.i64.wrap y = y) (w4 : IntKind.i64.wrap (x4 + y) = n) (w5 : IntKind.i64.wrap (2 * n) = n2) (H1 : (∀ w, Calls Tryd.prog 22 #[.int .u32 p, .int .i64 n2] w fun e w' => e = .returned (.int .i64 2) ∧ w = w')) (hn : (n == 6) = false) (a3 : bits .and .u32 (b : Int) 1 = s) (w6 : IntKind.i64.wrap s = s) (w7 : IntKind.i64.wrap (18 + s) = k) (w8 : IntKind.i64.wrap (24 + n) = n24) (H2 : (∀ w, Calls Tryd.prog 23 #[.int .u32 p, .int .i64 k] w fun e w' => e = .returned (.bool A) ∧ w = w')) (H3 : (∀ w, Calls Tryd.prog 23 #[.int .u32 p, .int .i64 n24] w fun e w' => e = .returned (.bool B) ∧ w = w')) (w9 : IntKind.i64.wrap (n2 + 16) = n16) (H4 : (∀ w, Calls Tryd.prog 22 #[.int .u32 q, .int .i64 n2] w fun e w' => e = .returned (.int .i64 I) ∧ w = w')) (H5 : (∀ w, Calls Tryd.prog 22 #[.int .u32 q, .int .i64 n16] w fun e w' => e = .returned (.int .i64 O) ∧ w = w')) :
    Calls Tryd.prog 14 #[.int .u32 p, .int .u32 q, .int .u32 b] w fun e w' => e = .returned (.tuple #[.agg #[.int .i64 2, .int .i64 I, .int .i64 O, .int .i64 (if A then (if B then 1 else 2) else 0)], .int .i64 0]) ∧ Below w.heap.size w w' := by
  have G1 : Hid _ := H1
  have G2 : Hid _ := H2
  have G3 : Hid _ := H3
  have G4 : Hid _ := H4
  have G5 : Hid _ := H5
  clear H1 H2 H3 H4 H5
  cases A <;> cases B
  · simp only [if_true, if_false, Bool.false_eq_true, ite_true, ite_false]
    go_enter Tryd.func14, Tryd.ntmps14
    go_wp2_with (first | (go_at_call 22; with_reducible refine (G1.out _).mono ?_; rintro e w' ⟨rfl, rfl⟩) | (go_at_call 23; with_reducible refine (G2.out _).mono ?_; rintro e w' ⟨rfl, rfl⟩) | (go_at_call 23; with_reducible refine (G3.out _).mono ?_; rintro e w' ⟨rfl, rfl⟩) | (go_at_call 22; with_reducible refine (G4.out _).mono ?_; rintro e w' ⟨rfl, rfl⟩) | (go_at_call 22; with_reducible refine (G5.out _).mono ?_; rintro e w' ⟨rfl, rfl⟩) | go_in)
    refine bodyPost_ret (v := .tuple #[.agg #[.int .i64 2, .int .i64 I, .int .i64 O, .int .i64 0], .int .i64 0]) (by simp [results, Tryd.results14, go_sem]) rfl ⟨rfl, (by (repeat (with_reducible first | refine Below.setCell ?_ (by simp) _ | refine below_drew ?_ | refine Below.alloc ?_ (by simp) _)); exact Below.refl _ _)⟩
  · simp only [if_true, if_false, Bool.false_eq_true, ite_true, ite_false]
    go_enter Tryd.func14, Tryd.ntmps14
    go_wp2_with (first | (go_at_call 22; with_reducible refine (G1.out _).mono ?_; rintro e w' ⟨rfl, rfl⟩) | (go_at_call 23; with_reducible refine (G2.out _).mono ?_; rintro e w' ⟨rfl, rfl⟩) | (go_at_call 23; with_reducible refine (G3.out _).mono ?_; rintro e w' ⟨rfl, rfl⟩) | (go_at_call 22; with_reducible refine (G4.out _).mono ?_; rintro e w' ⟨rfl, rfl⟩) | (go_at_call 22; with_reducible refine (G5.out _).mono ?_; rintro e w' ⟨rfl, rfl⟩) | go_in)
    refine bodyPost_ret (v := .tuple #[.agg #[.int .i64 2, .int .i64 I, .int .i64 O, .int .i64 0], .int .i64 0]) (by simp [results, Tryd.results14, go_sem]) rfl ⟨rfl, (by (repeat (with_reducible first | refine Below.setCell ?_ (by simp) _ | refine below_drew ?_ | refine Below.alloc ?_ (by simp) _)); exact Below.refl _ _)⟩
  · simp only [if_true, if_false, Bool.false_eq_true, ite_true, ite_false]
    go_enter Tryd.func14, Tryd.ntmps14
    go_wp2_with (first | (go_at_call 22; with_reducible refine (G1.out _).mono ?_; rintro e w' ⟨rfl, rfl⟩) | (go_at_call 23; with_reducible refine (G2.out _).mono ?_; rintro e w' ⟨rfl, rfl⟩) | (go_at_call 23; with_reducible refine (G3.out _).mono ?_; rintro e w' ⟨rfl, rfl⟩) | (go_at_call 22; with_reducible refine (G4.out _).mono ?_; rintro e w' ⟨rfl, rfl⟩) | (go_at_call 22; with_reducible refine (G5.out _).mono ?_; rintro e w' ⟨rfl, rfl⟩) | go_in)
    refine bodyPost_ret (v := .tuple #[.agg #[.int .i64 2, .int .i64 I, .int .i64 O, .int .i64 2], .int .i64 0]) (by simp [results, Tryd.results14, go_sem]) rfl ⟨rfl, (by (repeat (with_reducible first | refine Below.setCell ?_ (by simp) _ | refine below_drew ?_ | refine Below.alloc ?_ (by simp) _)); exact Below.refl _ _)⟩
  · simp only [if_true, if_false, Bool.false_eq_true, ite_true, ite_false]
    go_enter Tryd.func14, Tryd.ntmps14
    go_wp2_with (first | (go_at_call 22; with_reducible refine (G1.out _).mono ?_; rintro e w' ⟨rfl, rfl⟩) | (go_at_call 23; with_reducible refine (G2.out _).mono ?_; rintro e w' ⟨rfl, rfl⟩) | (go_at_call 23; with_reducible refine (G3.out _).mono ?_; rintro e w' ⟨rfl, rfl⟩) | (go_at_call 22; with_reducible refine (G4.out _).mono ?_; rintro e w' ⟨rfl, rfl⟩) | (go_at_call 22; with_reducible refine (G5.out _).mono ?_; rintro e w' ⟨rfl, rfl⟩) | go_in)
    refine bodyPost_ret (v := .tuple #[.agg #[.int .i64 2, .int .i64 I, .int .i64 O, .int .i64 1], .int .i64 0]) (by simp [results, Tryd.results14, go_sem]) rfl ⟨rfl, (by (repeat (with_reducible first | refine Below.setCell ?_ (by simp) _ | refine below_drew ?_ | refine Below.alloc ?_ (by simp) _)); exact Below.refl _ _)⟩
theorem mapped_any (p q : Int) (b : Nat) (w : World) (hp : 0 ≤ p ∧ p < 4294967296) (hq : 0 ≤ q ∧ q < 4294967296) (hb : b < 64) :
    Calls Tryd.prog 14 #[.int .u32 p, .int .u32 q, .int .u32 b] w fun e w' => e = .returned (.tuple #[.agg #[.int .i64 ((rM p q (b / 2 % 8) (b % 2)).2).t, .int .i64 ((rM p q (b / 2 % 8) (b % 2)).2).i, .int .i64 ((rM p q (b / 2 % 8) (b % 2)).2).o, .int .i64 ((rM p q (b / 2 % 8) (b % 2)).2).s], .int .i64 (rM p q (b / 2 % 8) (b % 2)).1]) ∧ Below w.heap.size w w' := by
  have a1 : bits .and .u32 ((b : Int) / 8) 1 = (b : Int) / 8 % 2 := and1 _ (by omega)
  have a2 : bits .and .u32 ((b : Int) / 2) 3 = (b : Int) / 2 % 4 := and3 _ (by omega)
  have a3 : bits .and .u32 (b : Int) 1 = ((b % 2 : Nat) : Int) := by rw [and1 _ (by omega)]; omega
  have w1 : IntKind.i64.wrap ((b : Int) / 8 % 2) = (b : Int) / 8 % 2 := by rw [IntKind.wrap_i64]; omega
  have w2 : IntKind.i64.wrap (4 * ((b : Int) / 8 % 2)) = 4 * ((b : Int) / 8 % 2) := by rw [IntKind.wrap_i64]; omega
  have w3 : IntKind.i64.wrap ((b : Int) / 2 % 4) = (b : Int) / 2 % 4 := by rw [IntKind.wrap_i64]; omega
  have w4 : IntKind.i64.wrap (4 * ((b : Int) / 8 % 2) + (b : Int) / 2 % 4) = ((b / 2 % 8 : Nat) : Int) := by rw [IntKind.wrap_i64]; omega
  generalize hn : b / 2 % 8 = n at *
  generalize hs : b % 2 = s at *
  have ln : n < 8 := by omega
  have ls : s < 2 := by omega
  have P1 : (∀ w, Calls Tryd.prog 22 #[.int .u32 p, .int .i64 (2 * n : Nat)] w fun e w' => e = .returned (.int .i64 (pr p (2 * n))) ∧ w = w') := fun w => field_any p _ w hp (by omega)
  have w5 : IntKind.i64.wrap (2 * (n : Int)) = ((2 * n : Nat) : Int) := by rw [IntKind.wrap_i64]; omega
  have w6 : IntKind.i64.wrap (s : Int) = (s : Int) := by rw [IntKind.wrap_i64]; omega
  have w8 : IntKind.i64.wrap (24 + (n : Int)) = ((24 + n : Nat) : Int) := by rw [IntKind.wrap_i64]; omega
  have lo := pr_lo p (2 * n)
  have hi := pr_hi p (2 * n)
  have hsh : ∀ k, shF p n k = if (bt p k == 1) = true then (if (bt p (24 + n) == 1) = true then 1 else 2) else 0 := by
    intro k
    have b1 := bt_lo p k
    have b2 := bt_hi p k
    unfold shF
    simp only [beq_iff_eq]
    by_cases h0 : bt p k = 0
    · rw [if_pos h0, if_neg (by omega)]
    · rw [if_neg h0, if_pos (show bt p k = 1 by omega)]
  unfold rM
  by_cases h6 : n = 6
  · subst h6
    rw [if_pos (.inl rfl)]
    exact map_6 p q _ _ _ _ _ b _ w a1 w1 w2 a2 w3 w4 w5 P1 rfl
  · have n6 : ((n : Int) == 6) = false := by simp; omega
    by_cases h3 : pr p (2 * n) = 3
    · rw [if_pos (.inr h3)]
      rw [h3] at P1
      exact map_3 p q _ _ _ _ _ b w a1 w1 w2 a2 w3 w4 w5 P1 n6
    · rw [if_neg (by omega)]
      by_cases h0 : pr p (2 * n) = 0
      · rw [if_pos h0]
        rw [h0] at P1
        exact map_0 p q _ _ _ _ _ b w a1 w1 w2 a2 w3 w4 w5 P1 n6
      · rw [if_neg h0]
        by_cases h1 : pr p (2 * n) = 1
        · rw [if_pos h1]
          rw [h1] at P1
          have h := map_1 p q _ _ _ _ _ b _ ((16 + s : Nat) : Int) _ _ _ w a1 w1 w2 a2 w3 w4 w5 P1 n6 a3 w6 (by rw [IntKind.wrap_i64]; omega) w8 (fun w => set_any p _ w hp (by omega)) (fun w => set_any p _ w hp (by omega))
          rw [← hsh] at h
          exact h
        · rw [if_neg h1]
          rw [show pr p (2 * n) = 2 by omega] at P1
          have h := map_2 p q _ _ _ _ _ b _ ((18 + s : Nat) : Int) _ _ _ ((2 * n + 16 : Nat) : Int) _ _ w a1 w1 w2 a2 w3 w4 w5 P1 n6 a3 w6 (by rw [IntKind.wrap_i64]; omega) w8 (fun w => set_any p _ w hp (by omega)) (fun w => set_any p _ w hp (by omega)) (by rw [IntKind.wrap_i64]; omega) (fun w => field_any q _ w hq (by omega)) (fun w => field_any q _ w hq (by omega))
          rw [← hsh] at h
          exact h
end Go.Proofs.YtmcloaonpkfibabDoor
