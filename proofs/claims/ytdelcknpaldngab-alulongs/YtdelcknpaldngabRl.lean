import Derived.Test.YtdelcknpaldngabRk
namespace Go.Proofs.Ytdelcknpaldngab
open Go.RowKit
set_option linter.unusedVariables false
set_option linter.unusedSimpArgs false
theorem jbit_top (x : Nat) (w : World) (hx : x < 4294967296) :
    Calls Try.prog 29 #[.int .u32 x, .int .i64 31] w fun e w' => e = .returned (.bool (decide (2147483648 ≤ (x : Int)))) ∧ w' = w := by
  have := jbit_nat x 31 w hx (by decide)
  have e : decide (x / 2 ^ 31 % 2 = 1) = decide (2147483648 ≤ (x : Int)) := by
    by_cases h : 2147483648 ≤ x
    · rw [decide_eq_true (show x / 2 ^ 31 % 2 = 1 by omega), decide_eq_true (by omega)]
    · rw [decide_eq_false (show ¬ x / 2 ^ 31 % 2 = 1 by omega), decide_eq_false (by omega)]
  rwa [e] at this
set_option maxRecDepth 100000 in
set_option maxHeartbeats 1000000 in
theorem jlong_19 (m s h l P : Int) (bm bs : Bool) (w : World) (m0 : 0 ≤ m) (m1 : m < 4294967296) (s0 : 0 ≤ s) (s1 : s < 4294967296) (h0 : 0 ≤ h) (h1 : h < 4294967296) (l0 : 0 ≤ l) (l1 : l < 4294967296) (p0 : 0 ≤ P) (p1 : P < 18446744073709551616)
    (HP : Hid (∀ w, Calls Try.prog 37 #[.int .u32 m, .int .u32 s] w fun e w' => e = .returned (.int .u64 P) ∧ w' = w))
    (HM : Hid (∀ w, Calls Try.prog 29 #[.int .u32 m, .int .i64 31] w fun e w' => e = .returned (.bool bm) ∧ w' = w)) (HS : Hid (∀ w, Calls Try.prog 29 #[.int .u32 s, .int .i64 31] w fun e w' => e = .returned (.bool bs) ∧ w' = w)) :
    Calls Try.prog 20 #[.int .i64 19, .int .u32 m, .int .u32 s, .int .u32 h, .int .u32 l] w fun e w' => e = .returned (.tuple #[.int .u32 (0), .int .u32 (P % 4294967296), .bool true]) ∧ w' = w := by
  go_enter Try.func20, Try.ntmps20
  go_wp2_with (first | (go_at_call 37; refine (HP.out _).mono ?_; rintro e w' ⟨rfl, rfl⟩) | (go_at_call_of 29 (Value.int IntKind.u32 m); refine (HM.out _).mono ?_; rintro e w' ⟨rfl, rfl⟩) | (go_at_call_of 29 (Value.int IntKind.u32 s); refine (HS.out _).mono ?_; rintro e w' ⟨rfl, rfl⟩))
  exact bodyPost_ret (v := .tuple #[.int .u32 (0), .int .u32 (P % 4294967296), .bool true]) (by simp [results, Try.results20, go_sem]) rfl ⟨rfl, rfl⟩
set_option maxRecDepth 100000 in
set_option maxHeartbeats 1000000 in
theorem jlong_20 (m s h l P : Int) (bm bs : Bool) (w : World) (m0 : 0 ≤ m) (m1 : m < 4294967296) (s0 : 0 ≤ s) (s1 : s < 4294967296) (h0 : 0 ≤ h) (h1 : h < 4294967296) (l0 : 0 ≤ l) (l1 : l < 4294967296) (p0 : 0 ≤ P) (p1 : P < 18446744073709551616)
    (HP : Hid (∀ w, Calls Try.prog 37 #[.int .u32 m, .int .u32 s] w fun e w' => e = .returned (.int .u64 P) ∧ w' = w))
    (HM : Hid (∀ w, Calls Try.prog 29 #[.int .u32 m, .int .i64 31] w fun e w' => e = .returned (.bool bm) ∧ w' = w)) (HS : Hid (∀ w, Calls Try.prog 29 #[.int .u32 s, .int .i64 31] w fun e w' => e = .returned (.bool bs) ∧ w' = w)) :
    Calls Try.prog 20 #[.int .i64 20, .int .u32 m, .int .u32 s, .int .u32 h, .int .u32 l] w fun e w' => e = .returned (.tuple #[.int .u32 (0), .int .u32 ((P + l) % 4294967296), .bool true]) ∧ w' = w := by
  go_enter Try.func20, Try.ntmps20
  go_wp2_with (first | (go_at_call 37; refine (HP.out _).mono ?_; rintro e w' ⟨rfl, rfl⟩) | (go_at_call_of 29 (Value.int IntKind.u32 m); refine (HM.out _).mono ?_; rintro e w' ⟨rfl, rfl⟩) | (go_at_call_of 29 (Value.int IntKind.u32 s); refine (HS.out _).mono ?_; rintro e w' ⟨rfl, rfl⟩))
  exact bodyPost_ret (v := .tuple #[.int .u32 (0), .int .u32 ((P + l) % 4294967296), .bool true]) (by simp [results, Try.results20, go_sem]) rfl ⟨rfl, rfl⟩
set_option maxRecDepth 100000 in
set_option maxHeartbeats 1000000 in
theorem jlong_21 (m s h l P : Int) (bm bs : Bool) (w : World) (m0 : 0 ≤ m) (m1 : m < 4294967296) (s0 : 0 ≤ s) (s1 : s < 4294967296) (h0 : 0 ≤ h) (h1 : h < 4294967296) (l0 : 0 ≤ l) (l1 : l < 4294967296) (p0 : 0 ≤ P) (p1 : P < 18446744073709551616)
    (HP : Hid (∀ w, Calls Try.prog 37 #[.int .u32 m, .int .u32 s] w fun e w' => e = .returned (.int .u64 P) ∧ w' = w))
    (HM : Hid (∀ w, Calls Try.prog 29 #[.int .u32 m, .int .i64 31] w fun e w' => e = .returned (.bool bm) ∧ w' = w)) (HS : Hid (∀ w, Calls Try.prog 29 #[.int .u32 s, .int .i64 31] w fun e w' => e = .returned (.bool bs) ∧ w' = w)) :
    Calls Try.prog 20 #[.int .i64 21, .int .u32 m, .int .u32 s, .int .u32 h, .int .u32 l] w fun e w' => e = .returned (.tuple #[.int .u32 (P / 4294967296), .int .u32 (P % 4294967296), .bool true]) ∧ w' = w := by
  go_enter Try.func20, Try.ntmps20
  go_wp2_with (first | (go_at_call 37; refine (HP.out _).mono ?_; rintro e w' ⟨rfl, rfl⟩) | (go_at_call_of 29 (Value.int IntKind.u32 m); refine (HM.out _).mono ?_; rintro e w' ⟨rfl, rfl⟩) | (go_at_call_of 29 (Value.int IntKind.u32 s); refine (HS.out _).mono ?_; rintro e w' ⟨rfl, rfl⟩))
  exact bodyPost_ret (v := .tuple #[.int .u32 (P / 4294967296), .int .u32 (P % 4294967296), .bool true]) (by simp [results, Try.results20, go_sem]) rfl ⟨rfl, rfl⟩
set_option maxRecDepth 100000 in
set_option maxHeartbeats 1000000 in
theorem jlong_22 (m s h l P : Int) (bm bs : Bool) (w : World) (m0 : 0 ≤ m) (m1 : m < 4294967296) (s0 : 0 ≤ s) (s1 : s < 4294967296) (h0 : 0 ≤ h) (h1 : h < 4294967296) (l0 : 0 ≤ l) (l1 : l < 4294967296) (p0 : 0 ≤ P) (p1 : P < 18446744073709551616) (Q : Int) (q0 : 0 ≤ Q) (q1 : Q < 18446744073709551616) (hQ : IntKind.u64.wrap (IntKind.u64.wrap (P + h * 4294967296) + l) = Q)
    (HP : Hid (∀ w, Calls Try.prog 37 #[.int .u32 m, .int .u32 s] w fun e w' => e = .returned (.int .u64 P) ∧ w' = w))
    (HM : Hid (∀ w, Calls Try.prog 29 #[.int .u32 m, .int .i64 31] w fun e w' => e = .returned (.bool bm) ∧ w' = w)) (HS : Hid (∀ w, Calls Try.prog 29 #[.int .u32 s, .int .i64 31] w fun e w' => e = .returned (.bool bs) ∧ w' = w)) :
    Calls Try.prog 20 #[.int .i64 22, .int .u32 m, .int .u32 s, .int .u32 h, .int .u32 l] w fun e w' => e = .returned (.tuple #[.int .u32 (Q / 4294967296), .int .u32 (Q % 4294967296), .bool true]) ∧ w' = w := by
  go_enter Try.func20, Try.ntmps20
  go_wp2_with (first | (go_at_call 37; refine (HP.out _).mono ?_; rintro e w' ⟨rfl, rfl⟩) | (go_at_call_of 29 (Value.int IntKind.u32 m); refine (HM.out _).mono ?_; rintro e w' ⟨rfl, rfl⟩) | (go_at_call_of 29 (Value.int IntKind.u32 s); refine (HS.out _).mono ?_; rintro e w' ⟨rfl, rfl⟩))
  exact bodyPost_ret (v := .tuple #[.int .u32 (Q / 4294967296), .int .u32 (Q % 4294967296), .bool true]) (by simp [results, Try.results20, go_sem]) rfl ⟨rfl, rfl⟩
set_option maxRecDepth 100000 in
set_option maxHeartbeats 1000000 in
theorem jlong_23tt (m s h l P : Int) (w : World) (m0 : 0 ≤ m) (m1 : m < 4294967296) (s0 : 0 ≤ s) (s1 : s < 4294967296) (h0 : 0 ≤ h) (h1 : h < 4294967296) (l0 : 0 ≤ l) (l1 : l < 4294967296) (p0 : 0 ≤ P) (p1 : P < 18446744073709551616) (Q : Int) (q0 : 0 ≤ Q) (q1 : Q < 18446744073709551616) (hQ : IntKind.u64.wrap (IntKind.u64.wrap (P - s * 4294967296) - m * 4294967296) = Q)
    (HP : Hid (∀ w, Calls Try.prog 37 #[.int .u32 m, .int .u32 s] w fun e w' => e = .returned (.int .u64 P) ∧ w' = w))
    (HM : Hid (∀ w, Calls Try.prog 29 #[.int .u32 m, .int .i64 31] w fun e w' => e = .returned (.bool true) ∧ w' = w)) (HS : Hid (∀ w, Calls Try.prog 29 #[.int .u32 s, .int .i64 31] w fun e w' => e = .returned (.bool true) ∧ w' = w)) :
    Calls Try.prog 20 #[.int .i64 23, .int .u32 m, .int .u32 s, .int .u32 h, .int .u32 l] w fun e w' => e = .returned (.tuple #[.int .u32 (Q / 4294967296), .int .u32 (Q % 4294967296), .bool true]) ∧ w' = w := by
  go_enter Try.func20, Try.ntmps20
  go_wp2_with (first | (go_at_call 37; refine (HP.out _).mono ?_; rintro e w' ⟨rfl, rfl⟩) | (go_at_call_of 29 (Value.int IntKind.u32 m); refine (HM.out _).mono ?_; rintro e w' ⟨rfl, rfl⟩) | (go_at_call_of 29 (Value.int IntKind.u32 s); refine (HS.out _).mono ?_; rintro e w' ⟨rfl, rfl⟩))
  exact bodyPost_ret (v := .tuple #[.int .u32 (Q / 4294967296), .int .u32 (Q % 4294967296), .bool true]) (by simp [results, Try.results20, go_sem]) rfl ⟨rfl, rfl⟩
set_option maxRecDepth 100000 in
set_option maxHeartbeats 1000000 in
theorem jlong_24tt (m s h l P : Int) (w : World) (m0 : 0 ≤ m) (m1 : m < 4294967296) (s0 : 0 ≤ s) (s1 : s < 4294967296) (h0 : 0 ≤ h) (h1 : h < 4294967296) (l0 : 0 ≤ l) (l1 : l < 4294967296) (p0 : 0 ≤ P) (p1 : P < 18446744073709551616) (Q : Int) (q0 : 0 ≤ Q) (q1 : Q < 18446744073709551616) (hQ : IntKind.u64.wrap (IntKind.u64.wrap (IntKind.u64.wrap (IntKind.u64.wrap (P - s * 4294967296) - m * 4294967296) + h * 4294967296) + l) = Q)
    (HP : Hid (∀ w, Calls Try.prog 37 #[.int .u32 m, .int .u32 s] w fun e w' => e = .returned (.int .u64 P) ∧ w' = w))
    (HM : Hid (∀ w, Calls Try.prog 29 #[.int .u32 m, .int .i64 31] w fun e w' => e = .returned (.bool true) ∧ w' = w)) (HS : Hid (∀ w, Calls Try.prog 29 #[.int .u32 s, .int .i64 31] w fun e w' => e = .returned (.bool true) ∧ w' = w)) :
    Calls Try.prog 20 #[.int .i64 24, .int .u32 m, .int .u32 s, .int .u32 h, .int .u32 l] w fun e w' => e = .returned (.tuple #[.int .u32 (Q / 4294967296), .int .u32 (Q % 4294967296), .bool true]) ∧ w' = w := by
  go_enter Try.func20, Try.ntmps20
  go_wp2_with (first | (go_at_call 37; refine (HP.out _).mono ?_; rintro e w' ⟨rfl, rfl⟩) | (go_at_call_of 29 (Value.int IntKind.u32 m); refine (HM.out _).mono ?_; rintro e w' ⟨rfl, rfl⟩) | (go_at_call_of 29 (Value.int IntKind.u32 s); refine (HS.out _).mono ?_; rintro e w' ⟨rfl, rfl⟩))
  exact bodyPost_ret (v := .tuple #[.int .u32 (Q / 4294967296), .int .u32 (Q % 4294967296), .bool true]) (by simp [results, Try.results20, go_sem]) rfl ⟨rfl, rfl⟩
set_option maxRecDepth 100000 in
set_option maxHeartbeats 1000000 in
theorem jlong_23tf (m s h l P : Int) (w : World) (m0 : 0 ≤ m) (m1 : m < 4294967296) (s0 : 0 ≤ s) (s1 : s < 4294967296) (h0 : 0 ≤ h) (h1 : h < 4294967296) (l0 : 0 ≤ l) (l1 : l < 4294967296) (p0 : 0 ≤ P) (p1 : P < 18446744073709551616) (Q : Int) (q0 : 0 ≤ Q) (q1 : Q < 18446744073709551616) (hQ : IntKind.u64.wrap (P - s * 4294967296) = Q)
    (HP : Hid (∀ w, Calls Try.prog 37 #[.int .u32 m, .int .u32 s] w fun e w' => e = .returned (.int .u64 P) ∧ w' = w))
    (HM : Hid (∀ w, Calls Try.prog 29 #[.int .u32 m, .int .i64 31] w fun e w' => e = .returned (.bool true) ∧ w' = w)) (HS : Hid (∀ w, Calls Try.prog 29 #[.int .u32 s, .int .i64 31] w fun e w' => e = .returned (.bool false) ∧ w' = w)) :
    Calls Try.prog 20 #[.int .i64 23, .int .u32 m, .int .u32 s, .int .u32 h, .int .u32 l] w fun e w' => e = .returned (.tuple #[.int .u32 (Q / 4294967296), .int .u32 (Q % 4294967296), .bool true]) ∧ w' = w := by
  go_enter Try.func20, Try.ntmps20
  go_wp2_with (first | (go_at_call 37; refine (HP.out _).mono ?_; rintro e w' ⟨rfl, rfl⟩) | (go_at_call_of 29 (Value.int IntKind.u32 m); refine (HM.out _).mono ?_; rintro e w' ⟨rfl, rfl⟩) | (go_at_call_of 29 (Value.int IntKind.u32 s); refine (HS.out _).mono ?_; rintro e w' ⟨rfl, rfl⟩))
  exact bodyPost_ret (v := .tuple #[.int .u32 (Q / 4294967296), .int .u32 (Q % 4294967296), .bool true]) (by simp [results, Try.results20, go_sem]) rfl ⟨rfl, rfl⟩
set_option maxRecDepth 100000 in
set_option maxHeartbeats 1000000 in
theorem jlong_24tf (m s h l P : Int) (w : World) (m0 : 0 ≤ m) (m1 : m < 4294967296) (s0 : 0 ≤ s) (s1 : s < 4294967296) (h0 : 0 ≤ h) (h1 : h < 4294967296) (l0 : 0 ≤ l) (l1 : l < 4294967296) (p0 : 0 ≤ P) (p1 : P < 18446744073709551616) (Q : Int) (q0 : 0 ≤ Q) (q1 : Q < 18446744073709551616) (hQ : IntKind.u64.wrap (IntKind.u64.wrap (IntKind.u64.wrap (P - s * 4294967296) + h * 4294967296) + l) = Q)
    (HP : Hid (∀ w, Calls Try.prog 37 #[.int .u32 m, .int .u32 s] w fun e w' => e = .returned (.int .u64 P) ∧ w' = w))
    (HM : Hid (∀ w, Calls Try.prog 29 #[.int .u32 m, .int .i64 31] w fun e w' => e = .returned (.bool true) ∧ w' = w)) (HS : Hid (∀ w, Calls Try.prog 29 #[.int .u32 s, .int .i64 31] w fun e w' => e = .returned (.bool false) ∧ w' = w)) :
    Calls Try.prog 20 #[.int .i64 24, .int .u32 m, .int .u32 s, .int .u32 h, .int .u32 l] w fun e w' => e = .returned (.tuple #[.int .u32 (Q / 4294967296), .int .u32 (Q % 4294967296), .bool true]) ∧ w' = w := by
  go_enter Try.func20, Try.ntmps20
  go_wp2_with (first | (go_at_call 37; refine (HP.out _).mono ?_; rintro e w' ⟨rfl, rfl⟩) | (go_at_call_of 29 (Value.int IntKind.u32 m); refine (HM.out _).mono ?_; rintro e w' ⟨rfl, rfl⟩) | (go_at_call_of 29 (Value.int IntKind.u32 s); refine (HS.out _).mono ?_; rintro e w' ⟨rfl, rfl⟩))
  exact bodyPost_ret (v := .tuple #[.int .u32 (Q / 4294967296), .int .u32 (Q % 4294967296), .bool true]) (by simp [results, Try.results20, go_sem]) rfl ⟨rfl, rfl⟩
set_option maxRecDepth 100000 in
set_option maxHeartbeats 1000000 in
theorem jlong_23ft (m s h l P : Int) (w : World) (m0 : 0 ≤ m) (m1 : m < 4294967296) (s0 : 0 ≤ s) (s1 : s < 4294967296) (h0 : 0 ≤ h) (h1 : h < 4294967296) (l0 : 0 ≤ l) (l1 : l < 4294967296) (p0 : 0 ≤ P) (p1 : P < 18446744073709551616) (Q : Int) (q0 : 0 ≤ Q) (q1 : Q < 18446744073709551616) (hQ : IntKind.u64.wrap (P - m * 4294967296) = Q)
    (HP : Hid (∀ w, Calls Try.prog 37 #[.int .u32 m, .int .u32 s] w fun e w' => e = .returned (.int .u64 P) ∧ w' = w))
    (HM : Hid (∀ w, Calls Try.prog 29 #[.int .u32 m, .int .i64 31] w fun e w' => e = .returned (.bool false) ∧ w' = w)) (HS : Hid (∀ w, Calls Try.prog 29 #[.int .u32 s, .int .i64 31] w fun e w' => e = .returned (.bool true) ∧ w' = w)) :
    Calls Try.prog 20 #[.int .i64 23, .int .u32 m, .int .u32 s, .int .u32 h, .int .u32 l] w fun e w' => e = .returned (.tuple #[.int .u32 (Q / 4294967296), .int .u32 (Q % 4294967296), .bool true]) ∧ w' = w := by
  go_enter Try.func20, Try.ntmps20
  go_wp2_with (first | (go_at_call 37; refine (HP.out _).mono ?_; rintro e w' ⟨rfl, rfl⟩) | (go_at_call_of 29 (Value.int IntKind.u32 m); refine (HM.out _).mono ?_; rintro e w' ⟨rfl, rfl⟩) | (go_at_call_of 29 (Value.int IntKind.u32 s); refine (HS.out _).mono ?_; rintro e w' ⟨rfl, rfl⟩))
  exact bodyPost_ret (v := .tuple #[.int .u32 (Q / 4294967296), .int .u32 (Q % 4294967296), .bool true]) (by simp [results, Try.results20, go_sem]) rfl ⟨rfl, rfl⟩
set_option maxRecDepth 100000 in
set_option maxHeartbeats 1000000 in
theorem jlong_24ft (m s h l P : Int) (w : World) (m0 : 0 ≤ m) (m1 : m < 4294967296) (s0 : 0 ≤ s) (s1 : s < 4294967296) (h0 : 0 ≤ h) (h1 : h < 4294967296) (l0 : 0 ≤ l) (l1 : l < 4294967296) (p0 : 0 ≤ P) (p1 : P < 18446744073709551616) (Q : Int) (q0 : 0 ≤ Q) (q1 : Q < 18446744073709551616) (hQ : IntKind.u64.wrap (IntKind.u64.wrap (IntKind.u64.wrap (P - m * 4294967296) + h * 4294967296) + l) = Q)
    (HP : Hid (∀ w, Calls Try.prog 37 #[.int .u32 m, .int .u32 s] w fun e w' => e = .returned (.int .u64 P) ∧ w' = w))
    (HM : Hid (∀ w, Calls Try.prog 29 #[.int .u32 m, .int .i64 31] w fun e w' => e = .returned (.bool false) ∧ w' = w)) (HS : Hid (∀ w, Calls Try.prog 29 #[.int .u32 s, .int .i64 31] w fun e w' => e = .returned (.bool true) ∧ w' = w)) :
    Calls Try.prog 20 #[.int .i64 24, .int .u32 m, .int .u32 s, .int .u32 h, .int .u32 l] w fun e w' => e = .returned (.tuple #[.int .u32 (Q / 4294967296), .int .u32 (Q % 4294967296), .bool true]) ∧ w' = w := by
  go_enter Try.func20, Try.ntmps20
  go_wp2_with (first | (go_at_call 37; refine (HP.out _).mono ?_; rintro e w' ⟨rfl, rfl⟩) | (go_at_call_of 29 (Value.int IntKind.u32 m); refine (HM.out _).mono ?_; rintro e w' ⟨rfl, rfl⟩) | (go_at_call_of 29 (Value.int IntKind.u32 s); refine (HS.out _).mono ?_; rintro e w' ⟨rfl, rfl⟩))
  exact bodyPost_ret (v := .tuple #[.int .u32 (Q / 4294967296), .int .u32 (Q % 4294967296), .bool true]) (by simp [results, Try.results20, go_sem]) rfl ⟨rfl, rfl⟩
set_option maxRecDepth 100000 in
set_option maxHeartbeats 1000000 in
theorem jlong_23ff (m s h l P : Int) (w : World) (m0 : 0 ≤ m) (m1 : m < 4294967296) (s0 : 0 ≤ s) (s1 : s < 4294967296) (h0 : 0 ≤ h) (h1 : h < 4294967296) (l0 : 0 ≤ l) (l1 : l < 4294967296) (p0 : 0 ≤ P) (p1 : P < 18446744073709551616)
    (HP : Hid (∀ w, Calls Try.prog 37 #[.int .u32 m, .int .u32 s] w fun e w' => e = .returned (.int .u64 P) ∧ w' = w))
    (HM : Hid (∀ w, Calls Try.prog 29 #[.int .u32 m, .int .i64 31] w fun e w' => e = .returned (.bool false) ∧ w' = w)) (HS : Hid (∀ w, Calls Try.prog 29 #[.int .u32 s, .int .i64 31] w fun e w' => e = .returned (.bool false) ∧ w' = w)) :
    Calls Try.prog 20 #[.int .i64 23, .int .u32 m, .int .u32 s, .int .u32 h, .int .u32 l] w fun e w' => e = .returned (.tuple #[.int .u32 (P / 4294967296), .int .u32 (P % 4294967296), .bool true]) ∧ w' = w := by
  go_enter Try.func20, Try.ntmps20
  go_wp2_with (first | (go_at_call 37; refine (HP.out _).mono ?_; rintro e w' ⟨rfl, rfl⟩) | (go_at_call_of 29 (Value.int IntKind.u32 m); refine (HM.out _).mono ?_; rintro e w' ⟨rfl, rfl⟩) | (go_at_call_of 29 (Value.int IntKind.u32 s); refine (HS.out _).mono ?_; rintro e w' ⟨rfl, rfl⟩))
  exact bodyPost_ret (v := .tuple #[.int .u32 (P / 4294967296), .int .u32 (P % 4294967296), .bool true]) (by simp [results, Try.results20, go_sem]) rfl ⟨rfl, rfl⟩
set_option maxRecDepth 100000 in
set_option maxHeartbeats 1000000 in
theorem jlong_24ff (m s h l P : Int) (w : World) (m0 : 0 ≤ m) (m1 : m < 4294967296) (s0 : 0 ≤ s) (s1 : s < 4294967296) (h0 : 0 ≤ h) (h1 : h < 4294967296) (l0 : 0 ≤ l) (l1 : l < 4294967296) (p0 : 0 ≤ P) (p1 : P < 18446744073709551616) (Q : Int) (q0 : 0 ≤ Q) (q1 : Q < 18446744073709551616) (hQ : IntKind.u64.wrap (IntKind.u64.wrap (P + h * 4294967296) + l) = Q)
    (HP : Hid (∀ w, Calls Try.prog 37 #[.int .u32 m, .int .u32 s] w fun e w' => e = .returned (.int .u64 P) ∧ w' = w))
    (HM : Hid (∀ w, Calls Try.prog 29 #[.int .u32 m, .int .i64 31] w fun e w' => e = .returned (.bool false) ∧ w' = w)) (HS : Hid (∀ w, Calls Try.prog 29 #[.int .u32 s, .int .i64 31] w fun e w' => e = .returned (.bool false) ∧ w' = w)) :
    Calls Try.prog 20 #[.int .i64 24, .int .u32 m, .int .u32 s, .int .u32 h, .int .u32 l] w fun e w' => e = .returned (.tuple #[.int .u32 (Q / 4294967296), .int .u32 (Q % 4294967296), .bool true]) ∧ w' = w := by
  go_enter Try.func20, Try.ntmps20
  go_wp2_with (first | (go_at_call 37; refine (HP.out _).mono ?_; rintro e w' ⟨rfl, rfl⟩) | (go_at_call_of 29 (Value.int IntKind.u32 m); refine (HM.out _).mono ?_; rintro e w' ⟨rfl, rfl⟩) | (go_at_call_of 29 (Value.int IntKind.u32 s); refine (HS.out _).mono ?_; rintro e w' ⟨rfl, rfl⟩))
  exact bodyPost_ret (v := .tuple #[.int .u32 (Q / 4294967296), .int .u32 (Q % 4294967296), .bool true]) (by simp [results, Try.results20, go_sem]) rfl ⟨rfl, rfl⟩
set_option maxRecDepth 100000 in
set_option maxHeartbeats 1000000 in
theorem jlong_no (op m s h l P : Int) (bm bs : Bool) (w : World) (m0 : 0 ≤ m) (m1 : m < 4294967296) (s0 : 0 ≤ s) (s1 : s < 4294967296) (h0 : 0 ≤ h) (h1 : h < 4294967296) (l0 : 0 ≤ l) (l1 : l < 4294967296) (p0 : 0 ≤ P) (p1 : P < 18446744073709551616) (ho : ¬ (19 ≤ op ∧ op ≤ 24))
    (HP : Hid (∀ w, Calls Try.prog 37 #[.int .u32 m, .int .u32 s] w fun e w' => e = .returned (.int .u64 P) ∧ w' = w))
    (HM : Hid (∀ w, Calls Try.prog 29 #[.int .u32 m, .int .i64 31] w fun e w' => e = .returned (.bool bm) ∧ w' = w)) (HS : Hid (∀ w, Calls Try.prog 29 #[.int .u32 s, .int .i64 31] w fun e w' => e = .returned (.bool bs) ∧ w' = w)) :
    Calls Try.prog 20 #[.int .i64 op, .int .u32 m, .int .u32 s, .int .u32 h, .int .u32 l] w fun e w' => e = .returned (.tuple #[.int .u32 (0), .int .u32 (0), .bool false]) ∧ w' = w := by
  have z19 : (op == 19) = false := by simp; omega
  have z20 : (op == 20) = false := by simp; omega
  have z21 : (op == 21) = false := by simp; omega
  have z22 : (op == 22) = false := by simp; omega
  have z23 : (op == 23) = false := by simp; omega
  have z24 : (op == 24) = false := by simp; omega
  clear ho
  go_enter Try.func20, Try.ntmps20
  go_wp2_with (first | (go_at_call 37; refine (HP.out _).mono ?_; rintro e w' ⟨rfl, rfl⟩) | (go_at_call_of 29 (Value.int IntKind.u32 m); refine (HM.out _).mono ?_; rintro e w' ⟨rfl, rfl⟩) | (go_at_call_of 29 (Value.int IntKind.u32 s); refine (HS.out _).mono ?_; rintro e w' ⟨rfl, rfl⟩))
  exact bodyPost_ret (v := .tuple #[.int .u32 (0), .int .u32 (0), .bool false]) (by simp [results, Try.results20, go_sem]) rfl ⟨rfl, rfl⟩
set_option maxHeartbeats 1000000 in
theorem jlong_any (op m s h l : Int) (w : World) (m0 : 0 ≤ m) (m1 : m < 4294967296) (s0 : 0 ≤ s) (s1 : s < 4294967296) (h0 : 0 ≤ h) (h1 : h < 4294967296) (l0 : 0 ≤ l) (l1 : l < 4294967296) :
    Calls Try.prog 20 #[.int .i64 op, .int .u32 m, .int .u32 s, .int .u32 h, .int .u32 l] w fun e w' => e = .returned (.tuple #[.int .u32 (loH op m s h l), .int .u32 (loL op m s h l), .bool (loO op)]) ∧ w' = w := by
  have HP : Hid (∀ w, Calls Try.prog 37 #[.int .u32 m, .int .u32 s] w fun e w' => e = .returned (.int .u64 (m * s)) ∧ w' = w) := by
    intro w
    obtain ⟨M, rfl⟩ := Int.eq_ofNat_of_zero_le m0
    obtain ⟨S, rfl⟩ := Int.eq_ofNat_of_zero_le s0
    exact jproduct_any M S w (by omega) (by omega)
  have HM : Hid (∀ w, Calls Try.prog 29 #[.int .u32 m, .int .i64 31] w fun e w' => e = .returned (.bool (decide (2147483648 ≤ m))) ∧ w' = w) := by
    intro w
    obtain ⟨M, rfl⟩ := Int.eq_ofNat_of_zero_le m0
    exact jbit_top M w (by omega)
  have HS : Hid (∀ w, Calls Try.prog 29 #[.int .u32 s, .int .i64 31] w fun e w' => e = .returned (.bool (decide (2147483648 ≤ s))) ∧ w' = w) := by
    intro w
    obtain ⟨M, rfl⟩ := Int.eq_ofNat_of_zero_le s0
    exact jbit_top M w (by omega)
  have p0 : 0 ≤ m * s := Int.mul_nonneg m0 s0
  have p1 : m * s < 18446744073709551616 := by
    have : m * s ≤ 4294967295 * 4294967295 := Int.mul_le_mul (by omega) (by omega) s0 (by omega)
    omega
  have ha : 0 ≤ acP h l ∧ acP h l < 18446744073709551616 := by unfold acP; omega
  by_cases ho : 19 ≤ op ∧ op ≤ 24
  · rcases (show op = 19 ∨ op = 20 ∨ op = 21 ∨ op = 22 ∨ op = 23 ∨ op = 24 by omega) with rfl | rfl | rfl | rfl | rfl | rfl
    · exact jlong_19 m s h l _ _ _ w m0 m1 s0 s1 h0 h1 l0 l1 p0 p1 HP HM HS
    · exact jlong_20 m s h l _ _ _ w m0 m1 s0 s1 h0 h1 l0 l1 p0 p1 HP HM HS
    · exact jlong_21 m s h l _ _ _ w m0 m1 s0 s1 h0 h1 l0 l1 p0 p1 HP HM HS
    · exact jlong_22 m s h l _ _ _ w m0 m1 s0 s1 h0 h1 l0 l1 p0 p1 ((m * s + acP h l) % 18446744073709551616) (by omega) (by omega) (by rw [IntKind.wrap_u64, IntKind.wrap_u64]; unfold acP; omega) HP HM HS
    · have sp0 : 0 ≤ spP m s := by unfold spP; omega
      have sp1 : spP m s < 18446744073709551616 := by unfold spP; omega
      by_cases hm : 2147483648 ≤ m <;> by_cases hs : 2147483648 ≤ s
      · rw [decide_eq_true hm] at HM
        rw [decide_eq_true hs] at HS
        have e : IntKind.u64.wrap (IntKind.u64.wrap (m * s - s * 4294967296) - m * 4294967296) = spP m s := by
          unfold spP
          rw [if_pos hm, if_pos hs]
          repeat rw [IntKind.wrap_u64]
          generalize m * s = P at *
          omega
        exact jlong_23tt m s h l _ w m0 m1 s0 s1 h0 h1 l0 l1 p0 p1 (spP m s) (by omega) (by omega) e HP HM HS
      · rw [decide_eq_true hm] at HM
        rw [decide_eq_false hs] at HS
        have e : IntKind.u64.wrap (m * s - s * 4294967296) = spP m s := by
          unfold spP
          rw [if_pos hm, if_neg hs]
          repeat rw [IntKind.wrap_u64]
          generalize m * s = P at *
          omega
        exact jlong_23tf m s h l _ w m0 m1 s0 s1 h0 h1 l0 l1 p0 p1 (spP m s) (by omega) (by omega) e HP HM HS
      · rw [decide_eq_false hm] at HM
        rw [decide_eq_true hs] at HS
        have e : IntKind.u64.wrap (m * s - m * 4294967296) = spP m s := by
          unfold spP
          rw [if_neg hm, if_pos hs]
          repeat rw [IntKind.wrap_u64]
          generalize m * s = P at *
          omega
        exact jlong_23ft m s h l _ w m0 m1 s0 s1 h0 h1 l0 l1 p0 p1 (spP m s) (by omega) (by omega) e HP HM HS
      · rw [decide_eq_false hm] at HM
        rw [decide_eq_false hs] at HS
        have e : m * s = spP m s := by
          unfold spP
          rw [if_neg hm, if_neg hs]
          repeat rw [IntKind.wrap_u64]
          generalize m * s = P at *
          omega
        have := jlong_23ff m s h l _ w m0 m1 s0 s1 h0 h1 l0 l1 p0 p1 HP HM HS
        rw [e] at this
        exact this
    · have sp0 : 0 ≤ spP m s := by unfold spP; omega
      have sp1 : spP m s < 18446744073709551616 := by unfold spP; omega
      by_cases hm : 2147483648 ≤ m <;> by_cases hs : 2147483648 ≤ s
      · rw [decide_eq_true hm] at HM
        rw [decide_eq_true hs] at HS
        have e : IntKind.u64.wrap (IntKind.u64.wrap (IntKind.u64.wrap (IntKind.u64.wrap (m * s - s * 4294967296) - m * 4294967296) + h * 4294967296) + l) = (spP m s + acP h l) % 18446744073709551616 := by
          unfold acP
          unfold spP
          rw [if_pos hm, if_pos hs]
          repeat rw [IntKind.wrap_u64]
          generalize m * s = P at *
          omega
        exact jlong_24tt m s h l _ w m0 m1 s0 s1 h0 h1 l0 l1 p0 p1 ((spP m s + acP h l) % 18446744073709551616) (by omega) (by omega) e HP HM HS
      · rw [decide_eq_true hm] at HM
        rw [decide_eq_false hs] at HS
        have e : IntKind.u64.wrap (IntKind.u64.wrap (IntKind.u64.wrap (m * s - s * 4294967296) + h * 4294967296) + l) = (spP m s + acP h l) % 18446744073709551616 := by
          unfold acP
          unfold spP
          rw [if_pos hm, if_neg hs]
          repeat rw [IntKind.wrap_u64]
          generalize m * s = P at *
          omega
        exact jlong_24tf m s h l _ w m0 m1 s0 s1 h0 h1 l0 l1 p0 p1 ((spP m s + acP h l) % 18446744073709551616) (by omega) (by omega) e HP HM HS
      · rw [decide_eq_false hm] at HM
        rw [decide_eq_true hs] at HS
        have e : IntKind.u64.wrap (IntKind.u64.wrap (IntKind.u64.wrap (m * s - m * 4294967296) + h * 4294967296) + l) = (spP m s + acP h l) % 18446744073709551616 := by
          unfold acP
          unfold spP
          rw [if_neg hm, if_pos hs]
          repeat rw [IntKind.wrap_u64]
          generalize m * s = P at *
          omega
        exact jlong_24ft m s h l _ w m0 m1 s0 s1 h0 h1 l0 l1 p0 p1 ((spP m s + acP h l) % 18446744073709551616) (by omega) (by omega) e HP HM HS
      · rw [decide_eq_false hm] at HM
        rw [decide_eq_false hs] at HS
        have e : IntKind.u64.wrap (IntKind.u64.wrap (m * s + h * 4294967296) + l) = (spP m s + acP h l) % 18446744073709551616 := by
          unfold acP
          unfold spP
          rw [if_neg hm, if_neg hs]
          repeat rw [IntKind.wrap_u64]
          generalize m * s = P at *
          omega
        exact jlong_24ff m s h l _ w m0 m1 s0 s1 h0 h1 l0 l1 p0 p1 ((spP m s + acP h l) % 18446744073709551616) (by omega) (by omega) e HP HM HS
  · have := jlong_no op m s h l _ _ _ w m0 m1 s0 s1 h0 h1 l0 l1 p0 p1 ho HP HM HS
    unfold loH loL loO
    rw [if_neg (by omega), if_neg (by omega), if_neg (by omega), if_neg (by omega), decide_eq_false ho]
    exact this
end Go.Proofs.Ytdelcknpaldngab
