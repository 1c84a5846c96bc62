import Derived.Test.YtdelcknpaldngabDf
namespace Go.Proofs.Ytdelcknpaldngab
open Go.RowKit
set_option linter.unusedVariables false
set_option linter.unusedSimpArgs false
set_option maxRecDepth 100000 in
theorem gdecode_1 (k n : Int) (w : World) (h : n < 0) :
    Calls Try.prog 10 #[.int .i64 k, .int .i64 n] w fun e w' => e = .returned (.tuple #[.int .i64 0, .int .i64 0]) ∧ w' = w := by
  have q0 : decide (n < 0) = true := decide_eq_true (by omega)
  clear h
  go_enter Try.func10, Try.ntmps10
  go_wp2
  exact bodyPost_ret (v := .tuple #[.int .i64 0, .int .i64 0]) (by simp [results, Try.results10, go_sem]) rfl ⟨rfl, rfl⟩
set_option maxRecDepth 100000 in
theorem gdecode_2 (k n : Int) (w : World) (h : 31 < n) :
    Calls Try.prog 10 #[.int .i64 k, .int .i64 n] w fun e w' => e = .returned (.tuple #[.int .i64 0, .int .i64 0]) ∧ w' = w := by
  have q0 : decide (n < 0) = false := decide_eq_false (by omega)
  have q1 : decide (32 ≤ n) = true := decide_eq_true (by omega)
  clear h
  go_enter Try.func10, Try.ntmps10
  go_wp2
  exact bodyPost_ret (v := .tuple #[.int .i64 0, .int .i64 0]) (by simp [results, Try.results10, go_sem]) rfl ⟨rfl, rfl⟩
set_option maxRecDepth 100000 in
theorem gdecode_3 (k n : Int) (w : World) (h : 0 ≤ n ∧ n ≤ 31 ∧ k < 0) :
    Calls Try.prog 10 #[.int .i64 k, .int .i64 n] w fun e w' => e = .returned (.tuple #[.int .i64 0, .int .i64 0]) ∧ w' = w := by
  have q0 : decide (n < 0) = false := decide_eq_false (by omega)
  have q1 : decide (32 ≤ n) = false := decide_eq_false (by omega)
  have q2 : decide (k < 0) = true := decide_eq_true (by omega)
  clear h
  go_enter Try.func10, Try.ntmps10
  go_wp2
  exact bodyPost_ret (v := .tuple #[.int .i64 0, .int .i64 0]) (by simp [results, Try.results10, go_sem]) rfl ⟨rfl, rfl⟩
set_option maxRecDepth 100000 in
theorem gdecode_4 (k n : Int) (w : World) (h : 0 ≤ n ∧ n ≤ 31 ∧ 3 < k) :
    Calls Try.prog 10 #[.int .i64 k, .int .i64 n] w fun e w' => e = .returned (.tuple #[.int .i64 0, .int .i64 0]) ∧ w' = w := by
  have q0 : decide (n < 0) = false := decide_eq_false (by omega)
  have q1 : decide (32 ≤ n) = false := decide_eq_false (by omega)
  have q2 : decide (k < 0) = false := decide_eq_false (by omega)
  have q3 : decide (3 < k) = true := decide_eq_true (by omega)
  clear h
  go_enter Try.func10, Try.ntmps10
  go_wp2
  exact bodyPost_ret (v := .tuple #[.int .i64 0, .int .i64 0]) (by simp [results, Try.results10, go_sem]) rfl ⟨rfl, rfl⟩
set_option maxRecDepth 100000 in
theorem gdecode_5 (k n : Int) (w : World) (h : 0 ≤ k ∧ k ≤ 3 ∧ 0 < n ∧ n ≤ 31) :
    Calls Try.prog 10 #[.int .i64 k, .int .i64 n] w fun e w' => e = .returned (.tuple #[.int .i64 k, .int .i64 n]) ∧ w' = w := by
  have q0 : decide (n < 0) = false := decide_eq_false (by omega)
  have q1 : decide (32 ≤ n) = false := decide_eq_false (by omega)
  have q2 : decide (k < 0) = false := decide_eq_false (by omega)
  have q3 : decide (3 < k) = false := decide_eq_false (by omega)
  have q4 : decide (0 < n) = true := decide_eq_true (by omega)
  clear h
  go_enter Try.func10, Try.ntmps10
  go_wp2
  exact bodyPost_ret (v := .tuple #[.int .i64 k, .int .i64 n]) (by simp [results, Try.results10, go_sem]) rfl ⟨rfl, rfl⟩
set_option maxRecDepth 100000 in
theorem gdecode_6 (w : World) :
    Calls Try.prog 10 #[.int .i64 0, .int .i64 0] w fun e w' => e = .returned (.tuple #[.int .i64 0, .int .i64 0]) ∧ w' = w := by
  go_enter Try.func10, Try.ntmps10
  go_wp2
  exact bodyPost_ret (v := .tuple #[.int .i64 0, .int .i64 0]) (by simp [results, Try.results10, go_sem]) rfl ⟨rfl, rfl⟩
set_option maxRecDepth 100000 in
theorem gdecode_7 (w : World) :
    Calls Try.prog 10 #[.int .i64 1, .int .i64 0] w fun e w' => e = .returned (.tuple #[.int .i64 1, .int .i64 32]) ∧ w' = w := by
  go_enter Try.func10, Try.ntmps10
  go_wp2
  exact bodyPost_ret (v := .tuple #[.int .i64 1, .int .i64 32]) (by simp [results, Try.results10, go_sem]) rfl ⟨rfl, rfl⟩
set_option maxRecDepth 100000 in
theorem gdecode_8 (w : World) :
    Calls Try.prog 10 #[.int .i64 2, .int .i64 0] w fun e w' => e = .returned (.tuple #[.int .i64 2, .int .i64 32]) ∧ w' = w := by
  go_enter Try.func10, Try.ntmps10
  go_wp2
  exact bodyPost_ret (v := .tuple #[.int .i64 2, .int .i64 32]) (by simp [results, Try.results10, go_sem]) rfl ⟨rfl, rfl⟩
set_option maxRecDepth 100000 in
theorem gdecode_9 (w : World) :
    Calls Try.prog 10 #[.int .i64 3, .int .i64 0] w fun e w' => e = .returned (.tuple #[.int .i64 4, .int .i64 1]) ∧ w' = w := by
  go_enter Try.func10, Try.ntmps10
  go_wp2
  exact bodyPost_ret (v := .tuple #[.int .i64 4, .int .i64 1]) (by simp [results, Try.results10, go_sem]) rfl ⟨rfl, rfl⟩
theorem gdecode_all (k n : Int) (w : World) :
    Calls Try.prog 10 #[.int .i64 k, .int .i64 n] w fun e w' => e = .returned (.tuple #[.int .i64 (deF k n).1, .int .i64 (deF k n).2]) ∧ w' = w := by
  unfold deF
  by_cases h3 : n < 0
  · rw [if_pos (by omega)]; exact gdecode_1 k n w (by omega)
  by_cases h4 : 31 < n
  · rw [if_pos (by omega)]; exact gdecode_2 k n w (by omega)
  by_cases h1 : k < 0
  · rw [if_pos (by omega)]; exact gdecode_3 k n w (by omega)
  by_cases h2 : 3 < k
  · rw [if_pos (by omega)]; exact gdecode_4 k n w (by omega)
  rw [if_neg (by omega)]
  by_cases h5 : 0 < n
  · rw [if_pos (by omega)]; exact gdecode_5 k n w (by omega)
  obtain rfl : n = 0 := by omega
  rcases (show k = 0 ∨ k = 1 ∨ k = 2 ∨ k = 3 by omega) with rfl | rfl | rfl | rfl
  · exact gdecode_6 w
  · exact gdecode_7 w
  · exact gdecode_8 w
  · exact gdecode_9 w
theorem gdecode_any (k n : Int) (w : World) :
    Calls Try.prog 10 #[.int .i64 k, .int .i64 n] w fun e w' => e = .returned (.tuple #[.int .i64 (deF k n).1, .int .i64 (deF k n).2]) ∧ Below w.heap.size w w' := by
  refine (gdecode_all k n w).mono ?_
  rintro e w' ⟨rfl, rfl⟩
  exact ⟨rfl, Below.refl _ _⟩
end Go.Proofs.Ytdelcknpaldngab
