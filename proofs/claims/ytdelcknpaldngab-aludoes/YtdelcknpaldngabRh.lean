import Derived.Test.YtdelcknpaldngabRg
namespace Go.Proofs.Ytdelcknpaldngab
open Go.RowKit
set_option linter.unusedVariables false
set_option linter.unusedSimpArgs false
set_option maxRecDepth 100000 in
theorem jlogic_1 (a b : Int) (w : World) (b0 : 0 ≤ b) (b1 : b < 4294967296) :
    Calls Try.prog 39 #[.int .i64 1, .int .u32 a, .int .u32 b] w fun e w' => e = .returned (.tuple #[.int .u32 (bits .and .u32 a b), .bool true]) ∧ w' = w := by
  have hn := xor_nt b b0 b1
  clear b0 b1
  go_enter Try.func39, Try.ntmps39
  go_wp2
  exact bodyPost_ret (v := .tuple #[.int .u32 (bits .and .u32 a b), .bool true]) (by simp [results, Try.results39, go_sem]) rfl ⟨rfl, rfl⟩
set_option maxRecDepth 100000 in
theorem jlogic_2 (a b : Int) (w : World) (b0 : 0 ≤ b) (b1 : b < 4294967296) :
    Calls Try.prog 39 #[.int .i64 2, .int .u32 a, .int .u32 b] w fun e w' => e = .returned (.tuple #[.int .u32 (bits .xor .u32 a b), .bool true]) ∧ w' = w := by
  have hn := xor_nt b b0 b1
  clear b0 b1
  go_enter Try.func39, Try.ntmps39
  go_wp2
  exact bodyPost_ret (v := .tuple #[.int .u32 (bits .xor .u32 a b), .bool true]) (by simp [results, Try.results39, go_sem]) rfl ⟨rfl, rfl⟩
set_option maxRecDepth 100000 in
theorem jlogic_3 (a b : Int) (w : World) (b0 : 0 ≤ b) (b1 : b < 4294967296) :
    Calls Try.prog 39 #[.int .i64 3, .int .u32 a, .int .u32 b] w fun e w' => e = .returned (.tuple #[.int .u32 (0), .bool false]) ∧ w' = w := by
  have hn := xor_nt b b0 b1
  clear b0 b1
  go_enter Try.func39, Try.ntmps39
  go_wp2
  exact bodyPost_ret (v := .tuple #[.int .u32 (0), .bool false]) (by simp [results, Try.results39, go_sem]) rfl ⟨rfl, rfl⟩
set_option maxRecDepth 100000 in
theorem jlogic_4 (a b : Int) (w : World) (b0 : 0 ≤ b) (b1 : b < 4294967296) :
    Calls Try.prog 39 #[.int .i64 4, .int .u32 a, .int .u32 b] w fun e w' => e = .returned (.tuple #[.int .u32 (0), .bool false]) ∧ w' = w := by
  have hn := xor_nt b b0 b1
  clear b0 b1
  go_enter Try.func39, Try.ntmps39
  go_wp2
  exact bodyPost_ret (v := .tuple #[.int .u32 (0), .bool false]) (by simp [results, Try.results39, go_sem]) rfl ⟨rfl, rfl⟩
set_option maxRecDepth 100000 in
theorem jlogic_5 (a b : Int) (w : World) (b0 : 0 ≤ b) (b1 : b < 4294967296) :
    Calls Try.prog 39 #[.int .i64 5, .int .u32 a, .int .u32 b] w fun e w' => e = .returned (.tuple #[.int .u32 (0), .bool false]) ∧ w' = w := by
  have hn := xor_nt b b0 b1
  clear b0 b1
  go_enter Try.func39, Try.ntmps39
  go_wp2
  exact bodyPost_ret (v := .tuple #[.int .u32 (0), .bool false]) (by simp [results, Try.results39, go_sem]) rfl ⟨rfl, rfl⟩
set_option maxRecDepth 100000 in
theorem jlogic_6 (a b : Int) (w : World) (b0 : 0 ≤ b) (b1 : b < 4294967296) :
    Calls Try.prog 39 #[.int .i64 6, .int .u32 a, .int .u32 b] w fun e w' => e = .returned (.tuple #[.int .u32 (0), .bool false]) ∧ w' = w := by
  have hn := xor_nt b b0 b1
  clear b0 b1
  go_enter Try.func39, Try.ntmps39
  go_wp2
  exact bodyPost_ret (v := .tuple #[.int .u32 (0), .bool false]) (by simp [results, Try.results39, go_sem]) rfl ⟨rfl, rfl⟩
set_option maxRecDepth 100000 in
theorem jlogic_7 (a b : Int) (w : World) (b0 : 0 ≤ b) (b1 : b < 4294967296) :
    Calls Try.prog 39 #[.int .i64 7, .int .u32 a, .int .u32 b] w fun e w' => e = .returned (.tuple #[.int .u32 (0), .bool false]) ∧ w' = w := by
  have hn := xor_nt b b0 b1
  clear b0 b1
  go_enter Try.func39, Try.ntmps39
  go_wp2
  exact bodyPost_ret (v := .tuple #[.int .u32 (0), .bool false]) (by simp [results, Try.results39, go_sem]) rfl ⟨rfl, rfl⟩
set_option maxRecDepth 100000 in
theorem jlogic_8 (a b : Int) (w : World) (b0 : 0 ≤ b) (b1 : b < 4294967296) :
    Calls Try.prog 39 #[.int .i64 8, .int .u32 a, .int .u32 b] w fun e w' => e = .returned (.tuple #[.int .u32 (0), .bool false]) ∧ w' = w := by
  have hn := xor_nt b b0 b1
  clear b0 b1
  go_enter Try.func39, Try.ntmps39
  go_wp2
  exact bodyPost_ret (v := .tuple #[.int .u32 (0), .bool false]) (by simp [results, Try.results39, go_sem]) rfl ⟨rfl, rfl⟩
set_option maxRecDepth 100000 in
theorem jlogic_9 (a b : Int) (w : World) (b0 : 0 ≤ b) (b1 : b < 4294967296) :
    Calls Try.prog 39 #[.int .i64 9, .int .u32 a, .int .u32 b] w fun e w' => e = .returned (.tuple #[.int .u32 (bits .and .u32 a b), .bool true]) ∧ w' = w := by
  have hn := xor_nt b b0 b1
  clear b0 b1
  go_enter Try.func39, Try.ntmps39
  go_wp2
  exact bodyPost_ret (v := .tuple #[.int .u32 (bits .and .u32 a b), .bool true]) (by simp [results, Try.results39, go_sem]) rfl ⟨rfl, rfl⟩
set_option maxRecDepth 100000 in
theorem jlogic_10 (a b : Int) (w : World) (b0 : 0 ≤ b) (b1 : b < 4294967296) :
    Calls Try.prog 39 #[.int .i64 10, .int .u32 a, .int .u32 b] w fun e w' => e = .returned (.tuple #[.int .u32 (bits .xor .u32 a b), .bool true]) ∧ w' = w := by
  have hn := xor_nt b b0 b1
  clear b0 b1
  go_enter Try.func39, Try.ntmps39
  go_wp2
  exact bodyPost_ret (v := .tuple #[.int .u32 (bits .xor .u32 a b), .bool true]) (by simp [results, Try.results39, go_sem]) rfl ⟨rfl, rfl⟩
set_option maxRecDepth 100000 in
theorem jlogic_11 (a b : Int) (w : World) (b0 : 0 ≤ b) (b1 : b < 4294967296) :
    Calls Try.prog 39 #[.int .i64 11, .int .u32 a, .int .u32 b] w fun e w' => e = .returned (.tuple #[.int .u32 (0), .bool false]) ∧ w' = w := by
  have hn := xor_nt b b0 b1
  clear b0 b1
  go_enter Try.func39, Try.ntmps39
  go_wp2
  exact bodyPost_ret (v := .tuple #[.int .u32 (0), .bool false]) (by simp [results, Try.results39, go_sem]) rfl ⟨rfl, rfl⟩
set_option maxRecDepth 100000 in
theorem jlogic_12 (a b : Int) (w : World) (b0 : 0 ≤ b) (b1 : b < 4294967296) :
    Calls Try.prog 39 #[.int .i64 12, .int .u32 a, .int .u32 b] w fun e w' => e = .returned (.tuple #[.int .u32 (0), .bool false]) ∧ w' = w := by
  have hn := xor_nt b b0 b1
  clear b0 b1
  go_enter Try.func39, Try.ntmps39
  go_wp2
  exact bodyPost_ret (v := .tuple #[.int .u32 (0), .bool false]) (by simp [results, Try.results39, go_sem]) rfl ⟨rfl, rfl⟩
set_option maxRecDepth 100000 in
theorem jlogic_13 (a b : Int) (w : World) (b0 : 0 ≤ b) (b1 : b < 4294967296) :
    Calls Try.prog 39 #[.int .i64 13, .int .u32 a, .int .u32 b] w fun e w' => e = .returned (.tuple #[.int .u32 (bits .or .u32 a b), .bool true]) ∧ w' = w := by
  have hn := xor_nt b b0 b1
  clear b0 b1
  go_enter Try.func39, Try.ntmps39
  go_wp2
  exact bodyPost_ret (v := .tuple #[.int .u32 (bits .or .u32 a b), .bool true]) (by simp [results, Try.results39, go_sem]) rfl ⟨rfl, rfl⟩
set_option maxRecDepth 100000 in
theorem jlogic_14 (a b : Int) (w : World) (b0 : 0 ≤ b) (b1 : b < 4294967296) :
    Calls Try.prog 39 #[.int .i64 14, .int .u32 a, .int .u32 b] w fun e w' => e = .returned (.tuple #[.int .u32 (b), .bool true]) ∧ w' = w := by
  have hn := xor_nt b b0 b1
  clear b0 b1
  go_enter Try.func39, Try.ntmps39
  go_wp2
  exact bodyPost_ret (v := .tuple #[.int .u32 (b), .bool true]) (by simp [results, Try.results39, go_sem]) rfl ⟨rfl, rfl⟩
set_option maxRecDepth 100000 in
theorem jlogic_15 (a b : Int) (w : World) (b0 : 0 ≤ b) (b1 : b < 4294967296) :
    Calls Try.prog 39 #[.int .i64 15, .int .u32 a, .int .u32 b] w fun e w' => e = .returned (.tuple #[.int .u32 (bits .andNot .u32 a b), .bool true]) ∧ w' = w := by
  have hn := xor_nt b b0 b1
  clear b0 b1
  go_enter Try.func39, Try.ntmps39
  go_wp2
  exact bodyPost_ret (v := .tuple #[.int .u32 (bits .andNot .u32 a b), .bool true]) (by simp [results, Try.results39, go_sem]) rfl ⟨rfl, rfl⟩
set_option maxRecDepth 100000 in
theorem jlogic_16 (a b : Int) (w : World) (b0 : 0 ≤ b) (b1 : b < 4294967296) :
    Calls Try.prog 39 #[.int .i64 16, .int .u32 a, .int .u32 b] w fun e w' => e = .returned (.tuple #[.int .u32 (nt b), .bool true]) ∧ w' = w := by
  have hn := xor_nt b b0 b1
  clear b0 b1
  go_enter Try.func39, Try.ntmps39
  go_wp2
  exact bodyPost_ret (v := .tuple #[.int .u32 (nt b), .bool true]) (by simp [results, Try.results39, go_sem]) rfl ⟨rfl, rfl⟩
end Go.Proofs.Ytdelcknpaldngab
