import Derived.Test.YtdelcknpaldngabRc
namespace Go.Proofs.Ytdelcknpaldngab
open Go.RowKit
set_option linter.unusedVariables false
set_option linter.unusedSimpArgs false
set_option maxRecDepth 100000 in
set_option maxHeartbeats 1000000 in
theorem jpassed_0 (n z cc v : Bool) (w : World) :
    Calls Try.prog 16 #[.int .i64 0, .agg #[.bool n, .bool z, .bool cc, .bool v]] w fun e w' => e = .returned (.bool (paF 0 n z cc v)) ∧ Below w.heap.size w w' := by
  have HN : Hid (∀ o, Below w.heap.size w (w.alloc o)) := below_new w
  go_enter Try.func16, Try.ntmps16
  go_wp2
  go_ret
  exact ⟨by simp [paF], HN.out _⟩
set_option maxRecDepth 100000 in
set_option maxHeartbeats 1000000 in
theorem jpassed_1 (n z cc v : Bool) (w : World) :
    Calls Try.prog 16 #[.int .i64 1, .agg #[.bool n, .bool z, .bool cc, .bool v]] w fun e w' => e = .returned (.bool (paF 1 n z cc v)) ∧ Below w.heap.size w w' := by
  have HN : Hid (∀ o, Below w.heap.size w (w.alloc o)) := below_new w
  go_enter Try.func16, Try.ntmps16
  go_wp2
  go_ret
  exact ⟨by simp [paF], HN.out _⟩
set_option maxRecDepth 100000 in
set_option maxHeartbeats 1000000 in
theorem jpassed_2 (n z cc v : Bool) (w : World) :
    Calls Try.prog 16 #[.int .i64 2, .agg #[.bool n, .bool z, .bool cc, .bool v]] w fun e w' => e = .returned (.bool (paF 2 n z cc v)) ∧ Below w.heap.size w w' := by
  have HN : Hid (∀ o, Below w.heap.size w (w.alloc o)) := below_new w
  go_enter Try.func16, Try.ntmps16
  go_wp2
  go_ret
  exact ⟨by simp [paF], HN.out _⟩
set_option maxRecDepth 100000 in
set_option maxHeartbeats 1000000 in
theorem jpassed_3 (n z cc v : Bool) (w : World) :
    Calls Try.prog 16 #[.int .i64 3, .agg #[.bool n, .bool z, .bool cc, .bool v]] w fun e w' => e = .returned (.bool (paF 3 n z cc v)) ∧ Below w.heap.size w w' := by
  have HN : Hid (∀ o, Below w.heap.size w (w.alloc o)) := below_new w
  go_enter Try.func16, Try.ntmps16
  go_wp2
  go_ret
  exact ⟨by simp [paF], HN.out _⟩
set_option maxRecDepth 100000 in
set_option maxHeartbeats 1000000 in
theorem jpassed_4 (n z cc v : Bool) (w : World) :
    Calls Try.prog 16 #[.int .i64 4, .agg #[.bool n, .bool z, .bool cc, .bool v]] w fun e w' => e = .returned (.bool (paF 4 n z cc v)) ∧ Below w.heap.size w w' := by
  have HN : Hid (∀ o, Below w.heap.size w (w.alloc o)) := below_new w
  go_enter Try.func16, Try.ntmps16
  go_wp2
  go_ret
  exact ⟨by simp [paF], HN.out _⟩
set_option maxRecDepth 100000 in
set_option maxHeartbeats 1000000 in
theorem jpassed_5 (n z cc v : Bool) (w : World) :
    Calls Try.prog 16 #[.int .i64 5, .agg #[.bool n, .bool z, .bool cc, .bool v]] w fun e w' => e = .returned (.bool (paF 5 n z cc v)) ∧ Below w.heap.size w w' := by
  have HN : Hid (∀ o, Below w.heap.size w (w.alloc o)) := below_new w
  go_enter Try.func16, Try.ntmps16
  go_wp2
  go_ret
  exact ⟨by simp [paF], HN.out _⟩
set_option maxRecDepth 100000 in
set_option maxHeartbeats 1000000 in
theorem jpassed_6 (n z cc v : Bool) (w : World) :
    Calls Try.prog 16 #[.int .i64 6, .agg #[.bool n, .bool z, .bool cc, .bool v]] w fun e w' => e = .returned (.bool (paF 6 n z cc v)) ∧ Below w.heap.size w w' := by
  have HN : Hid (∀ o, Below w.heap.size w (w.alloc o)) := below_new w
  go_enter Try.func16, Try.ntmps16
  go_wp2
  go_ret
  exact ⟨by simp [paF], HN.out _⟩
set_option maxRecDepth 100000 in
set_option maxHeartbeats 1000000 in
theorem jpassed_7 (n z cc v : Bool) (w : World) :
    Calls Try.prog 16 #[.int .i64 7, .agg #[.bool n, .bool z, .bool cc, .bool v]] w fun e w' => e = .returned (.bool (paF 7 n z cc v)) ∧ Below w.heap.size w w' := by
  have HN : Hid (∀ o, Below w.heap.size w (w.alloc o)) := below_new w
  go_enter Try.func16, Try.ntmps16
  go_wp2
  go_ret
  exact ⟨by simp [paF], HN.out _⟩
set_option maxRecDepth 100000 in
set_option maxHeartbeats 1000000 in
theorem jpassed_8 (n z cc v : Bool) (w : World) :
    Calls Try.prog 16 #[.int .i64 8, .agg #[.bool n, .bool z, .bool cc, .bool v]] w fun e w' => e = .returned (.bool (paF 8 n z cc v)) ∧ Below w.heap.size w w' := by
  have HN : Hid (∀ o, Below w.heap.size w (w.alloc o)) := below_new w
  cases z <;> cases cc
  all_goals
    go_enter Try.func16, Try.ntmps16
    go_wp2
    go_ret
    exact ⟨by simp [paF], HN.out _⟩
set_option maxRecDepth 100000 in
set_option maxHeartbeats 1000000 in
theorem jpassed_9 (n z cc v : Bool) (w : World) :
    Calls Try.prog 16 #[.int .i64 9, .agg #[.bool n, .bool z, .bool cc, .bool v]] w fun e w' => e = .returned (.bool (paF 9 n z cc v)) ∧ Below w.heap.size w w' := by
  have HN : Hid (∀ o, Below w.heap.size w (w.alloc o)) := below_new w
  cases cc
  all_goals
    go_enter Try.func16, Try.ntmps16
    go_wp2
    go_ret
    exact ⟨by simp [paF], HN.out _⟩
set_option maxRecDepth 100000 in
set_option maxHeartbeats 1000000 in
theorem jpassed_10 (n z cc v : Bool) (w : World) :
    Calls Try.prog 16 #[.int .i64 10, .agg #[.bool n, .bool z, .bool cc, .bool v]] w fun e w' => e = .returned (.bool (paF 10 n z cc v)) ∧ Below w.heap.size w w' := by
  have HN : Hid (∀ o, Below w.heap.size w (w.alloc o)) := below_new w
  go_enter Try.func16, Try.ntmps16
  go_wp2
  go_ret
  exact ⟨by simp [paF], HN.out _⟩
set_option maxRecDepth 100000 in
set_option maxHeartbeats 1000000 in
theorem jpassed_11 (n z cc v : Bool) (w : World) :
    Calls Try.prog 16 #[.int .i64 11, .agg #[.bool n, .bool z, .bool cc, .bool v]] w fun e w' => e = .returned (.bool (paF 11 n z cc v)) ∧ Below w.heap.size w w' := by
  have HN : Hid (∀ o, Below w.heap.size w (w.alloc o)) := below_new w
  go_enter Try.func16, Try.ntmps16
  go_wp2
  go_ret
  exact ⟨by simp [paF], HN.out _⟩
set_option maxRecDepth 100000 in
set_option maxHeartbeats 1000000 in
theorem jpassed_12 (n z cc v : Bool) (w : World) :
    Calls Try.prog 16 #[.int .i64 12, .agg #[.bool n, .bool z, .bool cc, .bool v]] w fun e w' => e = .returned (.bool (paF 12 n z cc v)) ∧ Below w.heap.size w w' := by
  have HN : Hid (∀ o, Below w.heap.size w (w.alloc o)) := below_new w
  cases z
  all_goals
    go_enter Try.func16, Try.ntmps16
    go_wp2
    go_ret
    exact ⟨by simp [paF], HN.out _⟩
set_option maxRecDepth 100000 in
set_option maxHeartbeats 1000000 in
theorem jpassed_13 (n z cc v : Bool) (w : World) :
    Calls Try.prog 16 #[.int .i64 13, .agg #[.bool n, .bool z, .bool cc, .bool v]] w fun e w' => e = .returned (.bool (paF 13 n z cc v)) ∧ Below w.heap.size w w' := by
  have HN : Hid (∀ o, Below w.heap.size w (w.alloc o)) := below_new w
  cases z
  all_goals
    go_enter Try.func16, Try.ntmps16
    go_wp2
    go_ret
    exact ⟨by simp [paF], HN.out _⟩
set_option maxRecDepth 100000 in
set_option maxHeartbeats 1000000 in
theorem jpassed_out (c : Int) (n z cc v : Bool) (w : World) (h : ¬ (0 ≤ c ∧ c ≤ 13)) :
    Calls Try.prog 16 #[.int .i64 c, .agg #[.bool n, .bool z, .bool cc, .bool v]] w fun e w' => e = .returned (.bool (decide (c = 14))) ∧ Below w.heap.size w w' := by
  have HN : Hid (∀ o, Below w.heap.size w (w.alloc o)) := below_new w
  have z0 : (c == 0) = false := by simp; omega
  have z1 : (c == 1) = false := by simp; omega
  have z2 : (c == 2) = false := by simp; omega
  have z3 : (c == 3) = false := by simp; omega
  have z4 : (c == 4) = false := by simp; omega
  have z5 : (c == 5) = false := by simp; omega
  have z6 : (c == 6) = false := by simp; omega
  have z7 : (c == 7) = false := by simp; omega
  have z8 : (c == 8) = false := by simp; omega
  have z9 : (c == 9) = false := by simp; omega
  have z10 : (c == 10) = false := by simp; omega
  have z11 : (c == 11) = false := by simp; omega
  have z12 : (c == 12) = false := by simp; omega
  have z13 : (c == 13) = false := by simp; omega
  clear h
  go_enter Try.func16, Try.ntmps16
  go_wp2
  go_ret
  exact ⟨rfl, HN.out _⟩
theorem jpassed_any (c : Int) (n z cc v : Bool) (w : World) :
    Calls Try.prog 16 #[.int .i64 c, .agg #[.bool n, .bool z, .bool cc, .bool v]] w fun e w' => e = .returned (.bool (paF c n z cc v)) ∧ Below w.heap.size w w' := by
  by_cases h : 0 ≤ c ∧ c ≤ 13
  · rcases (show c = 0 ∨ c = 1 ∨ c = 2 ∨ c = 3 ∨ c = 4 ∨ c = 5 ∨ c = 6 ∨ c = 7 ∨ c = 8 ∨ c = 9 ∨ c = 10 ∨ c = 11 ∨ c = 12 ∨ c = 13 by omega) with rfl | rfl | rfl | rfl | rfl | rfl | rfl | rfl | rfl | rfl | rfl | rfl | rfl | rfl
    · exact jpassed_0 n z cc v w
    · exact jpassed_1 n z cc v w
    · exact jpassed_2 n z cc v w
    · exact jpassed_3 n z cc v w
    · exact jpassed_4 n z cc v w
    · exact jpassed_5 n z cc v w
    · exact jpassed_6 n z cc v w
    · exact jpassed_7 n z cc v w
    · exact jpassed_8 n z cc v w
    · exact jpassed_9 n z cc v w
    · exact jpassed_10 n z cc v w
    · exact jpassed_11 n z cc v w
    · exact jpassed_12 n z cc v w
    · exact jpassed_13 n z cc v w
  · have e := jpassed_out c n z cc v w h
    have : paF c n z cc v = decide (c = 14) := by
      unfold paF
      repeat rw [if_neg (by omega)]
    rw [this]
    exact e
end Go.Proofs.Ytdelcknpaldngab
