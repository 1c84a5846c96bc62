import Derived.Test.YtdelcknpaldngabDf
namespace Go.Proofs.Ytdelcknpaldngab
open Go.RowKit
set_option linter.unusedVariables false
set_option linter.unusedSimpArgs false
set_option maxRecDepth 100000 in
set_option maxHeartbeats 1000000 in
theorem gpassed_0 (n z cc v : Bool) (w : World) :
    Calls Try.prog 15 #[.int .i64 0, .agg #[.bool n, .bool z, .bool cc, .bool v]] w fun e w' => e = .returned (.bool (paF 0 n z cc v)) ∧ Below w.heap.size w w' := by
  have HN : Hid (∀ o, Below w.heap.size w (w.alloc o)) := below_new w
  go_enter Try.func15, Try.ntmps15
  go_wp2
  go_ret
  exact ⟨by simp [paF], HN.out _⟩
set_option maxRecDepth 100000 in
set_option maxHeartbeats 1000000 in
theorem gpassed_1 (n z cc v : Bool) (w : World) :
    Calls Try.prog 15 #[.int .i64 1, .agg #[.bool n, .bool z, .bool cc, .bool v]] w fun e w' => e = .returned (.bool (paF 1 n z cc v)) ∧ Below w.heap.size w w' := by
  have HN : Hid (∀ o, Below w.heap.size w (w.alloc o)) := below_new w
  go_enter Try.func15, Try.ntmps15
  go_wp2
  go_ret
  exact ⟨by simp [paF], HN.out _⟩
set_option maxRecDepth 100000 in
set_option maxHeartbeats 1000000 in
theorem gpassed_2 (n z cc v : Bool) (w : World) :
    Calls Try.prog 15 #[.int .i64 2, .agg #[.bool n, .bool z, .bool cc, .bool v]] w fun e w' => e = .returned (.bool (paF 2 n z cc v)) ∧ Below w.heap.size w w' := by
  have HN : Hid (∀ o, Below w.heap.size w (w.alloc o)) := below_new w
  go_enter Try.func15, Try.ntmps15
  go_wp2
  go_ret
  exact ⟨by simp [paF], HN.out _⟩
set_option maxRecDepth 100000 in
set_option maxHeartbeats 1000000 in
theorem gpassed_3 (n z cc v : Bool) (w : World) :
    Calls Try.prog 15 #[.int .i64 3, .agg #[.bool n, .bool z, .bool cc, .bool v]] w fun e w' => e = .returned (.bool (paF 3 n z cc v)) ∧ Below w.heap.size w w' := by
  have HN : Hid (∀ o, Below w.heap.size w (w.alloc o)) := below_new w
  go_enter Try.func15, Try.ntmps15
  go_wp2
  go_ret
  exact ⟨by simp [paF], HN.out _⟩
set_option maxRecDepth 100000 in
set_option maxHeartbeats 1000000 in
theorem gpassed_4 (n z cc v : Bool) (w : World) :
    Calls Try.prog 15 #[.int .i64 4, .agg #[.bool n, .bool z, .bool cc, .bool v]] w fun e w' => e = .returned (.bool (paF 4 n z cc v)) ∧ Below w.heap.size w w' := by
  have HN : Hid (∀ o, Below w.heap.size w (w.alloc o)) := below_new w
  go_enter Try.func15, Try.ntmps15
  go_wp2
  go_ret
  exact ⟨by simp [paF], HN.out _⟩
set_option maxRecDepth 100000 in
set_option maxHeartbeats 1000000 in
theorem gpassed_5 (n z cc v : Bool) (w : World) :
    Calls Try.prog 15 #[.int .i64 5, .agg #[.bool n, .bool z, .bool cc, .bool v]] w fun e w' => e = .returned (.bool (paF 5 n z cc v)) ∧ Below w.heap.size w w' := by
  have HN : Hid (∀ o, Below w.heap.size w (w.alloc o)) := below_new w
  go_enter Try.func15, Try.ntmps15
  go_wp2
  go_ret
  exact ⟨by simp [paF], HN.out _⟩
set_option maxRecDepth 100000 in
set_option maxHeartbeats 1000000 in
theorem gpassed_6 (n z cc v : Bool) (w : World) :
    Calls Try.prog 15 #[.int .i64 6, .agg #[.bool n, .bool z, .bool cc, .bool v]] w fun e w' => e = .returned (.bool (paF 6 n z cc v)) ∧ Below w.heap.size w w' := by
  have HN : Hid (∀ o, Below w.heap.size w (w.alloc o)) := below_new w
  go_enter Try.func15, Try.ntmps15
  go_wp2
  go_ret
  exact ⟨by simp [paF], HN.out _⟩
set_option maxRecDepth 100000 in
set_option maxHeartbeats 1000000 in
theorem gpassed_7 (n z cc v : Bool) (w : World) :
    Calls Try.prog 15 #[.int .i64 7, .agg #[.bool n, .bool z, .bool cc, .bool v]] w fun e w' => e = .returned (.bool (paF 7 n z cc v)) ∧ Below w.heap.size w w' := by
  have HN : Hid (∀ o, Below w.heap.size w (w.alloc o)) := below_new w
  go_enter Try.func15, Try.ntmps15
  go_wp2
  go_ret
  exact ⟨by simp [paF], HN.out _⟩
set_option maxRecDepth 100000 in
set_option maxHeartbeats 1000000 in
theorem gpassed_8 (n z cc v : Bool) (w : World) :
    Calls Try.prog 15 #[.int .i64 8, .agg #[.bool n, .bool z, .bool cc, .bool v]] w fun e w' => e = .returned (.bool (paF 8 n z cc v)) ∧ Below w.heap.size w w' := by
  have HN : Hid (∀ o, Below w.heap.size w (w.alloc o)) := below_new w
  cases z <;> cases cc
  all_goals
    go_enter Try.func15, Try.ntmps15
    go_wp2
    go_ret
    exact ⟨by simp [paF], HN.out _⟩
set_option maxRecDepth 100000 in
set_option maxHeartbeats 1000000 in
theorem gpassed_9 (n z cc v : Bool) (w : World) :
    Calls Try.prog 15 #[.int .i64 9, .agg #[.bool n, .bool z, .bool cc, .bool v]] w fun e w' => e = .returned (.bool (paF 9 n z cc v)) ∧ Below w.heap.size w w' := by
  have HN : Hid (∀ o, Below w.heap.size w (w.alloc o)) := below_new w
  cases cc
  all_goals
    go_enter Try.func15, Try.ntmps15
    go_wp2
    go_ret
    exact ⟨by simp [paF], HN.out _⟩
set_option maxRecDepth 100000 in
set_option maxHeartbeats 1000000 in
theorem gpassed_10 (n z cc v : Bool) (w : World) :
    Calls Try.prog 15 #[.int .i64 10, .agg #[.bool n, .bool z, .bool cc, .bool v]] w fun e w' => e = .returned (.bool (paF 10 n z cc v)) ∧ Below w.heap.size w w' := by
  have HN : Hid (∀ o, Below w.heap.size w (w.alloc o)) := below_new w
  go_enter Try.func15, Try.ntmps15
  go_wp2
  go_ret
  exact ⟨by simp [paF], HN.out _⟩
set_option maxRecDepth 100000 in
set_option maxHeartbeats 1000000 in
theorem gpassed_11 (n z cc v : Bool) (w : World) :
    Calls Try.prog 15 #[.int .i64 11, .agg #[.bool n, .bool z, .bool cc, .bool v]] w fun e w' => e = .returned (.bool (paF 11 n z cc v)) ∧ Below w.heap.size w w' := by
  have HN : Hid (∀ o, Below w.heap.size w (w.alloc o)) := below_new w
  go_enter Try.func15, Try.ntmps15
  go_wp2
  go_ret
  exact ⟨by simp [paF], HN.out _⟩
set_option maxRecDepth 100000 in
set_option maxHeartbeats 1000000 in
theorem gpassed_12 (n z cc v : Bool) (w : World) :
    Calls Try.prog 15 #[.int .i64 12, .agg #[.bool n, .bool z, .bool cc, .bool v]] w fun e w' => e = .returned (.bool (paF 12 n z cc v)) ∧ Below w.heap.size w w' := by
  have HN : Hid (∀ o, Below w.heap.size w (w.alloc o)) := below_new w
  cases z
  all_goals
    go_enter Try.func15, Try.ntmps15
    go_wp2
    go_ret
    exact ⟨by simp [paF], HN.out _⟩
set_option maxRecDepth 100000 in
set_option maxHeartbeats 1000000 in
theorem gpassed_13 (n z cc v : Bool) (w : World) :
    Calls Try.prog 15 #[.int .i64 13, .agg #[.bool n, .bool z, .bool cc, .bool v]] w fun e w' => e = .returned (.bool (paF 13 n z cc v)) ∧ Below w.heap.size w w' := by
  have HN : Hid (∀ o, Below w.heap.size w (w.alloc o)) := below_new w
  cases z
  all_goals
    go_enter Try.func15, Try.ntmps15
    go_wp2
    go_ret
    exact ⟨by simp [paF], HN.out _⟩
set_option maxRecDepth 100000 in
set_option maxHeartbeats 1000000 in
theorem gpassed_out (c : Int) (n z cc v : Bool) (w : World) (h : ¬ (0 ≤ c ∧ c ≤ 13)) :
    Calls Try.prog 15 #[.int .i64 c, .agg #[.bool n, .bool z, .bool cc, .bool v]] w fun e w' => e = .returned (.bool (decide (c = 14))) ∧ Below w.heap.size w w' := by
  have HN : Hid (∀ o, Below w.heap.size w (w.alloc o)) := below_new w
  have z0 : (c == 0) = false := by simp; omega
  have z1 : (c == 1) = false := by simp; omega
  have z2 : (c == 2) = false := by simp; omega
  have z3 : (c == 3) = false := by simp; omega
  have z4 : (c == 4) = false := by simp; omega
  have z5 : (c == 5) = false := by simp; omega
  have z6 : (c == 6) = false := by simp; omega
  have z7 : (c == 7) = false := by simp; omega
  have z8 : (c == 8) = false := by simp; omega
  have z9 : (c == 9) = false := by simp; omega
  have z10 : (c == 10) = false := by simp; omega
  have z11 : (c == 11) = false := by simp; omega
  have z12 : (c == 12) = false := by simp; omega
  have z13 : (c == 13) = false := by simp; omega
  clear h
  go_enter Try.func15, Try.ntmps15
  go_wp2
  go_ret
  exact ⟨rfl, HN.out _⟩
theorem gpassed_all (c : Int) (n z cc v : Bool) (w : World) :
    Calls Try.prog 15 #[.int .i64 c, .agg #[.bool n, .bool z, .bool cc, .bool v]] w fun e w' => e = .returned (.bool (paF c n z cc v)) ∧ Below w.heap.size w w' := by
  by_cases h : 0 ≤ c ∧ c ≤ 13
  · rcases (show c = 0 ∨ c = 1 ∨ c = 2 ∨ c = 3 ∨ c = 4 ∨ c = 5 ∨ c = 6 ∨ c = 7 ∨ c = 8 ∨ c = 9 ∨ c = 10 ∨ c = 11 ∨ c = 12 ∨ c = 13 by omega) with rfl | rfl | rfl | rfl | rfl | rfl | rfl | rfl | rfl | rfl | rfl | rfl | rfl | rfl
    · exact gpassed_0 n z cc v w
    · exact gpassed_1 n z cc v w
    · exact gpassed_2 n z cc v w
    · exact gpassed_3 n z cc v w
    · exact gpassed_4 n z cc v w
    · exact gpassed_5 n z cc v w
    · exact gpassed_6 n z cc v w
    · exact gpassed_7 n z cc v w
    · exact gpassed_8 n z cc v w
    · exact gpassed_9 n z cc v w
    · exact gpassed_10 n z cc v w
    · exact gpassed_11 n z cc v w
    · exact gpassed_12 n z cc v w
    · exact gpassed_13 n z cc v w
  · have e := gpassed_out c n z cc v w h
    have : paF c n z cc v = decide (c = 14) := by
      unfold paF
      repeat rw [if_neg (by omega)]
    rw [this]
    exact e
theorem gpassed_any (c : Int) (f : Fl) (w : World) :
    Calls Try.prog 15 #[.int .i64 c, .agg #[.bool f.n, .bool f.z, .bool f.c, .bool f.v]] w fun e w' => e = .returned (.bool (paF c f.n f.z f.c f.v)) ∧ Below w.heap.size w w' := by exact gpassed_all c f.n f.z f.c f.v w
end Go.Proofs.Ytdelcknpaldngab
