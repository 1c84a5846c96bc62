import Derived.Test.YtdinmhjdnnhhjaaDoorPc
namespace Go.Proofs.YtdinmhjdnnhhjaaDoor
open Go.RowKit
set_option linter.unusedVariables false
set_option linter.unusedSimpArgs false
def barB (t : Tu) : Bool := t.same ⟨7, 0, 5, 4⟩ || (t.same ⟨7, 0, 10, 4⟩ || t.same ⟨7, 0, 10, 5⟩)
def asB (t : Tu) : Bool := decide (t.a = 7) && (decide (t.b = 0) && (decide (t.c = 8) && (decide (0 ≤ t.d) && decide (t.d ≤ 3))))
def drB (t : Tu) : Bool := decide (t.a = 8) && (decide (t.b = 0) && (decide (0 ≤ t.d) && (decide (t.d ≤ 3) && (decide (t.c = 3) || (decide (t.c = 7) || ((decide (t.c = 5) || decide (t.c = 6)) && decide (t.d < 3)))))))
theorem op_mem {t : Tu} {c : Nat} (h : opOf t = some c) : (c = 8 ∧ barB t = true ∧ asB t = false ∧ drB t = false) ∨ (c < 4 ∧ barB t = false ∧ asB t = false ∧ drB t = true ∧ t.d = (c : Int)) ∨ (4 ≤ c ∧ c < 8 ∧ barB t = false ∧ asB t = true ∧ drB t = false ∧ t.d = (c : Int) - 4) := by
  have hm := nO_mem _ _ _ h
  obtain ⟨a, b, cc, d⟩ := t
  simp only [lOp, List.mem_cons, Prod.mk.injEq, Tu.mk.injEq, List.not_mem_nil, or_false] at hm
  rcases hm with ⟨⟨rfl, rfl, rfl, rfl⟩, rfl⟩ | ⟨⟨rfl, rfl, rfl, rfl⟩, rfl⟩ | ⟨⟨rfl, rfl, rfl, rfl⟩, rfl⟩ | ⟨⟨rfl, rfl, rfl, rfl⟩, rfl⟩ | ⟨⟨rfl, rfl, rfl, rfl⟩, rfl⟩ | ⟨⟨rfl, rfl, rfl, rfl⟩, rfl⟩ | ⟨⟨rfl, rfl, rfl, rfl⟩, rfl⟩ | ⟨⟨rfl, rfl, rfl, rfl⟩, rfl⟩ | ⟨⟨rfl, rfl, rfl, rfl⟩, rfl⟩ | ⟨⟨rfl, rfl, rfl, rfl⟩, rfl⟩ | ⟨⟨rfl, rfl, rfl, rfl⟩, rfl⟩ | ⟨⟨rfl, rfl, rfl, rfl⟩, rfl⟩ | ⟨⟨rfl, rfl, rfl, rfl⟩, rfl⟩ | ⟨⟨rfl, rfl, rfl, rfl⟩, rfl⟩ | ⟨⟨rfl, rfl, rfl, rfl⟩, rfl⟩ | ⟨⟨rfl, rfl, rfl, rfl⟩, rfl⟩ | ⟨⟨rfl, rfl, rfl, rfl⟩, rfl⟩ | ⟨⟨rfl, rfl, rfl, rfl⟩, rfl⟩ | ⟨⟨rfl, rfl, rfl, rfl⟩, rfl⟩ | ⟨⟨rfl, rfl, rfl, rfl⟩, rfl⟩ | ⟨⟨rfl, rfl, rfl, rfl⟩, rfl⟩ <;> first | exact .inl ⟨rfl, rfl, rfl, rfl⟩ | exact .inr (.inl ⟨by decide, rfl, rfl, rfl, rfl⟩) | exact .inr (.inr ⟨by decide, by decide, rfl, rfl, rfl, rfl⟩)
theorem bar_op {t : Tu} (h : barB t = true) : (opOf t).isSome = true := by
  unfold barB at h
  simp only [Bool.or_eq_true, Tu.same_iff] at h
  rcases h with rfl | rfl | rfl <;> rfl
theorem as_op {t : Tu} (h : asB t = true) : (opOf t).isSome = true := by
  obtain ⟨a, b, c, d⟩ := t
  unfold asB at h
  simp only [Bool.and_eq_true, decide_eq_true_eq] at h
  obtain ⟨rfl, rfl, rfl, h1, h2⟩ := h
  rcases (show d = 0 ∨ d = 1 ∨ d = 2 ∨ d = 3 by omega) with rfl | rfl | rfl | rfl <;> rfl
theorem dr_op {t : Tu} (h : drB t = true) : (opOf t).isSome = true := by
  obtain ⟨a, b, c, d⟩ := t
  unfold drB at h
  simp only [Bool.and_eq_true, Bool.or_eq_true, decide_eq_true_eq] at h
  obtain ⟨rfl, rfl, h1, h2, h3⟩ := h
  rcases (show d = 0 ∨ d = 1 ∨ d = 2 ∨ d = 3 by omega) with rfl | rfl | rfl | rfl <;> rcases h3 with rfl | rfl | ⟨rfl | rfl, h4⟩ <;> first | rfl | omega
theorem op_none {t : Tu} (h : opOf t = none) : barB t = false ∧ asB t = false ∧ drB t = false := by
  refine ⟨?_, ?_, ?_⟩
  · cases e : barB t
    · rfl
    · have := bar_op e; rw [h] at this; cases this
  · cases e : asB t
    · rfl
    · have := as_op e; rw [h] at this; cases this
  · cases e : drB t
    · rfl
    · have := dr_op e; rw [h] at this; cases this
set_option maxRecDepth 100000 in
set_option maxHeartbeats 1000000 in
theorem rbarrier_any (t : Tu) (w : World) : Calls Tryd.prog 36 #[.agg #[.int .i64 t.a, .int .i64 t.b, .int .i64 t.c, .int .i64 t.d]] w fun e w' => e = .returned (.bool (barB t)) ∧ Below w.heap.size w w' := by
  have h1 := eqT t ⟨7, 0, 5, 4⟩
  have h2 := eqT t ⟨7, 0, 10, 4⟩
  have h3 := eqT t ⟨7, 0, 10, 5⟩
  have HB : Hid (∀ o, Below w.heap.size w (w.alloc o)) := fun o => below_new _ _
  unfold barB
  cases e1 : t.same ⟨7, 0, 5, 4⟩
  · cases e2 : t.same ⟨7, 0, 10, 4⟩
    · cases e3 : t.same ⟨7, 0, 10, 5⟩
      all_goals
        rw [e1] at h1
        rw [e2] at h2
        rw [e3] at h3
        go_enter Tryd.func36, Tryd.ntmps36
        go_wp2
        go_ret
        exact ⟨rfl, HB.out _⟩
    · rw [e1] at h1
      rw [e2] at h2
      clear h3
      go_enter Tryd.func36, Tryd.ntmps36
      go_wp2
      go_ret
      exact ⟨rfl, HB.out _⟩
  · rw [e1] at h1
    clear h2 h3
    go_enter Tryd.func36, Tryd.ntmps36
    go_wp2
    go_ret
    exact ⟨rfl, HB.out _⟩
set_option maxRecDepth 100000 in
set_option maxHeartbeats 1000000 in
theorem rasks_any (t : Tu) (w : World) : Calls Tryd.prog 46 #[.agg #[.int .i64 t.a, .int .i64 t.b, .int .i64 t.c, .int .i64 t.d]] w fun e w' => e = .returned (.bool (asB t)) ∧ Below w.heap.size w w' := by
  obtain ⟨a, b, c, d⟩ := t
  have HB : Hid (∀ o, Below w.heap.size w (w.alloc o)) := fun o => below_new _ _
  have HA : Hid (asB ⟨a, b, c, d⟩ = (decide (a = 7) && (decide (b = 0) && (decide (c = 8) && (decide (0 ≤ d) && decide (d ≤ 3)))))) := rfl
  rw [HA.out]
  clear HA
  by_cases h1 : a = 7
  · by_cases h2 : b = 0
    · by_cases h3 : c = 8
      · by_cases h4 : 0 ≤ d
        · have k4 : decide (0 ≤ d) = true := by simp [h4]
          subst h1 h2 h3
          go_enter Tryd.func46, Tryd.ntmps46
          go_wp2
          go_ret
          exact ⟨by simp [h4], HB.out _⟩
        · have k4 : decide (0 ≤ d) = false := by simp [h4]
          subst h1 h2 h3
          go_enter Tryd.func46, Tryd.ntmps46
          go_wp2
          go_ret
          exact ⟨by simp [h4], HB.out _⟩
      · have k3 : (c == 8) = false := by simp [h3]
        subst h1 h2
        go_enter Tryd.func46, Tryd.ntmps46
        go_wp2
        go_ret
        exact ⟨by simp [h3], HB.out _⟩
    · have k2 : (b == 0) = false := by simp [h2]
      subst h1
      go_enter Tryd.func46, Tryd.ntmps46
      go_wp2
      go_ret
      exact ⟨by simp [h2], HB.out _⟩
  · have k1 : (a == 7) = false := by simp [h1]
    go_enter Tryd.func46, Tryd.ntmps46
    go_wp2
    go_ret
    exact ⟨by simp [h1], HB.out _⟩
end Go.Proofs.YtdinmhjdnnhhjaaDoor
