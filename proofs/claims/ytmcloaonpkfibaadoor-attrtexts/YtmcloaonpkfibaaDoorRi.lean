import Derived.Test.YtmcloaonpkfibaaDoorRm
namespace Go.Proofs.YtmcloaonpkfibaaDoor
open Go.RowKit
set_option linter.unusedVariables false
set_option linter.unusedSimpArgs false
set_option maxRecDepth 100000 in
set_option maxHeartbeats 4000000 in
theorem isMem_any (m : Mem) (w : World) : Calls Tryd.prog 23 #[.agg #[.int .i64 m.t, .int .i64 m.i, .int .i64 m.o, .int .i64 m.s]] w fun e w' => e = .returned (.bool (decide (K m))) ∧ Below w.heap.size w w' := by
  have HN : Hid (∀ o, Below w.heap.size w (w.alloc o)) := below_new w
  obtain ⟨t, i, o, s⟩ := m
  simp only
  by_cases ht0 : t < 0
  · have hK : decide (K ⟨t, i, o, s⟩) = false := decide_eq_false (by simp only [K]; omega)
    rw [hK]
    clear hK
    have qt0 : decide (t < 0) = true := decide_eq_true ht0
    clear ht0
    go_enter Tryd.func23, Tryd.ntmps23
    go_wp2
    go_ret
    exact ⟨rfl, HN.out _⟩
  have qt0 : decide (t < 0) = false := decide_eq_false ht0
  by_cases ht2 : 2 < t
  · have hK : decide (K ⟨t, i, o, s⟩) = false := decide_eq_false (by simp only [K]; omega)
    rw [hK]
    clear hK
    have qt2 : decide (2 < t) = true := decide_eq_true ht2
    clear ht2
    clear ht0
    go_enter Tryd.func23, Tryd.ntmps23
    go_wp2
    go_ret
    exact ⟨rfl, HN.out _⟩
  have qt2 : decide (2 < t) = false := decide_eq_false ht2
  by_cases hs0 : s < 0
  · have hK : decide (K ⟨t, i, o, s⟩) = false := decide_eq_false (by simp only [K]; omega)
    rw [hK]
    clear hK
    have qs0 : decide (s < 0) = true := decide_eq_true hs0
    clear hs0
    clear ht0
    clear ht2
    go_enter Tryd.func23, Tryd.ntmps23
    go_wp2
    go_ret
    exact ⟨rfl, HN.out _⟩
  have qs0 : decide (s < 0) = false := decide_eq_false hs0
  by_cases hs2 : 2 < s
  · have hK : decide (K ⟨t, i, o, s⟩) = false := decide_eq_false (by simp only [K]; omega)
    rw [hK]
    clear hK
    have qs2 : decide (2 < s) = true := decide_eq_true hs2
    clear hs2
    clear ht0
    clear ht2
    clear hs0
    go_enter Tryd.func23, Tryd.ntmps23
    go_wp2
    go_ret
    exact ⟨rfl, HN.out _⟩
  have qs2 : decide (2 < s) = false := decide_eq_false hs2
  by_cases hi0 : i < 0
  · have hK : decide (K ⟨t, i, o, s⟩) = false := decide_eq_false (by simp only [K]; omega)
    rw [hK]
    clear hK
    have qi0 : decide (i < 0) = true := decide_eq_true hi0
    clear hi0
    clear ht0
    clear ht2
    clear hs0
    clear hs2
    go_enter Tryd.func23, Tryd.ntmps23
    go_wp2
    go_ret
    exact ⟨rfl, HN.out _⟩
  have qi0 : decide (i < 0) = false := decide_eq_false hi0
  by_cases hi3 : 3 < i
  · have hK : decide (K ⟨t, i, o, s⟩) = false := decide_eq_false (by simp only [K]; omega)
    rw [hK]
    clear hK
    have qi3 : decide (3 < i) = true := decide_eq_true hi3
    clear hi3
    clear ht0
    clear ht2
    clear hs0
    clear hs2
    clear hi0
    go_enter Tryd.func23, Tryd.ntmps23
    go_wp2
    go_ret
    exact ⟨rfl, HN.out _⟩
  have qi3 : decide (3 < i) = false := decide_eq_false hi3
  by_cases ho0 : o < 0
  · have hK : decide (K ⟨t, i, o, s⟩) = false := decide_eq_false (by simp only [K]; omega)
    rw [hK]
    clear hK
    have qo0 : decide (o < 0) = true := decide_eq_true ho0
    clear ho0
    clear ht0
    clear ht2
    clear hs0
    clear hs2
    clear hi0
    clear hi3
    go_enter Tryd.func23, Tryd.ntmps23
    go_wp2
    go_ret
    exact ⟨rfl, HN.out _⟩
  have qo0 : decide (o < 0) = false := decide_eq_false ho0
  by_cases ho3 : 3 < o
  · have hK : decide (K ⟨t, i, o, s⟩) = false := decide_eq_false (by simp only [K]; omega)
    rw [hK]
    clear hK
    have qo3 : decide (3 < o) = true := decide_eq_true ho3
    clear ho3
    clear ht0
    clear ht2
    clear hs0
    clear hs2
    clear hi0
    clear hi3
    clear ho0
    go_enter Tryd.func23, Tryd.ntmps23
    go_wp2
    go_ret
    exact ⟨rfl, HN.out _⟩
  have qo3 : decide (3 < o) = false := decide_eq_false ho3
  by_cases ht : t = 2
  · have hK : decide (K ⟨t, i, o, s⟩) = true := decide_eq_true (by simp only [K]; omega)
    rw [hK]
    clear hK
    have q : (t != 2) = false := by simp [ht]
    have q2 : (t != 0) = true := by simp; omega
    clear ht
    clear ht0
    clear ht2
    clear hs0
    clear hs2
    clear hi0
    clear hi3
    clear ho0
    clear ho3
    go_enter Tryd.func23, Tryd.ntmps23
    go_wp2
    go_ret
    exact ⟨rfl, HN.out _⟩
  have q1 : (t != 2) = true := by simp [ht]
  by_cases hi : i = 0
  case neg =>
    have hK : decide (K ⟨t, i, o, s⟩) = false := decide_eq_false (by simp only [K]; omega)
    rw [hK]
    clear hK
    have q : (i != 0) = true := by simp [hi]
    clear ht hi
    clear ht0
    clear ht2
    clear hs0
    clear hs2
    clear hi0
    clear hi3
    clear ho0
    clear ho3
    go_enter Tryd.func23, Tryd.ntmps23
    go_wp2
    go_ret
    exact ⟨rfl, HN.out _⟩
  by_cases ho : o = 0
  case neg =>
    have hK : decide (K ⟨t, i, o, s⟩) = false := decide_eq_false (by simp only [K]; omega)
    rw [hK]
    clear hK
    have q : (i != 0) = false := by simp [hi]
    have q2 : (o != 0) = true := by simp [ho]
    clear ht hi ho
    clear ht0
    clear ht2
    clear hs0
    clear hs2
    clear hi0
    clear hi3
    clear ho0
    clear ho3
    go_enter Tryd.func23, Tryd.ntmps23
    go_wp2
    go_ret
    exact ⟨rfl, HN.out _⟩
  have q3 : (i != 0) = false := by simp [hi]
  have q4 : (o != 0) = false := by simp [ho]
  by_cases hz : t = 0
  case neg =>
    have hK : decide (K ⟨t, i, o, s⟩) = true := decide_eq_true (by simp only [K]; omega)
    rw [hK]
    clear hK
    have q : (t != 0) = true := by simp [hz]
    clear ht hi ho hz
    clear ht0
    clear ht2
    clear hs0
    clear hs2
    clear hi0
    clear hi3
    clear ho0
    clear ho3
    go_enter Tryd.func23, Tryd.ntmps23
    go_wp2
    go_ret
    exact ⟨rfl, HN.out _⟩
  have q5 : (t != 0) = false := by simp [hz]
  by_cases hs : s = 2
  case neg =>
    have hK : decide (K ⟨t, i, o, s⟩) = false := decide_eq_false (by simp only [K]; omega)
    rw [hK]
    clear hK
    have q : (s == 2) = false := by simp [hs]
    clear ht hi ho hz hs
    clear ht0
    clear ht2
    clear hs0
    clear hs2
    clear hi0
    clear hi3
    clear ho0
    clear ho3
    go_enter Tryd.func23, Tryd.ntmps23
    go_wp2
    go_ret
    exact ⟨rfl, HN.out _⟩
  have hK : decide (K ⟨t, i, o, s⟩) = true := decide_eq_true (by simp only [K]; omega)
  rw [hK]
  clear hK
  have q6 : (s == 2) = true := by simp [hs]
  clear ht hi ho hz hs
  clear ht0
  clear ht2
  clear hs0
  clear hs2
  clear hi0
  clear hi3
  clear ho0
  clear ho3
  go_enter Tryd.func23, Tryd.ntmps23
  go_wp2
  go_ret
  exact ⟨rfl, HN.out _⟩
end Go.Proofs.YtmcloaonpkfibaaDoor
