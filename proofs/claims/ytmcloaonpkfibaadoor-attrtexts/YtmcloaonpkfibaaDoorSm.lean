import Derived.Test.YtmcloaonpkfibaaDoorPl
namespace Go.Proofs.YtmcloaonpkfibaaDoor
open Go.RowKit
set_option linter.unusedVariables false
set_option linter.unusedSimpArgs false
set_option maxRecDepth 100000 in
theorem pair_any (x : Int) (k : Nat) (w : World) (hx : 0 ≤ x ∧ x < 4294967296) (hk : k < 32) :
    Calls Tryd.prog 29 #[.int .u32 x, .int .u32 k] w fun e w' => e = .returned (.int .i64 (pr x k)) ∧ w = w' := by
  have h3 := and3 (x / 2 ^ k) (shr_range x _ hx)
  have hw : IntKind.i64.wrap (x / 2 ^ k % 4) = x / 2 ^ k % 4 := by rw [IntKind.wrap_i64]; omega
  have hk' : ((k : Int) < 4294967296) := by omega
  go_enter Tryd.func29, Tryd.ntmps29
  go_wp2
  go_ret
  exact ⟨rfl, rfl⟩
set_option maxRecDepth 100000 in
theorem sharing_any (p : Int) (n k : Nat) (w : World) (hx : 0 ≤ p ∧ p < 4294967296) (hn : n < 8) (hk : k < 32) :
    Calls Tryd.prog 30 #[.int .u32 p, .int .u32 n, .int .u32 k] w fun e w' => e = .returned (.int .i64 (shF p n k)) ∧ w = w' := by
  have h3 := and1 (p / 2 ^ k) (shr_range p _ hx)
  have h4 := and1 (p / 2 ^ (24 + n)) (shr_range p _ hx)
  have hw : IntKind.u32.wrap (24 + (n : Int)) = ((24 + n : Nat) : Int) := by rw [IntKind.wrap_u32]; omega
  unfold shF bt
  have b1 := bt_lo p k
  have b2 := bt_hi p k
  have b3 := bt_lo p (24 + n)
  have b4 := bt_hi p (24 + n)
  unfold bt at b1 b2 b3 b4
  by_cases h0 : p / 2 ^ k % 2 = 0
  · rw [if_pos h0]
    rw [h0] at h3
    go_enter Tryd.func30, Tryd.ntmps30
    go_wp2
    go_ret
    exact ⟨rfl, rfl⟩
  · rw [if_neg h0]
    have h0' : p / 2 ^ k % 2 = 1 := by omega
    rw [h0'] at h3
    by_cases h1 : p / 2 ^ (24 + n) % 2 = 1
    · rw [if_pos h1]
      rw [h1] at h4
      clear b1 b2 b3 b4 h0 h0' h1
      go_enter Tryd.func30, Tryd.ntmps30
      go_wp2
      go_ret
      exact ⟨rfl, rfl⟩
    · rw [if_neg h1]
      have h1' : p / 2 ^ (24 + n) % 2 = 0 := by omega
      rw [h1'] at h4
      clear b1 b2 b3 b4 h0 h0' h1 h1'
      go_enter Tryd.func30, Tryd.ntmps30
      go_wp2
      go_ret
      exact ⟨rfl, rfl⟩
set_option maxRecDepth 100000 in
theorem isShare_any (s : Int) (w : World) : Calls Tryd.prog 24 #[.int .i64 s] w fun e w' => e = .returned (.bool (decide (0 ≤ s) && decide (s ≤ 2))) ∧ w = w' := by
  by_cases h1 : 0 ≤ s
  · have q : decide (0 ≤ s) = true := decide_eq_true h1
    go_enter Tryd.func24, Tryd.ntmps24
    go_wp2
    go_ret
    exact ⟨by simp [*], rfl⟩
  · have q : decide (0 ≤ s) = false := decide_eq_false h1
    go_enter Tryd.func24, Tryd.ntmps24
    go_wp2
    go_ret
    exact ⟨by simp [*], rfl⟩
set_option maxRecDepth 100000 in
theorem isCache_any (s : Int) (w : World) : Calls Tryd.prog 25 #[.int .i64 s] w fun e w' => e = .returned (.bool (decide (0 ≤ s) && decide (s ≤ 3))) ∧ w = w' := by
  by_cases h1 : 0 ≤ s
  · have q : decide (0 ≤ s) = true := decide_eq_true h1
    go_enter Tryd.func25, Tryd.ntmps25
    go_wp2
    go_ret
    exact ⟨by simp [*], rfl⟩
  · have q : decide (0 ≤ s) = false := decide_eq_false h1
    go_enter Tryd.func25, Tryd.ntmps25
    go_wp2
    go_ret
    exact ⟨by simp [*], rfl⟩
theorem below_new (w : World) (o : Obj) : Below w.heap.size w (w.alloc o) := (Below.refl _ _).alloc (Nat.le_refl _) o
set_option maxRecDepth 100000 in
set_option maxHeartbeats 4000000 in
theorem isKind_any (m : Mem) (w : World) : Calls Tryd.prog 17 #[.agg #[.int .i64 m.t, .int .i64 m.i, .int .i64 m.o, .int .i64 m.s]] w fun e w' => e = .returned (.bool (decide (K m))) ∧ Below w.heap.size w w' := by
  have heq := eqM m ⟨0, 0, 0, 2⟩
  have HN : Hid (∀ o, Below w.heap.size w (w.alloc o)) := below_new w
  obtain ⟨t, i, o, s⟩ := m
  simp only at *
  by_cases h0 : t = 0
  · subst h0
    have e1 : decide (K ⟨0, i, o, s⟩) = Mem.same ⟨0, i, o, s⟩ ⟨0, 0, 0, 2⟩ := by
      apply Bool.eq_iff_iff.2
      rw [Mem.same_iff]
      simp [K]
    rw [e1]
    generalize Mem.same ⟨0, i, o, s⟩ ⟨0, 0, 0, 2⟩ = S at *
    clear e1
    go_enter Tryd.func17, Tryd.ntmps17
    go_wp2
    go_ret
    exact ⟨rfl, HN.out _⟩
  · have q0 : (t == 0) = false := by simp [h0]
    by_cases h1 : t = 1
    · subst h1
      have e1 : decide (K ⟨1, i, o, s⟩) = ((i == 0) && ((o == 0) && (decide (0 ≤ s) && decide (s ≤ 2)))) := by
        apply Bool.eq_iff_iff.2
        simp [K]
      rw [e1]
      clear e1 heq
      have ha : ∃ a, (i == 0) = a := ⟨_, rfl⟩
      obtain ⟨a, ha⟩ := ha
      have hb : ∃ b, (o == 0) = b := ⟨_, rfl⟩
      obtain ⟨b, hb⟩ := hb
      rw [ha, hb]
      cases a <;> cases b
      all_goals
        go_enter Tryd.func17, Tryd.ntmps17
        go_wp2_with (first | (go_at_call 24; refine (isShare_any _ _).mono ?_; rintro e w' ⟨rfl, rfl⟩) | go_in)
        go_ret
        exact ⟨by simp, HN.out _⟩
    · have q1 : (t == 1) = false := by simp [h1]
      by_cases h2 : t = 2
      · subst h2
        have e1 : decide (K ⟨2, i, o, s⟩) = ((decide (0 ≤ i) && decide (i ≤ 3)) && ((decide (0 ≤ o) && decide (o ≤ 3)) && (decide (0 ≤ s) && decide (s ≤ 2)))) := by
          apply Bool.eq_iff_iff.2
          simp [K, and_assoc]
        rw [e1]
        clear e1 heq
        have ha : ∃ a, (decide (0 ≤ i) && decide (i ≤ 3)) = a := ⟨_, rfl⟩
        obtain ⟨a, ha⟩ := ha
        have hb : ∃ b, (decide (0 ≤ o) && decide (o ≤ 3)) = b := ⟨_, rfl⟩
        obtain ⟨b, hb⟩ := hb
        have HI : Hid (∀ w, Calls Tryd.prog 25 #[.int .i64 i] w fun e w' => e = .returned (.bool a) ∧ w = w') := fun w => by rw [← ha]; exact isCache_any i w
        have HO : Hid (∀ w, Calls Tryd.prog 25 #[.int .i64 o] w fun e w' => e = .returned (.bool b) ∧ w = w') := fun w => by rw [← hb]; exact isCache_any o w
        rw [ha, hb]
        clear ha hb
        cases a <;> cases b
        all_goals
          go_enter Tryd.func17, Tryd.ntmps17
          go_wp2_with (first | (go_at_call 24; refine (isShare_any _ _).mono ?_; rintro e w' ⟨rfl, rfl⟩) | (go_at_call 25; with_reducible refine (HI.out _).mono ?_; rintro e w' ⟨rfl, rfl⟩) | (go_at_call 25; with_reducible refine (HO.out _).mono ?_; rintro e w' ⟨rfl, rfl⟩) | go_in)
          go_ret
          exact ⟨by simp, HN.out _⟩
      · have q2 : (t == 2) = false := by simp [h2]
        have e1 : decide (K ⟨t, i, o, s⟩) = false := by
          apply decide_eq_false
          simp only [K]
          omega
        rw [e1]
        clear e1 heq
        go_enter Tryd.func17, Tryd.ntmps17
        go_wp2
        go_ret
        exact ⟨rfl, HN.out _⟩
end Go.Proofs.YtmcloaonpkfibaaDoor
