import Derived.Test.YtmmocnejacflmabDoorGt
namespace Go.Proofs.YtmmocnejacflmabDoor
open Go.RowKit
set_option linter.unusedVariables false
set_option linter.unusedSimpArgs false
/-- What the reference says of rights in letters. -/
def canS (r s : Bool) : ByteArray := if s then ⟨#[114, 119]⟩ else if r then ⟨#[114]⟩ else ⟨#[]⟩
set_option maxRecDepth 100000 in
set_option maxHeartbeats 8000000 in
theorem can_any (ap : Nat) (afe priv : Bool) (w : World) (h : ap < 8) :
    Calls Tryd.prog 28 #[.int .i64 ap, .bool afe, .bool priv] w fun e w' => e = .returned (.string (canS (maR ap afe priv) (maW ap afe priv))) ∧ w = w' := by
  rcases (show ap = 0 ∨ ap = 1 ∨ ap = 2 ∨ ap = 3 ∨ ap = 4 ∨ ap = 5 ∨ ap = 6 ∨ ap = 7 by omega) with rfl | rfl | rfl | rfl | rfl | rfl | rfl | rfl <;> cases afe <;> cases priv
  all_goals
    go_enter Tryd.func28, Tryd.ntmps28
    go_wp2
    go_ret
    exact ⟨rfl, rfl⟩
theorem may_le (ap : Nat) (afe priv : Bool) (h : ap < 8) (hs : maW ap afe priv = true) : maR ap afe priv = true := by
  rcases (show ap = 0 ∨ ap = 1 ∨ ap = 2 ∨ ap = 3 ∨ ap = 4 ∨ ap = 5 ∨ ap = 6 ∨ ap = 7 by omega) with rfl | rfl | rfl | rfl | rfl | rfl | rfl | rfl <;> cases afe <;> cases priv <;> first | rfl | exact absurd hs (by decide)
set_option maxRecDepth 100000 in
set_option maxHeartbeats 1000000 in
theorem rallows_no (ap bt : Int) (ng xn afe priv : Bool) (k : Int) (w : World) (h : ¬ (0 ≤ ap ∧ ap < 8)) :
    Calls Tryd.prog 17 #[.agg #[.int .i64 ap, .int .u32 bt, .bool ng, .bool xn], .bool afe, .bool priv, .int .i64 k] w fun e w' => e = .returned (.bool false) ∧ Below w.heap.size w w' := by
  have HN : Hid (∀ o, Below w.heap.size w (w.alloc o)) := below_new w
  by_cases h1 : ap < 0
  · have q1 : decide (ap < 0) = true := by simp [h1]
    clear h
    go_enter Tryd.func17, Tryd.ntmps17
    go_wp2
    go_ret
    exact ⟨rfl, HN.out _⟩
  · have q1 : decide (ap < 0) = false := by simp; omega
    have q2 : decide (7 < ap) = true := by simp; omega
    clear h
    go_enter Tryd.func17, Tryd.ntmps17
    go_wp2
    go_ret
    exact ⟨rfl, HN.out _⟩
set_option maxRecDepth 100000 in
set_option maxHeartbeats 4000000 in
theorem rallows_yes (ap bt : Int) (ng xn afe priv r s : Bool) (hrs : s = true → r = true) (k : Int) (w : World) (h1 : 0 ≤ ap) (h2 : ap < 8)
    (HA : ∀ w, Calls Tryd.prog 28 #[.int .i64 ap, .bool afe, .bool priv] w fun e w' => e = .returned (.string (canS r s)) ∧ w = w') :
    Calls Tryd.prog 17 #[.agg #[.int .i64 ap, .int .u32 bt, .bool ng, .bool xn], .bool afe, .bool priv, .int .i64 k] w fun e w' => e = .returned (.bool (if k = 1 then r && !xn else if k = 2 then r else if k = 3 then s else false)) ∧ Below w.heap.size w w' := by
  have q1 : decide (ap < 0) = false := by simp; omega
  have q2 : decide (7 < ap) = false := by simp; omega
  have HN : Hid (∀ o, Below w.heap.size w (w.alloc o)) := below_new w
  have HA' : Hid (∀ w, Calls Tryd.prog 28 #[.int .i64 ap, .bool afe, .bool priv] w fun e w' => e = .returned (.string (canS r s)) ∧ w = w') := HA
  have ek : (k = 1 ∨ k = 2 ∨ k = 3 ∨ (¬ (k = 1) ∧ ¬ (k = 2) ∧ ¬ (k = 3))) := by omega
  clear HA h1 h2
  cases r <;> cases s
  case false.true => exact absurd (hrs rfl) (by decide)
  all_goals
    simp only [canS, if_pos, if_neg, Bool.false_eq_true, if_false] at HA'
    rcases ek with rfl | rfl | rfl | ⟨k1, k2, k3⟩
    · go_enter Tryd.func17, Tryd.ntmps17
      go_wp2_with (first | (go_at_call 28; refine (HA'.out _).mono ?_; rintro e w' ⟨rfl, rfl⟩) | go_in)
      go_ret
      exact ⟨by simp, HN.out _⟩
    · go_enter Tryd.func17, Tryd.ntmps17
      go_wp2_with (first | (go_at_call 28; refine (HA'.out _).mono ?_; rintro e w' ⟨rfl, rfl⟩) | go_in)
      go_ret
      exact ⟨by simp, HN.out _⟩
    · go_enter Tryd.func17, Tryd.ntmps17
      go_wp2_with (first | (go_at_call 28; refine (HA'.out _).mono ?_; rintro e w' ⟨rfl, rfl⟩) | go_in)
      go_ret
      exact ⟨by simp, HN.out _⟩
    · have z1 : (k == 1) = false := by simp [k1]
      have z2 : (k == 2) = false := by simp [k2]
      have z3 : (k == 3) = false := by simp [k3]
      go_enter Tryd.func17, Tryd.ntmps17
      go_wp2_with (first | (go_at_call 28; refine (HA'.out _).mono ?_; rintro e w' ⟨rfl, rfl⟩) | go_in)
      go_ret
      exact ⟨by simp [k1, k2, k3], HN.out _⟩
theorem rallows_any (ap bt : Int) (ng xn afe priv : Bool) (k : Int) (w : World) :
    Calls Tryd.prog 17 #[.agg #[.int .i64 ap, .int .u32 bt, .bool ng, .bool xn], .bool afe, .bool priv, .int .i64 k] w fun e w' => e = .returned (.bool (alF ap xn afe priv k)) ∧ Below w.heap.size w w' := by
  unfold alF
  by_cases h : 0 ≤ ap ∧ ap < 8
  · rw [if_pos h]
    obtain ⟨n, rfl⟩ := Int.eq_ofNat_of_zero_le h.1
    exact rallows_yes n bt ng xn afe priv _ _ (may_le n afe priv (by omega)) k w h.1 h.2 (fun w => can_any n afe priv w (by omega))
  · rw [if_neg h]
    exact rallows_no ap bt ng xn afe priv k w h
end Go.Proofs.YtmmocnejacflmabDoor
