import Derived.Test.YtdelcknpaldngaaLe
namespace Go.Proofs.Ytdelcknpaldngaa
open Go.RowKit
set_option linter.unusedVariables false
set_option linter.unusedSimpArgs false
theorem i32_sgn2 (x : Int) (h0 : 0 ≤ x) (h1 : x < 4294967296) : IntKind.i32.wrap x = sgn x := by
  rw [IntKind.wrap_i32]
  unfold sgn
  split <;> omega
set_option maxRecDepth 100000 in
theorem lsigned_any (x : Int) (w : World) (h0 : 0 ≤ x) (h1 : x < 4294967296) :
    Calls Try.prog 13 #[.int .u32 x] w fun e w' => e = .returned (.int .i64 (sgn x)) ∧ w' = w := by
  have i1 := i32_sgn2 x h0 h1
  have r := sgn_range x h0 h1
  have f1 : wrap64 (sgn x) = sgn x := by unfold wrap64; omega
  have f2 : IntKind.i64.wrap (sgn x) = sgn x := by rw [IntKind.wrap_i64]; omega
  clear r
  go_enter Try.func13, Try.ntmps13
  go_wp2
  go_ret
  exact ⟨rfl, rfl⟩
theorem bool_iff {p q : Prop} [Decidable p] [Decidable q] (h : p ↔ q) : decide p = decide q := by
  by_cases hp : p
  · rw [decide_eq_true hp, decide_eq_true (h.1 hp)]
  · rw [decide_eq_false hp, decide_eq_false (fun hq => hp (h.2 hq))]
/-- The flags behind a comparison. -/
theorem cmp_flags (a b D : Int) (a0 : 0 ≤ a) (a1 : a < 4294967296) (b0 : 0 ≤ b) (b1 : b < 4294967296) (hD : (a - b) % 4294967296 = D) :
    suW a (nt b) true = D ∧ (suF a (nt b) true).n = decide (sgn D < 0) ∧ (suF a (nt b) true).z = decide (a = b) ∧ (suF a (nt b) true).c = decide (b ≤ a) ∧ (suF a (nt b) true).v = decide (sgn a - sgn b ≠ sgn D) := by
  have hW : suW a (nt b) true = D := by unfold suW nt cI; simp only [if_true]; omega
  have hn : sgn (nt b) = - 1 - sgn b := by unfold sgn nt; split <;> split <;> omega
  refine ⟨hW, ?_, ?_, ?_, ?_⟩
  · show decide (2147483648 ≤ suW a (nt b) true) = _
    rw [hW]
    apply bool_iff
    unfold sgn
    split <;> omega
  · show (suW a (nt b) true == 0) = _
    rw [hW]
    show decide (D = 0) = _
    apply bool_iff
    omega
  · show decide (4294967296 ≤ a + nt b + cI true) = _
    apply bool_iff
    unfold nt cI
    simp only [if_true]
    omega
  · show (sgn a + sgn (nt b) + cI true != sgn (suW a (nt b) true)) = _
    rw [hW, hn]
    by_cases h : sgn a - sgn b = sgn D
    · rw [decide_eq_false (by simp [h])]
      have : sgn a + (-1 - sgn b) + cI true = sgn D := by unfold cI; simp only [if_true]; omega
      rw [this]
      simp
    · rw [decide_eq_true h]
      have : sgn a + (-1 - sgn b) + cI true ≠ sgn D := by unfold cI; simp only [if_true]; omega
      simpa using this
theorem beq_dec (p q : Prop) [Decidable p] [Decidable q] : (decide p == decide q) = decide (p ↔ q) := by
  by_cases hp : p <;> by_cases hq : q <;> simp [hp, hq]
/-- The conditions behind a comparison. -/
theorem cmp_conds (a b D : Int) (a0 : 0 ≤ a) (a1 : a < 4294967296) (b0 : 0 ≤ b) (b1 : b < 4294967296) (hD : (a - b) % 4294967296 = D) (n z c v : Bool)
    (hn : n = decide (sgn D < 0)) (hz : z = decide (a = b)) (hc : c = decide (b ≤ a)) (hv : v = decide (sgn a - sgn b ≠ sgn D)) :
    paF 0 n z c v = (a == b) ∧ paF 1 n z c v = (a != b) ∧ paF 2 n z c v = (decide (b ≤ a)) ∧ paF 3 n z c v = (decide (a < b)) ∧ paF 4 n z c v = (decide (sgn D < 0)) ∧ paF 5 n z c v = (decide (0 ≤ sgn D)) ∧ paF 6 n z c v = (sgn a - sgn b != sgn D) ∧ paF 7 n z c v = (sgn a - sgn b == sgn D) ∧ paF 8 n z c v = (decide (b < a)) ∧ paF 9 n z c v = (decide (a ≤ b)) ∧ paF 10 n z c v = (decide (sgn b ≤ sgn a)) ∧ paF 11 n z c v = (decide (sgn a < sgn b)) ∧ paF 12 n z c v = (decide (sgn b < sgn a)) ∧ paF 13 n z c v = (decide (sgn a ≤ sgn b)) ∧ paF 14 n z c v = true ∧ paF 15 n z c v = false := by
  have hs : (sgn D < 0 ↔ sgn a - sgn b ≠ sgn D) ↔ (sgn b ≤ sgn a) := by
    have e : sgn a - sgn b = sgn D ∨ sgn a - sgn b = sgn D + 4294967296 ∨ sgn a - sgn b = sgn D - 4294967296 := by
      unfold sgn
      split <;> split <;> split <;> omega
    have r := sgn_range D (by omega) (by omega)
    have ra := sgn_range a a0 a1
    have rb := sgn_range b b0 b1
    clear hD hn hz hc hv
    generalize sgn D = d at *
    generalize sgn a = x at *
    generalize sgn b = y at *
    refine ⟨fun h => ?_, fun h => ⟨fun h1 => ?_, fun h1 => ?_⟩⟩
    · by_cases hN : d < 0
      · have := h.1 hN
        omega
      · have hV : x - y = d := Classical.byContradiction fun hne => hN (h.2 hne)
        omega
    · omega
    · omega
  have e2 : sgn a = sgn b ↔ a = b := by unfold sgn; split <;> split <;> omega
  subst hn hz hc hv
  refine ⟨?_, ?_, ?_, ?_, ?_, ?_, ?_, ?_, ?_, ?_, ?_, ?_, ?_, ?_, rfl, rfl⟩
  · rfl
  · show (!decide (a = b)) = !decide (a = b); rfl
  · rfl
  · show (!decide (b ≤ a)) = _; rw [← decide_not]; apply bool_iff; omega
  · rfl
  · show (!decide (sgn D < 0)) = _; rw [← decide_not]; apply bool_iff; omega
  · show decide (sgn a - sgn b ≠ sgn D) = !decide (sgn a - sgn b = sgn D); rw [decide_not]
  · show (!decide (sgn a - sgn b ≠ sgn D)) = decide (sgn a - sgn b = sgn D); rw [← decide_not]; apply bool_iff; omega
  · show (decide (b ≤ a) && !decide (a = b)) = _; rw [← decide_not, ← Bool.decide_and]; apply bool_iff; omega
  · show (!decide (b ≤ a) || decide (a = b)) = _; rw [← decide_not, ← Bool.decide_or]; apply bool_iff; omega
  · show (decide (sgn D < 0) == decide (sgn a - sgn b ≠ sgn D)) = _; rw [beq_dec]; apply bool_iff; rw [hs]
  · show (!(decide (sgn D < 0) == decide (sgn a - sgn b ≠ sgn D))) = _; rw [beq_dec, ← decide_not]; apply bool_iff; rw [hs]; omega
  · show (!decide (a = b) && (decide (sgn D < 0) == decide (sgn a - sgn b ≠ sgn D))) = _; rw [beq_dec, ← decide_not, ← Bool.decide_and]; apply bool_iff; rw [hs]; omega
  · show (decide (a = b) || !(decide (sgn D < 0) == decide (sgn a - sgn b ≠ sgn D))) = _; rw [beq_dec, ← decide_not, ← Bool.decide_or]; apply bool_iff; rw [hs]; omega
end Go.Proofs.Ytdelcknpaldngaa
