import Derived.Test.YtbbnodhpafiplaaDoorTp
import Derived.Test.YtbbnodhpafiplaaDoorPm
namespace Go.Proofs.YtbbnodhpafiplaaDoor
open Go.RowKit
set_option linter.unusedVariables false
set_option linter.unusedSimpArgs false

theorem power_lit2 (n : Nat) (N : Int) (w : World) (hn : n ≤ 60) (hN : (2 : Int) ^ n = N) (m : Int) (hm : m = (n : Int)) : Calls Tryd.prog 85 #[.int .i64 m] w fun e w' => e = .returned (.int .u64 N) ∧ w = w' := by
  subst hN hm
  exact power_any n w hn
set_option maxRecDepth 100000 in
theorem rplace_10_32 (b : Int) (w : World) (hb : 0 ≤ b) : Calls Tryd.prog 83 #[.int .u64 b, .int .i64 10, .int .i64 32] w fun e w' => e = .returned (.bool (decide (b % 1024 = 0) && decide (b < 4294967296))) ∧ w = w' := by
  have hp1 := fun w => power_lit2 10 1024 w (by decide) (by decide) 10 rfl
  have hp2 := fun w => power_lit2 32 4294967296 w (by decide) (by decide) 32 rfl
  have ht : b.tmod 1024 = b % 1024 := Int.tmod_eq_emod_of_nonneg hb
  by_cases h : b % 1024 = 0
  · have q : (b % 1024 == 0) = true := by simp [h]
    go_enter Tryd.func83, Tryd.ntmps83
    go_wp2_with (first
      | (go_at_call_of 85 (Value.int IntKind.i64 10); refine (hp1 _).mono ?_; rintro e w' ⟨rfl, rfl⟩)
      | (go_at_call_of 85 (Value.int IntKind.i64 32); refine (hp2 _).mono ?_; rintro e w' ⟨rfl, rfl⟩)
      | go_in)
    go_ret
    exact ⟨by simp [h], rfl⟩
  · have q : (b % 1024 == 0) = false := by simp [h]
    go_enter Tryd.func83, Tryd.ntmps83
    go_wp2_with (first
      | (go_at_call_of 85 (Value.int IntKind.i64 10); refine (hp1 _).mono ?_; rintro e w' ⟨rfl, rfl⟩)
      | (go_at_call_of 85 (Value.int IntKind.i64 32); refine (hp2 _).mono ?_; rintro e w' ⟨rfl, rfl⟩)
      | go_in)
    go_ret
    exact ⟨by simp [h], rfl⟩
set_option maxRecDepth 100000 in
theorem rplace_20_32 (b : Int) (w : World) (hb : 0 ≤ b) : Calls Tryd.prog 83 #[.int .u64 b, .int .i64 20, .int .i64 32] w fun e w' => e = .returned (.bool (decide (b % 1048576 = 0) && decide (b < 4294967296))) ∧ w = w' := by
  have hp1 := fun w => power_lit2 20 1048576 w (by decide) (by decide) 20 rfl
  have hp2 := fun w => power_lit2 32 4294967296 w (by decide) (by decide) 32 rfl
  have ht : b.tmod 1048576 = b % 1048576 := Int.tmod_eq_emod_of_nonneg hb
  by_cases h : b % 1048576 = 0
  · have q : (b % 1048576 == 0) = true := by simp [h]
    go_enter Tryd.func83, Tryd.ntmps83
    go_wp2_with (first
      | (go_at_call_of 85 (Value.int IntKind.i64 20); refine (hp1 _).mono ?_; rintro e w' ⟨rfl, rfl⟩)
      | (go_at_call_of 85 (Value.int IntKind.i64 32); refine (hp2 _).mono ?_; rintro e w' ⟨rfl, rfl⟩)
      | go_in)
    go_ret
    exact ⟨by simp [h], rfl⟩
  · have q : (b % 1048576 == 0) = false := by simp [h]
    go_enter Tryd.func83, Tryd.ntmps83
    go_wp2_with (first
      | (go_at_call_of 85 (Value.int IntKind.i64 20); refine (hp1 _).mono ?_; rintro e w' ⟨rfl, rfl⟩)
      | (go_at_call_of 85 (Value.int IntKind.i64 32); refine (hp2 _).mono ?_; rintro e w' ⟨rfl, rfl⟩)
      | go_in)
    go_ret
    exact ⟨by simp [h], rfl⟩
set_option maxRecDepth 100000 in
theorem rplace_24_40 (b : Int) (w : World) (hb : 0 ≤ b) : Calls Tryd.prog 83 #[.int .u64 b, .int .i64 24, .int .i64 40] w fun e w' => e = .returned (.bool (decide (b % 16777216 = 0) && decide (b < 1099511627776))) ∧ w = w' := by
  have hp1 := fun w => power_lit2 24 16777216 w (by decide) (by decide) 24 rfl
  have hp2 := fun w => power_lit2 40 1099511627776 w (by decide) (by decide) 40 rfl
  have ht : b.tmod 16777216 = b % 16777216 := Int.tmod_eq_emod_of_nonneg hb
  by_cases h : b % 16777216 = 0
  · have q : (b % 16777216 == 0) = true := by simp [h]
    go_enter Tryd.func83, Tryd.ntmps83
    go_wp2_with (first
      | (go_at_call_of 85 (Value.int IntKind.i64 24); refine (hp1 _).mono ?_; rintro e w' ⟨rfl, rfl⟩)
      | (go_at_call_of 85 (Value.int IntKind.i64 40); refine (hp2 _).mono ?_; rintro e w' ⟨rfl, rfl⟩)
      | go_in)
    go_ret
    exact ⟨by simp [h], rfl⟩
  · have q : (b % 16777216 == 0) = false := by simp [h]
    go_enter Tryd.func83, Tryd.ntmps83
    go_wp2_with (first
      | (go_at_call_of 85 (Value.int IntKind.i64 24); refine (hp1 _).mono ?_; rintro e w' ⟨rfl, rfl⟩)
      | (go_at_call_of 85 (Value.int IntKind.i64 40); refine (hp2 _).mono ?_; rintro e w' ⟨rfl, rfl⟩)
      | go_in)
    go_ret
    exact ⟨by simp [h], rfl⟩
set_option maxRecDepth 100000 in
theorem rplace_16_32 (b : Int) (w : World) (hb : 0 ≤ b) : Calls Tryd.prog 83 #[.int .u64 b, .int .i64 16, .int .i64 32] w fun e w' => e = .returned (.bool (decide (b % 65536 = 0) && decide (b < 4294967296))) ∧ w = w' := by
  have hp1 := fun w => power_lit2 16 65536 w (by decide) (by decide) 16 rfl
  have hp2 := fun w => power_lit2 32 4294967296 w (by decide) (by decide) 32 rfl
  have ht : b.tmod 65536 = b % 65536 := Int.tmod_eq_emod_of_nonneg hb
  by_cases h : b % 65536 = 0
  · have q : (b % 65536 == 0) = true := by simp [h]
    go_enter Tryd.func83, Tryd.ntmps83
    go_wp2_with (first
      | (go_at_call_of 85 (Value.int IntKind.i64 16); refine (hp1 _).mono ?_; rintro e w' ⟨rfl, rfl⟩)
      | (go_at_call_of 85 (Value.int IntKind.i64 32); refine (hp2 _).mono ?_; rintro e w' ⟨rfl, rfl⟩)
      | go_in)
    go_ret
    exact ⟨by simp [h], rfl⟩
  · have q : (b % 65536 == 0) = false := by simp [h]
    go_enter Tryd.func83, Tryd.ntmps83
    go_wp2_with (first
      | (go_at_call_of 85 (Value.int IntKind.i64 16); refine (hp1 _).mono ?_; rintro e w' ⟨rfl, rfl⟩)
      | (go_at_call_of 85 (Value.int IntKind.i64 32); refine (hp2 _).mono ?_; rintro e w' ⟨rfl, rfl⟩)
      | go_in)
    go_ret
    exact ⟨by simp [h], rfl⟩
set_option maxRecDepth 100000 in
theorem rplace_12_32 (b : Int) (w : World) (hb : 0 ≤ b) : Calls Tryd.prog 83 #[.int .u64 b, .int .i64 12, .int .i64 32] w fun e w' => e = .returned (.bool (decide (b % 4096 = 0) && decide (b < 4294967296))) ∧ w = w' := by
  have hp1 := fun w => power_lit2 12 4096 w (by decide) (by decide) 12 rfl
  have hp2 := fun w => power_lit2 32 4294967296 w (by decide) (by decide) 32 rfl
  have ht : b.tmod 4096 = b % 4096 := Int.tmod_eq_emod_of_nonneg hb
  by_cases h : b % 4096 = 0
  · have q : (b % 4096 == 0) = true := by simp [h]
    go_enter Tryd.func83, Tryd.ntmps83
    go_wp2_with (first
      | (go_at_call_of 85 (Value.int IntKind.i64 12); refine (hp1 _).mono ?_; rintro e w' ⟨rfl, rfl⟩)
      | (go_at_call_of 85 (Value.int IntKind.i64 32); refine (hp2 _).mono ?_; rintro e w' ⟨rfl, rfl⟩)
      | go_in)
    go_ret
    exact ⟨by simp [h], rfl⟩
  · have q : (b % 4096 == 0) = false := by simp [h]
    go_enter Tryd.func83, Tryd.ntmps83
    go_wp2_with (first
      | (go_at_call_of 85 (Value.int IntKind.i64 12); refine (hp1 _).mono ?_; rintro e w' ⟨rfl, rfl⟩)
      | (go_at_call_of 85 (Value.int IntKind.i64 32); refine (hp2 _).mono ?_; rintro e w' ⟨rfl, rfl⟩)
      | go_in)
    go_ret
    exact ⟨by simp [h], rfl⟩
def lfB (ap bt : Int) : Bool := decide (0 ≤ ap) && (decide (ap ≤ 7) && decide (bt ≤ 63))
set_option maxRecDepth 100000 in
theorem rleaf_any (ap bt : Int) (g x : Bool) (w : World) : Calls Tryd.prog 84 #[.agg #[.int .i64 ap, .int .u32 bt, .bool g, .bool x]] w fun e w' => e = .returned (.bool (lfB ap bt)) ∧ Below w.heap.size w w' := by
  have HB : Hid (∀ o, Below w.heap.size w (w.alloc o)) := fun o => ((Below.refl _ _).alloc (Nat.le_refl _) o)
  unfold lfB
  by_cases h1 : 0 ≤ ap
  · have q1 : decide (0 ≤ ap) = true := decide_eq_true h1
    by_cases h2 : ap ≤ 7
    · have q2 : decide (ap ≤ 7) = true := decide_eq_true h2
      go_enter Tryd.func84, Tryd.ntmps84
      go_wp2
      go_ret
      exact ⟨by simp [h1, h2], HB.out _⟩
    · have q2 : decide (ap ≤ 7) = false := decide_eq_false h2
      go_enter Tryd.func84, Tryd.ntmps84
      go_wp2
      go_ret
      exact ⟨by simp [h1, h2], HB.out _⟩
  · have q1 : decide (0 ≤ ap) = false := decide_eq_false h1
    go_enter Tryd.func84, Tryd.ntmps84
    go_wp2
    go_ret
    exact ⟨by simp [h1], HB.out _⟩
end Go.Proofs.YtbbnodhpafiplaaDoor
namespace Go.Proofs.YtbbnodhpafiplaaDoor
open Go.RowKit
set_option linter.unusedVariables false
set_option linter.unusedSimpArgs false

end Go.Proofs.YtbbnodhpafiplaaDoor
namespace Go.Proofs.YtbbnodhpafiplaaDoor
open Go.RowKit
set_option linter.unusedVariables false
set_option linter.unusedSimpArgs false

end Go.Proofs.YtbbnodhpafiplaaDoor
namespace Go.Proofs.YtbbnodhpafiplaaDoor
open Go.RowKit
set_option linter.unusedVariables false
set_option linter.unusedSimpArgs false
theorem nz {e : Ent} (h : e.kind ≠ 0) : ¬ e = dZ := fun g => h (dZ_kind g)
theorem bool1 (e : Ent) (hO : Ok e) (h : e.kind = 1) : ((decide (e.base % 1024 = 0) && decide (e.base < 4294967296)) && ((decide (0 ≤ e.dom) && decide (e.dom ≤ 15)) && sameL e.ap e.bits e.ng e.xn 0 0 false false)) = (D1 (E e)).same e := by
  apply Bool.eq_iff_iff.2
  rw [Ent.same_iff, says1_iff e hO]
  have := nz (e := e) (by omega)
  simp only [Bool.and_eq_true, decide_eq_true_eq, sameL_iff, Says1, h, this, false_or, true_and]
  constructor
  · rintro ⟨⟨a, b⟩, ⟨c, d⟩, f⟩
    exact .inl ⟨⟨a, b⟩, ⟨c, d⟩, f⟩
  · rintro (⟨⟨a, b⟩, ⟨c, d⟩, f⟩ | ⟨g, _⟩ | ⟨g, _⟩)
    · exact ⟨⟨a, b⟩, ⟨c, d⟩, f⟩
    · exact absurd g (by decide)
    · exact absurd g (by decide)
theorem lfB_iff (ap bt : Int) : lfB ap bt = true ↔ 0 ≤ ap ∧ ap ≤ 7 ∧ bt ≤ 63 := by simp [lfB]
theorem bool2 (e : Ent) (hO : Ok e) (h : e.kind = 2) : ((decide (e.base % 1048576 = 0) && decide (e.base < 4294967296)) && ((decide (0 ≤ e.dom) && decide (e.dom ≤ 15)) && lfB e.ap e.bits)) = (D1 (E e)).same e := by
  apply Bool.eq_iff_iff.2
  rw [Ent.same_iff, says1_iff e hO]
  have := nz (e := e) (by omega)
  simp only [Bool.and_eq_true, decide_eq_true_eq, lfB_iff, Says1, leafOk, h, this, false_or, true_and]
  constructor
  · rintro ⟨⟨a, b⟩, ⟨c, d⟩, f⟩
    exact .inr (.inl ⟨⟨a, b⟩, ⟨c, d⟩, f⟩)
  · rintro (⟨g, _⟩ | ⟨⟨a, b⟩, ⟨c, d⟩, f⟩ | ⟨g, _⟩)
    · exact absurd g (by decide)
    · exact ⟨⟨a, b⟩, ⟨c, d⟩, f⟩
    · exact absurd g (by decide)
theorem bool3 (e : Ent) (hO : Ok e) (h : e.kind = 3) : ((decide (e.base % 16777216 = 0) && decide (e.base < 1099511627776)) && ((e.dom == 0) && lfB e.ap e.bits)) = (D1 (E e)).same e := by
  apply Bool.eq_iff_iff.2
  rw [Ent.same_iff, says1_iff e hO]
  have := nz (e := e) (by omega)
  simp only [Bool.and_eq_true, decide_eq_true_eq, beq_iff_eq, lfB_iff, Says1, leafOk, h, this, false_or, true_and]
  constructor
  · rintro ⟨⟨a, b⟩, c, f⟩
    exact .inr (.inr ⟨⟨a, b⟩, c, f⟩)
  · rintro (⟨g, _⟩ | ⟨g, _⟩ | ⟨⟨a, b⟩, c, f⟩)
    · exact absurd g (by decide)
    · exact absurd g (by decide)
    · exact ⟨⟨a, b⟩, c, f⟩
theorem bool4 (e : Ent) (hO : Ok e) (h : e.kind = 4) : ((decide (e.base % 65536 = 0) && decide (e.base < 4294967296)) && ((e.dom == 0) && (!e.ns && lfB e.ap e.bits))) = (D2 (E e)).same e := by
  apply Bool.eq_iff_iff.2
  rw [Ent.same_iff, says2_iff e hO]
  have := nz (e := e) (by omega)
  simp only [Bool.and_eq_true, decide_eq_true_eq, beq_iff_eq, lfB_iff, Says2, leafOk, h, this, false_or, true_and, Bool.not_eq_true']
  constructor
  · rintro ⟨⟨a, b⟩, c, d, f⟩
    exact .inl ⟨⟨a, b⟩, c, d, f⟩
  · rintro (⟨⟨a, b⟩, c, d, f⟩ | ⟨g, _⟩)
    · exact ⟨⟨a, b⟩, c, d, f⟩
    · exact absurd g (by decide)
theorem bool5 (e : Ent) (hO : Ok e) (h : e.kind = 5) : ((decide (e.base % 4096 = 0) && decide (e.base < 4294967296)) && ((e.dom == 0) && (!e.ns && lfB e.ap e.bits))) = (D2 (E e)).same e := by
  apply Bool.eq_iff_iff.2
  rw [Ent.same_iff, says2_iff e hO]
  have := nz (e := e) (by omega)
  simp only [Bool.and_eq_true, decide_eq_true_eq, beq_iff_eq, lfB_iff, Says2, leafOk, h, this, false_or, true_and, Bool.not_eq_true']
  constructor
  · rintro ⟨⟨a, b⟩, c, d, f⟩
    exact .inr ⟨⟨a, b⟩, c, d, f⟩
  · rintro (⟨g, _⟩ | ⟨⟨a, b⟩, c, d, f⟩)
    · exact absurd g (by decide)
    · exact ⟨⟨a, b⟩, c, d, f⟩
theorem bool0 (e : Ent) (h : ¬ (1 ≤ e.kind ∧ e.kind ≤ 5)) : e.same dZ = (D1 (E e)).same e ∧ e.same dZ = (D2 (E e)).same e := by
  rw [E0 e h, D1_0, D2_0]
  have : e.same dZ = dZ.same e := by
    apply Bool.eq_iff_iff.2
    rw [Ent.same_iff, Ent.same_iff]
    exact ⟨fun h => h.symm, fun h => h.symm⟩
  exact ⟨this, this⟩
end Go.Proofs.YtbbnodhpafiplaaDoor
namespace Go.Proofs.YtbbnodhpafiplaaDoor
open Go.RowKit
set_option linter.unusedVariables false
set_option linter.unusedSimpArgs false
theorem trF_eq (e : Ent) (t : Tra) (dm va : Int) (ht : 1 ≤ t.size) : trF e dm va = t ↔ (sb e = true ∧ 0 ≤ domOf e dm ∧ domOf e dm ≤ 15) ∧ szK e.kind = t.size ∧ va / byN (szK e.kind) * byN (szK e.kind) = t.va ∧ e.base = t.pa ∧ domOf e dm = t.dom ∧ e.ap = t.ap ∧ e.bits = t.bits ∧ e.ng = t.ng ∧ e.xn = t.xn := by
  obtain ⟨t1, t2, t3, t4, t5, t6, t7, t8⟩ := t
  unfold trF
  split
  · rename_i h
    simp only [Tra.mk.injEq, h, true_and]
  · rename_i h
    constructor
    · intro g
      have := congrArg Tra.size g
      simp only [tZ] at this ht
      omega
    · intro g
      exact absurd g.1 h
/-- What a translation that is right is. -/
def RR (t : Tra) : Prop := t.va % byN t.size = 0 ∧ (0 ≤ t.ap ∧ t.ap ≤ 7 ∧ t.bits ≤ 63) ∧ (0 ≤ t.dom ∧ t.dom ≤ 15) ∧ (t.pa % byN t.size = 0 ∧ (if t.size = 4 then t.pa < 1099511627776 ∧ t.dom = 0 else t.pa < 4294967296))
theorem ri_iff (t : Tra) (hO : Ok (enF t)) (hs : 1 ≤ t.size ∧ t.size ≤ 4) : riF t = true ↔ RR t := by
  have q : (decide (1 ≤ t.size) && decide (t.size ≤ 4)) = true := by simp [hs]
  unfold riF
  rw [q, Bool.true_and, Tra.same_iff, trF_eq _ _ _ _ hs.1]
  obtain ⟨s, t2, t3, t4, t5, t6, t7, t8⟩ := t
  simp only at hs hO
  rcases (show s = 1 ∨ s = 2 ∨ s = 3 ∨ s = 4 by omega) with rfl | rfl | rfl | rfl
  · have hb : sb (enF ⟨1, t2, t3, t4, t5, t6, t7, t8⟩) = (D2 (E (enF ⟨1, t2, t3, t4, t5, t6, t7, t8⟩))).same (enF ⟨1, t2, t3, t4, t5, t6, t7, t8⟩) := rfl
    rw [hb, ← bool5 _ hO rfl]
    have e1 : domOf (enF ⟨1, t2, t3, t4, t5, t6, t7, t8⟩) t4 = t4 := rfl
    have e2 : byN (szK (enF ⟨1, t2, t3, t4, t5, t6, t7, t8⟩).kind) = 4096 := rfl
    have e3 : szK (enF ⟨1, t2, t3, t4, t5, t6, t7, t8⟩).kind = 1 := rfl
    have e4 : byN 1 = 4096 := rfl
    simp only [e1, e3, e4]
    simp only [Bool.and_eq_true, decide_eq_true_eq, beq_iff_eq, lfB_iff, enF, RR, e4, Bool.not_eq_true', and_true, true_and, show ¬ ((1 : Int) = 3) from by decide, show ¬ ((1 : Int) = 4) from by decide, if_false]
    omega
  · have hb : sb (enF ⟨2, t2, t3, t4, t5, t6, t7, t8⟩) = (D2 (E (enF ⟨2, t2, t3, t4, t5, t6, t7, t8⟩))).same (enF ⟨2, t2, t3, t4, t5, t6, t7, t8⟩) := rfl
    rw [hb, ← bool4 _ hO rfl]
    have e1 : domOf (enF ⟨2, t2, t3, t4, t5, t6, t7, t8⟩) t4 = t4 := rfl
    have e3 : szK (enF ⟨2, t2, t3, t4, t5, t6, t7, t8⟩).kind = 2 := rfl
    have e4 : byN 2 = 65536 := rfl
    simp only [e1, e3, e4]
    simp only [Bool.and_eq_true, decide_eq_true_eq, beq_iff_eq, lfB_iff, enF, RR, e4, Bool.not_eq_true', and_true, true_and, show ¬ ((2 : Int) = 3) from by decide, show ¬ ((2 : Int) = 4) from by decide, if_false]
    omega
  · have hb : sb (enF ⟨3, t2, t3, t4, t5, t6, t7, t8⟩) = (D1 (E (enF ⟨3, t2, t3, t4, t5, t6, t7, t8⟩))).same (enF ⟨3, t2, t3, t4, t5, t6, t7, t8⟩) := rfl
    rw [hb, ← bool2 _ hO rfl]
    have e1 : domOf (enF ⟨3, t2, t3, t4, t5, t6, t7, t8⟩) t4 = t4 := rfl
    have e3 : szK (enF ⟨3, t2, t3, t4, t5, t6, t7, t8⟩).kind = 3 := rfl
    have e4 : byN 3 = 1048576 := rfl
    simp only [e1, e3, e4]
    simp only [Bool.and_eq_true, decide_eq_true_eq, beq_iff_eq, lfB_iff, enF, RR, e4, Bool.not_eq_true', and_true, true_and, show ¬ ((3 : Int) = 4) from by decide, if_false, if_true]
    omega
  · have hb : sb (enF ⟨4, t2, t3, t4, t5, t6, t7, t8⟩) = (D1 (E (enF ⟨4, t2, t3, t4, t5, t6, t7, t8⟩))).same (enF ⟨4, t2, t3, t4, t5, t6, t7, t8⟩) := rfl
    rw [hb, ← bool3 _ hO rfl]
    have e1 : domOf (enF ⟨4, t2, t3, t4, t5, t6, t7, t8⟩) t4 = 0 := rfl
    have e3 : szK (enF ⟨4, t2, t3, t4, t5, t6, t7, t8⟩).kind = 4 := rfl
    have e4 : byN 4 = 16777216 := rfl
    simp only [e1, e3, e4]
    simp only [Bool.and_eq_true, decide_eq_true_eq, beq_iff_eq, lfB_iff, enF, RR, e4, Bool.not_eq_true', and_true, true_and, show ¬ ((4 : Int) = 3) from by decide, if_false, if_true]
    omega
end Go.Proofs.YtbbnodhpafiplaaDoor
