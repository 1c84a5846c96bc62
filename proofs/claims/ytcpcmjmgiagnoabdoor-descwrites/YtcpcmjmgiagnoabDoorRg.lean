import Derived.Test.YtcpcmjmgiagnoabDoorRs1
import Derived.Test.YtcpcmjmgiagnoabDoorRs2
namespace Go.Proofs.YtcpcmjmgiagnoabDoor
open Go.RowKit
set_option linter.unusedVariables false
set_option linter.unusedSimpArgs false
set_option maxRecDepth 100000 in
set_option maxHeartbeats 4000000 in
theorem says1_0 (k2 k3 : Int) (k4 : Bool) (k5 k6 : Int) (k7 k8 : Bool) (W : World) (S : Bool)
    (heq : ∀ w, (Op.equalIn 10000 28 (.agg #[.int .i64 0, .int .u64 k2, .int .i64 k3, .bool k4, .int .i64 k5, .int .u32 k6, .bool k7, .bool k8]) (.agg #[.int .i64 0, .int .u64 0, .int .i64 0, .bool false, .int .i64 0, .int .u32 0, .bool false, .bool false])).run Tryd.prog w = .ok S w) :
    Calls Tryd.prog 25 #[.agg #[.int .i64 0, .int .u64 k2, .int .i64 k3, .bool k4, .int .i64 k5, .int .u32 k6, .bool k7, .bool k8]] W fun r w' => r = .returned (.bool S) ∧ Below W.heap.size W w' := by
  have HB0 : Hid (∀ o, Below W.heap.size W (W.alloc o)) := fun o => ((Below.refl _ _).alloc (Nat.le_refl _) o)
  have ha : ∃ a, decide (0 ≤ k3) = a := ⟨_, rfl⟩
  obtain ⟨a, ha⟩ := ha
  have hb : ∃ b, decide (k3 ≤ 15) = b := ⟨_, rfl⟩
  obtain ⟨b, hb⟩ := hb
  cases a <;> cases b
  all_goals
    go_enter Tryd.func25, Tryd.ntmps25
    go_wp2
    go_ret
    exact ⟨rfl, HB0.out _⟩
set_option maxRecDepth 100000 in
set_option maxHeartbeats 4000000 in
theorem says1_no (e : Ent) (W : World) (h : e.kind < 0 ∨ 3 < e.kind) : Calls Tryd.prog 25 #[.agg #[.int .i64 e.kind, .int .u64 e.base, .int .i64 e.dom, .bool e.ns, .int .i64 e.ap, .int .u32 e.bits, .bool e.ng, .bool e.xn]] W fun r w' => r = .returned (.bool false) ∧ Below W.heap.size W w' := by
  have HB0 : Hid (∀ o, Below W.heap.size W (W.alloc o)) := fun o => ((Below.refl _ _).alloc (Nat.le_refl _) o)
  have q0 : (e.kind == 0) = false := by simp; omega
  have q1 : (e.kind == 1) = false := by simp; omega
  have q2 : (e.kind == 2) = false := by simp; omega
  have q3 : (e.kind == 3) = false := by simp; omega
  clear h
  have ha : ∃ a, decide (0 ≤ e.dom) = a := ⟨_, rfl⟩
  obtain ⟨a, ha⟩ := ha
  have hb : ∃ b, decide (e.dom ≤ 15) = b := ⟨_, rfl⟩
  obtain ⟨b, hb⟩ := hb
  cases a <;> cases b
  all_goals
    go_enter Tryd.func25, Tryd.ntmps25
    go_wp2
    go_ret
    exact ⟨rfl, HB0.out _⟩
set_option maxRecDepth 100000 in
set_option maxHeartbeats 4000000 in
theorem says2_0 (k2 k3 : Int) (k4 : Bool) (k5 k6 : Int) (k7 k8 : Bool) (W : World) (S : Bool)
    (heq : ∀ w, (Op.equalIn 10000 28 (.agg #[.int .i64 0, .int .u64 k2, .int .i64 k3, .bool k4, .int .i64 k5, .int .u32 k6, .bool k7, .bool k8]) (.agg #[.int .i64 0, .int .u64 0, .int .i64 0, .bool false, .int .i64 0, .int .u32 0, .bool false, .bool false])).run Tryd.prog w = .ok S w) :
    Calls Tryd.prog 30 #[.agg #[.int .i64 0, .int .u64 k2, .int .i64 k3, .bool k4, .int .i64 k5, .int .u32 k6, .bool k7, .bool k8]] W fun r w' => r = .returned (.bool S) ∧ Below W.heap.size W w' := by
  have HB0 : Hid (∀ o, Below W.heap.size W (W.alloc o)) := fun o => ((Below.refl _ _).alloc (Nat.le_refl _) o)
  go_enter Tryd.func30, Tryd.ntmps30
  go_wp2
  go_ret
  exact ⟨rfl, HB0.out _⟩
set_option maxRecDepth 100000 in
set_option maxHeartbeats 4000000 in
theorem says2_no (e : Ent) (W : World) (h : ¬ (e.kind = 0 ∨ e.kind = 4 ∨ e.kind = 5)) : Calls Tryd.prog 30 #[.agg #[.int .i64 e.kind, .int .u64 e.base, .int .i64 e.dom, .bool e.ns, .int .i64 e.ap, .int .u32 e.bits, .bool e.ng, .bool e.xn]] W fun r w' => r = .returned (.bool false) ∧ Below W.heap.size W w' := by
  have HB0 : Hid (∀ o, Below W.heap.size W (W.alloc o)) := fun o => ((Below.refl _ _).alloc (Nat.le_refl _) o)
  have q0 : (e.kind == 0) = false := by simp; omega
  have q1 : (e.kind == 4) = false := by simp; omega
  have q2 : (e.kind == 5) = false := by simp; omega
  clear h
  go_enter Tryd.func30, Tryd.ntmps30
  go_wp2
  go_ret
  exact ⟨rfl, HB0.out _⟩
theorem nz {e : Ent} (h : e.kind ≠ 0) : ¬ e = dZ := fun g => h (dZ_kind g)
theorem bool1 (e : Ent) (hO : Ok e) (h : e.kind = 1) : ((decide (e.base % 1024 = 0) && decide (e.base < 4294967296)) && ((decide (0 ≤ e.dom) && decide (e.dom ≤ 15)) && sameL e.ap e.bits e.ng e.xn 0 0 false false)) = (D1 (E e)).same e := by
  apply Bool.eq_iff_iff.2
  rw [Ent.same_iff, says1_iff e hO]
  have := nz (e := e) (by omega)
  simp only [Bool.and_eq_true, decide_eq_true_eq, sameL_iff, Says1, h, this, false_or, true_and]
  constructor
  · rintro ⟨⟨a, b⟩, ⟨c, d⟩, f⟩
    exact .inl ⟨⟨a, b⟩, ⟨c, d⟩, f⟩
  · rintro (⟨⟨a, b⟩, ⟨c, d⟩, f⟩ | ⟨g, _⟩ | ⟨g, _⟩)
    · exact ⟨⟨a, b⟩, ⟨c, d⟩, f⟩
    · exact absurd g (by decide)
    · exact absurd g (by decide)
theorem lfB_iff (ap bt : Int) : lfB ap bt = true ↔ 0 ≤ ap ∧ ap ≤ 7 ∧ bt ≤ 63 := by simp [lfB]
theorem bool2 (e : Ent) (hO : Ok e) (h : e.kind = 2) : ((decide (e.base % 1048576 = 0) && decide (e.base < 4294967296)) && ((decide (0 ≤ e.dom) && decide (e.dom ≤ 15)) && lfB e.ap e.bits)) = (D1 (E e)).same e := by
  apply Bool.eq_iff_iff.2
  rw [Ent.same_iff, says1_iff e hO]
  have := nz (e := e) (by omega)
  simp only [Bool.and_eq_true, decide_eq_true_eq, lfB_iff, Says1, leafOk, h, this, false_or, true_and]
  constructor
  · rintro ⟨⟨a, b⟩, ⟨c, d⟩, f⟩
    exact .inr (.inl ⟨⟨a, b⟩, ⟨c, d⟩, f⟩)
  · rintro (⟨g, _⟩ | ⟨⟨a, b⟩, ⟨c, d⟩, f⟩ | ⟨g, _⟩)
    · exact absurd g (by decide)
    · exact ⟨⟨a, b⟩, ⟨c, d⟩, f⟩
    · exact absurd g (by decide)
theorem bool3 (e : Ent) (hO : Ok e) (h : e.kind = 3) : ((decide (e.base % 16777216 = 0) && decide (e.base < 1099511627776)) && ((e.dom == 0) && lfB e.ap e.bits)) = (D1 (E e)).same e := by
  apply Bool.eq_iff_iff.2
  rw [Ent.same_iff, says1_iff e hO]
  have := nz (e := e) (by omega)
  simp only [Bool.and_eq_true, decide_eq_true_eq, beq_iff_eq, lfB_iff, Says1, leafOk, h, this, false_or, true_and]
  constructor
  · rintro ⟨⟨a, b⟩, c, f⟩
    exact .inr (.inr ⟨⟨a, b⟩, c, f⟩)
  · rintro (⟨g, _⟩ | ⟨g, _⟩ | ⟨⟨a, b⟩, c, f⟩)
    · exact absurd g (by decide)
    · exact absurd g (by decide)
    · exact ⟨⟨a, b⟩, c, f⟩
theorem bool4 (e : Ent) (hO : Ok e) (h : e.kind = 4) : ((decide (e.base % 65536 = 0) && decide (e.base < 4294967296)) && ((e.dom == 0) && (!e.ns && lfB e.ap e.bits))) = (D2 (E e)).same e := by
  apply Bool.eq_iff_iff.2
  rw [Ent.same_iff, says2_iff e hO]
  have := nz (e := e) (by omega)
  simp only [Bool.and_eq_true, decide_eq_true_eq, beq_iff_eq, lfB_iff, Says2, leafOk, h, this, false_or, true_and, Bool.not_eq_true']
  constructor
  · rintro ⟨⟨a, b⟩, c, d, f⟩
    exact .inl ⟨⟨a, b⟩, c, d, f⟩
  · rintro (⟨⟨a, b⟩, c, d, f⟩ | ⟨g, _⟩)
    · exact ⟨⟨a, b⟩, c, d, f⟩
    · exact absurd g (by decide)
theorem bool5 (e : Ent) (hO : Ok e) (h : e.kind = 5) : ((decide (e.base % 4096 = 0) && decide (e.base < 4294967296)) && ((e.dom == 0) && (!e.ns && lfB e.ap e.bits))) = (D2 (E e)).same e := by
  apply Bool.eq_iff_iff.2
  rw [Ent.same_iff, says2_iff e hO]
  have := nz (e := e) (by omega)
  simp only [Bool.and_eq_true, decide_eq_true_eq, beq_iff_eq, lfB_iff, Says2, leafOk, h, this, false_or, true_and, Bool.not_eq_true']
  constructor
  · rintro ⟨⟨a, b⟩, c, d, f⟩
    exact .inr ⟨⟨a, b⟩, c, d, f⟩
  · rintro (⟨g, _⟩ | ⟨⟨a, b⟩, c, d, f⟩)
    · exact absurd g (by decide)
    · exact ⟨⟨a, b⟩, c, d, f⟩
theorem bool0 (e : Ent) (h : ¬ (1 ≤ e.kind ∧ e.kind ≤ 5)) : e.same dZ = (D1 (E e)).same e ∧ e.same dZ = (D2 (E e)).same e := by
  rw [E0 e h, D1_0, D2_0]
  have : e.same dZ = dZ.same e := by
    apply Bool.eq_iff_iff.2
    rw [Ent.same_iff, Ent.same_iff]
    exact ⟨fun h => h.symm, fun h => h.symm⟩
  exact ⟨this, this⟩
theorem says1_ref (e : Ent) (W : World) (hO : Ok e) : Calls Tryd.prog 25 #[.agg #[.int .i64 e.kind, .int .u64 e.base, .int .i64 e.dom, .bool e.ns, .int .i64 e.ap, .int .u32 e.bits, .bool e.ng, .bool e.xn]] W fun r w' => r = .returned (.bool ((D1 (E e)).same e)) ∧ Below W.heap.size W w' := by
  have hb := hO.1.1
  have HL := fun w => rleaf_any e.ap e.bits e.ng e.xn w
  by_cases h0 : e.kind = 0
  · rw [← (bool0 e (by omega)).1]
    have q := eqE e dZ
    rw [h0] at q ⊢
    exact says1_0 _ _ _ _ _ _ _ W _ q
  by_cases h1 : e.kind = 1
  · rw [← bool1 e hO h1, h1]
    exact says1_1 _ _ _ _ _ _ _ W _ (fun w => rplace_10_32 e.base w hb) _ _ rfl rfl _ (eqL _ _ _ _ _ _ _ _)
  by_cases h2 : e.kind = 2
  · rw [← bool2 e hO h2, h2]
    exact says1_2 _ _ _ _ _ _ _ W _ (fun w => rplace_20_32 e.base w hb) _ _ rfl rfl _ HL
  by_cases h3 : e.kind = 3
  · rw [← bool3 e hO h3, h3]
    exact says1_3 _ _ _ _ _ _ _ W _ (fun w => rplace_24_40 e.base w hb) _ _ rfl rfl _ rfl _ HL
  · have hf : (D1 (E e)).same e = false := by
      cases hs : (D1 (E e)).same e with
      | false => rfl
      | true =>
        have g := (Ent.same_iff _ _).1 hs
        have k := D1_kind (E e)
        rw [g] at k
        omega
    rw [hf]
    exact says1_no e W (by omega)
theorem says2_ref (e : Ent) (W : World) (hO : Ok e) : Calls Tryd.prog 30 #[.agg #[.int .i64 e.kind, .int .u64 e.base, .int .i64 e.dom, .bool e.ns, .int .i64 e.ap, .int .u32 e.bits, .bool e.ng, .bool e.xn]] W fun r w' => r = .returned (.bool ((D2 (E e)).same e)) ∧ Below W.heap.size W w' := by
  have hb := hO.1.1
  have HL := fun w => rleaf_any e.ap e.bits e.ng e.xn w
  by_cases h0 : e.kind = 0
  · rw [← (bool0 e (by omega)).2]
    have q := eqE e dZ
    rw [h0] at q ⊢
    exact says2_0 _ _ _ _ _ _ _ W _ q
  by_cases h1 : e.kind = 4
  · rw [← bool4 e hO h1, h1]
    exact says2_4 _ _ _ _ _ _ _ W _ (fun w => rplace_16_32 e.base w hb) _ rfl _ HL
  by_cases h2 : e.kind = 5
  · rw [← bool5 e hO h2, h2]
    exact says2_5 _ _ _ _ _ _ _ W _ (fun w => rplace_12_32 e.base w hb) _ rfl _ HL
  · have hf : (D2 (E e)).same e = false := by
      cases hs : (D2 (E e)).same e with
      | false => rfl
      | true =>
        have g := (Ent.same_iff _ _).1 hs
        have k := D2_kind (E e)
        rw [g] at k
        omega
    rw [hf]
    exact says2_no e W (by omega)
end Go.Proofs.YtcpcmjmgiagnoabDoor
