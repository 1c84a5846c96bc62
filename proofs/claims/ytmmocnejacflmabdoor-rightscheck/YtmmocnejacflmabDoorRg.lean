import Derived.Test.YtmmocnejacflmabDoorRs1
import Derived.Test.YtmmocnejacflmabDoorRs2
namespace Go.Proofs.YtmmocnejacflmabDoor
open Go.RowKit
set_option linter.unusedVariables false
set_option linter.unusedSimpArgs false
theorem nz {e : Ent} (h : e.kind ≠ 0) : ¬ e = dZ := fun g => h (dZ_kind g)
theorem bool1 (e : Ent) (hO : Ok e) (h : e.kind = 1) : ((decide (e.base % 1024 = 0) && decide (e.base < 4294967296)) && ((decide (0 ≤ e.dom) && decide (e.dom ≤ 15)) && sameL e.ap e.bits e.ng e.xn 0 0 false false)) = (D1 (E e)).same e := by
  apply Bool.eq_iff_iff.2
  rw [Ent.same_iff, says1_iff e hO]
  have := nz (e := e) (by omega)
  simp only [Bool.and_eq_true, decide_eq_true_eq, sameL_iff, Says1, h, this, false_or, true_and]
  constructor
  · rintro ⟨⟨a, b⟩, ⟨c, d⟩, f⟩
    exact .inl ⟨⟨a, b⟩, ⟨c, d⟩, f⟩
  · rintro (⟨⟨a, b⟩, ⟨c, d⟩, f⟩ | ⟨g, _⟩ | ⟨g, _⟩)
    · exact ⟨⟨a, b⟩, ⟨c, d⟩, f⟩
    · exact absurd g (by decide)
    · exact absurd g (by decide)
theorem lfB_iff (ap bt : Int) : lfB ap bt = true ↔ 0 ≤ ap ∧ ap ≤ 7 ∧ bt ≤ 63 := by simp [lfB]
theorem bool2 (e : Ent) (hO : Ok e) (h : e.kind = 2) : ((decide (e.base % 1048576 = 0) && decide (e.base < 4294967296)) && ((decide (0 ≤ e.dom) && decide (e.dom ≤ 15)) && lfB e.ap e.bits)) = (D1 (E e)).same e := by
  apply Bool.eq_iff_iff.2
  rw [Ent.same_iff, says1_iff e hO]
  have := nz (e := e) (by omega)
  simp only [Bool.and_eq_true, decide_eq_true_eq, lfB_iff, Says1, leafOk, h, this, false_or, true_and]
  constructor
  · rintro ⟨⟨a, b⟩, ⟨c, d⟩, f⟩
    exact .inr (.inl ⟨⟨a, b⟩, ⟨c, d⟩, f⟩)
  · rintro (⟨g, _⟩ | ⟨⟨a, b⟩, ⟨c, d⟩, f⟩ | ⟨g, _⟩)
    · exact absurd g (by decide)
    · exact ⟨⟨a, b⟩, ⟨c, d⟩, f⟩
    · exact absurd g (by decide)
theorem bool3 (e : Ent) (hO : Ok e) (h : e.kind = 3) : ((decide (e.base % 16777216 = 0) && decide (e.base < 1099511627776)) && ((e.dom == 0) && lfB e.ap e.bits)) = (D1 (E e)).same e := by
  apply Bool.eq_iff_iff.2
  rw [Ent.same_iff, says1_iff e hO]
  have := nz (e := e) (by omega)
  simp only [Bool.and_eq_true, decide_eq_true_eq, beq_iff_eq, lfB_iff, Says1, leafOk, h, this, false_or, true_and]
  constructor
  · rintro ⟨⟨a, b⟩, c, f⟩
    exact .inr (.inr ⟨⟨a, b⟩, c, f⟩)
  · rintro (⟨g, _⟩ | ⟨g, _⟩ | ⟨⟨a, b⟩, c, f⟩)
    · exact absurd g (by decide)
    · exact absurd g (by decide)
    · exact ⟨⟨a, b⟩, c, f⟩
theorem bool4 (e : Ent) (hO : Ok e) (h : e.kind = 4) : ((decide (e.base % 65536 = 0) && decide (e.base < 4294967296)) && ((e.dom == 0) && (!e.ns && lfB e.ap e.bits))) = (D2 (E e)).same e := by
  apply Bool.eq_iff_iff.2
  rw [Ent.same_iff, says2_iff e hO]
  have := nz (e := e) (by omega)
  simp only [Bool.and_eq_true, decide_eq_true_eq, beq_iff_eq, lfB_iff, Says2, leafOk, h, this, false_or, true_and, Bool.not_eq_true']
  constructor
  · rintro ⟨⟨a, b⟩, c, d, f⟩
    exact .inl ⟨⟨a, b⟩, c, d, f⟩
  · rintro (⟨⟨a, b⟩, c, d, f⟩ | ⟨g, _⟩)
    · exact ⟨⟨a, b⟩, c, d, f⟩
    · exact absurd g (by decide)
theorem bool5 (e : Ent) (hO : Ok e) (h : e.kind = 5) : ((decide (e.base % 4096 = 0) && decide (e.base < 4294967296)) && ((e.dom == 0) && (!e.ns && lfB e.ap e.bits))) = (D2 (E e)).same e := by
  apply Bool.eq_iff_iff.2
  rw [Ent.same_iff, says2_iff e hO]
  have := nz (e := e) (by omega)
  simp only [Bool.and_eq_true, decide_eq_true_eq, beq_iff_eq, lfB_iff, Says2, leafOk, h, this, false_or, true_and, Bool.not_eq_true']
  constructor
  · rintro ⟨⟨a, b⟩, c, d, f⟩
    exact .inr ⟨⟨a, b⟩, c, d, f⟩
  · rintro (⟨g, _⟩ | ⟨⟨a, b⟩, c, d, f⟩)
    · exact absurd g (by decide)
    · exact ⟨⟨a, b⟩, c, d, f⟩
theorem bool0 (e : Ent) (h : ¬ (1 ≤ e.kind ∧ e.kind ≤ 5)) : e.same dZ = (D1 (E e)).same e ∧ e.same dZ = (D2 (E e)).same e := by
  rw [E0 e h, D1_0, D2_0]
  have : e.same dZ = dZ.same e := by
    apply Bool.eq_iff_iff.2
    rw [Ent.same_iff, Ent.same_iff]
    exact ⟨fun h => h.symm, fun h => h.symm⟩
  exact ⟨this, this⟩
end Go.Proofs.YtmmocnejacflmabDoor
