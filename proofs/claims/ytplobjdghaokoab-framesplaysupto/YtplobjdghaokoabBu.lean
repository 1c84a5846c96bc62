import Derived.Test.YtplobjdghaokoabBt
namespace Go.Proofs.Ytplobjdghaokoab
open Go.RowKit
set_option linter.unusedVariables false

set_option maxHeartbeats 4000000 in
theorem Bg.done {W wr : World} {f c : Nat} {s t : Nat → Nat} {sv tv : Value} (h : Bg W wr f c 2 s t sv tv) :
    ∃ cB : BC, cB.bb = W.heap.size + 4 ∧ cB.f0 = f ∧ BB W wr cB (List.replicate c 0) (List.replicate c 0) (fun _ => []) (fun _ => []) := by
  rcases row_of_own h.so with ⟨_, h1, _⟩ | ⟨sg, sc, scur, rfl, s1, s2, s3, s4, s5, s6⟩
  · omega
  rcases row_of_own h.to with ⟨_, h1, _⟩ | ⟨tg, tc, tcur, rfl, t1, t2, t3, t4, t5, t6⟩
  · omega
  have hs0 := h.slo 0 (by omega)
  have hs1 := h.slo 1 (by omega)
  have ht0 := h.tlo 0 (by omega)
  have ht1 := h.tlo 1 (by omega)
  have hsn := h.sne 0 1 (by omega) (by omega)
  have htn := h.tne 0 1 (by omega) (by omega)
  obtain ⟨la, rs0⟩ := (h.ps 0 (by omega)).row
  obtain ⟨lb, rs1⟩ := (h.ps 1 (by omega)).row
  obtain ⟨lc, rt0⟩ := (h.rs 0 (by omega)).row
  obtain ⟨ld, rt1⟩ := (h.rs 1 (by omega)).row
  obtain ⟨low, ppx⟩ := h.pp
  have n1 := rs0.ne rt0 (by decide)
  have n2 := rs0.ne rt1 (by decide)
  have n3 := rs1.ne rt0 (by decide)
  have n4 := rs1.ne rt1 (by decide)
  have n5 := rs0.ne s2 (by decide)
  have n6 := rs1.ne s2 (by decide)
  have n7 := rs0.ne t2 (by decide)
  have n8 := rs1.ne t2 (by decide)
  have n9 := rt0.ne s2 (by decide)
  have n10 := rt1.ne s2 (by decide)
  have n11 := rt0.ne t2 (by decide)
  have n12 := rt1.ne t2 (by decide)
  have n13 := s2.ne t2 (by decide)
  have n14 := s2.ne h.box (by decide)
  have n15 := t2.ne h.box (by decide)
  have n16 := s2.ne ppx.box (by decide)
  have n17 := s2.ne ppx.row (by decide)
  have n18 := s2.ne h.rp.box (by decide)
  have n19 := s2.ne h.rp.row (by decide)
  have n20 := t2.ne ppx.box (by decide)
  have n21 := t2.ne ppx.row (by decide)
  have n22 := t2.ne h.rp.box (by decide)
  have n23 := t2.ne h.rp.row (by decide)
  have sp : ∀ i, i < 2 → scur[i]? = some (.pointer (some ⟨s i, 0, none⟩)) := fun i hi => by
    have := congrArg (fun l => l[i]?) s6
    rw [Nat.mul_one] at this
    simp only [List.getElem?_take_of_lt hi] at this
    rw [this]
    simp [ptrs, hi]
  have tp : ∀ i, i < 2 → tcur[i]? = some (.pointer (some ⟨t i, 0, none⟩)) := fun i hi => by
    have := congrArg (fun l => l[i]?) t6
    rw [Nat.mul_one] at this
    simp only [List.getElem?_take_of_lt hi] at this
    rw [this]
    simp [ptrs, hi]
  have hbox := h.box
  have hlt := h.box.lt
  refine ⟨⟨W.heap.size + 4, W.heap.size + 1, W.heap.size, W.heap.size + 3, W.heap.size + 2, sg, tg, sc, tc, f, s, t, scur, tcur⟩, rfl, rfl, fun k b => (k = 0 ∧ (b = W.heap.size + 1 ∨ b = W.heap.size)) ∨ (k = 1 ∧ (b = W.heap.size + 3 ∨ b = W.heap.size + 2)) ∨ (k = 2 ∧ b = s 0) ∨ (k = 3 ∧ b = s 1) ∨ (k = 4 ∧ b = t 0) ∨ (k = 5 ∧ b = t 1) ∨ (k = 6 ∧ (b = W.heap.size + 4 ∨ b = sg ∨ b = tg)), hbox, s2, t2, sp, tp, ⟨low, ppx⟩, h.rp, fun i hi => ?_, fun i hi => ?_, fun b => ?_, fun b => ?_, fun b => ?_, fun k j b hk hj hkj h1 h2 => ?_, fun k b hk hb => ?_, h.trn⟩
  · rcases (show i = 0 ∨ i = 1 by omega) with rfl | rfl
    · exact (h.ps 0 (by decide)).mono (fun b hb => .inr (.inr (.inl ⟨rfl, hb⟩))) (fun b hb => by simp at hb; rw [hb]; exact hs0.2)
    · exact (h.ps 1 (by decide)).mono (fun b hb => .inr (.inr (.inr (.inl ⟨rfl, hb⟩)))) (fun b hb => by simp at hb; rw [hb]; exact hs1.2)
  · rcases (show i = 0 ∨ i = 1 by omega) with rfl | rfl
    · exact (h.rs 0 (by decide)).mono (fun b hb => .inr (.inr (.inr (.inr (.inl ⟨rfl, hb⟩))))) (fun b hb => by simp at hb; rw [hb]; exact ht0.2)
    · exact (h.rs 1 (by decide)).mono (fun b hb => .inr (.inr (.inr (.inr (.inr (.inl ⟨rfl, hb⟩)))))) (fun b hb => by simp at hb; rw [hb]; exact ht1.2)
  · unfold Two
    simp
  · unfold Two
    simp
  · simp
  · have key : ∀ z p0 p1 q0 q1 x0 x1 x2 : Nat, z + 5 ≤ p0 → z + 5 ≤ p1 → z + 5 ≤ q0 → z + 5 ≤ q1 → p0 ≠ p1 → q0 ≠ q1 → p0 ≠ q0 → p0 ≠ q1 → p1 ≠ q0 → p1 ≠ q1 → p0 ≠ x1 → p1 ≠ x1 → p0 ≠ x2 → p1 ≠ x2 → q0 ≠ x1 → q1 ≠ x1 → q0 ≠ x2 → q1 ≠ x2 → x1 ≠ z + 4 → x2 ≠ z + 4 → x1 ≠ z + 1 → x1 ≠ z → x1 ≠ z + 3 → x1 ≠ z + 2 → x2 ≠ z + 1 → x2 ≠ z → x2 ≠ z + 3 → x2 ≠ z + 2 →
        ((k = 0 ∧ (b = z + 1 ∨ b = z)) ∨ (k = 1 ∧ (b = z + 3 ∨ b = z + 2)) ∨ (k = 2 ∧ b = p0) ∨ (k = 3 ∧ b = p1) ∨ (k = 4 ∧ b = q0) ∨ (k = 5 ∧ b = q1) ∨ (k = 6 ∧ (b = z + 4 ∨ b = x1 ∨ b = x2))) → ((j = 0 ∧ (b = z + 1 ∨ b = z)) ∨ (j = 1 ∧ (b = z + 3 ∨ b = z + 2)) ∨ (j = 2 ∧ b = p0) ∨ (j = 3 ∧ b = p1) ∨ (j = 4 ∧ b = q0) ∨ (j = 5 ∧ b = q1) ∨ (j = 6 ∧ (b = z + 4 ∨ b = x1 ∨ b = x2))) → False := by
      intro z p0 p1 q0 q1 x0 x1 x2 e1 e2 e3 e4 e5 e6 e7 e8 e9 e10 e11 e12 e13 e14 e15 e16 e17 e18 e19 e20 e21 e22 e23 e24 e25 e26 e27 e28 h1 h2
      rcases h1 with ⟨a1, c1 | c1⟩ | ⟨a1, c1 | c1⟩ | ⟨a1, c1⟩ | ⟨a1, c1⟩ | ⟨a1, c1⟩ | ⟨a1, c1⟩ | ⟨a1, c1 | c1 | c1⟩ <;> rcases h2 with ⟨a2, c2 | c2⟩ | ⟨a2, c2 | c2⟩ | ⟨a2, c2⟩ | ⟨a2, c2⟩ | ⟨a2, c2⟩ | ⟨a2, c2⟩ | ⟨a2, c2 | c2 | c2⟩ <;> subst a1 <;> subst a2 <;> first | exact absurd rfl hkj | (rw [c1] at c2; first | exact e5 c2 | exact e5 c2.symm | exact e6 c2 | exact e6 c2.symm | exact e7 c2 | exact e7 c2.symm | exact e8 c2 | exact e8 c2.symm | exact e9 c2 | exact e9 c2.symm | exact e10 c2 | exact e10 c2.symm | exact e11 c2 | exact e11 c2.symm | exact e12 c2 | exact e12 c2.symm | exact e13 c2 | exact e13 c2.symm | exact e14 c2 | exact e14 c2.symm | exact e15 c2 | exact e15 c2.symm | exact e16 c2 | exact e16 c2.symm | exact e17 c2 | exact e17 c2.symm | exact e18 c2 | exact e18 c2.symm | exact e21 c2 | exact e21 c2.symm | exact e22 c2 | exact e22 c2.symm | exact e23 c2 | exact e23 c2.symm | exact e24 c2 | exact e24 c2.symm | exact e25 c2 | exact e25 c2.symm | exact e26 c2 | exact e26 c2.symm | exact e27 c2 | exact e27 c2.symm | exact e28 c2 | exact e28 c2.symm | (clear e5 e6 e7 e8 e9 e10 e11 e12 e13 e14 e15 e16 e17 e18 e19 e20 e21 e22 e23 e24 e25 e26 e27 e28; omega))
    exact key W.heap.size (s 0) (s 1) (t 0) (t 1) 0 sg tg hs0.1 hs1.1 ht0.1 ht1.1 hsn htn n1 n2 n3 n4 n5 n6 n7 n8 n9 n10 n11 n12 n14 n15 n16 n17 n18 n19 n20 n21 n22 n23 h1 h2
  · clear n1 n2 n3 n4 n5 n6 n7 n8 n9 n10 n11 n12 n13 n14 n15 n16 n17 n18 n19 n20 n21 n22 n23 hsn htn
    rcases hb with ⟨_, hb⟩ | ⟨_, hb⟩ | ⟨_, hb⟩ | ⟨_, hb⟩ | ⟨_, hb⟩ | ⟨_, hb⟩ | ⟨_, hb⟩ <;> omega

end Go.Proofs.Ytplobjdghaokoab
