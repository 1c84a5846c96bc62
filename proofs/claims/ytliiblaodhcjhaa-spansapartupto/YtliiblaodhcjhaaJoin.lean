import Derived.Test.YtliiblaodhcjhaaStre
namespace Go.Proofs.Ytliiblaodhcjhaa
open Go.RowKit
set_option linter.unusedVariables false

theorem stepU_nil (c e : Int) : step ([] : List (Sp Unit)) c e (some ()) = [] ++ [⟨c, e, ()⟩] := rfl
theorem stepU_join (A : List (Sp Unit)) (t : Sp Unit) (c e : Int) (h : t.hi + 1 = c) : step (A ++ [t]) c e (some ()) = A ++ [⟨t.lo, e, t.val⟩] := by
  rw [step, List.getLast?_concat]
  simp [h]
theorem stepU_more (A : List (Sp Unit)) (t : Sp Unit) (c e : Int) (h : ¬ t.hi + 1 = c) : step (A ++ [t]) c e (some ()) = (A ++ [t]) ++ [⟨c, e, ()⟩] := by
  rw [step, List.getLast?_concat]
  simp [h]

theorem lm_append0 (w : World) (B : Nat) (pv : Value) (A : List (Sp Unit)) (t : Sp Unit) (h : Lm w B pv A) (hB : B ≤ w.heap.size) (hby : A.length ≤ 9000000) :
    ∃ v' w', (∀ ty, (Builtin.append_ #[54, 54] ty #[pv, .slice (some ⟨w.heap.size, 0, none⟩) 1 1]).run Try.prog (w.alloc (.cells #[.int .u64 t.lo, .int .u64 t.hi] 57)) = .ok v' w') ∧ Lm w' B v' (A ++ [t]) ∧ w.grownBy w' pv.ownBlock :=
  lm_append w 0 B pv A t h hB hby

set_option maxHeartbeats 4000000 in
set_option maxRecDepth 100000 in
theorem join_any (W : World) (B : Nat) (v : Value) (R : List (Sp Unit)) (c e : Int) (h : Lm W B v R) (hB : B ≤ W.heap.size) (hl : R.length ≤ 8900000) (hr : ∀ s ∈ R, 0 ≤ s.hi ∧ s.hi < c) (hc : c ≤ 18446744073709551615) :
    Calls Try.prog 50 #[v, .agg #[.int .u64 c, .int .u64 e]] W fun x W' => ∃ v', x = .returned v' ∧ Lm W' B v' (step R c e (some ())) ∧ Below B W W' := by
  have hb0 := below_alloc (Below.refl W.heap.size W) (.cells #[.int .u64 c, .int .u64 e] 57)
  rcases List.eq_nil_or_concat R with rfl | ⟨A, t, hA⟩
  · rw [stepU_nil]
    obtain ⟨va, vc, hv, _⟩ := Lm.view h
    subst hv
    simp only [List.length_nil] at *
    go_enter Try.func50, Try.ntmps50
    go_wp2
    go_quiet (fail)
    obtain ⟨w4, hw4⟩ : ∃ w4, w4 = (W.alloc (.cells #[.int .u64 c, .int .u64 e] 57)).drewN nq := ⟨_, rfl⟩
    rw [← hw4]
    have hb4 : Below W.heap.size W w4 := by rw [hw4]; exact below_go hb0 (grown_below (grownBy_drewN _ none nq))
    have y0 : w4.cell? ⟨W.heap.size, 0, none⟩ = some (.int .u64 c) := by rw [hw4]; simp [go_sem]
    have y1 : w4.cell? ⟨W.heap.size, 1, none⟩ = some (.int .u64 e) := by rw [hw4]; simp [go_sem]
    have hB4 : B ≤ w4.heap.size := Nat.le_trans hB hb4.size
    have h4 : Lm w4 B (.slice va 0 vc) ([] : List (Sp Unit)) := row_keep h hb4
    clear hw4
    obtain ⟨v1, w1, hr1, hk1, hg1⟩ := lm_append0 w4 B _ ([] : List (Sp Unit)) ⟨c, e, ()⟩ h4 hB4 (by simp)
    have hB1 : Below B W w1 := (hb4.mono hB).grown hg1 hB4 (fun g hg => (World.ownsRow.lt h4 g hg).1)
    obtain ⟨va3, vc3, hv3⟩ := slice_form hk1
    subst hv3
    dsimp only at hr1
    have HK : Hid (Lm w1 B (.slice va3 (([] : List (Sp Unit)) ++ [(⟨c, e, ()⟩ : Sp Unit)]).length vc3) (([] : List (Sp Unit)) ++ [⟨c, e, ()⟩])) := hk1
    clear hk1 hg1 h4
    go_wp2_with (at_builtin; refine Lib.wpList_append_run _ rfl _ _ 54 54 rfl _ _ (by rfl) (by rfl) _ _ (hr1 _) ?_)
    go_ret
    exact ⟨_, rfl, HK.out, hB1⟩
  · rw [List.concat_eq_append] at hA
    subst hA
    have hti : (A ++ [t])[A.length]? = some t := by simp
    obtain ⟨va', vc', hveq, hvc⟩ := Lm.view h
    obtain ⟨g, rfl, hg1, hg2, z0, z1, z2⟩ := hvc A.length t hti
    subst hveq
    obtain ⟨hr1, hr2⟩ := hr t (by simp)
    have hal : (A ++ [t]).length = A.length + 1 := by simp
    have hz1 : (0 : Int) ≤ (A.length : Int) := by omega
    have hz2 : (A.length : Int) < (A.length : Int) + 1 := by omega
    have hz4 : A.length ≤ 9000000 := by omega
    have hgn : g ≠ W.heap.size := by omega
    have hwt : IntKind.u64.wrap (c - 1) = c - 1 := by rw [IntKind.wrap_u64]; omega
    clear hvc hti hr
    by_cases h2 : t.hi + 1 = c
    · rw [stepU_join A t c e h2]
      have e2 : (t.hi == c - 1) = true := by simp; omega
      clear h2
      have hN : (A ++ [t]).length = A.length + 1 := by simp
      have HH : Hid (Lm W B (.slice (some ⟨g, 0, none⟩) (A ++ [t]).length vc') (A ++ [t])) := h
      clear h
      rw [hN]
      go_enter Try.func50, Try.ntmps50
      go_wp2
      go_quiet (fail)
      obtain ⟨w4, hw4⟩ : ∃ w4, w4 = (W.alloc (.cells #[.int .u64 c, .int .u64 e] 57)).drewN nq := ⟨_, rfl⟩
      rw [← hw4]
      have hb4 : Below W.heap.size W w4 := by rw [hw4]; exact below_go hb0 (grown_below (grownBy_drewN _ none nq))
      have y0 : w4.cell? ⟨W.heap.size, 0, none⟩ = some (.int .u64 c) := by rw [hw4]; simp [go_sem]
      have y1 : w4.cell? ⟨W.heap.size, 1, none⟩ = some (.int .u64 e) := by rw [hw4]; simp [go_sem]
      have p4 : w4.cell? ⟨g, A.length * 2 + 1, none⟩ = some (.int .u64 t.hi) := ((bcell hb4).1 g _ hg2).trans z1
      have p5 : w4.frozen? ⟨g, A.length * 2 + 1, none⟩ = false := ((bcell hb4).2 g _ hg2).trans z2
      have HK3 : Hid (Lm (w4.setCell ⟨g, A.length * 2 + 1, none⟩ (.int .u64 e)) B (.slice (some ⟨g, 0, none⟩) (A.length + 1) vc') (A ++ [⟨t.lo, e, t.val⟩])) := by
        have hq := Lm.set (row_keep HH.out hb4) e
        rw [hN] at hq
        exact hq
      clear hw4
      go_wp2
      go_ret
      exact ⟨_, rfl, HK3.out, (hb4.mono hB).setCell hg1 _⟩
    · rw [stepU_more A t c e h2]
      have e2 : (t.hi == c - 1) = false := by simp; omega
      clear h2
      have hN : (A ++ [t]).length = A.length + 1 := by simp
      go_enter Try.func50, Try.ntmps50
      go_wp2
      go_quiet (fail)
      obtain ⟨w4, hw4⟩ : ∃ w4, w4 = (W.alloc (.cells #[.int .u64 c, .int .u64 e] 57)).drewN nq := ⟨_, rfl⟩
      rw [← hw4]
      have hb4 : Below W.heap.size W w4 := by rw [hw4]; exact below_go hb0 (grown_below (grownBy_drewN _ none nq))
      have y0 : w4.cell? ⟨W.heap.size, 0, none⟩ = some (.int .u64 c) := by rw [hw4]; simp [go_sem]
      have y1 : w4.cell? ⟨W.heap.size, 1, none⟩ = some (.int .u64 e) := by rw [hw4]; simp [go_sem]
      have hB4 : B ≤ w4.heap.size := Nat.le_trans hB hb4.size
      have h4 : Lm w4 B (.slice (some ⟨g, 0, none⟩) (A ++ [t]).length vc') (A ++ [t]) := row_keep h hb4
      clear hw4
      obtain ⟨v1, w1, hr1, hk1, hg1⟩ := lm_append0 w4 B _ (A ++ [t]) ⟨c, e, ()⟩ h4 hB4 (by omega)
      have hB1 : Below B W w1 := (hb4.mono hB).grown hg1 hB4 (fun g hg => (World.ownsRow.lt h4 g hg).1)
      obtain ⟨va3, vc3, hv3⟩ := slice_form hk1
      subst hv3
      dsimp only at hr1
      have HK : Hid (Lm w1 B (.slice va3 ((A ++ [t]) ++ [(⟨c, e, ()⟩ : Sp Unit)]).length vc3) ((A ++ [t]) ++ [⟨c, e, ()⟩])) := hk1
      clear hk1 hg1 h4
      go_wp2_with (at_builtin; refine Lib.wpList_append_run _ rfl _ _ 54 54 rfl _ _ (by rfl) (by rfl) _ _ (hr1 _) ?_)
      go_ret
      have hq := HK.out
      rw [show (A ++ [t] ++ [(⟨c, e, ()⟩ : Sp Unit)]).length = A.length + 2 by simp] at hq
      exact ⟨_, rfl, hq, hB1⟩

end Go.Proofs.Ytliiblaodhcjhaa
