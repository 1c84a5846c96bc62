import Derived.Test.YtliiblaodhcjhabRepl
namespace Go.Proofs.Ytliiblaodhcjhab
open Go.RowKit
set_option linter.unusedVariables false

set_option maxHeartbeats 4000000 in
set_option maxRecDepth 100000 in
theorem replace_LL (W : World) (lo p : Nat) (v : Value) (L M : List (Sp Int)) (a b : Int) (mv : Value) (h : MapAt W lo p v L) (hm : Ls W lo mv M)
    (hsz : (L.length + M.length + 3) * 24 ≤ 140737488355328) (ha : 0 ≤ a) (hab : a ≤ b) (hb : b ≤ 18446744073709551615) (i jj : Nat) (hi : ei L a = i) (hj : sa L b = jj + 1) (hij : i < jj + 1) (s t : Sp Int) (hs : L[i]? = some s) (ht : L[jj]? = some t) (hsl : s.lo < a) (htl : b < t.hi) :
    Calls Try.prog 42 #[.pointer (some ⟨p, 0, none⟩), .int .u64 a, .int .u64 b, mv] W fun e W' => e = .returned (.tuple #[]) ∧ ∃ v', W'.heap[p]? = some (.cells #[v'] 76 (0, 0)) ∧ Ls W' lo v' (L.take i ++ ([Sp.mk s.lo (a - 1) s.val] ++ M ++ [Sp.mk (b + 1) t.hi t.val]) ++ L.drop (jj + 1)) ∧ Turn W W' p v ∧ (∀ g, v'.ownBlock = some g → v.ownBlock = some g ∨ W.heap.size ≤ g) := by
  have hj2 : jj + 1 ≤ L.length := by rw [← hj]; exact sa_le L b
  have hlt := h.lt
  have hlo : lo ≤ W.heap.size := by have := h.low; omega
  have hC1 := ends_any W lo p _ L a h (by omega)
  rw [hi] at hC1
  have hC2 : ∀ w1, Below W.heap.size W w1 → Calls Try.prog 41 #[.pointer (some ⟨p, 0, none⟩), .int .u64 b] w1 fun e W' => e = .returned (.int .i64 ((jj : Int) + 1)) ∧ Below W.heap.size W W' := fun w1 hb1 => (starts_any w1 lo p _ L b (h.keep hb1) (by omega)).mono (by rintro e w2 ⟨rfl, hb2⟩; exact ⟨by rw [hj, Int.natCast_succ], below_go hb1 hb2⟩)
  have hijn : i ≤ jj + 1 := by omega
  have hbyA : (([] : List (Sp Int)).length + 1) * 24 ≤ 140737488355328 := by simp
  have hbyM : (([Sp.mk s.lo (a - 1) s.val] : List (Sp Int)).length + M.length) * 24 ≤ 140737488355328 := Nat.le_trans (Nat.mul_le_mul_right _ (by simp only [List.length_cons, List.length_nil]; omega)) hsz
  have hbyR : (([Sp.mk s.lo (a - 1) s.val] ++ M : List (Sp Int)).length + 1) * 24 ≤ 140737488355328 := Nat.le_trans (Nat.mul_le_mul_right _ (by simp only [List.length_append, List.length_cons, List.length_nil]; omega)) hsz
  have hbyF : (L.length + ([Sp.mk s.lo (a - 1) s.val] ++ M ++ [Sp.mk (b + 1) t.hi t.val] : List (Sp Int)).length) * 24 ≤ 140737488355328 := Nat.le_trans (Nat.mul_le_mul_right _ (by simp only [List.length_append, List.length_cons, List.length_nil]; omega)) hsz
  have hRl : i + ([Sp.mk s.lo (a - 1) s.val] ++ M ++ [Sp.mk (b + 1) t.hi t.val] : List (Sp Int)).length + (L.length - (jj + 1)) = (L.take i ++ ([Sp.mk s.lo (a - 1) s.val] ++ M ++ [Sp.mk (b + 1) t.hi t.val]) ++ L.drop (jj + 1)).length := by simp only [List.length_append, List.length_take, List.length_drop]; omega
  rcases h.own.view with ⟨_, rfl⟩ | ⟨g, cap, rfl, hg1, hg2, hcap, hcap2, hcell⟩
  · simp at hs
  have hcW : W.cell? ⟨p, 0, none⟩ = some (.slice (some ⟨g, 0, none⟩) L.length cap) := h.cell
  have q0 := hcell i s hs 0 (by omega)
  have q2 := hcell i s hs 2 (by omega)
  simp only [encS, Nat.add_zero, List.getElem?_cons_zero, List.getElem?_cons_succ] at q0 q2
  have r1 := hcell jj t ht 1 (by omega)
  have r2 := hcell jj t ht 2 (by omega)
  simp only [encS, List.getElem?_cons_zero, List.getElem?_cons_succ] at r1 r2
  have hijz : (i : Int) < (jj : Int) + 1 := by omega
  have hiL : (i : Int) < (L.length : Int) := by omega
  have hLg := good_lo h.good s (List.mem_of_getElem? hs)
  have hLt := good_lo h.good t (List.mem_of_getElem? ht)
  have hjL : (jj : Int) < (L.length : Int) := by omega
  have hj0 : (0 : Int) ≤ (jj : Int) := by omega
  have hjs : (jj : Int) + 1 - 1 = (jj : Int) := by omega
  have hi0z : (0 : Int) ≤ (i : Int) := by omega
  clear hcell
  have hwb : IntKind.u64.wrap (b + 1) = b + 1 := by rw [IntKind.wrap_u64]; omega
  have hwa : IntKind.u64.wrap (a - 1) = a - 1 := by rw [IntKind.wrap_u64]; omega
  have hwj : IntKind.i64.wrap (jj : Int) = (jj : Int) := by rw [IntKind.wrap_i64]; clear hwa hwb; omega
  generalize hRR : L.take i ++ ([Sp.mk s.lo (a - 1) s.val] ++ M ++ [Sp.mk (b + 1) t.hi t.val]) ++ L.drop (jj + 1) = RR at hRl ⊢
  have HRl : Hid (i + ([Sp.mk s.lo (a - 1) s.val] ++ M ++ [Sp.mk (b + 1) t.hi t.val] : List (Sp Int)).length + (L.length - (jj + 1)) = RR.length) := hRl
  have HRR : Hid (L.take i ++ ([Sp.mk s.lo (a - 1) s.val] ++ M ++ [Sp.mk (b + 1) t.hi t.val]) ++ L.drop (jj + 1) = RR) := hRR
  clear hRl hRR
  go_enter Try.func42, Try.ntmps42
  go_wp2_with (first
    | (go_at_call 40; refine hC1.mono ?_; rintro e w1 ⟨rfl, hb1⟩)
    | (go_at_call 41; refine (hC2 _ hb1).mono ?_; rintro e w2 ⟨rfl, hb2⟩; obtain ⟨hcc, hff⟩ := bcell hb2)
    | (at_builtin; refine Hid.out ?_))
  obtain ⟨pv1, w3, hr3, hl3, hg3⟩ := piece_append w2 W.heap.size (.slice none 0 0) [] (Sp.mk s.lo (a - 1) s.val) (World.ownsRow_nil _ _ _ _) hb2.size hbyA
  have hb3 : Below W.heap.size W w3 := below_own hb2 (A := []) (World.ownsRow_nil _ _ _ _) hg3
  dsimp only at hr3
  obtain ⟨hccn, hffn⟩ := bcell hb3
  have k0 : w2.cell? ⟨p, 0, none⟩ = some (.slice (some ⟨g, 0, none⟩) L.length cap) := by rw [hcc p 0 hlt]; exact hcW
  have k1 : w2.cell? ⟨g, i * 3, none⟩ = some (.int .u64 s.lo) := by rw [hcc g _ hg2]; exact q0
  have k2 : w2.cell? ⟨g, i * 3 + 2, none⟩ = some (.int .i64 s.val) := by rw [hcc g _ hg2]; exact q2
  have m0 : w3.cell? ⟨p, 0, none⟩ = some (.slice (some ⟨g, 0, none⟩) L.length cap) := by rw [hccn p 0 hlt]; exact hcW
  have m1 : w3.cell? ⟨g, i * 3, none⟩ = some (.int .u64 s.lo) := by rw [hccn g _ hg2]; exact q0
  have m2 : w3.cell? ⟨g, i * 3 + 2, none⟩ = some (.int .i64 s.val) := by rw [hccn g _ hg2]; exact q2
  have n0 := World.new_ne w2 _ k0
  have n1 := World.new_ne w2 _ k1
  have n2 := World.new_ne w2 _ k2
  clear hcc hff
  go_region_held3 (fun w' => w'.cell? ⟨p, 0, none⟩ = some (.slice (some ⟨g, 0, none⟩) L.length cap) ∧ w'.cell? ⟨g, i * 3, none⟩ = some (.int .u64 s.lo) ∧ w'.cell? ⟨g, i * 3 + 2, none⟩ = some (.int .i64 s.val)) (first | go_keep | exact ⟨m0, m1, m2⟩)
    (refine step_append (by rfl) _ _ 39 39 (by rfl) _ _ (by simp [Act.eval]) (by simp [Act.eval]) (hr3 _) ?_)
  clear k0 n0 m0 k1 n1 m1 k2 n2 m2
  go_wp2_with (at_builtin; refine Hid.out ?_)
  obtain ⟨pv2, w4, hr4, hl4, hg4⟩ := lists_append w3 W.heap.size lo pv1 mv [Sp.mk s.lo (a - 1) s.val] M hl3 (hm.keep hb3 (fun g hg => (hm.lt g hg).2)) hb3.size hbyM
  have hb4 : Below W.heap.size W w4 := below_own hb3 (A := [Sp.mk s.lo (a - 1) s.val]) hl3 hg4
  clear hccn hffn
  obtain ⟨hcc, hff⟩ := bcell hb4
  refine Lib.wpList_append_run _ rfl _ _ 39 39 rfl _ _ (by rfl) (by rfl) _ _ (hr4 _) ?_
  go_wp2
  obtain ⟨pv3, w5, hr5, hl5, hg5⟩ := piece_append w4 W.heap.size pv2 ([Sp.mk s.lo (a - 1) s.val] ++ M) (Sp.mk (b + 1) t.hi t.val) hl4 hb4.size hbyR
  have hb5 : Below W.heap.size W w5 := below_own hb4 hl4 hg5
  dsimp only at hr5
  obtain ⟨hccn, hffn⟩ := bcell hb5
  have k0 : w4.cell? ⟨p, 0, none⟩ = some (.slice (some ⟨g, 0, none⟩) L.length cap) := by rw [hcc p 0 hlt]; exact hcW
  have k1 : w4.cell? ⟨g, jj * 3 + 1, none⟩ = some (.int .u64 t.hi) := by rw [hcc g _ hg2]; exact r1
  have k2 : w4.cell? ⟨g, jj * 3 + 2, none⟩ = some (.int .i64 t.val) := by rw [hcc g _ hg2]; exact r2
  have m0 : w5.cell? ⟨p, 0, none⟩ = some (.slice (some ⟨g, 0, none⟩) L.length cap) := by rw [hccn p 0 hlt]; exact hcW
  have m1 : w5.cell? ⟨g, jj * 3 + 1, none⟩ = some (.int .u64 t.hi) := by rw [hccn g _ hg2]; exact r1
  have m2 : w5.cell? ⟨g, jj * 3 + 2, none⟩ = some (.int .i64 t.val) := by rw [hccn g _ hg2]; exact r2
  have n0 := World.new_ne w4 _ k0
  have n1 := World.new_ne w4 _ k1
  have n2 := World.new_ne w4 _ k2
  clear hcc hff
  go_region_held3 (fun w' => w'.cell? ⟨p, 0, none⟩ = some (.slice (some ⟨g, 0, none⟩) L.length cap) ∧ w'.cell? ⟨g, jj * 3 + 1, none⟩ = some (.int .u64 t.hi) ∧ w'.cell? ⟨g, jj * 3 + 2, none⟩ = some (.int .i64 t.val)) (first | go_keep | exact ⟨m0, m1, m2⟩)
    (refine step_append (by rfl) _ _ 39 39 (by rfl) _ _ (by simp [Act.eval]) (by simp [Act.eval]) (hr5 _) ?_)
  all_goals clear k0 n0 m0 k1 n1 m1 k2 n2 m2
  all_goals have hcc := hccn
  all_goals
    have hown : w5.ownsRow lo 45 3 (.slice (some ⟨g, 0, none⟩) L.length cap) L.length (cellsL L) := h.own.keep hb5 (fun g hg => (h.own.lt g hg).2)
    have hC3 := replace_any lo L.length ([Sp.mk s.lo (a - 1) s.val] ++ M ++ [Sp.mk (b + 1) t.hi t.val] : List (Sp Int)).length i (jj + 1) _ pv3 _ _ w5 hown (own_mono hl5 hlo) (fun g1 e1 e2 => absurd (h.own.lt g1 e1).2 (Nat.not_lt_of_le (Ls.lt hl5 g1 e2).1)) hijn hj2 hbyF (cellsL_one L) (cellsL_one _) (Nat.le_trans hlo hb5.size)
    rw [HRl.out, Int.natCast_succ, cellsL_take, cellsL_drop, ← cellsL_append, ← cellsL_append, HRR.out] at hC3
    go_wp2_with (go_at_call 58; refine hC3.mono ?_; rintro e w6 ⟨v', rfl, ho, hg6, hb6⟩; obtain ⟨hx1, hx2, hx3⟩ := after_rep (R := RR) h hb5 ho hg6 hb6; obtain ⟨va', vc', rfl⟩ := slice_form ho)
    go_end0
    exact ⟨rfl, hx3⟩

end Go.Proofs.Ytliiblaodhcjhab
