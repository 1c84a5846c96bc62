import Derived.Test.YtplobjdghaokoaaGc
import Derived.Test.YtplobjdghaokoaaRu
namespace Go.Proofs.Ytplobjdghaokoaa
open Go.RowKit
set_option linter.unusedVariables false

/-- append onto what is owned: it stays as it is. -/
theorem append_any2 {P : Program} (w : World) (t e : TypeId) (i : TypeInfo) (z : Value) (ht : P.underlying t = some (.slice e)) (hi : P.info? e = some i) (hz : i.zero = some z) (hzs : z.cells.size = i.size)
    (lo n m : Nat) (s x : Value) (xs news : List Value) (hs : w.ownsRow lo e i.size s n xs) (hx : Src P i.size t x m news w) (hlo : lo ≤ w.heap.size) (h63 : n + m ≤ maxLen) (hby : (n + m) * i.bytes ≤ 140737488355328) :
    ∃ v' w', (∀ ty, (Builtin.append_ #[t, t] ty #[s, x]).run P w = .ok v' w') ∧ w'.ownsRow lo e i.size v' (n + m) (xs ++ news) ∧ w'.ownsRow lo e i.size s n xs ∧ w.grownBy w' s.ownBlock ∧ (∀ g, v'.ownBlock = some g → s.ownBlock = some g ∨ w.heap.size ≤ g) := by
  have hnl := hx.newsLen
  rcases row_of_own hs with ⟨rfl, rfl, rfl⟩ | ⟨g, cap, cur, rfl, a, b, c, d, e1, f⟩
  · by_cases h0 : m = 0
    · subst h0
      obtain rfl : news = [] := List.eq_nil_of_length_eq_zero (by simpa using hnl)
      refine ⟨.slice none 0 0, w, ?_, World.ownsRow_nil _ _ _ _, World.ownsRow_nil _ _ _ _, grownBy_refl _ _, fun g hg => by cases hg⟩
      intro ty
      simp [Builtin.append_, run_underlying ht, sizeOf, typeInfo, hi, hx.len, hx.cells]
    · obtain ⟨w', cap, rest, h1, h2, h3, h4, h5, h6, h7⟩ := append_away w t e i z ht hi hz hzs none 0 0 [] (by simp) (run_firstCells_none w.drew i.size 0 0 0) x m news hx (by omega) (by omega) hby
      refine ⟨_, w', h1, own_of_row h2 hlo h4 h5 ?_ ?_, World.ownsRow_nil _ _ _ _, grownBy_none _ h6, fun g hg => .inr (by cases hg; exact Nat.le_refl _)⟩
      · rw [List.length_append, List.length_append, h3, hnl, List.length_nil, Nat.zero_add, ← Nat.add_mul]; congr 1; omega
      · rw [List.take_append_of_le_length (by simp [hnl])]
        exact List.take_of_length_le (by simp [hnl])
  · by_cases h0 : n + m ≤ cap
    · have hfit : n * i.size + news.length ≤ cur.length := by rw [hnl, e1, ← Nat.add_mul]; exact Nat.mul_le_mul_right _ h0
      obtain ⟨w', h1, h2, h3⟩ := append_room w t e i ht hi g n cap cur b x m news hx h0 hfit
      have hlen : (cur.take (n * i.size) ++ news ++ cur.drop (n * i.size + news.length)).length = cap * i.size := by rw [List.length_append, List.length_append, List.length_take, List.length_drop, ← e1]; omega
      refine ⟨_, w', h1, own_of_row h2 a h0 d hlen ?_, own_of_row h2 a c d hlen ?_, h3, fun g hg => .inl hg⟩
      · rw [f, List.take_append_of_le_length (by rw [List.length_append, hs.1, hnl, Nat.add_mul]; exact Nat.le_refl _)]
        exact List.take_of_length_le (by rw [List.length_append, hs.1, hnl, Nat.add_mul]; exact Nat.le_refl _)
      · rw [f, List.append_assoc, List.take_append_of_le_length (by rw [hs.1]; exact Nat.le_refl _)]
        exact List.take_of_length_le (by rw [hs.1]; exact Nat.le_refl _)
    · obtain ⟨w', cap', rest, h1, h2, h3, h4, h5, h6, h7⟩ := append_away w t e i z ht hi hz hzs (some ⟨g, 0, none⟩) n cap xs hs.1
        (run_firstCells_some w.drew i.size n ⟨g, 0, none⟩ n cap xs hs.1 (fun j u hj => hs.cells rfl j u hj)) x m news hx (by omega) h63 hby
      refine ⟨_, w', h1, own_of_row h2 (by omega) h4 h5 ?_ ?_, own_turn hs (Turn.grown (S := fun _ => False) h6 (fun k hk => by cases hk)) (fun _ _ h => h), grownBy_none _ h6, fun g hg => .inr (by cases hg; exact Nat.le_refl _)⟩
      · rw [List.length_append, List.length_append, h3, hnl, hs.1, ← Nat.add_mul, ← Nat.add_mul]; congr 1; omega
      · rw [List.take_append_of_le_length (by rw [List.length_append, hs.1, hnl, Nat.add_mul]; exact Nat.le_refl _)]
        exact List.take_of_length_le (by rw [List.length_append, hs.1, hnl, Nat.add_mul]; exact Nat.le_refl _)
theorem slice_of {W : World} {lo n size : Nat} {e : TypeId} {v : Value} {xs : List Value} (h : W.ownsRow lo e size v (n + 1) xs) : ∃ g cap, v = .slice (some ⟨g, 0, none⟩) (n + 1) cap ∧ g < W.heap.size := by
  rcases row_of_own h with ⟨_, e0, _⟩ | ⟨g, cap, cur, rfl, _, hr, _⟩
  · cases e0
  · exact ⟨g, cap, rfl, hr.lt⟩
/-- One element more: a list of runs, of numbers. -/
theorem app_runs {W : World} {lo n : Nat} {v : Value} {xs : List Value} (h : W.ownsRow lo 42 2 v n xs) (c1 c2 : Int) (hlo : lo ≤ W.heap.size) (hl : n ≤ 1099511627776) :
    ∃ g cap w', (∀ ty, (Builtin.append_ #[39, 39] ty #[v, .slice (some ⟨W.heap.size, 0, none⟩) 1 1]).run Try.prog (W.alloc (.cells #[.int .i64 c1, .int .i64 c2] 42)) = .ok (.slice (some ⟨g, 0, none⟩) (n + 1) cap) w') ∧ w'.ownsRow lo 42 2 v n xs ∧ Turn (fun b => v.ownBlock = some b) W w' ∧ (v.ownBlock = some g ∨ W.heap.size ≤ g) ∧ w'.cell? ⟨g, n * 2, none⟩ = some (.int .i64 c1) ∧ g < w'.heap.size := by
  obtain ⟨i0, hi, hz0, hz1, hz2⟩ := info_parts infoR
  have T0 : Turn (fun _ => False) W (W.alloc (.cells #[.int .i64 c1, .int .i64 c2] 42)) := (Turn.refl _ W).alloc _
  have hrow := row_new W [.int .i64 c1, .int .i64 c2] 42
  have hown := own_turn h T0 (fun _ _ h => h)
  have hsz : (W.alloc (.cells #[.int .i64 c1, .int .i64 c2] 42)).heap.size = W.heap.size + 1 := by simp
  have hsrc : Src Try.prog 2 39 (.slice (some ⟨W.heap.size, 0, none⟩) 1 1) 1 [.int .i64 c1, .int .i64 c2] (W.alloc (.cells #[.int .i64 c1, .int .i64 c2] 42)) :=
    Src.ofSlice _ Try.underlying39 ⟨W.heap.size, 0, none⟩ 1 1 _ rfl (fun j u hj => by rw [Addr.add_lit, Nat.zero_add]; exact (hrow.cell j).trans hj) (fun u hu => by simp at hu; rcases hu with rfl | rfl <;> rfl)
  obtain ⟨v', w', hr, ho, hk, hg, hb⟩ := append_any2 (P := Try.prog) (W.alloc (.cells #[.int .i64 c1, .int .i64 c2] 42)) 39 42 i0 _ Try.underlying39 hi hz0 (by rw [hz1]; rfl) lo n 1 v (.slice (some ⟨W.heap.size, 0, none⟩) 1 1) xs [.int .i64 c1, .int .i64 c2] (by rw [hz1]; exact hown) (by rw [hz1]; exact hsrc) (by omega) (by unfold maxLen; omega) (by rw [hz2]; omega)
  rw [hz1] at ho hk
  obtain ⟨g, cap, rfl, hlt⟩ := slice_of ho
  refine ⟨g, cap, w', hr, hk, (T0.mono (S' := fun b => v.ownBlock = some b) (fun _ _ h => h.elim)).trans (Turn.grown (S := fun b => v.ownBlock = some b) hg (fun k hk => .inl hk)) (fun b hb => .inl hb), ?_, ?_, hlt⟩
  · rcases hb g rfl with h1 | h1
    · exact .inl h1
    · exact .inr (by omega)
  · have := ho.cells rfl (n * 2) (.int .i64 c1) (by rw [List.getElem?_append_right (by rw [h.1]; exact Nat.le_refl _), h.1, Nat.sub_self]; rfl)
    rw [Addr.add_lit, Nat.zero_add] at this
    exact this
theorem app_ints {W : World} {lo n : Nat} {v : Value} {xs : List Value} (h : W.ownsRow lo 3 1 v n xs) (c1 : Int) (hlo : lo ≤ W.heap.size) (hl : n ≤ 1099511627776) :
    ∃ g cap w', (∀ ty, (Builtin.append_ #[32, 32] ty #[v, .slice (some ⟨W.heap.size, 0, none⟩) 1 1]).run Try.prog (W.alloc (.cells #[.int .i64 c1] 3)) = .ok (.slice (some ⟨g, 0, none⟩) (n + 1) cap) w') ∧ w'.ownsRow lo 3 1 v n xs ∧ Turn (fun b => v.ownBlock = some b) W w' ∧ (v.ownBlock = some g ∨ W.heap.size ≤ g) ∧ w'.cell? ⟨g, n * 1, none⟩ = some (.int .i64 c1) ∧ g < w'.heap.size := by
  obtain ⟨i0, hi, hz0, hz1, hz2⟩ := info_parts infoI
  have T0 : Turn (fun _ => False) W (W.alloc (.cells #[.int .i64 c1] 3)) := (Turn.refl _ W).alloc _
  have hrow := row_new W [.int .i64 c1] 3
  have hown := own_turn h T0 (fun _ _ h => h)
  have hsz : (W.alloc (.cells #[.int .i64 c1] 3)).heap.size = W.heap.size + 1 := by simp
  have hsrc : Src Try.prog 1 32 (.slice (some ⟨W.heap.size, 0, none⟩) 1 1) 1 [.int .i64 c1] (W.alloc (.cells #[.int .i64 c1] 3)) :=
    Src.ofSlice _ Try.underlying32 ⟨W.heap.size, 0, none⟩ 1 1 _ rfl (fun j u hj => by rw [Addr.add_lit, Nat.zero_add]; exact (hrow.cell j).trans hj) (fun u hu => by simp at hu; subst hu; rfl)
  obtain ⟨v', w', hr, ho, hk, hg, hb⟩ := append_any2 (P := Try.prog) (W.alloc (.cells #[.int .i64 c1] 3)) 32 3 i0 _ Try.underlying32 hi hz0 (by rw [hz1]; rfl) lo n 1 v (.slice (some ⟨W.heap.size, 0, none⟩) 1 1) xs [.int .i64 c1] (by rw [hz1]; exact hown) (by rw [hz1]; exact hsrc) (by omega) (by unfold maxLen; omega) (by rw [hz2]; omega)
  rw [hz1] at ho hk
  obtain ⟨g, cap, rfl, hlt⟩ := slice_of ho
  refine ⟨g, cap, w', hr, hk, (T0.mono (S' := fun b => v.ownBlock = some b) (fun _ _ h => h.elim)).trans (Turn.grown (S := fun b => v.ownBlock = some b) hg (fun k hk => .inl hk)) (fun b hb => .inl hb), ?_, ?_, hlt⟩
  · rcases hb g rfl with h1 | h1
    · exact .inl h1
    · exact .inr (by omega)
  · have := ho.cells rfl (n * 1) (.int .i64 c1) (by rw [List.getElem?_append_right (by rw [h.1]; exact Nat.le_refl _), h.1, Nat.sub_self]; rfl)
    rw [Addr.add_lit, Nat.zero_add] at this
    exact this
/-- A copy of a list. -/
theorem copy_list {W : World} {lo m sz : Nat} {t e : TypeId} {z : Value} {by_ : Nat} (hI : (Try.prog.info? e).map (fun i => (i.zero, i.size, i.bytes)) = some (some z, sz, by_)) (hzc : z.cells.size = sz) (ht : Try.prog.underlying t = some (.slice e)) (hbb : by_ ≤ 16) {x : Value} {news : List Value} (h : W.ownsRow lo e sz x m news) (h1 : ∀ u ∈ news, u.oneCell' = true) (hl : m ≤ 1099511627776) :
    ∃ v' w', (∀ ty, (Builtin.append_ #[t, t] ty #[.slice (some ⟨W.heap.size, 0, none⟩) 0 0, x]).run Try.prog (W.alloc (.cells #[] e)) = .ok v' w') ∧ w'.ownsRow W.heap.size e sz v' m news ∧ Turn (fun _ => False) W w' := by
  obtain ⟨i0, hi, hz0, hz1, hz2⟩ := info_parts hI
  have T0 : Turn (fun _ => False) W (W.alloc (.cells #[] e)) := (Turn.refl _ W).alloc _
  have hrow : RowAt (W.alloc (.cells #[] e)) W.heap.size e [] := row_new W [] e
  have hown := own_turn h T0 (fun _ _ h => h)
  have hsz : (W.alloc (.cells #[] e)).heap.size = W.heap.size + 1 := by simp
  have hdst : (W.alloc (.cells #[] e)).ownsRow W.heap.size e sz (.slice (some ⟨W.heap.size, 0, none⟩) 0 0) 0 [] := own_of_row hrow (Nat.le_refl _) (Nat.le_refl _) (Nat.zero_le _) (by simp) (by simp)
  obtain ⟨v', w', hr, ho, _, hg, hb⟩ := append_any2 (P := Try.prog) (W.alloc (.cells #[] e)) t e i0 _ ht hi hz0 (by rw [hz1]; exact hzc) W.heap.size 0 m (.slice (some ⟨W.heap.size, 0, none⟩) 0 0) x [] news (by rw [hz1]; exact hdst) (by rw [hz1]; exact src_of_own ht hown h1) (by omega) (by unfold maxLen; omega) (by rw [hz2, Nat.zero_add]; exact Nat.le_trans (Nat.mul_le_mul hl hbb) (by omega))
  rw [hz1, Nat.zero_add, List.nil_append] at ho
  exact ⟨v', w', hr, ho, T0.trans (Turn.grown (S := fun b => W.heap.size ≤ b) hg (fun k hk => .inl (by cases hk; exact Nat.le_refl _))) (fun b hb => .inr hb)⟩
end Go.Proofs.Ytplobjdghaokoaa
