import Derived.Test.YtliiblaodhcjhaaRoom
namespace Go.Proofs.Ytliiblaodhcjhaa
open Go.RowKit
set_option linter.unusedVariables false

section
variable {P : Program}
/-- append onto what is owned: away, or in its place. -/
theorem append_or (w : World) (t e : TypeId) (i : TypeInfo) (z : Value) (ht : P.underlying t = some (.slice e)) (hi : P.info? e = some i) (hz : i.zero = some z) (hzs : z.cells.size = i.size)
    (lo n m : Nat) (s x : Value) (xs news : List Value) (hs : w.ownsRow lo e i.size s n xs) (hx : Src P i.size t x m news w) (hlo : lo ≤ w.heap.size) (h63 : n + m ≤ maxLen) (hby : (n + m) * i.bytes ≤ 140737488355328) :
    ∃ v' w', (∀ ty, (Builtin.append_ #[t, t] ty #[s, x]).run P w = .ok v' w') ∧ w'.ownsRow lo e i.size v' (n + m) (xs ++ news) ∧ ((w.grownBy w' none ∧ ∀ g, v'.ownBlock = some g → w.heap.size ≤ g) ∨ (w.grownBy w' s.ownBlock ∧ v'.ownBlock = s.ownBlock)) := by
  have hnl := hx.newsLen
  rcases row_of_own hs with ⟨rfl, rfl, rfl⟩ | ⟨g, cap, cur, rfl, a, b, c, d, e1, f⟩
  · by_cases h0 : m = 0
    · subst h0
      obtain rfl : news = [] := List.eq_nil_of_length_eq_zero (by simpa using hnl)
      refine ⟨.slice none 0 0, w, ?_, World.ownsRow_nil _ _ _ _, .inl ⟨grownBy_refl _ _, fun g hg => by cases hg⟩⟩
      intro ty
      simp [Builtin.append_, run_underlying ht, sizeOf, typeInfo, hi, hx.len, hx.cells]
    · obtain ⟨w', cap, rest, h1, h2, h3, h4, h5, h6, h7⟩ := append_away w t e i z ht hi hz hzs none 0 0 [] (by simp) (run_firstCells_none w.drew i.size 0 0 0) x m news hx (by omega) (by omega) hby
      refine ⟨_, w', h1, own_of_row h2 hlo h4 h5 ?_ ?_, .inl ⟨h6, fun g hg => by cases hg; exact Nat.le_refl _⟩⟩
      · rw [List.length_append, List.length_append, h3, hnl, List.length_nil, Nat.zero_add, ← Nat.add_mul]; congr 1; omega
      · rw [List.take_append_of_le_length (by simp [hnl])]
        exact List.take_of_length_le (by simp [hnl])
  · by_cases h0 : n + m ≤ cap
    · have hfit : n * i.size + news.length ≤ cur.length := by rw [hnl, e1, ← Nat.add_mul]; exact Nat.mul_le_mul_right _ h0
      obtain ⟨w', h1, h2, h3⟩ := append_room w t e i ht hi g n cap cur b x m news hx h0 hfit
      refine ⟨_, w', h1, own_of_row h2 a h0 d ?_ ?_, .inr ⟨h3, rfl⟩⟩
      · rw [List.length_append, List.length_append, List.length_take, List.length_drop, ← e1]; omega
      · rw [f, List.take_append_of_le_length (by rw [List.length_append, hs.1, hnl, Nat.add_mul]; exact Nat.le_refl _)]
        exact List.take_of_length_le (by rw [List.length_append, hs.1, hnl, Nat.add_mul]; exact Nat.le_refl _)
    · obtain ⟨w', cap', rest, h1, h2, h3, h4, h5, h6, h7⟩ := append_away w t e i z ht hi hz hzs (some ⟨g, 0, none⟩) n cap xs hs.1
        (run_firstCells_some w.drew i.size n ⟨g, 0, none⟩ n cap xs hs.1 (fun j u hj => hs.cells rfl j u hj)) x m news hx (by omega) h63 hby
      refine ⟨_, w', h1, own_of_row h2 (by omega) h4 h5 ?_ ?_, .inl ⟨h6, fun g hg => by cases hg; exact Nat.le_refl _⟩⟩
      · rw [List.length_append, List.length_append, h3, hnl, hs.1, ← Nat.add_mul, ← Nat.add_mul]; congr 1; omega
      · rw [List.take_append_of_le_length (by rw [List.length_append, hs.1, hnl, Nat.add_mul]; exact Nat.le_refl _)]
        exact List.take_of_length_le (by rw [List.length_append, hs.1, hnl, Nat.add_mul]; exact Nat.le_refl _)
end

/-- A block with so many cells. -/
def Blk (w : World) (g : Nat) (e : TypeId) (sz : Nat) : Prop := ∃ cur : List Value, RowAt w g e cur ∧ sz ≤ cur.length
theorem Blk.lt {w : World} {g : Nat} {e : TypeId} {sz : Nat} (h : Blk w g e sz) : g < w.heap.size := by
  obtain ⟨cur, h1, _⟩ := h
  exact h1.lt
theorem Blk.cell {w : World} {g : Nat} {e : TypeId} {sz o : Nat} (h : Blk w g e sz) (ho : o < sz) : (w.cell? ⟨g, o, none⟩).isSome = true := by
  obtain ⟨cur, h1, h2⟩ := h
  rw [h1.cell o, List.getElem?_eq_getElem (by omega)]
  rfl
theorem Blk.frozen {w : World} {g : Nat} {e : TypeId} {sz : Nat} (h : Blk w g e sz) (o : Nat) : w.frozen? ⟨g, o, none⟩ = false := by
  obtain ⟨cur, h1, h2⟩ := h
  exact h1.frozen o
theorem Blk.less {w : World} {g : Nat} {e : TypeId} {sz sz' : Nat} (h : Blk w g e sz) (hl : sz' ≤ sz) : Blk w g e sz' := by
  obtain ⟨cur, h1, h2⟩ := h
  exact ⟨cur, h1, by omega⟩
theorem Blk.grown {w w' : World} {g : Nat} {e : TypeId} {sz : Nat} {row : Option Nat} (h : Blk w g e sz) (hg : w.grownBy w' row) (hne : some g ≠ row) : Blk w' g e sz := by
  obtain ⟨cur, h1, h2⟩ := h
  exact ⟨cur, h1.grown hg hne, h2⟩
theorem Blk.keep {w w' : World} {g : Nat} {e : TypeId} {sz : Nat} (h : Blk w g e sz) (hb : Below w.heap.size w w') : Blk w' g e sz := by
  obtain ⟨cur, h1, h2⟩ := h
  refine ⟨cur, ?_, h2⟩
  show w'.heap[g]? = _
  rw [hb.block g h1.lt]
  exact h1
theorem Blk.set {w : World} {g g' : Nat} {e : TypeId} {sz : Nat} (h : Blk w g e sz) (o : Nat) (z : Value) : Blk (w.setCell ⟨g', o, none⟩ z) g e sz := by
  obtain ⟨cur, h1, h2⟩ := h
  by_cases hg : g' = g
  · subst hg
    refine ⟨(cur.toArray.setIfInBounds o z).toList, ?_, by simpa using h2⟩
    show _ = _
    rw [heap_setCell_same w g' o cur.toArray e z h1]
  · refine ⟨cur, ?_, h2⟩
    show (w.setCell ⟨g', o, none⟩ z).heap[g]? = _
    rw [heap_setCell_other w ⟨g', o, none⟩ g z (fun e => hg e.symm)]
    exact h1
theorem own_blk {w : World} {lo n size : Nat} {e : TypeId} {v : Value} {xs : List Value} (h : w.ownsRow lo e size v n xs) {g : Nat} (hg : v.ownBlock = some g) : Blk w g e (n * size) := by
  rcases row_of_own h with ⟨rfl, _, _⟩ | ⟨g', cap, cur, rfl, a, b, c, d, e1, f⟩
  · cases hg
  · cases hg
    exact ⟨cur, b, by rw [e1]; exact Nat.mul_le_mul_right _ c⟩
theorem own_grown {w w' : World} {lo n size : Nat} {e : TypeId} {v : Value} {xs : List Value} {row : Option Nat} (h : w.ownsRow lo e size v n xs) (hg : w.grownBy w' row) (hne : ∀ g, v.ownBlock = some g → some g ≠ row) : w'.ownsRow lo e size v n xs := by
  rcases row_of_own h with ⟨rfl, h1, h2⟩ | ⟨g, cap, cur, rfl, a, b, c, d, e1, f⟩
  · rw [h1, h2]; exact World.ownsRow_nil _ _ _ _
  · exact own_of_row (b.grown hg (hne g rfl)) a c d e1 f
theorem cell_grown {w w' : World} {row : Option Nat} (hg : w.grownBy w' row) {g : Nat} (hl : g < w.heap.size) (hne : some g ≠ row) (o : Nat) : w'.cell? ⟨g, o, none⟩ = w.cell? ⟨g, o, none⟩ :=
  World.cell?_of_block (w := w) (hg.block g hl hne)

theorem ap_spans (w : World) (B : Nat) (pv : Value) (A : List (Sp Int)) (x y : Int) (h : Ls w B pv A) (hB : B ≤ w.heap.size) (hby : A.length ≤ 8000000) :
    ∃ gp cp w', (∀ ty, (Builtin.append_ #[32, 32] ty #[pv, .slice (some ⟨w.heap.size, 0, none⟩) 2 2]).run Try.prog (w.alloc (.cells #[.int .u64 0, .int .u64 0, .int .i64 x, .int .u64 0, .int .u64 0, .int .i64 y] 44)) = .ok (.slice (some ⟨gp, 0, none⟩) (A.length + 2) cp) w') ∧ w.grownBy w' pv.ownBlock ∧ (pv.ownBlock = some gp ∨ w.heap.size ≤ gp) ∧ gp < w'.heap.size ∧ w'.cell? ⟨gp, A.length * 3 + 2, none⟩ = some (.int .i64 x) ∧ w'.cell? ⟨gp, (A.length + 1) * 3 + 2, none⟩ = some (.int .i64 y) ∧ (∀ g, pv.ownBlock = some g → Blk w' g 44 (A.length * 3)) := by
  obtain ⟨inf, hi0, hz0, hzs, hzb⟩ := info_parts infoEL
  have h1 : Below w.heap.size w (w.alloc (.cells #[.int .u64 0, .int .u64 0, .int .i64 x, .int .u64 0, .int .u64 0, .int .i64 y] 44)) := below_alloc (Below.refl _ w) _
  have ho1 : (w.alloc (.cells #[.int .u64 0, .int .u64 0, .int .i64 x, .int .u64 0, .int .u64 0, .int .i64 y] 44)).ownsRow 0 44 3 (.slice (some ⟨w.heap.size, 0, none⟩) 2 2) 2 (cellsL [⟨0, 0, x⟩, ⟨0, 0, y⟩]) :=
    own_of_row (cur := cellsL [⟨0, 0, x⟩, ⟨0, 0, y⟩]) (heap_alloc_new w _) (Nat.zero_le _) (Nat.le_refl _) (by decide) rfl rfl
  have h2 : Ls (w.alloc (.cells #[.int .u64 0, .int .u64 0, .int .i64 x, .int .u64 0, .int .u64 0, .int .i64 y] 44)) B pv A := row_keep h h1
  obtain ⟨v', w', hr, ho, hor⟩ := append_or (P := Try.prog) (w.alloc (.cells #[.int .u64 0, .int .u64 0, .int .i64 x, .int .u64 0, .int .u64 0, .int .i64 y] 44)) 32 44 inf _ Try.underlying32 hi0 hz0 (by rw [hzs]; rfl) B A.length 2 pv (.slice (some ⟨w.heap.size, 0, none⟩) 2 2) (cellsL A) (cellsL [⟨0, 0, x⟩, ⟨0, 0, y⟩])
    (by rw [hzs]; exact h2) (by rw [hzs]; exact src_of_own Try.underlying32 ho1 (cellsL_one _)) (Nat.le_trans hB h1.size) (by unfold maxLen; omega) (by rw [hzb]; omega)
  rw [hzs] at ho
  rcases row_of_own ho with ⟨_, hq, _⟩ | ⟨gp, cp, cur, rfl, a, b, c, d, e1, f⟩
  · omega
  have hL : Ls w' B (.slice (some ⟨gp, 0, none⟩) (A.length + 2) cp) (A ++ [⟨0, 0, x⟩, ⟨0, 0, y⟩]) := by
    rw [Ls, List.length_append, cellsL_append]
    exact ho
  have hcell : ∀ i s, (A ++ [⟨0, 0, x⟩, ⟨0, 0, y⟩] : List (Sp Int))[i]? = some s → w'.cell? ⟨gp, i * 3 + 2, none⟩ = some (.int .i64 s.val) := by
    intro i s hs
    rcases hL.view with ⟨hv, _⟩ | ⟨g, cap, hv, _, _, _, _, h6⟩
    · cases (Value.slice.inj hv).1
    · have hgg := (Value.slice.inj hv).1
      simp only [Option.some.injEq, Addr.mk.injEq, and_true] at hgg
      subst hgg
      have q2 := h6 i s hs 2 (by omega)
      simp only [encS, List.getElem?_cons_zero, List.getElem?_cons_succ] at q2
      exact q2
  refine ⟨gp, cp, w', hr, ?_, ?_, b.lt, hcell A.length ⟨0, 0, x⟩ (by simp), hcell (A.length + 1) ⟨0, 0, y⟩ (by simp), ?_⟩
  · rcases hor with ⟨hg, _⟩ | ⟨hg, _⟩
    · exact grownBy_none _ (grownBy_trans (below_grown h1) hg)
    · exact grownBy_trans (grownBy_none _ (below_grown h1)) hg
  · rcases hor with ⟨_, hg⟩ | ⟨_, hg⟩
    · exact .inr (Nat.le_trans h1.size (hg gp rfl))
    · exact .inl hg.symm
  · intro g hg
    rcases hor with ⟨hgr, _⟩ | ⟨_, he⟩
    · exact (own_blk h2 hg).grown hgr (by simp)
    · rw [hg] at he
      cases he
      exact (own_blk ho rfl).less (by omega)

theorem ap_rooms (w : World) (B : Nat) (pv : Value) (A : List (Sp Unit)) (x : Int) (h : Lm w B pv A) (hB : B ≤ w.heap.size) (hby : A.length ≤ 8900000) :
    ∃ gp cp w', (∀ ty, (Builtin.append_ #[54, 54] ty #[pv, .slice (some ⟨w.heap.size, 0, none⟩) 1 1]).run Try.prog (w.alloc (.cells #[.int .u64 x, .int .u64 0] 57)) = .ok (.slice (some ⟨gp, 0, none⟩) (A.length + 1) cp) w') ∧ w.grownBy w' pv.ownBlock ∧ (pv.ownBlock = some gp ∨ w.heap.size ≤ gp) ∧ gp < w'.heap.size ∧ w'.cell? ⟨gp, A.length * 2, none⟩ = some (.int .u64 x) ∧ (∀ g, pv.ownBlock = some g → Blk w' g 57 (A.length * 2)) := by
  obtain ⟨inf, hi0, hz0, hzs, hzb⟩ := info_parts infoRoom
  have h1 : Below w.heap.size w (w.alloc (.cells #[.int .u64 x, .int .u64 0] 57)) := below_alloc (Below.refl _ w) _
  have ho1 : (w.alloc (.cells #[.int .u64 x, .int .u64 0] 57)).ownsRow 0 57 2 (.slice (some ⟨w.heap.size, 0, none⟩) 1 1) 1 (cellsR [⟨x, 0, ()⟩]) :=
    own_of_row (cur := cellsR [⟨x, 0, ()⟩]) (heap_alloc_new w _) (Nat.zero_le _) (Nat.le_refl _) (by decide) rfl rfl
  have h2 : Lm (w.alloc (.cells #[.int .u64 x, .int .u64 0] 57)) B pv A := row_keep h h1
  obtain ⟨v', w', hr, ho, hor⟩ := append_or (P := Try.prog) (w.alloc (.cells #[.int .u64 x, .int .u64 0] 57)) 54 57 inf _ Try.underlying54 hi0 hz0 (by rw [hzs]; rfl) B A.length 1 pv (.slice (some ⟨w.heap.size, 0, none⟩) 1 1) (cellsR A) (cellsR [⟨x, 0, ()⟩])
    (by rw [hzs]; exact h2) (by rw [hzs]; exact src_of_own Try.underlying54 ho1 (by intro u hu; simp [cellsR, encR] at hu; rcases hu with rfl | rfl <;> rfl)) (Nat.le_trans hB h1.size) (by unfold maxLen; omega) (by rw [hzb]; omega)
  rw [hzs] at ho
  rcases row_of_own ho with ⟨_, hq, _⟩ | ⟨gp, cp, cur, rfl, a, b, c, d, e1, f⟩
  · omega
  have hL : Lm w' B (.slice (some ⟨gp, 0, none⟩) (A.length + 1) cp) (A ++ [⟨x, 0, ()⟩]) := by
    rw [Lm, List.length_append, cellsR_append]
    exact ho
  have hcell : w'.cell? ⟨gp, A.length * 2, none⟩ = some (.int .u64 x) := by
    obtain ⟨va, vc, hv, hvc⟩ := Lm.view hL
    obtain ⟨g, hg, _, _, q0, _⟩ := hvc A.length ⟨x, 0, ()⟩ (by simp)
    subst hg
    have hgg := (Value.slice.inj hv).1
    simp only [Option.some.injEq, Addr.mk.injEq, and_true] at hgg
    subst hgg
    exact q0
  refine ⟨gp, cp, w', hr, ?_, ?_, b.lt, hcell, ?_⟩
  · rcases hor with ⟨hg, _⟩ | ⟨hg, _⟩
    · exact grownBy_none _ (grownBy_trans (below_grown h1) hg)
    · exact grownBy_trans (grownBy_none _ (below_grown h1)) hg
  · rcases hor with ⟨_, hg⟩ | ⟨_, hg⟩
    · exact .inr (Nat.le_trans h1.size (hg gp rfl))
    · exact .inl hg.symm
  · intro g hg
    rcases hor with ⟨hgr, _⟩ | ⟨_, he⟩
    · exact (own_blk h2 hg).grown hgr (by simp)
    · rw [hg] at he
      cases he
      exact (own_blk ho rfl).less (by omega)
end Go.Proofs.Ytliiblaodhcjhaa
