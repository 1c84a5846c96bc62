import Derived.Test.YtmcloaonpkfibaaDoorRw
namespace Go.Proofs.YtmcloaonpkfibaaDoor
open Go.RowKit
set_option linter.unusedVariables false
variable {P : Program}

theorem own_of_row {W : World} {lo g n cap size : Nat} {e : TypeId} {cur xs : List Value} (hg : RowAt W g e cur) (hlo : lo ≤ g) (hn : n ≤ cap) (hc : cap ≤ maxLen) (hl : cur.length = cap * size) (hx : cur.take (n * size) = xs) :
    W.ownsRow lo e size (.slice (some ⟨g, 0, none⟩) n cap) n xs := by
  refine ⟨?_, .inr ⟨g, cap, cur.toArray, rfl, hlo, hg, hn, hc, by simpa using hl, by simpa using hx⟩⟩
  rw [← hx, List.length_take, hl, Nat.min_eq_left (Nat.mul_le_mul_right _ hn)]

theorem row_of_own {W : World} {lo n size : Nat} {e : TypeId} {v : Value} {xs : List Value} (h : W.ownsRow lo e size v n xs) :
    (v = .slice none 0 0 ∧ n = 0 ∧ xs = []) ∨ ∃ g cap cur, v = .slice (some ⟨g, 0, none⟩) n cap ∧ lo ≤ g ∧ RowAt W g e cur ∧ n ≤ cap ∧ cap ≤ maxLen ∧ cur.length = cap * size ∧ cur.take (n * size) = xs := by
  obtain ⟨h1, h2⟩ := h
  rcases h2 with ⟨rfl, rfl⟩ | ⟨g, cap, cur, rfl, a, b, c, d, e, f⟩
  · exact .inl ⟨rfl, rfl, List.eq_nil_of_length_eq_zero (by simpa using h1)⟩
  · exact .inr ⟨g, cap, cur.toList, rfl, a, by simpa [RowAt] using b, c, d, by simpa using e, f⟩

theorem src_of_own {w : World} {lo m size : Nat} {t e e' : TypeId} {v : Value} {vs : List Value} (ht : P.underlying t = some (.slice e')) (h : w.ownsRow lo e size v m vs) (h1 : ∀ u ∈ vs, u.oneCell' = true) : Src P size t v m vs w := by
  have hlen := h.1
  rcases row_of_own h with ⟨rfl, rfl, rfl⟩ | ⟨g, cap, cur, rfl, a, b, c, d, e1, f⟩
  · exact Src.ofNil w ht 0
  · exact Src.ofSlice w ht ⟨g, 0, none⟩ m cap vs hlen (fun j u hj => h.cells rfl j u hj) h1

theorem own_block_new {W : World} {lo n size : Nat} {e : TypeId} {v : Value} {xs : List Value} (h : W.ownsRow lo e size v n xs) {g : Nat} (hg : v.ownBlock = some g) : lo ≤ g ∧ g < W.heap.size := h.lt g hg

/-- append onto what is owned. -/
theorem append_any (w : World) (t e : TypeId) (i : TypeInfo) (z : Value) (ht : P.underlying t = some (.slice e)) (hi : P.info? e = some i) (hz : i.zero = some z) (hzs : z.cells.size = i.size)
    (lo n m : Nat) (s x : Value) (xs news : List Value) (hs : w.ownsRow lo e i.size s n xs) (hx : Src P i.size t x m news w) (hlo : lo ≤ w.heap.size) (h63 : n + m ≤ maxLen) (hby : (n + m) * i.bytes ≤ 140737488355328) :
    ∃ v' w', (∀ ty, (Builtin.append_ #[t, t] ty #[s, x]).run P w = .ok v' w') ∧ w'.ownsRow lo e i.size v' (n + m) (xs ++ news) ∧ w.grownBy w' s.ownBlock ∧ (∀ g, v'.ownBlock = some g → s.ownBlock = some g ∨ w.heap.size ≤ g) := by
  have hnl := hx.newsLen
  rcases row_of_own hs with ⟨rfl, rfl, rfl⟩ | ⟨g, cap, cur, rfl, a, b, c, d, e1, f⟩
  · by_cases h0 : m = 0
    · subst h0
      obtain rfl : news = [] := List.eq_nil_of_length_eq_zero (by simpa using hnl)
      refine ⟨.slice none 0 0, w, ?_, World.ownsRow_nil _ _ _ _, grownBy_refl _ _, fun g hg => by cases hg⟩
      intro ty
      simp [Builtin.append_, run_underlying ht, sizeOf, typeInfo, hi, hx.len, hx.cells]
    · obtain ⟨w', cap, rest, h1, h2, h3, h4, h5, h6, h7⟩ := append_away w t e i z ht hi hz hzs none 0 0 [] (by simp) (run_firstCells_none w.drew i.size 0 0 0) x m news hx (by omega) (by omega) hby
      refine ⟨_, w', h1, own_of_row h2 hlo h4 h5 ?_ ?_, grownBy_none _ h6, fun g hg => .inr (by cases hg; exact Nat.le_refl _)⟩
      · rw [List.length_append, List.length_append, h3, hnl, List.length_nil, Nat.zero_add, ← Nat.add_mul]; congr 1; omega
      · rw [List.take_append_of_le_length (by simp [hnl])]
        exact List.take_of_length_le (by simp [hnl])
  · by_cases h0 : n + m ≤ cap
    · have hfit : n * i.size + news.length ≤ cur.length := by rw [hnl, e1, ← Nat.add_mul]; exact Nat.mul_le_mul_right _ h0
      obtain ⟨w', h1, h2, h3⟩ := append_room w t e i ht hi g n cap cur b x m news hx h0 hfit
      refine ⟨_, w', h1, own_of_row h2 a h0 d ?_ ?_, h3, fun g hg => .inl hg⟩
      · rw [List.length_append, List.length_append, List.length_take, List.length_drop, ← e1]; omega
      · rw [f, List.take_append_of_le_length (by rw [List.length_append, hs.1, hnl, Nat.add_mul]; exact Nat.le_refl _)]
        exact List.take_of_length_le (by rw [List.length_append, hs.1, hnl, Nat.add_mul]; exact Nat.le_refl _)
    · obtain ⟨w', cap', rest, h1, h2, h3, h4, h5, h6, h7⟩ := append_away w t e i z ht hi hz hzs (some ⟨g, 0, none⟩) n cap xs hs.1
        (run_firstCells_some w.drew i.size n ⟨g, 0, none⟩ n cap xs hs.1 (fun j u hj => hs.cells rfl j u hj)) x m news hx (by omega) h63 hby
      refine ⟨_, w', h1, own_of_row h2 (by omega) h4 h5 ?_ ?_, grownBy_none _ h6, fun g hg => .inr (by cases hg; exact Nat.le_refl _)⟩
      · rw [List.length_append, List.length_append, h3, hnl, hs.1, ← Nat.add_mul, ← Nat.add_mul]; congr 1; omega
      · rw [List.take_append_of_le_length (by rw [List.length_append, hs.1, hnl, Nat.add_mul]; exact Nat.le_refl _)]
        exact List.take_of_length_le (by rw [List.length_append, hs.1, hnl, Nat.add_mul]; exact Nat.le_refl _)
theorem cat_len {α : Type} (enc : α → List Value) (K : Nat) (hK : ∀ x, (enc x).length = K) (L : List α) : (L.flatMap enc).length = L.length * K := by
  induction L with
  | nil => simp
  | cons s r ih => rw [List.flatMap_cons, List.length_append, hK, ih, List.length_cons, Nat.add_mul, Nat.one_mul, Nat.add_comm]
theorem cat_at {α : Type} (enc : α → List Value) (K : Nat) (hK : ∀ x, (enc x).length = K) {L : List α} {i : Nat} {s : α} (h : L[i]? = some s) (j : Nat) (hj : j < K) : (L.flatMap enc)[i * K + j]? = (enc s)[j]? := by
  induction L generalizing i with
  | nil => simp at h
  | cons t r ih =>
    rw [List.flatMap_cons]
    cases i with
    | zero =>
      simp at h
      subst h
      rw [Nat.zero_mul, Nat.zero_add, List.getElem?_append_left (by rw [hK]; exact hj)]
    | succ i =>
      rw [List.getElem?_append_right (by rw [hK, Nat.add_mul]; omega), hK, show (i + 1) * K + j - K = i * K + j by rw [Nat.add_mul]; omega]
      exact ih (by simpa using h)
end Go.Proofs.YtmcloaonpkfibaaDoor
