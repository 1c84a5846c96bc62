import Derived.Test.YtaahbklganhfkaaFieldsC
import Derived.ArgAppend
import Derived.BigRegion
namespace Go.Proofs.Ytaahbklganhfkaa
open Go.RowKit
set_option linter.unusedVariables false

/-- A list of texts whose block, if it has one, lies from lo on and below hi. -/
structure Part (W : World) (lo hi : Nat) (v : Value) (l : List ByteArray) : Prop where
  own : Owns lo W v l
  top : ∀ g, v.ownBlock = some g → g < hi

theorem Part.of {W : World} {lo : Nat} {v : Value} {l : List ByteArray} (h : Owns lo W v l) : Part W lo W.heap.size v l :=
  ⟨h, fun g hg => (World.ownsRow.lt h g hg).2⟩

theorem Part.keep {W W' : World} {lo hi : Nat} {v : Value} {l : List ByteArray} (h : Part W lo hi v l) (hk : ∀ k, lo ≤ k → k < hi → W'.heap[k]? = W.heap[k]?) : Part W' lo hi v l := by
  refine ⟨?_, h.top⟩
  obtain ⟨⟨h1, h2⟩, ht⟩ := h
  refine ⟨h1, ?_⟩
  rcases h2 with h2 | ⟨g, cap, cur, e, b, c, d⟩
  · exact .inl h2
  · exact .inr ⟨g, cap, cur, e, b, by rw [hk g b (ht g (by rw [e]; rfl))]; exact c, d⟩

theorem Part.view {W : World} {lo hi : Nat} {a : Option Addr} {n cap : Nat} {l : List ByteArray} (h : Part W lo hi (.slice a n cap) l) (h0 : 0 < n) :
    ∃ g, a = some ⟨g, 0, none⟩ ∧ lo ≤ g ∧ g < hi ∧ l.length = n ∧ ∀ j (hj : j < l.length), W.cell? ⟨g, j, none⟩ = some (.string (l[j]'hj)) ∧ W.frozen? ⟨g, j, none⟩ = false := by
  have h' := h.own
  obtain ⟨h1, h2⟩ := h.own
  rcases h2 with ⟨e, hn⟩ | ⟨g, cap', cur, e, hg, hh, hn, r⟩
  · cases e
    omega
  · cases e
    refine ⟨g, rfl, hg, h.top g rfl, rfl, fun j hj => ⟨?_, ?_⟩⟩
    · have := World.ownsRow.cellAt h' j (by omega)
      rw [this]
      simp [hj]
    · exact World.ownsRow.frozenAt h' j

theorem Part.len {W : World} {lo hi : Nat} {a : Option Addr} {n cap : Nat} {l : List ByteArray} (h : Part W lo hi (.slice a n cap) l) : l.length = n := by
  obtain ⟨h1, h2⟩ := h.own
  rcases h2 with ⟨e, hn⟩ | ⟨g, cap', cur, e, hg, hh, hn, r⟩
  · cases e
    exact hn
  · cases e
    rfl

theorem Part.set {W : World} {lo hi g n cap j : Nat} {l : List ByteArray} (h : Part W lo hi (.slice (some ⟨g, 0, none⟩) n cap) l) (m : ByteArray) :
    Part (W.setCell ⟨g, j, none⟩ (.string m)) lo hi (.slice (some ⟨g, 0, none⟩) n cap) (l.set j m) := by
  have hl := h.len
  refine ⟨?_, h.top⟩
  have ho := h.own
  unfold Owns at ho ⊢
  rw [List.length_set, List.map_set]
  subst hl
  exact (World.ownsRow.stored ho j (.string m)).1

/-- What stays of a list when another value of its block has grown. -/
theorem Part.cut {W : World} {lo hi g n q cap : Nat} {l r : List ByteArray} (hlen : l.length = n) (hg : g < hi) (h : W.ownsRow lo 9 1 (.slice (some ⟨g, 0, none⟩) (n + q) cap) (n + q) ((l ++ r).map Value.string)) (hq : r.length = q) :
    Part W lo hi (.slice (some ⟨g, 0, none⟩) n cap) l := by
  refine ⟨?_, fun g' e => by cases e; exact hg⟩
  obtain ⟨h1, h2⟩ := h
  subst hlen
  refine ⟨by simp, .inr ?_⟩
  rcases h2 with ⟨e, _⟩ | ⟨g', cap', cur, e, hg', hh, hn, hm, hsz, ht⟩
  · cases e
  · cases e
    refine ⟨g, cap, cur, rfl, hg', hh, by omega, hm, hsz, ?_⟩
    have h3 : (cur.toList.take ((l.length + q) * 1)).take (l.length * 1) = ((l ++ r).map Value.string).take (l.length * 1) := by rw [ht]
    rw [List.take_take, Nat.min_eq_left (by omega)] at h3
    rw [h3, List.map_append, Nat.mul_one]
    have : l.length = (l.map Value.string).length := by simp
    rw [this, List.take_left]

/-- The three lists, the list of them, the marks. -/
structure St (w W : World) (H : Nat → Nat) (GA : Nat) (v : Nat → Value) (m : Nat → ByteArray) (l : Nat → List ByteArray) : Prop where
  bel : Below w.heap.size w W
  part : ∀ i, i < 3 → Part W (H i) (H (i + 1)) (v i) (l i)
  lists : W.heap[GA]? = some (.cells #[v 0, v 1, v 2] 29 (0, 0))
  marks : W.heap[GA + 1]? = some (.cells #[.string (m 0), .string (m 1), .string (m 2)] 9 (0, 0))
  low : w.heap.size ≤ H 0
  ord : H 0 ≤ H 1 ∧ H 1 ≤ H 2 ∧ H 2 ≤ H 3 ∧ H 3 ≤ GA
  size : GA + 2 ≤ W.heap.size

section
variable {w W W' : World} {H : Nat → Nat} {GA : Nat} {v : Nat → Value} {m : Nat → ByteArray} {l l' : Nat → List ByteArray}

theorem St.mono (h : St w W H GA v m l) {i j : Nat} (hij : i ≤ j) (hj : j ≤ 3) : H i ≤ H j := by
  obtain ⟨a, b, c, _⟩ := h.ord
  rcases (show i = 0 ∨ i = 1 ∨ i = 2 ∨ i = 3 by omega) with rfl | rfl | rfl | rfl <;> rcases (show j = 0 ∨ j = 1 ∨ j = 2 ∨ j = 3 by omega) with rfl | rfl | rfl | rfl <;> omega

theorem St.low' (h : St w W H GA v m l) {i : Nat} (hi : i < 3) : w.heap.size ≤ H i ∧ H (i + 1) ≤ GA := by
  have h1 := h.low
  have h2 := h.ord
  have h3 := h.mono (Nat.zero_le i) (by omega)
  have h4 := h.mono (show i + 1 ≤ 3 by omega) (Nat.le_refl 3)
  omega

/-- A world that is alike but in one list's blocks. -/
theorem St.upd (h : St w W H GA v m l) {i : Nat} (hi : i < 3) (hB : Below w.heap.size w W') (hs : GA + 2 ≤ W'.heap.size) (hk : ∀ k, k < GA + 2 → ¬ (H i ≤ k ∧ k < H (i + 1)) → W'.heap[k]? = W.heap[k]?)
    {x : List ByteArray} (hp : Part W' (H i) (H (i + 1)) (v i) x) : St w W' H GA v m (fun j => if j = i then x else l j) := by
  have hord := h.ord
  have hlo := h.low' hi
  refine ⟨hB, fun j hj => ?_, by rw [hk GA (by omega) (by omega)]; exact h.lists, by rw [hk (GA + 1) (by omega) (by omega)]; exact h.marks, h.low, h.ord, hs⟩
  by_cases e : j = i
  · subst e
    rw [if_pos rfl]
    exact hp
  · rw [if_neg e]
    refine (h.part j hj).keep (fun k h1 h2 => ?_)
    have hlj := h.low' hj
    refine hk k (by omega) (fun h3 => ?_)
    rcases Nat.lt_or_gt_of_ne e with h4 | h4
    · have := h.mono (show j + 1 ≤ i by omega) (by omega)
      omega
    · have := h.mono (show i + 1 ≤ j by omega) (by omega)
      omega

theorem St.keep (h : St w W H GA v m l) (hB : Below w.heap.size w W') (hs : GA + 2 ≤ W'.heap.size) (hk : ∀ k, k < GA + 2 → W'.heap[k]? = W.heap[k]?) : St w W' H GA v m l := by
  have hord := h.ord
  refine ⟨hB, fun j hj => (h.part j hj).keep (fun k h1 h2 => hk k (by have := h.low' hj; omega)), by rw [hk GA (by omega)]; exact h.lists, by rw [hk (GA + 1) (by omega)]; exact h.marks, h.low, h.ord, hs⟩

theorem St.drewN (h : St w W H GA v m l) (q : Nat) : St w (W.drewN q) H GA v m l :=
  h.keep (below_drewN h.bel q) h.size (fun _ _ => rfl)

theorem St.congr (h : St w W H GA v m l) (e : ∀ i, i < 3 → l i = l' i) : St w W H GA v m l' :=
  ⟨h.bel, fun i hi => by rw [← e i hi]; exact h.part i hi, h.lists, h.marks, h.low, h.ord, h.size⟩

theorem St.cells (h : St w W H GA v m l) {i : Nat} (hi : i < 3) : (∀ hv : (v i).oneCell' = true, W.cell? ⟨GA, i, none⟩ = some (v i)) ∧ W.cell? ⟨GA + 1, i, none⟩ = some (.string (m i)) := by
  rcases (show i = 0 ∨ i = 1 ∨ i = 2 by omega) with rfl | rfl | rfl
  all_goals
    constructor
    · intro _
      simp [World.cell?, h.lists]
    · simp [World.cell?, h.marks]
end
end Go.Proofs.Ytaahbklganhfkaa
