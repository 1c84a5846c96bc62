import Derived.Test.YtaahbklganhfkaaOwnC
namespace Go.Proofs.Ytaahbklganhfkaa
open Go.RowKit
set_option linter.unusedVariables false

/-- Three of something, by their number. -/
def by3 {α : Type} (a b c : α) : Nat → α := fun i => if i = 0 then a else if i = 1 then b else c
def mk3 : Nat → ByteArray := by3 ⟨#[111, 110, 101]⟩ ⟨#[116, 119, 111]⟩ ⟨#[116, 104, 114, 101, 101]⟩

/-- The lists behind k rounds; and behind j steps of the next. -/
def aft (L : Nat → List ByteArray) (k : Nat) : Nat → List ByteArray := fun i => if i < k then List.replicate (L i).length (mk3 i) else L i
def mid (L : Nat → List ByteArray) (k j : Nat) : Nat → List ByteArray := fun i => if i = k then List.replicate j (mk3 k) ++ (L k).drop j else aft L k i

theorem aft_at (L : Nat → List ByteArray) (k : Nat) : aft L k k = L k := by simp [aft]
theorem mid_at (L : Nat → List ByteArray) (k j : Nat) : mid L k j k = List.replicate j (mk3 k) ++ (L k).drop j := by simp [mid]
theorem mid_zero (L : Nat → List ByteArray) (k i : Nat) : aft L k i = mid L k 0 i := by
  unfold mid
  split
  · subst i
    simp [aft]
  · rfl
theorem mid_full (L : Nat → List ByteArray) (k i n : Nat) (h : (L k).length = n) : mid L k n i = aft L (k + 1) i := by
  unfold mid aft
  split
  · subst i
    rw [if_pos (by omega), ← h]
    simp
  · by_cases h2 : i < k
    · rw [if_pos h2, if_pos (by omega)]
    · rw [if_neg h2, if_neg (by omega)]

theorem set_step (l : List ByteArray) (j : Nat) (x : ByteArray) (h : j < l.length) : (List.replicate j x ++ l.drop j).set j x = List.replicate (j + 1) x ++ l.drop (j + 1) := by
  rw [List.set_append_right _ _ (by simp), List.length_replicate, Nat.sub_self, List.drop_eq_getElem_cons h, List.set_cons_zero, List.replicate_succ', List.append_assoc]
  rfl

theorem mid_step (L : Nat → List ByteArray) (k j i : Nat) (h : j < (L k).length) : (if i = k then (mid L k j k).set j (mk3 k) else mid L k j i) = mid L k (j + 1) i := by
  by_cases e : i = k
  · subst e
    rw [if_pos rfl, mid_at, mid_at, set_step _ _ _ h]
  · rw [if_neg e]
    unfold mid
    rw [if_neg e, if_neg e]

theorem aft_marks (L : Nat → List ByteArray) (i : Nat) (h : i < 3) : aft L 3 i = List.replicate (L i).length (mk3 i) := by
  unfold aft
  rw [if_pos h]

theorem owns_slice {B : Nat} {W : World} {v : Value} {l : List ByteArray} (h : Owns B W v l) : ∃ a n c, v = .slice a n c := by
  obtain ⟨a, cap, hv, _⟩ := owns_view h
  exact ⟨a, _, cap, hv⟩

def hs4 (a b c d : Nat) : Nat → Nat := fun i => if i = 0 then a else if i = 1 then b else if i = 2 then c else d

/-- As the loops begin. -/
theorem St.start {w w1 w2 w3 w4 w5 : World} {v0 v1 v2 : Value} {l0 l1 l2 : List ByteArray} {q4 : Nat} (b1 : Below w.heap.size w w1) (b2 : Below w1.heap.size w1 w2) (b3 : Below w2.heap.size w2 w3) (b4 : Below w3.heap.size w3 w4) (b5 : Below (w4.drewN q4).heap.size (w4.drewN q4) w5)
    (o0 : Owns w.heap.size w1 v0 l0) (o1 : Owns w1.heap.size w2 v1 l1) (o2 : Owns w2.heap.size w3 v2 l2) (q : Nat) :
    St w (((w5.drewN q).alloc (.cells #[v0, v1, v2] 29)).alloc (.cells #[.string ⟨#[111, 110, 101]⟩, .string ⟨#[116, 119, 111]⟩, .string ⟨#[116, 104, 114, 101, 101]⟩] 9)) (hs4 w.heap.size w1.heap.size w2.heap.size w3.heap.size) w5.heap.size (by3 v0 v1 v2) mk3 (by3 l0 l1 l2) := by
  have s1 := b1.size
  have s2 := b2.size
  have s3 := b3.size
  have s4 := b4.size
  have s5 : w4.heap.size ≤ w5.heap.size := b5.size
  have b5' : Below w4.heap.size w4 w5 := ⟨b5.os, b5.tape, b5.output, b5.size, b5.block⟩
  have hfin : Below w5.heap.size w5 (((w5.drewN q).alloc (.cells #[v0, v1, v2] 29)).alloc (.cells #[.string ⟨#[111, 110, 101]⟩, .string ⟨#[116, 119, 111]⟩, .string ⟨#[116, 104, 114, 101, 101]⟩] 9)) :=
    ((below_drewN (Below.refl _ _) q).alloc (Nat.le_refl _) _).alloc (by simp) _
  have f4 := b5'.trans (hfin.mono s5)
  have f3 := b4.trans (f4.mono s4)
  have f2 := b3.trans (f3.mono s3)
  have f1 := b2.trans (f2.mono s2)
  have f0 := b1.trans (f1.mono s1)
  have hsz : (w5.drewN q).heap.size = w5.heap.size := rfl
  refine ⟨f0, fun i hi => ?_, ?_, ?_, Nat.le_refl _, ⟨s1, s2, s3, by show w3.heap.size ≤ _; omega⟩, by simp⟩
  · rcases (show i = 0 ∨ i = 1 ∨ i = 2 by omega) with rfl | rfl | rfl
    · exact (Part.of o0).keep (fun k _ h => f1.block k h)
    · exact (Part.of o1).keep (fun k _ h => f2.block k h)
    · exact (Part.of o2).keep (fun k _ h => f3.block k h)
  · rw [Below.heap_alloc _ _ _ (by simp)]
    exact heap_alloc_new (w5.drewN q) _
  · have := heap_alloc_new ((w5.drewN q).alloc (.cells #[v0, v1, v2] 29)) (.cells #[.string ⟨#[111, 110, 101]⟩, .string ⟨#[116, 119, 111]⟩, .string ⟨#[116, 104, 114, 101, 101]⟩] 9)
    have hsz2 : ((w5.drewN q).alloc (.cells #[v0, v1, v2] 29)).heap.size = w5.heap.size + 1 := by simp
    rw [hsz2] at this
    exact this

/-- A mark is put. -/
theorem St.put {w W : World} {H : Nat → Nat} {GA : Nat} {v : Nat → Value} {L : Nat → List ByteArray} {k j g n c : Nat} (h : St w W H GA v mk3 (mid L k j)) (hk : k < 3) (hv : v k = .slice (some ⟨g, 0, none⟩) n c) (hj : j < (L k).length) :
    St w (W.setCell ⟨g, j, none⟩ (.string (mk3 k))).drew H GA v mk3 (mid L k (j + 1)) := by
  have hp := h.part k hk
  rw [hv] at hp
  have hg2 : g < H (k + 1) := hp.top g rfl
  have hg1 : H k ≤ g := (World.ownsRow.lt hp.own g rfl).1
  have hlow := h.low' hk
  have hb : Below w.heap.size w (W.setCell ⟨g, j, none⟩ (.string (mk3 k))) := h.bel.setCell (by show w.heap.size ≤ g; omega) _
  have hset : Part (W.setCell ⟨g, j, none⟩ (.string (mk3 k))).drew (H k) (H (k + 1)) (v k) ((mid L k j k).set j (mk3 k)) := by
    rw [hv]
    exact (hp.set (j := j) (mk3 k)).keep (fun _ _ _ => rfl)
  refine (h.upd (W' := (W.setCell ⟨g, j, none⟩ (.string (mk3 k))).drew) hk ⟨hb.os, hb.tape, hb.output, hb.size, hb.block⟩ (by have := h.size; show GA + 2 ≤ (W.setCell ⟨g, j, none⟩ (.string (mk3 k))).heap.size; rw [World.size_setCell]; exact this) (fun q _ h2 => Below.heap_setCell _ _ _ _ (fun e => h2 (by subst e; exact ⟨hg1, hg2⟩))) hset).congr (fun i _ => mid_step L k j i hj)

theorem St.alloc {w W : World} {H : Nat → Nat} {GA : Nat} {v : Nat → Value} {m : Nat → ByteArray} {l : Nat → List ByteArray} (h : St w W H GA v m l) (o : Obj) : St w (W.alloc o) H GA v m l := by
  have hsz := h.size
  have hb := h.bel.size
  exact h.keep (h.bel.alloc (by omega) _) (by rw [World.size_alloc]; omega) (fun k hk => Below.heap_alloc _ _ _ (by omega))

theorem Part.lt {W : World} {lo hi g n c : Nat} {l : List ByteArray} (h : Part W lo hi (.slice (some ⟨g, 0, none⟩) n c) l) : g < W.heap.size := (World.ownsRow.lt h.own g rfl).2

theorem More.alloc {W : World} {lo hi top j : Nat} {v0 xv : Value} {l : List ByteArray} {e0 : ByteArray} (h : More W lo hi top v0 xv l j e0) (hhi : hi ≤ W.heap.size) (o : Obj) : More (W.alloc o) lo hi top v0 xv l j e0 := by
  rcases h with ⟨a, n, c, h1, h2, h3⟩ | h
  · exact .inl ⟨a, n, c, h1, h2, h3.keep (fun k _ hk => Below.heap_alloc _ _ _ (by omega))⟩
  · exact .inr (World.ownsRow.alloc h _)

theorem More.start {W : World} {lo hi top : Nat} {v0 : Value} {a : Option Addr} {n c : Nat} {l : List ByteArray} {e0 : ByteArray} (hv : v0 = .slice a n c) (h : Part W lo hi v0 l) : More W lo hi top v0 (.slice a n c) l 0 e0 := by
  refine .inl ⟨a, n, c, hv, rfl, ?_⟩
  rw [hv] at h
  simpa using h
end Go.Proofs.Ytaahbklganhfkaa
