import Derived.Test.YtliiblaodhcjhabRefS
import Derived.Test.YtliiblaodhcjhabGapP
namespace Go.Proofs.Ytliiblaodhcjhab
open Go.RowKit
set_option linter.unusedVariables false

theorem own_type {W : World} {lo n size : Nat} {e : TypeId} {v : Value} {xs : List Value} (h : W.ownsRow lo e size v n xs) {g : Nat} (hg : v.ownBlock = some g) : ∃ cur, W.heap[g]? = some (.cells cur e (0, 0)) := by
  rcases row_of_own h with ⟨rfl, _, _⟩ | ⟨g', cap, cur, rfl, a, b, _⟩
  · cases hg
  · cases hg
    exact ⟨_, b⟩

theorem block_ne {W : World} {g h : Nat} {c1 c2 : Array Value} {e1 e2 : TypeId} (h1 : W.heap[g]? = some (.cells c1 e1 (0, 0))) (h2 : W.heap[h]? = some (.cells c2 e2 (0, 0))) (hne : e1 ≠ e2) : g ≠ h := by
  intro e
  subst e
  rw [h1] at h2
  cases h2
  exact hne rfl

theorem row_turn {W W' : World} {lo n size p : Nat} {e : TypeId} {u v : Value} {xs : List Value} (h : W.ownsRow lo e size u n xs) (t : Turn W W' p v) (h1 : ∀ g, u.ownBlock = some g → g ≠ p) (h2 : ∀ g, u.ownBlock = some g → some g ≠ v.ownBlock) : W'.ownsRow lo e size u n xs := by
  rcases row_of_own h with ⟨rfl, rfl, rfl⟩ | ⟨g, cap, cur, rfl, a, b, c, d, e1, f⟩
  · exact World.ownsRow_nil _ _ _ _
  · refine own_of_row (g := g) (cur := cur) ?_ a c d e1 f
    show W'.heap[g]? = _
    rw [t.block g b.lt (h1 g rfl) (h2 g rfl)]; exact b

theorem RefAt.turn {W W' : World} {lo lo' p q : Nat} {u v : Value} {D : List Dn} {L : List (Sp Int)} (h : RefAt W lo q u D) (hm : MapAt W lo' p v L) (t : Turn W W' p v) : RefAt W' lo q u D := by
  refine ⟨?_, row_turn h.own t ?_ ?_, h.low, h.rng⟩
  · rw [t.block q h.lt (block_ne h.box hm.box (by decide)) (fun e => by obtain ⟨cur, hc⟩ := own_type hm.own e.symm; exact block_ne h.box hc (by decide) rfl)]
    exact h.box
  · intro g hg
    obtain ⟨cur, hc⟩ := own_type h.own hg
    exact block_ne hc hm.box (by decide)
  · intro g hg e
    obtain ⟨cur, hc⟩ := own_type h.own hg
    obtain ⟨cur2, hc2⟩ := own_type hm.own e.symm
    exact block_ne hc hc2 (by decide) rfl

theorem MapAt.turn {W W' : World} {lo lo' p q : Nat} {u v : Value} {D : List Dn} {L : List (Sp Int)} (h : MapAt W lo p v L) (hm : RefAt W lo' q u D) (t : Turn W W' q u) : MapAt W' lo p v L := by
  refine ⟨?_, row_turn h.own t ?_ ?_, h.low, h.good⟩
  · rw [t.block p h.lt (block_ne h.box hm.box (by decide)) (fun e => by obtain ⟨cur, hc⟩ := own_type hm.own e.symm; exact block_ne h.box hc (by decide) rfl)]
    exact h.box
  · intro g hg
    obtain ⟨cur, hc⟩ := own_type h.own hg
    exact block_ne hc hm.box (by decide)
  · intro g hg e
    obtain ⟨cur, hc⟩ := own_type h.own hg
    obtain ⟨cur2, hc2⟩ := own_type hm.own e.symm
    exact block_ne hc hc2 (by decide) rfl

theorem rturn_below {W0 W W' : World} {lo p : Nat} {v : Value} {D : List Dn} (hB : Below W0.heap.size W0 W) (h : RefAt W lo p v D) (hlo : W0.heap.size ≤ lo) (t : Turn W W' p v) : Below W0.heap.size W0 W' :=
  ⟨t.os.trans hB.os, t.tape.trans hB.tape, t.output.trans hB.output, Nat.le_trans hB.size t.size, fun k hk => (t.block k (Nat.lt_of_lt_of_le hk hB.size) (by have := h.low; omega) (fun e => by have := (World.ownsRow.lt h.own k e.symm).1; omega)).trans (hB.block k hk)⟩

theorem RefAt.new (W : World) (lo : Nat) (hlo : lo ≤ W.heap.size) : RefAt (W.alloc (.cells #[.slice none 0 0] 55)) lo W.heap.size (.slice none 0 0) [] :=
  ⟨heap_alloc_new W _, World.ownsRow_nil _ _ _ _, hlo, fun d hd => by cases hd⟩

theorem mem_get {α : Type} {L : List (Sp α)} {c : Int} {u : Option α} (h : Good c u L) {s : Sp α} (hs : s ∈ L) {y : Int} (h1 : s.lo ≤ y) (h2 : y ≤ s.hi) : get L y = some s.val := by
  induction L generalizing c u with
  | nil => cases hs
  | cons t r ih =>
    obtain ⟨a1, a2, a3, a4, a5⟩ := h
    rcases List.mem_cons.1 hs with rfl | hs
    · rw [get, if_pos ⟨h1, h2⟩]
    · have := good_lo a5 s hs
      rw [get, if_neg (by omega)]
      exact ih a5 hs

/-- The two tell the same. -/
def Both (L : List (Sp Int)) (D : List Dn) : Prop := ∀ k, 0 ≤ k → k ≤ 18446744073709551615 → get L k = refG D k

theorem both_set {L : List (Sp Int)} {D : List Dn} (h : Both L D) (hg : Good 0 none L) {a b : Int} (ha : 0 ≤ a) (hb : b ≤ 18446744073709551615) (x : Int) : Both (setR L a b x) (didR D ⟨a, b, true, x⟩) := by
  intro k h0 h1
  by_cases hab : a ≤ b
  · rw [setR, if_pos hab, didR, if_pos (show (⟨a, b, true, x⟩ : Dn).lo ≤ (⟨a, b, true, x⟩ : Dn).hi from hab), setL_get hg ha hab hb, refG_snoc]
    show (if a ≤ k ∧ k ≤ b then some x else get L k) = (if a ≤ k ∧ k ≤ b then some x else refG D k)
    rw [h k h0 h1]
  · rw [setR, if_neg hab, didR, if_neg (show ¬ (⟨a, b, true, x⟩ : Dn).lo ≤ (⟨a, b, true, x⟩ : Dn).hi from hab)]
    exact h k h0 h1
theorem both_clear {L : List (Sp Int)} {D : List Dn} (h : Both L D) (hg : Good 0 none L) {a b : Int} : Both (clearR L a b) (didR D ⟨a, b, false, 0⟩) := by
  intro k h0 h1
  by_cases hab : a ≤ b
  · rw [clearR, if_pos hab, didR, if_pos (show (⟨a, b, false, 0⟩ : Dn).lo ≤ (⟨a, b, false, 0⟩ : Dn).hi from hab), clearL_get hg hab, refG_snoc]
    show (if a ≤ k ∧ k ≤ b then none else get L k) = (if a ≤ k ∧ k ≤ b then none else refG D k)
    rw [h k h0 h1]
  · rw [clearR, if_neg hab, didR, if_neg (show ¬ (⟨a, b, false, 0⟩ : Dn).lo ≤ (⟨a, b, false, 0⟩ : Dn).hi from hab)]
    exact h k h0 h1

theorem GapIs.uniq {L : List (Sp Int)} {lo hi n al : Int} {r r' : Option Int} (h : GapIs L lo hi n al r) (h' : GapIs L lo hi n al r') : r = r' := by
  cases r with
  | none =>
    cases r' with
    | none => rfl
    | some g => exact absurd (h'.1 g rfl).1 (h.2 rfl g)
  | some g =>
    cases r' with
    | none => exact absurd (h.1 g rfl).1 (h'.2 rfl g)
    | some g' =>
      have a := (h.1 g rfl).2.2 g' (h'.1 g' rfl).1
      have b := (h'.1 g' rfl).2.2 g (h.1 g rfl).1
      rw [show g = g' by omega]
end Go.Proofs.Ytliiblaodhcjhab
