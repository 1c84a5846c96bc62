import Derived.Test.YtmodcbdgnmjkoabDoorWh
namespace Go.Proofs.YtmodcbdgnmjkoabDoor
open Go.RowKit
open Mm (Turn gr PM valV errV Byts RowAt)
set_option linter.unusedVariables false
set_option linter.unusedSimpArgs false
/-- A list of addresses. -/
def Us (w : World) (v : Value) (l : List Int) : Prop := ∃ a cap, v = .slice a l.length cap ∧ ∀ i x, l[i]? = some x → ∃ g o, a = some ⟨g, o, none⟩ ∧ w.cell? ⟨g, o + i, none⟩ = some (.int .u64 x)
theorem Us.below {w w' : World} {v : Value} {l : List Int} (h : Us w v l) (hb : Below w.heap.size w w') : Us w' v l := by
  obtain ⟨a, cap, rfl, h⟩ := h
  refine ⟨a, cap, rfl, fun i x hx => ?_⟩
  obtain ⟨g, o, rfl, hc⟩ := h i x hx
  exact ⟨g, o, rfl, (hb.cell (cell_lt hc)).trans hc⟩
theorem Us.nil (w : World) : Us w (.slice none 0 0) [] := ⟨none, 0, rfl, fun i x hx => by simp at hx⟩
theorem Us.own {w : World} {lo : Nat} {v : Value} {l : List Int} (h : w.ownsRow lo 23 1 v l.length (encU l)) : Us w v l := by
  have ho := h
  rcases Mm.row_of_own h with ⟨rfl, h1, h2⟩ | ⟨g, cap, cur, rfl, a, b, c, d, e, f⟩
  · rw [List.eq_nil_of_length_eq_zero h1]
    exact Us.nil w
  · refine ⟨_, _, rfl, fun i x hx => ⟨g, 0, rfl, ?_⟩⟩
    have hlt : i < l.length := (List.getElem?_eq_some_iff.1 hx).1
    rw [Nat.zero_add]
    have := World.ownsRow.cellAt ho i (by omega)
    rw [this, encU, List.getElem?_map, hx]
    rfl
end Go.Proofs.YtmodcbdgnmjkoabDoor
