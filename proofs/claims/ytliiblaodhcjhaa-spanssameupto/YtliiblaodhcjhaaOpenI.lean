import Derived.Test.YtliiblaodhcjhaaOpen
import Derived.ChangeSlices
namespace Go.Proofs.Ytliiblaodhcjhaa
open Go.ChangeShapes Go.WideShapes Go.ChangeAt Go.RowKit Go.Deep
set_option linter.unusedVariables false

/-- A list of int as it lies in memory. -/
structure I64s (W : World) (a : Option Addr) (xs : List Int) : Prop where
  lies : ∀ i x, xs[i]? = some x → ∃ b off, a = some ⟨b, off, none⟩ ∧ b < W.heap.size ∧ W.cell? ⟨b, off + i, none⟩ = some (.int .i64 x)

set_option maxRecDepth 100000 in
/-- A list of int, opened. -/
theorem open_i64s {H : Type} {enc : TypeId × Value → H} {W : World} {fuel : Nat} {a : Option Addr} {len cap : Nat} {x : DataW H × List MemPlace}
    (h : DataW.trod enc Try.prog W 0 (fun _ => true) true fuel 52 (Value.slice a len cap).cells.toList = some x) :
    ∃ xs : List Int, xs.length = len ∧ I64s W a xs ∧ xs.length ≤ Rows.uptoBulk x.1 := by
  rcases open_ints Try.underlying52 Try.underlying3 cells_i h with ⟨hcs, rfl⟩ | ⟨a', len', cap', zs, hcs, hb, hl, hm, hz, rfl, hc, hw⟩
  · simp [Value.cells] at hcs
    obtain ⟨rfl, rfl, rfl⟩ := hcs
    exact ⟨[], rfl, ⟨fun i o ho => by simp at ho⟩, Nat.zero_le _⟩
  · simp [Value.cells] at hcs
    obtain ⟨rfl, rfl, rfl⟩ := hcs
    simp only [if_true] at hz
    have hlen : (zs.take len).length = len := by rw [List.length_take]; omega
    refine ⟨zs.take len, hlen, ⟨fun i y hy => ?_⟩, ?_⟩
    · rw [List.getElem?_take] at hy
      split at hy
      · rename_i hi
        have hlt := (List.getElem?_eq_some_iff.1 hy).1
        have hci := hc i hlt
        have hc0 := hc 0 (by omega)
        obtain ⟨b, off, spot⟩ := a'
        have hsp : spot = none := by
          have := World.cell?_spot hc0
          simpa [Addr.add] using this
        subst hsp
        rw [Addr.add_lit, List.getD_eq_getElem?_getD, hy] at hci
        exact ⟨b, off, rfl, World.block_lt_of_cell? W _ hci, hci⟩
      · cases hy
    · simp only [Rows.uptoBulk]
      have := bulk_len (lits (H := H) .i64 (zs.take len))
      simp only [lits, List.length_map] at this
      simp only [lits]
      omega
end Go.Proofs.Ytliiblaodhcjhaa
