import Derived.Test.YtliiblaodhcjhaaOpen
import Derived.Test.YtliiblaodhcjhaaLastB
import Derived.ChangeSlices
namespace Go.Proofs.Ytliiblaodhcjhaa
open Go.ChangeShapes Go.WideShapes Go.ChangeAt Go.RowKit Go.Deep
set_option linter.unusedVariables false

set_option maxRecDepth 100000 in
/-- A list of uint64, opened. -/
theorem open_u64s {H : Type} {enc : TypeId × Value → H} {W : World} {fuel : Nat} {a : Option Addr} {len cap : Nat} {x : DataW H × List MemPlace}
    (h : DataW.trod enc Try.prog W 0 (fun _ => true) true fuel 38 (Value.slice a len cap).cells.toList = some x) :
    ∃ xs : List Int, xs.length = len ∧ (U64s W a xs ∧ (a = none → cap = 0)) ∧ xs.length ≤ Rows.uptoBulk x.1 := by
  rcases open_ints Try.underlying38 Try.underlying26 cells_u h with ⟨hcs, rfl⟩ | ⟨a', len', cap', zs, hcs, hb, hl, hm, hz, rfl, hc, hw⟩
  · simp [Value.cells] at hcs
    obtain ⟨rfl, rfl, rfl⟩ := hcs
    exact ⟨[], rfl, ⟨⟨fun i o ho => by simp at ho, fun o ho => by cases ho⟩, fun _ => rfl⟩, Nat.zero_le _⟩
  · simp [Value.cells] at hcs
    obtain ⟨rfl, rfl, rfl⟩ := hcs
    simp only [if_true] at hz
    have hlen : (zs.take len).length = len := by rw [List.length_take]; omega
    refine ⟨zs.take len, hlen, ⟨⟨fun i y hy => ?_, fun y hy => bounds_u64 (hw y (List.mem_of_mem_take hy))⟩, fun e => by cases e⟩, ?_⟩
    · rw [List.getElem?_take] at hy
      split at hy
      · rename_i hi
        have hlt := (List.getElem?_eq_some_iff.1 hy).1
        have hci := hc i hlt
        have hc0 := hc 0 (by omega)
        obtain ⟨b, off, spot⟩ := a'
        have hsp : spot = none := by
          have := World.cell?_spot hc0
          simpa [Addr.add] using this
        subst hsp
        rw [Addr.add_lit, List.getD_eq_getElem?_getD, hy] at hci
        exact ⟨b, off, rfl, World.block_lt_of_cell? W _ hci, hci⟩
      · cases hy
    · simp only [Rows.uptoBulk]
      have := bulk_len (lits (H := H) .u64 (zs.take len))
      simp only [lits, List.length_map] at this
      simp only [lits]
      omega
end Go.Proofs.Ytliiblaodhcjhaa
