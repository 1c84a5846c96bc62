import Derived.Test.YtkmgmmmpiallhaaDoorBa
namespace Go.Proofs.YtkmgmmmpiallhaaDoor
open Go.RowKit
set_option linter.unusedVariables false
/-- A list of numbers in memory. -/
structure Sl (w : World) (b : Nat) (l : List Int) : Prop where
  bl : Bl w b 3 (l.map fun n => .int .i64 n)
  len : l.length ≤ 100
theorem Sl.below {w w' : World} {b : Nat} {l : List Int} (h : Sl w b l) (hb : Below w.heap.size w w') : Sl w' b l := ⟨h.bl.below hb, h.len⟩
theorem Sl.cell {w : World} {b : Nat} {l : List Int} (h : Sl w b l) {j : Nat} (hj : j < l.length) : w.cell? ⟨b, j, none⟩ = some (.int .i64 l[j]) := by
  rw [h.bl.cell j]; simp [hj]
theorem any_drop {l : List Int} {n : Int} {j : Nat} (hj : j < l.length) : (l.drop j).contains n = (l[j] == n || (l.drop (j + 1)).contains n) := by
  rw [List.drop_eq_getElem_cons hj, List.contains_cons]
  congr 1
  exact Bool.eq_iff_iff.2 ⟨fun h => by simpa using (beq_iff_eq.1 h).symm, fun h => by simpa using (beq_iff_eq.1 h).symm⟩
end Go.Proofs.YtkmgmmmpiallhaaDoor
