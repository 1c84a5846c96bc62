import Derived.Test.YtmmocnejacflmabDoorOe
import Derived.Test.YtmmocnejacflmabDoorTb
namespace Go.Proofs.YtmmocnejacflmabDoor
open Go.ChangeShapes Go.WideShapes Go.ChangeAt Go.RowKit
set_option linter.unusedVariables false
set_option linter.unusedSimpArgs false
theorem cells_s : Tryd.prog.cellsOf 9 = 1 := by kernel_rfl
/-- A listed table of texts. -/
theorem texts_of {W : World} {L : List (String × DataW Unit)} {ps : List MemPlace} (h : DataW.LaidVars Tryd.prog W L ps) {n : String} {g : Nat} {t : TypeId} {m : Nat} (l : List ByteArray)
    (hm : (n, DataW.agg (l.map fun z => .lit (.string z.data.toList))) ∈ L) (hg : Tryd.prog.globalNamed n = some g) (hty : (Tryd.prog.globals[g]?).map (·.type) = some t)
    (ht : Tryd.prog.underlying t = some (.array m 9)) (hct : Tryd.prog.cellsOf t = m) (hl : l.length = m) : ∀ i v, l[i]? = some v → W.cell? ⟨g, i, none⟩ = some (.string v) := by
  intro i v hv
  have hi : i < m := by rw [← hl]; exact (List.getElem?_eq_some_iff.1 hv).1
  obtain ⟨cs, fuel, x, h1, h2, h3⟩ := tab_at h _ hm hg hty ht cells_s (by rw [hct, Nat.mul_one]) i hi
  obtain ⟨s, rfl, rfl, _⟩ := DataW.trod_string Tryd.underlying9 h3
  have hc := h1 0 _ (by decide) rfl
  rw [Nat.mul_one, Nat.add_zero] at hc
  rw [hc]
  simp [hv] at h2
  have e : v = s := by
    apply ByteArray.ext
    exact Array.ext' (by simpa using h2)
  rw [e]
end Go.Proofs.YtmmocnejacflmabDoor
