import Derived.Test.YtcpcmjmgiagnoabDoorRi
import Derived.Test.YtcpcmjmgiagnoabDoorAl
namespace Go.Proofs.YtcpcmjmgiagnoabDoor
open Go.RowKit
set_option linter.unusedVariables false
set_option linter.unusedSimpArgs false

theorem Bl.write {w : World} {b : Nat} {t : TypeId} {l : List Value} (h : Bl w b t l) (i : Nat) (v : Value) : Bl (w.setCell ⟨b, i, none⟩ v) b t (l.set i v) := by
  unfold Bl at h ⊢
  simp only [World.setCell, Array.getElem?_modify, h, if_true]
  simp
theorem wr8 {w : World} {b : Nat} {t : TypeId} {u0 u1 u2 u3 u4 u5 u6 u7 : Value} (h : Bl w b t [u0, u1, u2, u3, u4, u5, u6, u7]) (v0 v1 v2 v3 v4 v5 v6 v7 : Value) : Bl ((((((((w.setCell ⟨b, 0, none⟩ v0).setCell ⟨b, 1, none⟩ v1).setCell ⟨b, 2, none⟩ v2).setCell ⟨b, 3, none⟩ v3).setCell ⟨b, 4, none⟩ v4).setCell ⟨b, 5, none⟩ v5).setCell ⟨b, 6, none⟩ v6).setCell ⟨b, 7, none⟩ v7) b t [v0, v1, v2, v3, v4, v5, v6, v7] := by
  have h := Bl.write h 0 v0
  have h := Bl.write h 1 v1
  have h := Bl.write h 2 v2
  have h := Bl.write h 3 v3
  have h := Bl.write h 4 v4
  have h := Bl.write h 5 v5
  have h := Bl.write h 6 v6
  have h := Bl.write h 7 v7
  exact h
end Go.Proofs.YtcpcmjmgiagnoabDoor
