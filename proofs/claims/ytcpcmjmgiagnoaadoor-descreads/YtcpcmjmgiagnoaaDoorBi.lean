import Derived.Test.YtcpcmjmgiagnoaaDoorAr
namespace Go.Proofs.YtcpcmjmgiagnoaaDoor
open Go.RowKit
set_option linter.unusedVariables false
set_option linter.unusedSimpArgs false
theorem zeroB (W : World) : (zeroValue 54).run Tryd.prog W = .ok (.agg (encB (fun _ => 0)).toArray) W := by kernel_rfl
theorem Bl.write1 {w : World} {b : Nat} {t : TypeId} {l : List Value} (h : Bl w b t l) (i : Nat) (v : Value) : Bl (w.setCell ⟨b, i, none⟩ v) b t (l.set i v) := by
  unfold Bl at h ⊢
  simp only [World.setCell, Array.getElem?_modify, h, if_true]
  simp
theorem encB_set (g : Nat → Int) (k : Nat) (v : Int) : (encB g).set k (.int .i64 v) = encB (fun j => if j = k then v else g j) := by
  apply List.ext_getElem?
  intro j
  by_cases hj : j < 32
  · by_cases hk : k = j
    · subst hk
      rw [List.getElem?_set_self (by rw [encB_len]; omega), encB_at _ _ hj, if_pos rfl]
    · rw [List.getElem?_set_ne hk, encB_at _ _ hj, encB_at _ _ hj, if_neg (fun e => hk e.symm)]
  · rw [List.getElem?_eq_none (by rw [List.length_set, encB_len]; omega), List.getElem?_eq_none (by rw [encB_len]; omega)]
/-- Loading an array of bits. -/
theorem loadB (W : World) (b : Nat) (g : Nat → Int) (h : Bl W b 54 (encB g)) : (Instr.loadAt 54 (Value.pointer (some ⟨b, 0, none⟩))).run Tryd.prog W = .ok (.agg (encB g).toArray) W := by
  have hl := run_loadCells_list (P := Tryd.prog) W ⟨b, 0, none⟩ (encB g) (fun j v hj => by rw [Addr.add_lit, Nat.zero_add, h.cell]; exact hj)
  rw [encB_len] at hl
  simp [Instr.loadAt, Instr.sureAddr, loadVar, Tryd.isAgg54, Tryd.sizeOf54, hl]
end Go.Proofs.YtcpcmjmgiagnoaaDoor
