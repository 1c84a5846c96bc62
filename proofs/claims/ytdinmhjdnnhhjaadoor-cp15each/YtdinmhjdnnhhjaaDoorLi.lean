import Derived.Test.YtdinmhjdnnhhjaaDoorLa
namespace Go.Proofs.YtdinmhjdnnhhjaaDoor
open Go.RowKit
set_option linter.unusedVariables false
set_option linter.unusedSimpArgs false
theorem Bl.cells {b : Nat} {t : TypeId} : ∀ (vs : List Value) (o : Nat) (w : World) (l : List Value), Bl w b t l → o + vs.length ≤ l.length → Bl (w.setCells b o vs) b t (l.take o ++ vs ++ l.drop (o + vs.length))
  | [], o, w, l, h, _ => by
    have e : l.take o ++ [] ++ l.drop (o + ([] : List Value).length) = l := by simp
    rw [e]
    exact h
  | v :: r, o, w, l, h, hl => by
    have h1 := Bl.cells r (o + 1) _ _ (h.set o v) (by rw [List.length_set]; simp at hl; omega)
    have e : (l.set o v).take (o + 1) ++ r ++ (l.set o v).drop (o + 1 + r.length) = l.take o ++ (v :: r) ++ l.drop (o + (v :: r).length) := by
      have ho : o < l.length := by simp at hl; omega
      rw [List.take_succ_eq_append_getElem (by rw [List.length_set]; exact ho), List.getElem_set_self, List.take_set_of_le (Nat.le_refl _), List.drop_set_of_lt (by omega)]
      simp [Nat.add_assoc, Nat.add_comm, Nat.add_left_comm]
    rw [e] at h1
    exact h1
/-- A list of thirteen words that is laid into a new block. -/
theorem store31 (w : World) (F : List Nat) (hF : F.length = 13) :
    (w.alloc (.cells (encF (List.replicate 13 0)).toArray 31)).there w.heap.size 0 (encF F).toArray.size ∧
    Below w.heap.size w ((w.alloc (.cells (encF (List.replicate 13 0)).toArray 31)).setCells w.heap.size 0 (encF F).toArray.toList) ∧
    Bl ((w.alloc (.cells (encF (List.replicate 13 0)).toArray 31)).setCells w.heap.size 0 (encF F).toArray.toList) w.heap.size 31 (encF F) := by
  have hb : Bl (w.alloc (.cells (encF (List.replicate 13 0)).toArray 31)) w.heap.size 31 (encF (List.replicate 13 0)) := Bl.new _ _ _
  refine ⟨?_, below_cellsF (Nat.le_refl _) _ _ _ (below_new _ _), ?_⟩
  · have e : (encF F).toArray.size = 13 := by rw [List.size_toArray, encF_len, hF]
    rw [e]
    exact Fi.there (F := List.replicate 13 0) ⟨hb, rfl, by simp⟩
  · have h := Bl.cells (encF F) 0 _ _ hb (by rw [encF_len, encF_len, hF]; simp)
    have e : (encF (List.replicate 13 0)).take 0 ++ encF F ++ (encF (List.replicate 13 0)).drop (0 + (encF F).length) = encF F := by
      rw [List.drop_of_length_le (by rw [encF_len, encF_len, hF]; simp)]
      simp
    rw [e] at h
    exact h
theorem info31F (F : List Nat) (hF : F.length = 13) : (Tryd.prog.info? 31).map (·.size) = some (encF F).toArray.size := by rw [List.size_toArray, encF_len, hF]; exact info31
theorem info31L (F : List Nat) (hF : F.length = 13) : (Tryd.prog.info? 31).map (·.size) = some (encF F).length := by rw [encF_len, hF]; exact info31
theorem zero31 (w : World) : (zeroValue 31).run Tryd.prog w = .ok (.agg (encF (List.replicate 13 0)).toArray) w := by kernel_rfl
theorem bl13 {w : World} {g : Nat} {F : List Nat} (h : Bl w g 31 (encF F)) (hF : F.length = 13) {r : Nat} (hr : r < 13) : w.cell? ⟨g, r, none⟩ = some (.int .u32 ((F.getD r 0 : Nat) : Int)) := by
  rw [h.cell]
  apply encF_at
  simp [List.getD, show r < F.length by omega]
theorem exec31 (op : Oper) (a : Act) (x : Operand) (ho : op.op = .load 31 x) (b : Nat) (L : List Value) (hx : a.eval x = .pointer (some ⟨b, 0, none⟩)) (w : World) (hr : w.rangeAt b 0 L) (hi : (Tryd.prog.info? 31).map (·.size) = some L.length) :
    (execOp a.eval op).run Tryd.prog w = .ok (.value (.agg L.toArray)) w := by
  unfold execOp
  simp only [ho, hx, Instr.loadAt, Instr.sureAddr, Sem.run_bind, Sem.run_pure, Result.andThen_ok, run_loadVar_mid w b 0 31 L _ hr Tryd.underlying31 rfl hi]
end Go.Proofs.YtdinmhjdnnhhjaaDoor
