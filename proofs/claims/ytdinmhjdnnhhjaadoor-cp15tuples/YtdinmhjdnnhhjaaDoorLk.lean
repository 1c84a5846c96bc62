import Derived.Test.YtdinmhjdnnhhjaaDoorLc
namespace Go.Proofs.YtdinmhjdnnhhjaaDoor
set_option linter.unusedVariables false
/-- Kept bits alone. -/
def Kp (F : List Nat) : Prop := ∀ r, r < 13 → keepW r (F.getD r 0) = F.getD r 0
theorem getD_set (F : List Nat) (r j v : Nat) (hF : F.length = 13) (hr : r < 13) : (F.set r v).getD j 0 = if r = j then v else F.getD j 0 := by
  simp only [List.getD, List.getElem?_set]
  split
  · rw [if_pos (by omega)]; rfl
  · rfl
theorem Kp.set {F : List Nat} (h : Kp F) (hF : F.length = 13) (r x : Nat) (hr : r < 13) : Kp (F.set r (keepW r x)) := by
  intro j hj
  rw [getD_set F r j _ hF hr]
  split
  · rename_i e
    subst e
    exact keepW_twice r x
  · exact h j hj
theorem Kp.zero : Kp fZ := by
  intro r hr
  rcases upto13 r hr with rfl | rfl | rfl | rfl | rfl | rfl | rfl | rfl | rfl | rfl | rfl | rfl | rfl <;> rfl
theorem ptF_kp {F : List Nat} (h : Kp F) (hF : F.length = 13) (r : Int) (x : Nat) : Kp (ptF F r x) := by
  unfold ptF
  split
  · rename_i e
    have := (isR_iff r).1 e
    exact h.set hF _ x (by omega)
  · exact h
theorem wrF_kp {F : List Nat} (h : Kp F) (hF : F.length = 13) (t : Tu) (priv : Bool) (x : Nat) : Kp (wrF F t priv x).2.2 := by
  cases hr : regOf t with
  | some r =>
    rw [wr_reg priv x hr]
    unfold setF
    cases priv
    · exact h
    · exact h.set hF r x (regOf_lt hr)
  | none =>
    cases ho : opOf t with
    | none => rw [wr_none priv x hr ho]; exact h
    | some c =>
      cases hp : (priv || c == 8)
      · rw [wr_no priv x hr ho hp]; exact h
      · rw [wr_yes priv x hr ho hp]; exact h
theorem dsF_kp {F : List Nat} (h : Kp F) (hF : F.length = 13) (o : Opr) : Kp (dsF F o).2.2 := by
  unfold dsF
  split
  · exact h
  · split
    · exact wrF_kp h hF _ _ _
    · split
      · exact ptF_kp h hF _ _
      · exact h
/-- The registers of which the Context is made. -/
def cxR (j : Nat) : Prop := j < 13 ∧ ¬ (5 ≤ j ∧ j ≤ 9)
theorem ctF_same {F G : List Nat} (h : ∀ j, cxR j → G.getD j 0 = F.getD j 0) : ctF G = ctF F := by
  unfold ctF
  rw [h 0 ⟨by omega, by omega⟩, h 1 ⟨by omega, by omega⟩, h 2 ⟨by omega, by omega⟩, h 3 ⟨by omega, by omega⟩, h 4 ⟨by omega, by omega⟩, h 10 ⟨by omega, by omega⟩, h 11 ⟨by omega, by omega⟩, h 12 ⟨by omega, by omega⟩]
end Go.Proofs.YtdinmhjdnnhhjaaDoor
