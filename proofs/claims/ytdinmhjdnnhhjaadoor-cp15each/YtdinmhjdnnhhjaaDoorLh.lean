import Derived.Test.YtdinmhjdnnhhjaaDoorLd
import Derived.Test.YtdinmhjdnnhhjaaDoorLj
import Derived.Test.YtdinmhjdnnhhjaaDoorLi
namespace Go.Proofs.YtdinmhjdnnhhjaaDoor
open Go.RowKit
set_option linter.unusedVariables false
set_option linter.unusedSimpArgs false
/-- What a call turns: nothing, or a register of its own. -/
theorem each_cases (F : List Nat) (o : Opr) (hF : F.length = 13) :
    ((∃ r, r < 13 ∧ (dsF F o).2.2 = F.set r (keepW r o.w) ∧ (dsF F o).2.1 = 0 ∧ (dsF (dsF F o).2.2 o).2.2 = (dsF F o).2.2 ∧ ((o.k = 2 ∧ regOf o.t = some r) ∨ (o.k = 4 ∧ o.reg = (r : Int))))) ∨
    ((dsF F o).2.2 = F ∧ (¬ (dsF F o).2.1 = 0 → (dsF F o).1 = aZ) ∧ (¬ o.k = 2 ∨ regOf o.t = none ∨ ¬ (dsF F o).2.1 = 0) ∧ (¬ o.k = 4 ∨ ¬ (dsF F o).2.1 = 0)) := by
  obtain ⟨k, t, priv, x, reg⟩ := o
  by_cases k1 : k = 1
  · subst k1
    exact .inr ⟨rfl, fun _ => rfl, .inl (show ¬ (1 : Int) = 2 by omega), .inl (show ¬ (1 : Int) = 4 by omega)⟩
  · by_cases k2 : k = 2
    · subst k2
      have hds : ∀ F, dsF F ⟨2, t, priv, x, reg⟩ = wrF F t priv x := fun F => rfl
      rw [hds F]
      cases hr : regOf t with
      | some r =>
        have hr13 := regOf_lt hr
        rw [wr_reg priv x hr]
        cases priv
        · exact .inr ⟨rfl, fun _ => rfl, .inr (.inr (show ¬ (81 : Nat) = 0 by omega)), .inl (show ¬ (2 : Int) = 4 by omega)⟩
        · refine .inl ⟨r, hr13, rfl, rfl, ?_, .inl ⟨rfl, rfl⟩⟩
          rw [hds, wr_reg true x hr]
          show (F.set r (keepW r x)).set r (keepW r x) = F.set r (keepW r x)
          exact List.set_set _
      | none =>
        cases ho : opOf t with
        | none => rw [wr_none priv x hr ho]; exact .inr ⟨rfl, fun _ => rfl, .inr (.inl rfl), .inl (show ¬ (2 : Int) = 4 by omega)⟩
        | some c =>
          cases hp : (priv || c == 8)
          · rw [wr_no priv x hr ho hp]; exact .inr ⟨rfl, fun _ => rfl, .inr (.inl rfl), .inl (show ¬ (2 : Int) = 4 by omega)⟩
          · rw [wr_yes priv x hr ho hp]; exact .inr ⟨rfl, fun h => absurd rfl h, .inr (.inl rfl), .inl (show ¬ (2 : Int) = 4 by omega)⟩
    · by_cases k4 : k = 4
      · subst k4
        have hds : ∀ F, dsF F ⟨4, t, priv, x, reg⟩ = (aZ, ptE reg, ptF F reg x) := fun F => rfl
        rw [hds F]
        cases hr : isR reg
        · rw [(pt_no F reg x hr).1, (pt_no F reg x hr).2]
          exact .inr ⟨rfl, fun _ => rfl, .inl (show ¬ (4 : Int) = 2 by omega), .inr (show ¬ (1 : Nat) = 0 by omega)⟩
        · obtain ⟨h1, h2⟩ := (isR_iff reg).1 hr
          obtain ⟨r, rfl⟩ := Int.eq_ofNat_of_zero_le h1
          have hr13 : r < 13 := by omega
          rw [(pt_yes F r x hr13).1, (pt_yes F r x hr13).2]
          refine .inl ⟨r, hr13, rfl, rfl, ?_, .inr ⟨rfl, rfl⟩⟩
          rw [hds, (pt_yes _ r x hr13).2]
          show (F.set r (keepW r x)).set r (keepW r x) = F.set r (keepW r x)
          exact List.set_set _
      · have hds : dsF F ⟨k, t, priv, x, reg⟩ = (aZ, 0, F) := by simp [dsF, k1, k2, k4]
        rw [hds]
        exact .inr ⟨rfl, fun _ => rfl, .inl k2, .inl k4⟩
/-- What stands within a round. -/
structure EX (W wr : World) (p oB A D B : Nat) (o : Opr) (F G : List Nat) (a : Ac) : Prop where
  lx : Lx W wr p G
  ob : Bl wr oB 30 ([.int .i64 o.k, .int .i64 o.t.a, .int .i64 o.t.b, .int .i64 o.t.c, .int .i64 o.t.d, .bool o.priv, .int .u32 (o.w : Nat), .int .i64 o.reg])
  wa : Bl wr A 31 (encF F)
  ac : Bl wr D 36 ([.int .i64 a.k, .int .i64 a.tk, .int .u32 (a.tva : Nat), .int .i64 (a.tas : Nat), .int .u32 (a.va : Nat), .bool a.us, .bool a.st])
  no : Bl wr B 31 (encF G)
  no' : ¬ oB = p
  nA : ¬ A = p
  nD : ¬ D = p
  nB : ¬ B = p
section
variable {W wr wr' : World} {p oB A D B : Nat} {o : Opr} {F G : List Nat} {a : Ac}
theorem EX.step (h : EX W wr p oB A D B o F G a) (hb : Below wr.heap.size wr wr') : EX W wr' p oB A D B o F G a :=
  ⟨h.lx.step hb, h.ob.below hb, h.wa.below hb, h.ac.below hb, h.no.below hb, h.no', h.nA, h.nD, h.nB⟩
theorem EX.drew (h : EX W wr p oB A D B o F G a) : EX W wr.drew p oB A D B o F G a := h.step (below_drew (Below.refl _ _))
theorem EX.drewN (h : EX W wr p oB A D B o F G a) (q : Nat) : EX W (wr.drewN q) p oB A D B o F G a := h.step (below_drewN (Below.refl _ _) q)
theorem EX.turn (h : EX W wr p oB A D B o F G a) (hf : Fi 63 wr' p G) (hb : Turn (· = p) wr wr') : EX W wr' p oB A D B o F G a :=
  ⟨h.lx.turn hf hb, h.ob.turn hb h.no', h.wa.turn hb h.nA, h.ac.turn hb h.nD, h.no.turn hb h.nB, h.no', h.nA, h.nD, h.nB⟩
end
end Go.Proofs.YtdinmhjdnnhhjaaDoor
