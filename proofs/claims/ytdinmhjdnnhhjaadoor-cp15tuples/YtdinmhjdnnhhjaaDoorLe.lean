import Derived.Test.YtdinmhjdnnhhjaaDoorPc
namespace Go.Proofs.YtdinmhjdnnhhjaaDoor
open Go.RowKit
set_option linter.unusedVariables false
set_option linter.unusedSimpArgs false
theorem nR_same : ∀ (l : List Rg) (k : Nat) (t : Tu) (r : Nat), nR l k t = some r → ∃ g, l[r - k]? = some g ∧ g.t = t
  | [], _, _, _, h => by cases h
  | g :: l, k, t, r, h => by
    rw [nR] at h
    split at h
    · rename_i hs
      injection h with h
      subst h
      exact ⟨g, by simp, (Tu.same_iff _ _).1 hs⟩
    · have h1 := nR_lt l (k + 1) t r h
      obtain ⟨g', h2, h3⟩ := nR_same l (k + 1) t r h
      refine ⟨g', ?_, h3⟩
      rw [show r - k = (r - (k + 1)) + 1 by omega, List.getElem?_cons_succ]
      exact h2
theorem regOf_tuple {t : Tu} {r : Nat} (h : regOf t = some r) : (rg r).t = t := by
  obtain ⟨g, h1, h2⟩ := nR_same _ _ _ _ h
  rw [Nat.sub_zero, rg_at r (regOf_lt h)] at h1
  injection h1 with h1
  rw [h1, h2]
theorem regOf_self (r : Nat) (h : r < 13) : regOf (rg r).t = some r := by
  rcases upto13 r h with rfl | rfl | rfl | rfl | rfl | rfl | rfl | rfl | rfl | rfl | rfl | rfl | rfl <;> rfl
/-- The place of a tuple among all small ones. -/
def posT (a b c d : Nat) : Nat := ((a * 8 + b) * 16 + c) * 8 + d
theorem rg_small (r : Nat) (h : r < 13) : ∃ A B C D : Nat, (rg r).t = ⟨A, B, C, D⟩ ∧ A < 16 ∧ B < 8 ∧ C < 16 ∧ D < 8 := by
  rcases upto13 r h with rfl | rfl | rfl | rfl | rfl | rfl | rfl | rfl | rfl | rfl | rfl | rfl | rfl
  · exact ⟨1, 0, 0, 0, rfl, by decide⟩
  · exact ⟨2, 0, 0, 0, rfl, by decide⟩
  · exact ⟨2, 0, 0, 1, rfl, by decide⟩
  · exact ⟨2, 0, 0, 2, rfl, by decide⟩
  · exact ⟨3, 0, 0, 0, rfl, by decide⟩
  · exact ⟨5, 0, 0, 0, rfl, by decide⟩
  · exact ⟨5, 0, 0, 1, rfl, by decide⟩
  · exact ⟨6, 0, 0, 0, rfl, by decide⟩
  · exact ⟨6, 0, 0, 2, rfl, by decide⟩
  · exact ⟨7, 0, 4, 0, rfl, by decide⟩
  · exact ⟨10, 0, 2, 0, rfl, by decide⟩
  · exact ⟨10, 0, 2, 1, rfl, by decide⟩
  · exact ⟨13, 0, 0, 1, rfl, by decide⟩
def fnd (Q q : Nat) : Nat := if Q < q then 1 else 0
def ftu (T : Tu) (Q q : Nat) : Tu := if Q < q then T else ⟨0, 0, 0, 0⟩
theorem fnd_hit (Q : Nat) : fnd Q Q = 0 ∧ fnd Q (Q + 1) = 1 := by simp [fnd]
theorem fnd_miss (Q q : Nat) (h : Q ≠ q) : fnd Q (q + 1) = fnd Q q := by unfold fnd; split <;> split <;> omega
theorem ftu_hit (T : Tu) (Q : Nat) : ftu T Q (Q + 1) = T := by simp [ftu]
theorem ftu_miss (T : Tu) (Q q : Nat) (h : Q ≠ q) : ftu T Q (q + 1) = ftu T Q q := by
  unfold ftu
  by_cases h1 : Q < q
  · rw [if_pos h1, if_pos (by omega)]
  · rw [if_neg h1, if_neg (by omega)]
structure Nx (w wr : World) (g : Nat) (T : Tu) (Q q : Nat) : Prop where
  bel : Below w.heap.size w wr
  res : Bl wr w.heap.size 27 ([.int .i64 ((Tu.mk 0 0 0 0)).a, .int .i64 ((Tu.mk 0 0 0 0)).b, .int .i64 ((Tu.mk 0 0 0 0)).c, .int .i64 ((Tu.mk 0 0 0 0)).d])
  loc : Bl wr g 27 ([.int .i64 ((ftu T Q q)).a, .int .i64 ((ftu T Q q)).b, .int .i64 ((ftu T Q q)).c, .int .i64 ((ftu T Q q)).d])
  tr : TR wr
  new : w.heap.size ≤ g
theorem Nx.step {w wr wr' : World} {g : Nat} {T : Tu} {Q q : Nat} (h : Nx w wr g T Q q) (hb : Below wr.heap.size wr wr') : Nx w wr' g T Q q :=
  ⟨Below.step h.bel hb, h.res.below hb, h.loc.below hb, h.tr.below hb, h.new⟩
theorem Nx.hit {w wr wr' : World} {g : Nat} {T : Tu} {Q q : Nat} (h : Nx w wr g T Q Q) (hn : w.heap.size < g) (hT : wr' = (((wr.setCell ⟨g, 0, none⟩ (.int .i64 T.a)).setCell ⟨g, 1, none⟩ (.int .i64 T.b)).setCell ⟨g, 2, none⟩ (.int .i64 T.c)).setCell ⟨g, 3, none⟩ (.int .i64 T.d)) : Nx w wr' g T Q (Q + 1) := by
  subst hT
  refine ⟨(((h.bel.setCell h.new _).setCell h.new _).setCell h.new _).setCell h.new _, (((h.res.setO (by omega) _ _).setO (by omega) _ _).setO (by omega) _ _).setO (by omega) _ _, ?_, ?_, h.new⟩
  · rw [ftu_hit]
    exact (((h.loc.set 0 _).set 1 _).set 2 _).set 3 _
  · have hg : ¬ 0 = g := by omega
    have T : Turn (· = g) wr ((((wr.setCell ⟨g, 0, none⟩ (.int .i64 T.a)).setCell ⟨g, 1, none⟩ (.int .i64 T.b)).setCell ⟨g, 2, none⟩ (.int .i64 T.c)).setCell ⟨g, 3, none⟩ (.int .i64 T.d)) :=
      ((((Turn.refl (fun x => x = g) _).setCell (p := ⟨g, 0, none⟩) (.inl rfl) _).setCell (p := ⟨g, 1, none⟩) (.inl rfl) _).setCell (p := ⟨g, 2, none⟩) (.inl rfl) _).setCell (p := ⟨g, 3, none⟩) (.inl rfl) _
    exact h.tr.turn T hg
theorem Nx.start (w : World) (T : Tu) (Q : Nat) (hT : TR w) : Nx w ((w.alloc (.cells ([.int .i64 ((Tu.mk 0 0 0 0)).a, .int .i64 ((Tu.mk 0 0 0 0)).b, .int .i64 ((Tu.mk 0 0 0 0)).c, .int .i64 ((Tu.mk 0 0 0 0)).d]).toArray 27)).alloc (.cells ([.int .i64 ((Tu.mk 0 0 0 0)).a, .int .i64 ((Tu.mk 0 0 0 0)).b, .int .i64 ((Tu.mk 0 0 0 0)).c, .int .i64 ((Tu.mk 0 0 0 0)).d]).toArray 27)) (w.heap.size + 1) T Q 0 := by
  have hb : Below w.heap.size w ((w.alloc (.cells ([.int .i64 ((Tu.mk 0 0 0 0)).a, .int .i64 ((Tu.mk 0 0 0 0)).b, .int .i64 ((Tu.mk 0 0 0 0)).c, .int .i64 ((Tu.mk 0 0 0 0)).d]).toArray 27)).alloc (.cells ([.int .i64 ((Tu.mk 0 0 0 0)).a, .int .i64 ((Tu.mk 0 0 0 0)).b, .int .i64 ((Tu.mk 0 0 0 0)).c, .int .i64 ((Tu.mk 0 0 0 0)).d]).toArray 27)) := (below_new _ _).alloc (by simp) _
  refine ⟨hb, (Bl.new _ _ _).below (below_new _ _), ?_, hT.below hb, by omega⟩
  have := Bl.new (w.alloc (.cells ([.int .i64 ((Tu.mk 0 0 0 0)).a, .int .i64 ((Tu.mk 0 0 0 0)).b, .int .i64 ((Tu.mk 0 0 0 0)).c, .int .i64 ((Tu.mk 0 0 0 0)).d]).toArray 27)) 27 ([.int .i64 ((Tu.mk 0 0 0 0)).a, .int .i64 ((Tu.mk 0 0 0 0)).b, .int .i64 ((Tu.mk 0 0 0 0)).c, .int .i64 ((Tu.mk 0 0 0 0)).d])
  have e : ftu T Q 0 = ⟨0, 0, 0, 0⟩ := by simp [ftu]
  rw [e]
  simpa using this
theorem reg_hit {r a b c d : Nat} {T : Tu} {Q : Nat} (hr : r < 13) (hT : (rg r).t = T) (h : T = ⟨a, b, c, d⟩) : regOf ⟨a, b, c, d⟩ = some r := by
  rw [← h, ← hT]; exact regOf_self r hr
theorem reg_miss {r a b c d : Nat} {T : Tu} (hT : (rg r).t = T) (h : T ≠ ⟨a, b, c, d⟩) : regOf ⟨a, b, c, d⟩ ≠ some r := fun e => h (by rw [← hT]; exact regOf_tuple e)
end Go.Proofs.YtdinmhjdnnhhjaaDoor
