import Derived.Test.YtliiblaodhcjhaaLive
namespace Go.Proofs.Ytliiblaodhcjhaa
open Go.RowKit
set_option linter.unusedVariables false

theorem cells_set {L : List (Sp Int)} {i : Nat} (hi : i < L.length) (s : Sp Int) : cellsL (L.set i s) = (((cellsL L).set (i * 3) (.int .u64 s.lo)).set (i * 3 + 1) (.int .u64 s.hi)).set (i * 3 + 2) (.int .i64 s.val) := by
  induction L generalizing i with
  | nil => simp at hi
  | cons x r ih =>
    cases i with
    | zero => simp [cellsL, encS]
    | succ i =>
      have h := ih (i := i) (by simpa using hi)
      simp only [cellsL, List.set_cons_succ, List.flatMap_cons, encS, List.cons_append, List.nil_append] at h ⊢
      rw [h, show (i + 1) * 3 = i * 3 + 1 + 1 + 1 by omega]
      simp

/-- A span of a list is written. -/
theorem Ls.put {W : World} {lo g cap n : Nat} {L : List (Sp Int)} (hn : n = L.length) (h : Ls W lo (.slice (some ⟨g, 0, none⟩) n cap) L) {i : Nat} (hi : i < L.length) (s : Sp Int) :
    Ls (((W.setCell ⟨g, i * 3, none⟩ (.int .u64 s.lo)).setCell ⟨g, i * 3 + 1, none⟩ (.int .u64 s.hi)).setCell ⟨g, i * 3 + 2, none⟩ (.int .i64 s.val)) lo (.slice (some ⟨g, 0, none⟩) n cap) (L.set i s) := by
  subst hn
  have h1 := (World.ownsRow.stored (World.ownsRow.stored (World.ownsRow.stored h (i * 3) (.int .u64 s.lo)).1 (i * 3 + 1) (.int .u64 s.hi)).1 (i * 3 + 2) (.int .i64 s.val)).1
  rw [Ls, List.length_set, cells_set hi s]
  exact h1
end Go.Proofs.Ytliiblaodhcjhaa
