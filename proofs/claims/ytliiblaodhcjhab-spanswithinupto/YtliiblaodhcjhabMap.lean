import Derived.Test.YtliiblaodhcjhabSea
namespace Go.Proofs.Ytliiblaodhcjhab
open Go.RowKit
set_option linter.unusedVariables false

def encS (s : Sp Int) : List Value := [.int .u64 s.lo, .int .u64 s.hi, .int .i64 s.val]
def cellsL (L : List (Sp Int)) : List Value := L.flatMap encS

theorem encS_len (s : Sp Int) : (encS s).length = 3 := rfl
theorem cellsL_len (L : List (Sp Int)) : (cellsL L).length = L.length * 3 := by
  induction L with
  | nil => rfl
  | cons s r ih => rw [cellsL, List.flatMap_cons, List.length_append, encS_len, show r.flatMap encS = cellsL r from rfl, ih, List.length_cons]; omega
theorem cellsL_append (A B : List (Sp Int)) : cellsL (A ++ B) = cellsL A ++ cellsL B := by simp [cellsL]
theorem cellsL_cons (s : Sp Int) (r : List (Sp Int)) : cellsL (s :: r) = encS s ++ cellsL r := by simp [cellsL]
theorem cellsL_at {L : List (Sp Int)} {i : Nat} {s : Sp Int} (h : L[i]? = some s) (j : Nat) (hj : j < 3) : (cellsL L)[i * 3 + j]? = (encS s)[j]? := by
  induction L generalizing i with
  | nil => simp at h
  | cons t r ih =>
    rw [cellsL_cons]
    cases i with
    | zero =>
      simp at h
      subst h
      rw [Nat.zero_mul, Nat.zero_add, List.getElem?_append_left (by rw [encS_len]; exact hj)]
    | succ i =>
      rw [List.getElem?_append_right (by rw [encS_len]; omega), encS_len, show (i + 1) * 3 + j - 3 = i * 3 + j by omega]
      exact ih (by simpa using h)
theorem cellsL_take (L : List (Sp Int)) (i : Nat) : (cellsL L).take (i * 3) = cellsL (L.take i) := by
  induction L generalizing i with
  | nil => simp [cellsL]
  | cons s r ih =>
    cases i with
    | zero => simp [cellsL]
    | succ i =>
      rw [cellsL_cons, List.take_succ_cons, cellsL_cons, List.take_append, encS_len, List.take_of_length_le (by rw [encS_len]; omega), show (i + 1) * 3 - 3 = i * 3 by omega, ih]
theorem cellsL_drop (L : List (Sp Int)) (i : Nat) : (cellsL L).drop (i * 3) = cellsL (L.drop i) := by
  induction L generalizing i with
  | nil => simp [cellsL]
  | cons s r ih =>
    cases i with
    | zero => simp
    | succ i =>
      rw [cellsL_cons, List.drop_succ_cons, List.drop_append, encS_len, List.drop_eq_nil_of_le (by rw [encS_len]; omega), show (i + 1) * 3 - 3 = i * 3 by omega, ih, List.nil_append]
theorem cellsL_one (L : List (Sp Int)) : ∀ u ∈ cellsL L, u.oneCell' = true := by
  intro u hu
  obtain ⟨s, _, hs⟩ := List.mem_flatMap.1 hu
  simp [encS] at hs
  rcases hs with rfl | rfl | rfl <;> rfl

/-- A list of spans in a value of its own. -/
def Ls (W : World) (lo : Nat) (v : Value) (L : List (Sp Int)) : Prop := W.ownsRow lo 45 3 v L.length (cellsL L)

/-- A map. -/
structure MapAt (W : World) (lo p : Nat) (v : Value) (L : List (Sp Int)) : Prop where
  box : W.heap[p]? = some (.cells #[v] 76 (0, 0))
  own : Ls W lo v L
  low : lo ≤ p
  good : Good 0 none L

theorem below_grown {W W' : World} (h : Below W.heap.size W W') : W.grownBy W' none := ⟨h.os, h.tape, h.output, h.size, fun k hk _ => h.block k hk⟩
theorem grown_below {W W' : World} (h : W.grownBy W' none) : Below W.heap.size W W' := ⟨h.os, h.tape, h.output, h.size, fun k hk => h.block k hk (by simp)⟩

theorem MapAt.lt {W : World} {lo p : Nat} {v : Value} {L : List (Sp Int)} (h : MapAt W lo p v L) : p < W.heap.size := (Array.getElem?_eq_some_iff.1 h.box).1

theorem Ls.keep {W W' : World} {lo : Nat} {v : Value} {L : List (Sp Int)} (h : Ls W lo v L) {B : Nat} (hB : Below B W W') (hb : ∀ g, v.ownBlock = some g → g < B) : Ls W' lo v L := by
  rcases row_of_own h with ⟨rfl, h1, h2⟩ | ⟨g, cap, cur, rfl, a, b, c, d, e, f⟩
  · rw [Ls, h1, h2]; exact World.ownsRow_nil _ _ _ _
  · refine own_of_row (g := g) (cur := cur) ?_ a c d e f
    show W'.heap[g]? = _
    rw [hB.block g (hb g rfl)]; exact b

theorem Ls.lt {W : World} {lo : Nat} {v : Value} {L : List (Sp Int)} (h : Ls W lo v L) : ∀ g, v.ownBlock = some g → lo ≤ g ∧ g < W.heap.size := World.ownsRow.lt h

theorem MapAt.keep {W W' : World} {lo p : Nat} {v : Value} {L : List (Sp Int)} (h : MapAt W lo p v L) (hB : Below W.heap.size W W') : MapAt W' lo p v L :=
  ⟨by rw [hB.block p h.lt]; exact h.box, h.own.keep hB (fun g hg => (h.own.lt g hg).2), h.low, h.good⟩

theorem MapAt.cell {W : World} {lo p : Nat} {v : Value} {L : List (Sp Int)} (h : MapAt W lo p v L) : W.cell? ⟨p, 0, none⟩ = some v := by simp [World.cell?, h.box]
theorem MapAt.frozen {W : World} {lo p : Nat} {v : Value} {L : List (Sp Int)} (h : MapAt W lo p v L) : W.frozen? ⟨p, 0, none⟩ = false := by simp [World.frozen?, h.box]

/-- The shape of the value, and its cells. -/
theorem Ls.view {W : World} {lo : Nat} {v : Value} {L : List (Sp Int)} (h : Ls W lo v L) :
    (v = .slice none 0 0 ∧ L = []) ∨ ∃ g cap, v = .slice (some ⟨g, 0, none⟩) L.length cap ∧ lo ≤ g ∧ g < W.heap.size ∧ L.length ≤ cap ∧ cap ≤ 9223372036854775807 ∧ ∀ i s, L[i]? = some s → ∀ j, j < 3 → W.cell? ⟨g, i * 3 + j, none⟩ = (encS s)[j]? := by
  rcases row_of_own h with ⟨rfl, h1, h2⟩ | ⟨g, cap, cur, rfl, a, b, c, d, e, f⟩
  · exact .inl ⟨rfl, List.eq_nil_of_length_eq_zero h1⟩
  · refine .inr ⟨g, cap, rfl, a, b.lt, c, d, fun i s hs j hj => ?_⟩
    have hlt : i < L.length := (List.getElem?_eq_some_iff.1 hs).1
    rw [World.ownsRow.cellAt h (i * 3 + j) (by omega)]
    exact cellsL_at hs j hj

set_option maxHeartbeats 4000000 in
set_option maxRecDepth 100000 in
theorem ends_closure (bm bk p g cap i n : Nat) (hiv k : Int) (W : World) (hm : W.cell? ⟨bm, 0, none⟩ = some (.pointer (some ⟨p, 0, none⟩))) (hk : W.cell? ⟨bk, 0, none⟩ = some (.int .u64 k))
    (hs : W.cell? ⟨p, 0, none⟩ = some (.slice (some ⟨g, 0, none⟩) n cap)) (hi : i < n) (hc : W.cell? ⟨g, i * 3 + 1, none⟩ = some (.int .u64 hiv)) :
    Calls Try.prog 56 (#[.int .i64 i] ++ #[.pointer (some ⟨bm, 0, none⟩), .pointer (some ⟨bk, 0, none⟩)]) W fun e w' => e = .returned (.bool (decide (k ≤ hiv))) ∧ ∃ q, w' = W.drewN q := by
  have hiz : (i : Int) < (n : Int) := by omega
  go_enter Try.func56, Try.ntmps56
  go_wp2
  go_region
  all_goals go_wp2
  all_goals go_ret
  all_goals exact ⟨by first | rfl | simp, 1, rfl⟩

set_option maxHeartbeats 4000000 in
set_option maxRecDepth 100000 in
theorem starts_closure (bm bk p g cap i n : Nat) (lov k : Int) (W : World) (hm : W.cell? ⟨bm, 0, none⟩ = some (.pointer (some ⟨p, 0, none⟩))) (hk : W.cell? ⟨bk, 0, none⟩ = some (.int .u64 k))
    (hs : W.cell? ⟨p, 0, none⟩ = some (.slice (some ⟨g, 0, none⟩) n cap)) (hi : i < n) (hc : W.cell? ⟨g, i * 3, none⟩ = some (.int .u64 lov)) :
    Calls Try.prog 57 (#[.int .i64 i] ++ #[.pointer (some ⟨bm, 0, none⟩), .pointer (some ⟨bk, 0, none⟩)]) W fun e w' => e = .returned (.bool (decide (k < lov))) ∧ ∃ q, w' = W.drewN q := by
  have hiz : (i : Int) < (n : Int) := by omega
  go_enter Try.func57, Try.ntmps57
  go_wp2
  go_region
  all_goals go_wp2
  all_goals go_ret
  all_goals exact ⟨by first | rfl | simp, 1, rfl⟩

end Go.Proofs.Ytliiblaodhcjhab
