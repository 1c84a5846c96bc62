import Derived.Test.YtliiblaodhcjhaaRoom
namespace Go.Proofs.Ytliiblaodhcjhaa
open Go.RowKit
set_option linter.unusedVariables false

/-- A list of spans, read alone: from some place on. -/
def Tl (W : World) (v : Value) (L : List (Sp Int)) : Prop := ∃ a cap, v = .slice a L.length cap ∧ L.length ≤ cap ∧ cap ≤ 9223372036854775807 ∧ ∀ i s, L[i]? = some s → ∃ g off, a = some ⟨g, off, none⟩ ∧ g < W.heap.size ∧ W.cell? ⟨g, off + i * 3, none⟩ = some (.int .u64 s.lo) ∧ W.cell? ⟨g, off + i * 3 + 1, none⟩ = some (.int .u64 s.hi) ∧ W.cell? ⟨g, off + i * 3 + 2, none⟩ = some (.int .i64 s.val)

theorem Tl.keep {W W' : World} {v : Value} {L : List (Sp Int)} (h : Tl W v L) (hb : Below W.heap.size W W') : Tl W' v L := by
  obtain ⟨a, cap, h1, h2, h3, h4⟩ := h
  refine ⟨a, cap, h1, h2, h3, fun i s hs => ?_⟩
  obtain ⟨g, off, q1, q2, q3, q4, q5⟩ := h4 i s hs
  obtain ⟨hc, _⟩ := bcell hb
  exact ⟨g, off, q1, Nat.lt_of_lt_of_le q2 hb.size, by rw [hc _ _ q2]; exact q3, by rw [hc _ _ q2]; exact q4, by rw [hc _ _ q2]; exact q5⟩

theorem Ls.tl {W : World} {lo : Nat} {v : Value} {L : List (Sp Int)} (h : Ls W lo v L) : Tl W v L := by
  rcases h.view with ⟨h1, h2⟩ | ⟨g, cap, h1, h2, h3, h4, h5, h6⟩
  · subst h1 h2
    exact ⟨none, 0, rfl, Nat.le_refl _, by decide, fun i s hs => by simp at hs⟩
  · refine ⟨_, cap, h1, h4, by omega, fun i s hs => ⟨g, 0, rfl, h3, ?_⟩⟩
    have q0 := h6 i s hs 0 (by omega)
    have q1 := h6 i s hs 1 (by omega)
    have q2 := h6 i s hs 2 (by omega)
    simp only [encS, Nat.add_zero, List.getElem?_cons_zero, List.getElem?_cons_succ] at q0 q1 q2
    simp only [Nat.zero_add]
    exact ⟨q0, q1, q2⟩

/-- A map, or none. -/
def PM (W : World) (x : Option Addr) (L : List (Sp Int)) : Prop := (x = none ∧ L = []) ∨ ∃ lo p v, x = some ⟨p, 0, none⟩ ∧ MapAt W lo p v L
theorem PM.nil (W : World) : PM W none [] := .inl ⟨rfl, rfl⟩
theorem MapAt.pm {W : World} {lo p : Nat} {v : Value} {L : List (Sp Int)} (h : MapAt W lo p v L) : PM W (some ⟨p, 0, none⟩) L := .inr ⟨lo, p, v, rfl, h⟩
theorem PM.keep {W W' : World} {x : Option Addr} {L : List (Sp Int)} (h : PM W x L) (hb : Below W.heap.size W W') : PM W' x L := by
  rcases h with h | ⟨lo, p, v, e, h⟩
  · exact .inl h
  · exact .inr ⟨lo, p, v, e, h.keep hb⟩
theorem PM.good {W : World} {x : Option Addr} {L : List (Sp Int)} (h : PM W x L) : Good 0 none L := by
  rcases h with ⟨_, rfl⟩ | ⟨lo, p, v, e, h⟩
  · trivial
  · exact h.good

set_option maxHeartbeats 1000000 in
theorem list_any (W : World) (x : Option Addr) (L : List (Sp Int)) (h : PM W x L) :
    Calls Try.prog 46 #[.pointer x] W fun e W' => ∃ v, e = .returned v ∧ Tl W v L ∧ W = W' := by
  rcases h with ⟨rfl, rfl⟩ | ⟨lo, p, v, rfl, h⟩
  · go_enter Try.func46, Try.ntmps46
    go_wp2
    go_ret
    exact ⟨_, rfl, ⟨none, 0, rfl, Nat.le_refl _, by decide, fun i s hs => by simp at hs⟩, rfl⟩
  · have hc := h.cell
    have ht := h.own.tl
    obtain ⟨a, cap, rfl⟩ := slice_form h.own
    clear h
    go_enter Try.func46, Try.ntmps46
    go_wp2
    go_ret
    exact ⟨_, rfl, ht, rfl⟩

def strV (r : Option Int × Int) : Value := .tuple #[.int .i64 (r.1.getD 0), .bool r.1.isSome, .int .u64 r.2]

set_option maxHeartbeats 2000000 in
theorem stretch_any (W : World) (v : Value) (L : List (Sp Int)) (k : Int) (h : Tl W v L) (hk : 0 ≤ k) (hg : ∃ c u, Good c u L) :
    Calls Try.prog 49 #[v, .int .u64 k] W fun e W' => e = .returned (strV (stretchL L k)) ∧ Below W.heap.size W W' := by
  obtain ⟨a, cap, rfl, h2, h3, h4⟩ := h
  cases L with
  | nil =>
    simp only [List.length_nil] at *
    clear h4
    go_enter Try.func49, Try.ntmps49
    go_wp2
    refine bodyPost_ret (v := .tuple #[.int .i64 0, .bool false, .int .u64 18446744073709551615]) (by simp [results, Try.results49, go_sem]) rfl ⟨rfl, Below.refl _ _⟩
  | cons s r =>
    obtain ⟨g, off, rfl, q1, q2, q3, q4⟩ := h4 0 s rfl
    obtain ⟨c, u, hg⟩ := hg
    have hs := good_lo hg s (by simp)
    have hl0 : ¬ (((s :: r).length : Int) = 0) := by simp; omega
    have hl1 : (0 : Int) < ((s :: r).length : Int) := by simp
    simp only [Nat.zero_mul, Nat.add_zero] at q2 q3 q4
    clear h4
    generalize (s :: r).length = n at *
    rw [stretchL]
    by_cases hlt : k < s.lo
    · rw [if_pos hlt]
      have hs1 : 0 ≤ s.lo - 1 := by omega
      have hs2 : s.lo - 1 ≤ 18446744073709551615 := by omega
      have hwt : IntKind.u64.wrap (s.lo - 1) = s.lo - 1 := by rw [IntKind.wrap_u64]; omega
      clear hg
      go_enter Try.func49, Try.ntmps49
      go_wp2
      go_quiet (fail)
      go_wp2
      refine bodyPost_ret (v := .tuple #[.int .i64 0, .bool false, .int .u64 (s.lo - 1)]) (by simp [results, Try.results49, go_sem]) rfl ⟨rfl, grown_below (grownBy_drewN W none _)⟩
    · rw [if_neg hlt]
      clear hg
      go_enter Try.func49, Try.ntmps49
      go_wp2
      go_quiet (fail)
      go_wp2
      refine bodyPost_ret (v := .tuple #[.int .i64 s.val, .bool true, .int .u64 s.hi]) (by simp [results, Try.results49, go_sem]) rfl ⟨rfl, grown_below (grownBy_drewN W none _)⟩

set_option maxHeartbeats 2000000 in
theorem after_any (W0 W : World) (v : Value) (L : List (Sp Int)) (k : Int) (h : Tl W0 v L) (hb : Below W0.heap.size W0 W) :
    Calls Try.prog 51 #[v, .int .u64 k] W fun e W' => ∃ v', e = .returned v' ∧ Tl W0 v' (afterL L k) ∧ W = W' := by
  have ht := h
  obtain ⟨a, cap, rfl, h2, h3, h4⟩ := h
  cases L with
  | nil =>
    simp only [List.length_nil] at *
    clear h4
    go_enter Try.func51, Try.ntmps51
    go_wp2
    go_ret
    exact ⟨_, rfl, ht, rfl⟩
  | cons s r =>
    obtain ⟨g, off, rfl, q1, q2, q3, q4⟩ := h4 0 s rfl
    have hl0 : ¬ (((s :: r).length : Int) = 0) := by simp; omega
    have hl1 : (0 : Int) < ((s :: r).length : Int) := by simp
    simp only [Nat.zero_mul, Nat.add_zero] at q2 q3 q4
    rw [← (bcell hb).1 _ _ q1] at q2 q3 q4
    rw [afterL]
    have HT : Hid (Tl W0 (.slice (some ⟨g, off, none⟩) (s :: r).length cap) (s :: r)) := ht
    have H4 : Hid (∀ i t, (s :: r)[i]? = some t → ∃ g' off', (some ⟨g, off, none⟩ : Option Addr) = some ⟨g', off', none⟩ ∧ g' < W0.heap.size ∧ W0.cell? ⟨g', off' + i * 3, none⟩ = some (.int .u64 t.lo) ∧ W0.cell? ⟨g', off' + i * 3 + 1, none⟩ = some (.int .u64 t.hi) ∧ W0.cell? ⟨g', off' + i * 3 + 2, none⟩ = some (.int .i64 t.val)) := h4
    clear h4 ht
    have hlen : (s :: r).length = r.length + 1 := by simp
    rw [hlen] at hl0 hl1 h2 ⊢
    have hc1 : 1 ≤ cap := by omega
    by_cases hle : s.hi ≤ k
    · rw [if_pos hle]
      go_enter Try.func51, Try.ntmps51
      go_wp2
      all_goals go_ret
      · refine ⟨_, rfl, ⟨_, _, rfl, by omega, by omega, fun i t ht => ?_⟩, rfl⟩
        have := (List.getElem?_eq_some_iff.1 ht).1
        omega
      · refine ⟨_, rfl, ⟨_, _, rfl, by omega, by omega, fun i t ht => ?_⟩, rfl⟩
        obtain ⟨g', off', h1, h5, h6, h7, h8⟩ := H4.out (i + 1) t (by simpa using ht)
        cases h1
        refine ⟨g, off + 3, rfl, h5, ?_, ?_, ?_⟩
        · rw [show off + 3 + i * 3 = off + (i + 1) * 3 by omega]; exact h6
        · rw [show off + 3 + i * 3 + 1 = off + (i + 1) * 3 + 1 by omega]; exact h7
        · rw [show off + 3 + i * 3 + 2 = off + (i + 1) * 3 + 2 by omega]; exact h8
    · rw [if_neg hle]
      go_enter Try.func51, Try.ntmps51
      go_wp2
      go_ret
      exact ⟨_, rfl, HT, rfl⟩
end Go.Proofs.Ytliiblaodhcjhaa
