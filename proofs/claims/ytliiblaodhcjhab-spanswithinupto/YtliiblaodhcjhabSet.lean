import Derived.Test.YtliiblaodhcjhabReplB
import Derived.Test.YtliiblaodhcjhabReplC
namespace Go.Proofs.Ytliiblaodhcjhab
open Go.RowKit
set_option linter.unusedVariables false

theorem Turn.after {W w W' : World} {p : Nat} {v : Value} (h : Below W.heap.size W w) (t : Turn w W' p v) : Turn W W' p v :=
  ⟨t.os.trans h.os, t.tape.trans h.tape, t.output.trans h.output, Nat.le_trans h.size t.size, fun k hk h1 h2 => (t.block k (Nat.lt_of_lt_of_le hk h.size) h1 h2).trans (h.block k hk)⟩
theorem Turn.refl (W : World) (p : Nat) (v : Value) : Turn W W p v := ⟨rfl, rfl, rfl, Nat.le_refl _, fun _ _ _ _ => rfl⟩

/-- replace, whole. -/
theorem repl_any (W : World) (lo p : Nat) (v : Value) (L M : List (Sp Int)) (a b : Int) (mv : Value) (h : MapAt W lo p v L) (hm : Ls W lo mv M)
    (hsz : (L.length + M.length + 3) * 24 ≤ 140737488355328) (ha : 0 ≤ a) (hab : a ≤ b) (hb : b ≤ 18446744073709551615) :
    Calls Try.prog 42 #[.pointer (some ⟨p, 0, none⟩), .int .u64 a, .int .u64 b, mv] W fun e W' => e = .returned (.tuple #[]) ∧ ∃ v', W'.heap[p]? = some (.cells #[v'] 76 (0, 0)) ∧ Ls W' lo v' (below L a ++ M ++ above L b) ∧ Turn W W' p v ∧ (∀ g, v'.ownBlock = some g → v.ownBlock = some g ∨ W.heap.size ≤ g) := by
  have hg := h.good
  have hB := below_take hg a
  have hA := above_drop hg b
  have hle := ei_le_sa hg (lo := a) (hi := b) (by omega)
  have hjl := sa_le L b
  rcases Nat.lt_or_ge (ei L a) (sa L b) with hij | hij
  · obtain ⟨s, hs⟩ : ∃ s, L[ei L a]? = some s := ⟨_, List.getElem?_eq_getElem (by omega)⟩
    obtain ⟨t, ht⟩ : ∃ t, L[sa L b - 1]? = some t := ⟨_, List.getElem?_eq_getElem (by omega)⟩
    have eA : cutHi L (sa L b) b = if b < t.hi then [⟨b + 1, t.hi, t.val⟩] else [] := by
      obtain ⟨q, hq⟩ : ∃ q, sa L b = q + 1 := ⟨sa L b - 1, by omega⟩
      rw [hq] at ht ⊢
      simp only [Nat.add_sub_cancel] at ht
      simp only [cutHi, ht]
    have eB : cutLo L (ei L a) a = if s.lo < a then [⟨s.lo, a - 1, s.val⟩] else [] := by simp only [cutLo, hs]
    rw [eA] at hA
    rw [eB] at hB
    by_cases hsl : s.lo < a <;> by_cases htl : b < t.hi
    · rw [if_pos hsl] at hB
      rw [if_pos htl] at hA
      rw [← hB, ← hA]
      refine (replace_LL W lo p v L M a b mv h hm hsz ha hab hb _ (sa L b - 1) rfl (by omega) (by omega) s t hs ht hsl htl).mono ?_
      rintro e W' ⟨rfl, v', h1, h2, h3, h4⟩
      rw [show sa L b - 1 + 1 = sa L b by omega] at h2
      exact ⟨rfl, v', h1, by simpa using h2, h3, h4⟩
    · rw [if_pos hsl] at hB
      rw [if_neg htl] at hA
      rw [← hB, ← hA]
      refine (replace_LN W lo p v L M a b mv h hm hsz ha hab hb _ _ rfl rfl hij s t hs ht hsl htl).mono ?_
      rintro e W' ⟨rfl, v', h1, h2, h3, h4⟩
      exact ⟨rfl, v', h1, by simpa using h2, h3, h4⟩
    · rw [if_neg hsl] at hB
      rw [if_pos htl] at hA
      rw [← hB, ← hA]
      refine (replace_NL W lo p v L M a b mv h hm hsz ha hab hb _ (sa L b - 1) rfl (by omega) (by omega) s t hs ht hsl htl).mono ?_
      rintro e W' ⟨rfl, v', h1, h2, h3, h4⟩
      rw [show sa L b - 1 + 1 = sa L b by omega] at h2
      exact ⟨rfl, v', h1, by simpa using h2, h3, h4⟩
    · rw [if_neg hsl] at hB
      rw [if_neg htl] at hA
      rw [← hB, ← hA]
      refine (replace_NN W lo p v L M a b mv h hm hsz ha hab hb _ _ rfl rfl hij s t hs ht hsl htl).mono ?_
      rintro e W' ⟨rfl, v', h1, h2, h3, h4⟩
      exact ⟨rfl, v', h1, by simpa using h2, h3, h4⟩
  · have hij : ei L a = sa L b := by omega
    have eB : cutLo L (ei L a) a = [] := by
      cases hs : L[ei L a]? with
      | none => simp only [cutLo, hs]
      | some s =>
        by_cases hsl : s.lo < a
        · have := cutLo_prog hg hab hs hsl
          omega
        · simp only [cutLo, hs, if_neg hsl]
    have eA : cutHi L (sa L b) b = [] := by
      cases hq : sa L b with
      | zero => rfl
      | succ q =>
        cases ht : L[q]? with
        | none => simp only [cutHi, ht]
        | some t =>
          by_cases htl : b < t.hi
          · have := cutHi_prog hg hab hq ht htl
            omega
          · simp only [cutHi, ht, if_neg htl]
    rw [eB] at hB
    rw [eA] at hA
    rw [← hB, ← hA]
    refine (replace_EE W lo p v L M a b mv h hm hsz ha hab hb _ _ rfl rfl hij).mono ?_
    rintro e W' ⟨rfl, v', h1, h2, h3, h4⟩
    exact ⟨rfl, v', h1, by rw [← hij]; simpa using h2, h3, h4⟩

/-- The answer of Set and Clear. -/
def errC (a b : Int) : Int := if a ≤ b then 0 else 20
def setR (L : List (Sp Int)) (a b : Int) (x : Int) : List (Sp Int) := if a ≤ b then setL L a b x else L
def clearR (L : List (Sp Int)) (a b : Int) : List (Sp Int) := if a ≤ b then clearL L a b else L

set_option maxHeartbeats 4000000 in
set_option maxRecDepth 100000 in
theorem clear_any (W : World) (lo p : Nat) (v : Value) (L : List (Sp Int)) (a b : Int) (h : MapAt W lo p v L) (hsz : (L.length + 4) * 24 ≤ 140737488355328) (ha : 0 ≤ a) (hb : b ≤ 18446744073709551615) :
    Calls Try.prog 18 #[.pointer (some ⟨p, 0, none⟩), .int .u64 a, .int .u64 b] W fun e W' => e = .returned (.int .i64 (errC a b)) ∧ ∃ v', MapAt W' lo p v' (clearR L a b) ∧ Turn W W' p v ∧ (∀ g, v'.ownBlock = some g → v.ownBlock = some g ∨ W.heap.size ≤ g) := by
  by_cases hab : a ≤ b
  · rw [errC, if_pos hab, clearR, if_pos hab]
    have hC := repl_any W lo p v L [] a b (.slice none 0 0) h (World.ownsRow_nil _ _ _ _) (Nat.le_trans (Nat.mul_le_mul_right _ (by simp only [List.length_nil]; omega)) hsz) ha hab hb
    have hgo := clearL_good h.good ha hab
    have hab' : ¬ (b < a) := by omega
    have hlow := h.low
    go_enter Try.func18, Try.ntmps18
    go_wp2_with (go_at_call 42; refine hC.mono ?_; rintro e w1 ⟨rfl, v', h1, h2, h3, h4⟩)
    go_ret
    exact ⟨rfl, v', ⟨h1, by simpa [clearL] using h2, hlow, hgo⟩, h3, h4⟩
  · rw [errC, if_neg hab, clearR, if_neg hab]
    have hab' : b < a := by omega
    go_enter Try.func18, Try.ntmps18
    go_wp2
    go_ret
    exact ⟨rfl, v, h, Turn.refl _ _ _, fun g hg => .inl hg⟩

set_option maxHeartbeats 4000000 in
set_option maxRecDepth 100000 in
theorem set_any (W : World) (lo p : Nat) (v : Value) (L : List (Sp Int)) (a b : Int) (x : Int) (h : MapAt W lo p v L) (hsz : (L.length + 4) * 24 ≤ 140737488355328) (ha : 0 ≤ a) (hb : b ≤ 18446744073709551615) :
    Calls Try.prog 29 #[.pointer (some ⟨p, 0, none⟩), .int .u64 a, .int .u64 b, .int .i64 x] W fun e W' => e = .returned (.int .i64 (errC a b)) ∧ ∃ v', MapAt W' lo p v' (setR L a b x) ∧ Turn W W' p v ∧ (∀ g, v'.ownBlock = some g → v.ownBlock = some g ∨ W.heap.size ≤ g) := by
  by_cases hab : a ≤ b
  · rw [errC, if_pos hab, setR, if_pos hab]
    have hsz' : L.length < 4611686018427387904 := by omega
    have hC1 := widen_any W lo p v L a b x h hsz' ha hb (by omega) (by omega)
    have hgo := setL_good h.good ha hab hb x
    obtain ⟨a1, a2, a3, a4⟩ := widLo_spec h.good ha x
    obtain ⟨b1, b2, b3, b4⟩ := widHi_spec h.good hb x
    clear a3 a4 b3 b4
    have hww : widLo L a x ≤ widHi L b x := by omega
    have hlow := h.low
    have hlt := h.lt
    have hlo : lo ≤ W.heap.size := by omega
    have hszm : (L.length + ([Sp.mk (widLo L a x) (widHi L b x) x] : List (Sp Int)).length + 3) * 24 ≤ 140737488355328 := Nat.le_trans (Nat.mul_le_mul_right _ (by simp only [List.length_cons, List.length_nil]; omega)) hsz
    have hab' : ¬ (b < a) := by omega
    have hC2 : ∀ w1, Below W.heap.size W w1 → Calls Try.prog 42 #[.pointer (some ⟨p, 0, none⟩), .int .u64 (widLo L a x), .int .u64 (widHi L b x), .slice (some ⟨w1.heap.size, 0, none⟩) 1 1] (w1.alloc (.cells #[.int .u64 (widLo L a x), .int .u64 (widHi L b x), .int .i64 x] 45)) fun e W' => e = .returned (.tuple #[]) ∧ ∃ v', MapAt W' lo p v' (setL L a b x) ∧ Turn W W' p v ∧ (∀ g, v'.ownBlock = some g → v.ownBlock = some g ∨ W.heap.size ≤ g) := by
      intro w1 hb1
      have hb2 := below_alloc hb1 (.cells #[.int .u64 (widLo L a x), .int .u64 (widHi L b x), .int .i64 x] 45)
      refine (repl_any _ lo p v L [⟨widLo L a x, widHi L b x, x⟩] _ _ _ (h.keep hb2) (one_list w1 ⟨widLo L a x, widHi L b x, x⟩ lo (Nat.le_trans hlo hb1.size)) hszm a1 hww b1).mono ?_
      rintro e w2 ⟨rfl, v', h1, h2, h3, h4⟩
      refine ⟨rfl, v', ⟨h1, by simpa [setL, putL] using h2, hlow, hgo⟩, h3.after hb2, fun g hg => ?_⟩
      rcases h4 g hg with e | e
      · exact .inl e
      · exact .inr (Nat.le_trans hb2.size e)
    generalize widLo L a x = wl at *
    generalize widHi L b x = wh at *
    go_enter Try.func29, Try.ntmps29
    go_wp2_with (first
      | (go_at_call 54; refine hC1.mono ?_; rintro e w1 ⟨rfl, hb1⟩)
      | (go_at_call 42; refine (hC2 _ hb1).mono ?_; rintro e w2 ⟨rfl, hq⟩))
    go_ret
    exact ⟨rfl, hq⟩
  · rw [errC, if_neg hab, setR, if_neg hab]
    have hab' : b < a := by omega
    go_enter Try.func29, Try.ntmps29
    go_wp2
    go_ret
    exact ⟨rfl, v, h, Turn.refl _ _ _, fun g hg => .inl hg⟩
end Go.Proofs.Ytliiblaodhcjhab
