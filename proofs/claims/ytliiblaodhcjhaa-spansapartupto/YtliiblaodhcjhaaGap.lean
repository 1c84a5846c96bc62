import Derived.Test.YtliiblaodhcjhaaGapP
import Derived.Test.YtliiblaodhcjhaaLive
namespace Go.Proofs.Ytliiblaodhcjhaa
open Go.RowKit
set_option linter.unusedVariables false

def gapV : Option Int → Value
  | some g => .tuple #[.int .u64 g, .bool true]
  | none => .tuple #[.int .u64 0, .bool false]

set_option maxHeartbeats 1000000 in
theorem up_any (k al : Int) (w : World) (hk : 0 ≤ k) (hk2 : k ≤ 18446744073709551615) (ha : 0 < al) (ha2 : al ≤ 18446744073709551615) :
    Calls Try.prog 44 #[.int .u64 k, .int .u64 al] w fun e w' => e = .returned (gapV (upO k al)) ∧ w = w' := by
  have hr0 := Int.emod_nonneg k (show al ≠ 0 by omega)
  have hr1 := Int.emod_lt_of_pos k ha
  have ha0 : ¬ (al = 0) := by omega
  by_cases h0 : k % al = 0
  · rw [upO, if_pos h0]
    simp only [gapV]
    go_enter Try.func44, Try.ntmps44
    go_wp2
    go_ret2
    exact ⟨rfl, rfl⟩
  · rw [upO, if_neg h0]
    by_cases h1 : 18446744073709551615 - k < al - k % al
    · rw [if_pos h1]
      simp only [gapV]
      go_enter Try.func44, Try.ntmps44
      go_wp2
      go_ret2
      exact ⟨rfl, rfl⟩
    · rw [if_neg h1]
      simp only [gapV]
      go_enter Try.func44, Try.ntmps44
      go_wp2
      go_ret2
      exact ⟨rfl, rfl⟩

set_option maxHeartbeats 4000000 in
set_option maxRecDepth 100000 in
theorem gap_none (W : World) (p : Nat) (lo hi n al : Int) (h0 : n = 0 ∨ al = 0) :
    Calls Try.prog 22 #[.pointer (some ⟨p, 0, none⟩), .int .u64 lo, .int .u64 hi, .int .u64 n, .int .u64 al] W fun e W' => e = .returned (gapV none) ∧ Below W.heap.size W W' := by
  simp only [gapV]
  by_cases hn : n = 0
  · subst hn
    go_enter Try.func22, Try.ntmps22
    go_wp2
    go_ret2
    exact ⟨rfl, Below.refl _ _⟩
  · have ha : al = 0 := by omega
    subst ha
    have hb : (n == 0) = false := by simp [hn]
    go_enter Try.func22, Try.ntmps22
    go_wp2
    go_ret2
    exact ⟨rfl, Below.refl _ _⟩

set_option maxHeartbeats 4000000 in
set_option maxRecDepth 100000 in
theorem gap_any (W : World) (lo0 p : Nat) (v : Value) (L : List (Sp Int)) (lo hi n al : Int) (h : MapAt W lo0 p v L) (hsz : L.length < 4611686018427387904) (l1 : 0 ≤ lo) (l2 : lo ≤ 18446744073709551615) (b1 : 0 ≤ hi) (b2 : hi ≤ 18446744073709551615) (n1 : 0 < n) (n2 : n ≤ 18446744073709551615) (a1 : 0 < al) (a2 : al ≤ 18446744073709551615) :
    Calls Try.prog 22 #[.pointer (some ⟨p, 0, none⟩), .int .u64 lo, .int .u64 hi, .int .u64 n, .int .u64 al] W fun e W' => ∃ r, e = .returned (gapV r) ∧ GapIs L lo hi n al r ∧ Below W.heap.size W W' := by
  have hn0 : (n == 0) = false := by simp; omega
  have ha0 : (al == 0) = false := by simp; omega
  have HM : Hid (MapAt W lo0 p v L) := h
  clear h
  go_enter Try.func22, Try.ntmps22
  go_wp2
  go_loopw [1] (fun sl wr => ∃ (q : Int), sl = .int .u64 q ∧ 0 ≤ q ∧ q ≤ 18446744073709551615 ∧ lo ≤ q ∧ Hid (∀ x, okG L lo hi n al x → q ≤ x) ∧ Hid (Below W.heap.size W wr)) (fun sl _ => (18446744073709551616 - intOf sl).toNat)
  case atStart => exact ⟨lo, rfl, l1, l2, Int.le_refl _, fun x hx => hx.2.1, Below.refl _ _⟩
  case round =>
    obtain ⟨q, rfl, q1, q2, q3, HI, HB⟩ := hrel
    have hU := up_any q al wr q1 q2 a1 a2
    cases hup : upO q al with
    | none =>
      rw [hup] at hU
      have HG : Hid (GapIs L lo hi n al none) := ⟨(fun g e => by cases e), (fun _ x hx => upO_none a1 hup x (HI.out x hx) (Int.le_trans hx.2.2.2.1 b2) hx.1)⟩
      simp only [gapV] at hU
      clear hup
      go_wp2_with (go_at_call 44; refine hU.mono ?_; rintro e w1 ⟨rfl, rfl⟩)
      go_ret2
      exact ⟨none, rfl, HG, HB.out⟩
    | some g =>
      rw [hup] at hU
      obtain ⟨g1, g2, g3, g4⟩ := upO_some a1 q1 hup
      have g3 := g3 q2
      have g0 : 0 ≤ g := by omega
      simp only [gapV] at hU
      have HU : Hid (upO q al = some g) := hup
      have HG4 : Hid (∀ x, okG L lo hi n al x → g ≤ x) := fun x hx => g4 x (HI.out x hx) hx.1
      have HG1 : Hid (g % al = 0) := g1
      have hgl : lo ≤ g := by omega
      clear g4 g1 hup
      by_cases c1 : hi < g
      · have HG : Hid (GapIs L lo hi n al none) := ⟨(fun g e => by cases e), (fun _ x hx => by have h1 := HG4.out x hx; have h2 := hx.2.2.2.1; omega)⟩
        go_wp2_with (go_at_call 44; refine hU.mono ?_; rintro e w1 ⟨rfl, rfl⟩)
        go_ret2
        exact ⟨none, rfl, HG, HB.out⟩
      · by_cases c2 : hi - g < n - 1
        · have HG : Hid (GapIs L lo hi n al none) := ⟨(fun g e => by cases e), (fun _ x hx => by have h1 := HG4.out x hx; have h2 := hx.2.2.2.2.1; omega)⟩
          go_wp2_with (go_at_call 44; refine hU.mono ?_; rintro e w1 ⟨rfl, rfl⟩)
          go_ret2
          exact ⟨none, rfl, HG, HB.out⟩
        · have hgn : g + (n - 1) ≤ 18446744073709551615 := by omega
          have hfit := fitsP_next HM.out.good (show 1 ≤ n by omega) (show g ≤ hi by omega) (show n - 1 ≤ hi - g by omega)
          have hN := next_any wr lo0 p v L g (HM.out.keep HB.out) hsz
          cases hnx : next L g with
          | none =>
            rw [hnx] at hN hfit
            have HG : Hid (GapIs L lo hi n al (some g)) := ⟨(fun g' e => by cases e; exact ⟨⟨HG1.out, hgl, hfit.2 trivial⟩, ⟨g0, g3⟩, HG4.out⟩), (fun e => by cases e)⟩
            simp only [optV] at hN
            clear hfit hnx
            go_wp2_with (first | (go_at_call 44; refine hU.mono ?_; rintro e w1 ⟨rfl, rfl⟩) | (go_at_call 21; refine hN.mono ?_; rintro e w1 ⟨rfl, hb1⟩))
            go_ret2
            exact ⟨some g, rfl, HG, below_alloc (below_go HB.out hb1) _⟩
          | some s =>
            rw [hnx] at hN hfit
            obtain ⟨z1, z2, z3, z4, z5, z6, z7, z8⟩ := next_some HM.out.good hnx
            clear z5 z6 z7 z8
            simp only [optV] at hN
            by_cases c3 : g + (n - 1) < s.lo
            · have HG : Hid (GapIs L lo hi n al (some g)) := ⟨(fun g' e => by cases e; exact ⟨⟨HG1.out, hgl, hfit.2 c3⟩, ⟨g0, g3⟩, HG4.out⟩), (fun e => by cases e)⟩
              clear hfit hnx
              go_wp2_with (first | (go_at_call 44; refine hU.mono ?_; rintro e w1 ⟨rfl, rfl⟩) | (go_at_call 21; refine hN.mono ?_; rintro e w1 ⟨rfl, hb1⟩))
              go_ret2
              exact ⟨some g, rfl, HG, below_alloc (below_go HB.out hb1) _⟩
            · have HST : Hid (∀ x, okG L lo hi n al x → s.hi + 1 ≤ x) := gap_step HM.out.good a1 b2 q1 HI.out HU.out hnx (by omega)
              clear hfit hnx
              by_cases c4 : s.hi = 18446744073709551615
              · have HG : Hid (GapIs L lo hi n al none) := ⟨(fun g e => by cases e), (fun _ x hx => by have h1 := HST.out x hx; have h2 := hx.2.2.2.1; omega)⟩
                have c5 : (s.hi == 18446744073709551615) = true := by simp [c4]
                clear c4
                go_wp2_with (first | (go_at_call 44; refine hU.mono ?_; rintro e w1 ⟨rfl, rfl⟩) | (go_at_call 21; refine hN.mono ?_; rintro e w1 ⟨rfl, hb1⟩))
                go_ret2
                exact ⟨none, rfl, HG, below_alloc (below_go HB.out hb1) _⟩
              · have c5 : (s.hi == 18446744073709551615) = false := by simp [c4]
                have c6 : s.hi + 1 ≤ 18446744073709551615 := by omega
                clear c4
                go_wp2_with (first | (go_at_call 44; refine hU.mono ?_; rintro e w1 ⟨rfl, rfl⟩) | (go_at_call 21; refine hN.mono ?_; rintro e w1 ⟨rfl, hb1⟩))
                go_roundw
                case rel => exact ⟨s.hi + 1, rfl, by omega, c6, by omega, HST, below_alloc (below_go HB.out hb1) _⟩
                case measure => simp [intOf]; omega

set_option maxHeartbeats 4000000 in
set_option maxRecDepth 100000 in
theorem fits_yes (W : World) (lo0 p : Nat) (v : Value) (L : List (Sp Int)) (g n hi : Int) (h : MapAt W lo0 p v L) (hsz : L.length < 4611686018427387904) (g1 : 0 ≤ g) (g2 : g ≤ 18446744073709551615) (b1 : 0 ≤ hi) (b2 : hi ≤ 18446744073709551615) (n1 : 0 < n) (n2 : n ≤ 18446744073709551615) (hf : fitsP L g n hi) :
    Calls Try.prog 23 #[.pointer (some ⟨p, 0, none⟩), .int .u64 g, .int .u64 n, .int .u64 hi] W fun e W' => e = .returned (.bool true) ∧ Below W.heap.size W W' := by
  have hn0 : (n == 0) = false := by simp; omega
  have c1 : ¬ (hi < g) := by have := hf.2.1; omega
  have c2 : ¬ (hi - g < n - 1) := by have := hf.2.2.1; omega
  have hgn : g + (n - 1) ≤ 18446744073709551615 := by omega
  have hfit := (fitsP_next h.good (show 1 ≤ n by omega) (show g ≤ hi by omega) (show n - 1 ≤ hi - g by omega)).1 hf
  have hN := next_any W lo0 p v L g h hsz
  clear hf
  cases hnx : next L g with
  | none =>
    rw [hnx] at hN hfit
    simp only [optV] at hN
    clear hfit hnx
    go_enter Try.func23, Try.ntmps23
    go_wp2_with (go_at_call 21; refine hN.mono ?_; rintro e w1 ⟨rfl, hb1⟩)
    go_ret
    exact ⟨rfl, below_alloc hb1 _⟩
  | some s =>
    rw [hnx] at hN hfit
    simp only [optV] at hN
    have c3 : g + (n - 1) < s.lo := hfit
    clear hfit hnx
    go_enter Try.func23, Try.ntmps23
    go_wp2_with (go_at_call 21; refine hN.mono ?_; rintro e w1 ⟨rfl, hb1⟩)
    go_ret
    exact ⟨by first | rfl | simp [c3], below_alloc hb1 _⟩

set_option maxHeartbeats 4000000 in
set_option maxRecDepth 100000 in
theorem fits_no (W : World) (lo0 p : Nat) (v : Value) (L : List (Sp Int)) (g n hi : Int) (h : MapAt W lo0 p v L) (hsz : L.length < 4611686018427387904) (g1 : 0 ≤ g) (g2 : g ≤ 18446744073709551615) (b1 : 0 ≤ hi) (b2 : hi ≤ 18446744073709551615) (n1 : 0 < n) (n2 : n ≤ 18446744073709551615) (hf : ¬ fitsP L g n hi) :
    Calls Try.prog 23 #[.pointer (some ⟨p, 0, none⟩), .int .u64 g, .int .u64 n, .int .u64 hi] W fun e W' => e = .returned (.bool false) ∧ Below W.heap.size W W' := by
  have hn0 : (n == 0) = false := by simp; omega
  by_cases c1 : hi < g
  · clear hf
    go_enter Try.func23, Try.ntmps23
    go_wp2
    go_ret
    exact ⟨rfl, Below.refl _ _⟩
  · by_cases c2 : hi - g < n - 1
    · clear hf
      go_enter Try.func23, Try.ntmps23
      go_wp2
      go_ret
      exact ⟨rfl, Below.refl _ _⟩
    · have hgn : g + (n - 1) ≤ 18446744073709551615 := by omega
      have hfit := fitsP_next h.good (show 1 ≤ n by omega) (show g ≤ hi by omega) (show n - 1 ≤ hi - g by omega)
      have hN := next_any W lo0 p v L g h hsz
      cases hnx : next L g with
      | none =>
        rw [hnx] at hfit
        exact absurd (hfit.2 trivial) hf
      | some s =>
        rw [hnx] at hN hfit
        simp only [optV] at hN
        have c3 : ¬ (g + (n - 1) < s.lo) := fun hl => hf (hfit.2 hl)
        clear hfit hnx hf
        go_enter Try.func23, Try.ntmps23
        go_wp2_with (go_at_call 21; refine hN.mono ?_; rintro e w1 ⟨rfl, hb1⟩)
        go_ret
        exact ⟨by first | rfl | simp [c3], below_alloc hb1 _⟩
end Go.Proofs.Ytliiblaodhcjhaa
