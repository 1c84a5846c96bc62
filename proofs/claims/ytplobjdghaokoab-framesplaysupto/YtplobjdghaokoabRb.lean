import Derived.Test.YtplobjdghaokoabRa
namespace Go.Proofs.Ytplobjdghaokoab
open Go.RowKit
set_option linter.unusedVariables false

set_option maxHeartbeats 2000000 in
theorem rhas_any (W : World) (r rb f0 : Nat) (u : List Nat) (f n : Int) (h : RP W r rb f0 u) (hn : 1 ≤ n) (hn2 : n ≤ 9223372036854775807) :
    Calls Try.prog 33 #[.pointer (some ⟨r, 0, none⟩), .int .i64 f, .int .i64 n] W fun e W' => e = .returned (.bool (hasB f0 u f n)) ∧ ∃ q, W' = W.drewN q := by
  have c0 := fun q => (h.drewN q).c0
  have c1 := fun q => (h.drewN q).c1
  have d0 := h.c0
  have d1 := h.c1
  have n1 := h.n1
  have n2 := h.n2
  clear h
  by_cases h1 : f < (f0 : Int)
  · have h1' : decide (f < (f0 : Int)) = true := decide_eq_true h1
    have HH : Hid (hasB f0 u f n = false) := decide_eq_false (fun e => by omega)
    generalize u.length = m at *
    go_enter Try.func33, Try.ntmps33
    go_wp2
    go_quiet (fail)
    go_wp2
    go_ret
    exact ⟨ret_bool HH.out.symm, _, rfl⟩
  · have h1' : decide (f < (f0 : Int)) = false := decide_eq_false h1
    by_cases h2 : (f0 : Int) + (u.length : Int) ≤ f
    · have HH : Hid (hasB f0 u f n = false) := decide_eq_false (fun e => by omega)
      have h2' : decide ((f0 : Int) + (u.length : Int) ≤ f) = true := decide_eq_true h2
      generalize u.length = m at *
      go_enter Try.func33, Try.ntmps33
      go_wp2
      go_quiet (fail)
      go_wp2
      go_ret
      exact ⟨ret_bool HH.out.symm, _, rfl⟩
    · have h2' : decide ((f0 : Int) + (u.length : Int) ≤ f) = false := decide_eq_false h2
      have HH : Hid (hasB f0 u f n = decide (n ≤ (f0 : Int) + (u.length : Int) - f)) := decide_eq_decide.2 (by omega)
      have hfb : f ≤ 268435456 := by omega
      have hfl : 0 ≤ f := by omega
      generalize u.length = m at *
      go_enter Try.func33, Try.ntmps33
      go_wp2
      go_quiet (fail)
      go_wp2
      go_quiet (fail)
      go_wp2
      go_ret
      exact ⟨ret_bool (by rw [HH.out]), _, World.drewN_drewN _ _ _⟩
def frB (u : List Nat) (a n : Nat) : Bool := (List.range n).all fun i => decide (u[a + i]? = some 0)
theorem frB_iff {u : List Nat} {a n : Nat} : frB u a n = true ↔ ∀ i, i < n → u[a + i]? = some 0 := by unfold frB; simp
set_option maxHeartbeats 2000000 in
theorem rfreeAt_any (W : World) (r rb f0 : Nat) (u : List Nat) (a n : Nat) (h : RP W r rb f0 u) (hl : a + n ≤ u.length) :
    Calls Try.prog 45 #[.pointer (some ⟨r, 0, none⟩), .int .i64 ((f0 : Int) + a), .int .i64 n] W fun e W' => e = .returned (.bool (frB u a n)) ∧ ∃ q, W' = W.drewN q := by
  have n1 := h.n1
  have n2 := h.n2
  have HP : Hid (RP W r rb f0 u) := h
  clear h
  generalize hm : u.length = m at *
  have HM : Hid (u.length = m) := hm
  clear hm
  go_enter Try.func45, Try.ntmps45
  go_wp2
  go_loopw [7] (fun s7 wr => ∃ k : Nat, k ≤ n ∧ s7 = .int .i64 k ∧ (∃ q, wr = W.drewN q) ∧ Hid (∀ i, i < k → u[a + i]? = some 0)) (fun s7 _ => n - (intOf s7).toNat)
  case atStart => exact ⟨0, Nat.zero_le _, rfl, ⟨0, rfl⟩, fun i hi => by omega⟩
  case round =>
    obtain ⟨k, hk, rfl, ⟨q, rfl⟩, HZ⟩ := hrel
    by_cases hlt : k < n
    · obtain ⟨x, hx⟩ : ∃ x, u[a + k]? = some x := ⟨_, List.getElem?_eq_getElem (by rw [HM.out]; omega)⟩
      have c0 := HP.out.c0
      have c1 := HP.out.c1
      have cx := HP.out.cu hx
      rw [HM.out] at c1
      have HX : Hid (u[a + k]? = some x) := hx
      clear hx
      have hix : (f0 : Int) + (a : Int) - (f0 : Int) + (k : Int) = ((a + k : Nat) : Int) := by omega
      have hix2 : (f0 : Int) + (a : Int) - (f0 : Int) = (a : Int) := by omega
      have hkz : (k : Int) < (n : Int) := by omega
      by_cases hx0 : x = 0
      · subst hx0
        go_wp2
        go_quiet (fail)
        go_wp2
        go_roundw
        case rel => exact ⟨k + 1, by omega, by go_num, ⟨_, rfl⟩, fun i hi => by
          by_cases e : i = k
          · rw [e]; exact HX.out
          · exact HZ.out i (by omega)⟩
        case measure => simp [intOf]; omega
      · have hxz : (0 : Int) < (x : Int) := by omega
        go_wp2
        go_quiet (fail)
        go_wp2
        go_ret
        refine ⟨ret_bool ?_, _, World.drewN_drewN _ _ _⟩
        cases hf : frB u a n with
        | false => rfl
        | true =>
          have h1 := frB_iff.1 hf k hlt
          have h2 := HX.out
          rw [h1] at h2
          injection h2 with h2
          exact absurd h2.symm hx0
    · obtain rfl : k = n := by omega
      have hkz : ¬ ((k : Int) < (k : Int)) := by omega
      go_wp2
      go_ret
      exact ⟨ret_bool (frB_iff.2 HZ.out).symm, q, rfl⟩
theorem isAl_pow (a : Int) : isAl a = true ↔ ∃ i, i ≤ 12 ∧ a = ((2 ^ i : Nat) : Int) := by
  unfold isAl
  simp
  constructor
  · rintro (h | h | h | h | h | h | h | h | h | h | h | h | h)
    · exact ⟨0, by omega, by rw [h]; rfl⟩
    · exact ⟨1, by omega, by rw [h]; rfl⟩
    · exact ⟨2, by omega, by rw [h]; rfl⟩
    · exact ⟨3, by omega, by rw [h]; rfl⟩
    · exact ⟨4, by omega, by rw [h]; rfl⟩
    · exact ⟨5, by omega, by rw [h]; rfl⟩
    · exact ⟨6, by omega, by rw [h]; rfl⟩
    · exact ⟨7, by omega, by rw [h]; rfl⟩
    · exact ⟨8, by omega, by rw [h]; rfl⟩
    · exact ⟨9, by omega, by rw [h]; rfl⟩
    · exact ⟨10, by omega, by rw [h]; rfl⟩
    · exact ⟨11, by omega, by rw [h]; rfl⟩
    · exact ⟨12, by omega, by rw [h]; rfl⟩
  · rintro ⟨i, hi, rfl⟩
    rcases (show i = 0 ∨ i = 1 ∨ i = 2 ∨ i = 3 ∨ i = 4 ∨ i = 5 ∨ i = 6 ∨ i = 7 ∨ i = 8 ∨ i = 9 ∨ i = 10 ∨ i = 11 ∨ i = 12 by omega) with rfl | rfl | rfl | rfl | rfl | rfl | rfl | rfl | rfl | rfl | rfl | rfl | rfl <;> decide
theorem pow_le13 (i : Nat) (h : i ≤ 13) : 1 ≤ 2 ^ i ∧ 2 ^ i ≤ 8192 ∧ (i ≤ 12 → 2 ^ i ≤ 4096) ∧ (i = 13 → 2 ^ i = 8192) := by
  rcases (show i = 0 ∨ i = 1 ∨ i = 2 ∨ i = 3 ∨ i = 4 ∨ i = 5 ∨ i = 6 ∨ i = 7 ∨ i = 8 ∨ i = 9 ∨ i = 10 ∨ i = 11 ∨ i = 12 ∨ i = 13 by omega) with rfl | rfl | rfl | rfl | rfl | rfl | rfl | rfl | rfl | rfl | rfl | rfl | rfl | rfl <;> decide
set_option maxHeartbeats 2000000 in
theorem aligned_any (W : World) (a : Int) : Calls Try.prog 44 #[.int .i64 a] W fun e W' => e = .returned (.bool (isAl a)) ∧ W = W' := by
  go_enter Try.func44, Try.ntmps44
  go_wp2
  go_loop [3] (fun s3 => ∃ i : Nat, i ≤ 13 ∧ s3 = .int .i64 ((2 ^ i : Nat) : Int) ∧ Hid (∀ j, j < i → a ≠ ((2 ^ j : Nat) : Int))) (fun s3 => 8193 - (intOf s3).toNat)
  case atStart => exact ⟨0, by omega, rfl, fun j hj => by omega⟩
  case round =>
    obtain ⟨i, hi, rfl, HN⟩ := hrel
    have hp := pow_le13 i hi
    obtain ⟨p1, p2, p3, p4⟩ := hp
    by_cases h12 : i ≤ 12
    · have hps : (2 ^ (i + 1) : Nat) = 2 * 2 ^ i := by rw [Nat.pow_succ]; omega
      have HPS : Hid _ := hps
      have p5 := p3 h12
      have HA : Hid (a = ((2 ^ i : Nat) : Int) → isAl a = true) := fun e => (isAl_pow a).2 ⟨i, h12, e⟩
      have HNN : Hid (a ≠ ((2 ^ i : Nat) : Int) → ∀ j, j < i + 1 → a ≠ ((2 ^ j : Nat) : Int)) := fun hne j hj => by
        by_cases e : j = i
        · rw [e]; exact hne
        · exact HN.out j (by omega)
      clear hps p3 p4
      generalize 2 ^ i = x at *
      by_cases hxa : (x : Int) = a
      · have HAA : Hid (isAl a = true) := HA.out hxa.symm
        subst hxa
        go_wp2
        go_ret
        exact ⟨ret_bool HAA.out.symm, rfl⟩
      · have HNE : Hid (a ≠ (x : Int)) := fun e => hxa e.symm
        go_wp2
        go_round
        case rel => exact ⟨i + 1, by omega, by rw [HPS.out]; go_num, HNN.out HNE.out⟩
        case measure => simp [intOf]; omega
    · have p5 := p4 (by omega)
      have HAA : Hid (isAl a = false) := by
        cases h : isAl a with
        | false => rfl
        | true =>
          obtain ⟨j, hj, e⟩ := (isAl_pow a).1 h
          exact absurd e (HN.out j (by omega))
      rw [p5]
      go_wp2
      go_ret
      exact ⟨ret_bool HAA.out.symm, rfl⟩
end Go.Proofs.Ytplobjdghaokoab
