import Derived.Test.YtplobjdghaokoabRb
namespace Go.Proofs.Ytplobjdghaokoab
open Go.RowKit
set_option linter.unusedVariables false

set_option maxHeartbeats 4000000 in
theorem named_any (W : World) (r rb f0 : Nat) (u : List Nat) (f n : Int) (h : RP W r rb f0 u) (hn2 : n ≤ 9223372036854775807) :
    Calls Try.prog 48 #[.pointer (some ⟨r, 0, none⟩), .int .i64 f, .int .i64 n] W fun e W' => e = .returned (.int .i64 (nameE f0 u f n)) ∧ ∃ q, W' = W.drewN q := by
  have n1 := h.n1
  have n2 := h.n2
  have HP : Hid (RP W r rb f0 u) := h
  by_cases h1 : n < 1
  · have he : nameE f0 u f n = 41 := by unfold nameE; rw [if_pos h1]
    rw [he]
    clear he h
    go_enter Try.func48, Try.ntmps48
    go_wp2
    go_ret
    exact ⟨rfl, 0, rfl⟩
  · have hh := rhas_any W r rb f0 u f n h (by omega) hn2
    cases h2 : hasB f0 u f n with
    | false =>
      have he : nameE f0 u f n = 40 := by unfold nameE; rw [if_neg h1, if_pos h2]
      rw [he]
      rw [h2] at hh
      clear he h h2
      go_enter Try.func48, Try.ntmps48
      go_wp2_with (first
        | (go_at_call 33; refine hh.mono ?_; rintro e w' ⟨rfl, q, rfl⟩)
        | go_in)
      go_ret
      exact ⟨rfl, _, rfl⟩
    | true =>
      rw [h2] at hh
      have h2' := h2
      unfold hasB at h2'
      simp at h2'
      obtain ⟨a, ha⟩ := Int.eq_ofNat_of_zero_le (show 0 ≤ f - f0 by omega)
      obtain ⟨k, rfl⟩ := Int.eq_ofNat_of_zero_le (show 0 ≤ n by omega)
      obtain rfl : f = (f0 : Int) + a := by omega
      have hak : a + k ≤ u.length := by omega
      have e1 : (((f0 : Int) + a) - f0).toNat = a := by omega
      have HE : Hid (nameE f0 u ((f0 : Int) + a) k = if anyZ u a k = true then 43 else 0) := by
        show _ = _
        unfold nameE
        rw [if_neg h1, if_neg (by rw [h2]; simp), e1, Int.toNat_natCast]
      have c0 := h.c0
      have c1 := h.c1
      clear h2 h2' h ha e1
      generalize hm : u.length = m at *
      have HM : Hid (u.length = m) := hm
      clear hm
      go_enter Try.func48, Try.ntmps48
      go_wp2_with (first
        | (go_at_call 33; refine hh.mono ?_; rintro e w' ⟨rfl, q, rfl⟩)
        | go_in)
      go_loopw [7] (fun s7 wr => ∃ j : Nat, j ≤ k ∧ s7 = .int .i64 j ∧ (∃ q, wr = W.drewN q) ∧ Hid (∀ i, i < j → ∃ x, u[a + i]? = some x ∧ x ≠ 0)) (fun s7 _ => k - (intOf s7).toNat)
      case atStart => exact ⟨0, Nat.zero_le _, rfl, ⟨_, rfl⟩, fun i hi => by omega⟩
      case round =>
        obtain ⟨j, hj, rfl, ⟨q, rfl⟩, HZ⟩ := hrel
        by_cases hlt : j < k
        · obtain ⟨x, hx⟩ : ∃ x, u[a + j]? = some x := ⟨_, List.getElem?_eq_getElem (by rw [HM.out]; omega)⟩
          have cx := HP.out.cu hx
          have HX : Hid (u[a + j]? = some x) := hx
          clear hx
          have hix : (f0 : Int) + (a : Int) - (f0 : Int) + (j : Int) = ((a + j : Nat) : Int) := by omega
          have hix2 : (f0 : Int) + (a : Int) - (f0 : Int) = (a : Int) := by omega
          have hkz : (j : Int) < (k : Int) := by omega
          by_cases hx0 : x = 0
          · subst hx0
            have HA : Hid (anyZ u a k = true) := anyZ_true.2 ⟨j, hlt, HX.out⟩
            go_wp2
            go_quiet (fail)
            go_wp2
            go_ret
            exact ⟨ret_int (by rw [HE.out, HA.out, if_pos rfl]), _, World.drewN_drewN _ _ _⟩
          · have hxz : ¬ ((x : Int) = 0) := by omega
            go_wp2
            go_quiet (fail)
            go_wp2
            go_roundw
            case rel => exact ⟨j + 1, by omega, by go_num, ⟨_, rfl⟩, fun i hi => by
              by_cases e : i = j
              · rw [e]; exact ⟨x, HX.out, hx0⟩
              · exact HZ.out i (by omega)⟩
            case measure => simp [intOf]; omega
        · obtain rfl : j = k := by omega
          have HA : Hid (anyZ u a j = false) := (anyZ_false (by rw [HM.out]; exact hak)).2 HZ.out
          have hkz : ¬ ((j : Int) < (j : Int)) := by omega
          go_wp2
          go_ret
          exact ⟨ret_int (by rw [HE.out, HA.out, if_neg (by simp)]), q, rfl⟩
set_option maxHeartbeats 2000000 in
theorem ruses_any (W : World) (r rb f0 : Nat) (u : List Nat) (f : Int) (h : RP W r rb f0 u) :
    Calls Try.prog 8 #[.pointer (some ⟨r, 0, none⟩), .int .i64 f] W fun e W' => e = .returned (.int .i64 (usesR f0 u f)) ∧ ∃ q, W' = W.drewN q := by
  have hh := rhas_any W r rb f0 u f 1 h (by omega) (by omega)
  have n1 := h.n1
  have n2 := h.n2
  unfold usesR
  cases h2 : hasB f0 u f 1 with
  | false =>
    rw [h2] at hh
    rw [if_neg (by simp)]
    clear h h2
    go_enter Try.func8, Try.ntmps8
    go_wp2_with (first | (go_at_call 33; refine hh.mono ?_; rintro e w' ⟨rfl, q, rfl⟩) | go_in)
    go_ret
    exact ⟨rfl, _, rfl⟩
  | true =>
    rw [h2] at hh
    rw [if_pos rfl]
    have h2' := h2
    unfold hasB at h2'
    simp at h2'
    obtain ⟨a, ha⟩ := Int.eq_ofNat_of_zero_le (show 0 ≤ f - f0 by omega)
    obtain rfl : f = (f0 : Int) + a := by omega
    have e1 : (((f0 : Int) + a) - f0).toNat = a := by omega
    rw [e1]
    have hal : a < u.length := by omega
    obtain ⟨x, hx⟩ : ∃ x, u[a]? = some x := ⟨_, List.getElem?_eq_getElem hal⟩
    have c0 := h.c0
    have c1 := h.c1
    have cx := h.cu hx
    have haa : (f0 : Int) + (a : Int) - (f0 : Int) = a := by omega
    rw [hx]
    clear hx h h2 h2' e1 ha
    simp only [Option.getD_some]
    generalize u.length = m at *
    go_enter Try.func8, Try.ntmps8
    go_wp2_with (first | (go_at_call 33; refine hh.mono ?_; rintro e w' ⟨rfl, q, rfl⟩) | go_in)
    go_quiet (fail)
    go_wp2
    go_ret
    exact ⟨rfl, _, World.drewN_drewN _ _ _⟩
/-- The reference's pool with other uses. -/
theorem RP.with {W W' : World} {r rb f0 : Nat} {u u' : List Nat} (h : RP W r rb f0 u) (hl : u'.length = u.length) (hr : RowAt W' rb 3 (encI (intsOf u'))) (T : Turn (· = rb) W W') (hle : ∀ x ∈ u', x ≤ 255) : RP W' r rb f0 u' :=
  ⟨by rw [hl]; exact h.box.turn T h.ne, hr, by rw [hl]; exact h.n1, by rw [hl]; exact h.n2, hle⟩
theorem encI_set' (l : List Nat) (i x : Nat) : (encI (intsOf l)).set i (.int .i64 (x : Int)) = encI (intsOf (l.set i x)) := by simp [encI, intsOf, List.map_set]
end Go.Proofs.Ytplobjdghaokoab
