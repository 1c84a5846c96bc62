import Derived.Test.YtplobjdghaokoaaPa
namespace Go.Proofs.Ytplobjdghaokoaa
open Go.RowKit
set_option linter.unusedVariables false

theorem cu_piece {W : World} {p ub f0 low : Nat} {u : List Nat} (h : PPx W p ub f0 u low) (a k : Nat) : ∀ (i b : Nat), ((u.drop a).take k)[i]? = some b → W.cell? ⟨ub, a + i, none⟩ = some (.int .u8 b) := by
  intro i b hi
  rw [List.getElem?_take] at hi
  split at hi
  · rw [List.getElem?_drop] at hi
    exact h.cu hi
  · cases hi
theorem piece_len {u : List Nat} {a k : Nat} (h : a + k ≤ u.length) : ((u.drop a).take k).length = k := by simp; omega
theorem mem_anyZ (u : List Nat) (a k : Nat) : decide (0 ∈ (u.drop a).take k) = anyZ u a k := by
  unfold anyZ
  rw [Bool.eq_iff_iff]
  simp
theorem mem_anyM (u : List Nat) (a k : Nat) : decide (255 ∈ (u.drop a).take k) = anyM u a k := by
  unfold anyM
  rw [Bool.eq_iff_iff]
  simp
theorem mem_anyB (v : Nat) (u : List Nat) (a k : Nat) {W : World} {p ub f0 low : Nat} (h : PPx W p ub f0 u low) (hl : a + k ≤ u.length) (c : Nat) :
    Calls Try.prog 50 #[.slice (some ⟨ub, a, none⟩) k c, .int .u8 v] W fun e W' => e = .returned (.bool (decide (v ∈ (u.drop a).take k))) ∧ W = W' := by
  have n1 := h.n1
  have := ctU_any W ub a c v ((u.drop a).take k) (cu_piece h a k) (by rw [piece_len hl]; omega)
  rw [piece_len hl] at this
  exact this

set_option maxHeartbeats 2000000 in
theorem inUse_any (W : World) (p ub f0 low : Nat) (u : List Nat) (f n : Int) (h : PPx W p ub f0 u low) (hf1 : -9223372036854775808 ≤ f) (hf2 : f ≤ 9223372036854775807) :
    Calls Try.prog 37 #[.pointer (some ⟨p, 0, none⟩), .int .i64 f, .int .i64 n] W fun e W' => e = .returned (.tuple #[.int .i64 (if nameE f0 u f n = 0 then f - f0 else 0), .int .i64 (nameE f0 u f n)]) ∧ ∃ q, W' = W.drewN q := by
  have hh := has_any W p ub f0 low u f n h hf1 hf2
  have n1 := h.n1
  have n2 := h.n2
  by_cases h1 : n < 1
  · have he : nameE f0 u f n = 41 := by unfold nameE; rw [if_pos h1]
    rw [he]
    clear he hh h
    go_enter Try.func37, Try.ntmps37
    go_wp2
    go_ret2
    exact ⟨rfl, 0, rfl⟩
  · cases h2 : hasB f0 u f n with
    | false =>
      have he : nameE f0 u f n = 40 := by unfold nameE; rw [if_neg h1, if_pos h2]
      rw [he]
      rw [h2] at hh
      clear he h h2
      go_enter Try.func37, Try.ntmps37
      go_wp2_with (go_at_call 43; refine hh.mono ?_; rintro e w' ⟨rfl, q, rfl⟩)
      go_ret2
      exact ⟨rfl, _, rfl⟩
    | true =>
      rw [h2] at hh
      have h2' := h2
      unfold hasB at h2'
      simp at h2'
      obtain ⟨a, ha⟩ := Int.eq_ofNat_of_zero_le (show 0 ≤ f - f0 by omega)
      obtain ⟨k, rfl⟩ := Int.eq_ofNat_of_zero_le (show 0 ≤ n by omega)
      obtain rfl : f = (f0 : Int) + a := by omega
      have hak : a + k ≤ u.length := by omega
      have e1 : (((f0 : Int) + a) - f0).toNat = a := by omega
      have HE : Hid (nameE f0 u ((f0 : Int) + a) k = if anyZ u a k = true then 43 else 0) := by
        show _ = _
        unfold nameE
        rw [if_neg h1, if_neg (by rw [h2]; simp), e1, Int.toNat_natCast]
      have c0 := fun q => (h.drewN q).c0
      have c1 := fun q => (h.drewN q).c1
      have hz := fun q c => mem_anyB 0 u a k (h.drewN q) hak c
      clear h2 h2' h
      rw [mem_anyZ] at hz
      have htn : ((a : Int) + (k : Int)).toNat = a + k := by omega
      have hs1 : a + k - a = k := by omega
      have hb2 : ¬ (u.length = a) := by omega
      generalize u.length = m at *
      cases hany : anyZ u a k with
      | true =>
        rw [hany] at hz HE
        rw [HE.out]
        clear HE
        go_enter Try.func37, Try.ntmps37
        go_wp2_with (first
          | (go_at_call 43; refine hh.mono ?_; rintro e w' ⟨rfl, q, rfl⟩)
          | (go_at_call 50; refine (hz _ _).mono ?_; rintro e w' ⟨rfl, rfl⟩))
        go_ret2
        exact ⟨rfl, _, rfl⟩
      | false =>
        rw [hany] at hz HE
        rw [HE.out]
        clear HE
        go_enter Try.func37, Try.ntmps37
        go_wp2_with (first
          | (go_at_call 43; refine hh.mono ?_; rintro e w' ⟨rfl, q, rfl⟩)
          | (go_at_call 50; refine (hz _ _).mono ?_; rintro e w' ⟨rfl, rfl⟩))
        go_ret2
        exact ⟨ret_ii (by simp) (by simp), _, rfl⟩
end Go.Proofs.Ytplobjdghaokoaa
