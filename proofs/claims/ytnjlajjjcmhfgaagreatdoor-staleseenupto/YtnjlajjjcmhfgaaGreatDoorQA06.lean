import Derived.Test.YtnjlajjjcmhfgaaGreatDoorQA04
namespace Go.Proofs.YtnjlajjjcmhfgaaGreatDoor
open Go.RowKit
set_option linter.unusedVariables false
set_option linter.unusedSimpArgs false

/-- A word without the bits that say nothing. -/
def m1v (x : Int) : Int := if x % 4 = 1 then x / 1024 * 1024 + x / 32 % 16 * 32 + x / 8 % 2 * 8 + 1 else if x % 4 = 2 then x / 1024 * 1024 + x % 512 else 0
def m2v (x : Int) : Int := if x % 4 = 0 then 0 else if x % 4 = 1 then x / 512 * 512 + x % 64 else x

theorem ok_D1 (x : Int) (h : 0 ≤ x ∧ x < 4294967296) : Ok (D1 x) ∧ Says1 (D1 x) := by
  obtain ⟨h0, h1⟩ := h
  unfold D1
  split
  · refine ⟨⟨?_, ?_⟩, .inr (.inl ⟨rfl, ?_, ?_, rfl, rfl, rfl, rfl⟩)⟩ <;> simp only [dT, F_5_4] <;> omega
  · split
    · split
      · refine ⟨⟨?_, ?_⟩, .inr (.inr (.inr ⟨rfl, ?_, rfl, ?_⟩))⟩ <;> simp only [dU, leafOk, F_5_4, F_3_1, F_19_1, F_15_1, F_10_2, F_12_3, F_2_2, F_16_1, F_17_1, F_4_1, F_20_4, F_9_1, F_4_2, F_10_1, F_11_1, F_6_3, F_0_1, F_18_1] <;> omega
      · refine ⟨⟨?_, ?_⟩, .inr (.inr (.inl ⟨rfl, ?_, ?_, ?_⟩))⟩ <;> simp only [dS, leafOk, F_5_4, F_3_1, F_19_1, F_15_1, F_10_2, F_12_3, F_2_2, F_16_1, F_17_1, F_4_1, F_20_4, F_9_1, F_4_2, F_10_1, F_11_1, F_6_3, F_0_1, F_18_1] <;> omega
    · exact ⟨⟨by decide, by decide⟩, .inl rfl⟩
theorem ok_D2 (x : Int) (h : 0 ≤ x ∧ x < 4294967296) : Ok (D2 x) ∧ Says2 (D2 x) := by
  obtain ⟨h0, h1⟩ := h
  unfold D2
  split
  · exact ⟨⟨by decide, by decide⟩, .inl rfl⟩
  · split
    · refine ⟨⟨?_, ?_⟩, .inr (.inl ⟨rfl, ?_, rfl, rfl, ?_⟩)⟩ <;> simp only [dL, leafOk, F_5_4, F_3_1, F_19_1, F_15_1, F_10_2, F_12_3, F_2_2, F_16_1, F_17_1, F_4_1, F_20_4, F_9_1, F_4_2, F_10_1, F_11_1, F_6_3, F_0_1, F_18_1] <;> omega
    · refine ⟨⟨?_, ?_⟩, .inr (.inr ⟨rfl, ?_, rfl, rfl, ?_⟩)⟩ <;> simp only [dM, leafOk, F_5_4, F_3_1, F_19_1, F_15_1, F_10_2, F_12_3, F_2_2, F_16_1, F_17_1, F_4_1, F_20_4, F_9_1, F_4_2, F_10_1, F_11_1, F_6_3, F_0_1, F_18_1] <;> omega
theorem DED1 (x : Int) (h : 0 ≤ x ∧ x < 4294967296) : D1 (E (D1 x)) = D1 x := (says1_iff _ (ok_D1 x h).1).2 (ok_D1 x h).2
theorem DED2 (x : Int) (h : 0 ≤ x ∧ x < 4294967296) : D2 (E (D2 x)) = D2 x := (says2_iff _ (ok_D2 x h).1).2 (ok_D2 x h).2

/-- A section's word by its fields, the bit that says nothing beside. -/
theorem sec_sum (x : Int) (h : 0 ≤ x ∧ x < 4294967296) (h4 : x % 4 = 2) : x / 1024 * 1024 + x % 512 = x / 262144 % 2 * 262144 + 2 + 4 * (x / 4 % 4) + 16 * (x / 16 % 2) + 32 * (x / 32 % 16) + 1024 * (x / 1024 % 4) + 4096 * (x / 4096 % 8) + 32768 * (x / 32768 % 2) + 65536 * (x / 65536 % 2) + 131072 * (x / 131072 % 2) + 524288 * (x / 524288 % 2) + 1048576 * (x / 1048576) := by
  omega
theorem apn (a b : Int) (ha : 0 ≤ a ∧ a < 2) (hb : 0 ≤ b ∧ b < 4) : (a * 4 + b) % 4 = b ∧ (a * 4 + b) / 4 % 2 = a := by omega
theorem btn (a b c : Int) (ha : 0 ≤ a ∧ a < 8) (hb : 0 ≤ b ∧ b < 4) (hc : 0 ≤ c ∧ c < 2) : (a * 8 + b * 2 + c) % 2 = c ∧ (a * 8 + b * 2 + c) / 2 % 4 = b ∧ (a * 8 + b * 2 + c) / 8 % 8 = a := by omega
theorem supn (B m d : Int) (hB : 0 ≤ B ∧ B < 256) (hm : 0 ≤ m ∧ m < 16) (hd : 0 ≤ d ∧ d < 16) : (B * 16777216 + (m * 4294967296 + d * 68719476736)) / 68719476736 % 16 = d ∧ (B * 16777216 + (m * 4294967296 + d * 68719476736)) % 4294967296 / 16777216 * 16 + (B * 16777216 + (m * 4294967296 + d * 68719476736)) / 4294967296 % 16 = B * 16 + m := by omega
theorem ED1 (x : Int) (h : 0 ≤ x ∧ x < 4294967296) : E (D1 x) = m1v x := by
  have hO := (ok_D1 x h).1
  unfold m1v
  by_cases h1 : x % 4 = 1
  · have e : D1 x = dT x := by unfold D1; rw [if_pos h1]
    rw [e] at hO ⊢
    rw [if_pos h1, (E1 (dT x) rfl hO).eq]
    simp only [dT, b2_F]
    simp only [F_5_4, F_3_1, F_19_1, F_15_1, F_10_2, F_12_3, F_2_2, F_16_1, F_17_1, F_4_1, F_20_4, F_9_1, F_4_2, F_10_1, F_11_1, F_6_3, F_0_1, F_18_1]
    omega
  · by_cases h2 : x % 4 = 2
    · rw [if_neg h1, if_pos h2, sec_sum x h h2]
      by_cases h18 : F x 18 1 = 1
      · have e : D1 x = dU x := by unfold D1; rw [if_neg h1, if_pos h2, if_pos h18]
        rw [e] at hO ⊢
        rw [(E3 (dU x) rfl hO).eq]
        rw [F_18_1] at h18
        simp only [dU, b2_F]
        simp only [F_5_4, F_3_1, F_19_1, F_15_1, F_10_2, F_12_3, F_2_2, F_16_1, F_17_1, F_4_1, F_20_4, F_9_1, F_4_2, F_10_1, F_11_1, F_6_3, F_0_1, F_18_1]
        obtain ⟨p1, p2⟩ := apn (x / 32768 % 2) (x / 1024 % 4) (by omega) (by omega)
        obtain ⟨q1, q2, q3⟩ := btn (x / 4096 % 8) (x / 4 % 4) (x / 65536 % 2) (by omega) (by omega) (by omega)
        rw [p1, p2, q1, q2, q3, h18]
        have r1 := (supn (x / 16777216) (x / 1048576 % 16) (x / 32 % 16) (by omega) (by omega) (by omega)).1
        have r2 := (supn (x / 16777216) (x / 1048576 % 16) (x / 32 % 16) (by omega) (by omega) (by omega)).2
        have r3 : x / 16777216 * 16 + x / 1048576 % 16 = x / 1048576 := by omega
        rw [r1, r2, r3]
      · have e : D1 x = dS x := by unfold D1; rw [if_neg h1, if_pos h2, if_neg h18]
        rw [e] at hO ⊢
        rw [(E2 (dS x) rfl hO).eq]
        rw [F_18_1] at h18
        have h18' : x / 262144 % 2 = 0 := by omega
        simp only [dS, b2_F]
        simp only [F_5_4, F_3_1, F_19_1, F_15_1, F_10_2, F_12_3, F_2_2, F_16_1, F_17_1, F_4_1, F_20_4, F_9_1, F_4_2, F_10_1, F_11_1, F_6_3, F_0_1, F_18_1]
        obtain ⟨p1, p2⟩ := apn (x / 32768 % 2) (x / 1024 % 4) (by omega) (by omega)
        obtain ⟨q1, q2, q3⟩ := btn (x / 4096 % 8) (x / 4 % 4) (x / 65536 % 2) (by omega) (by omega) (by omega)
        have r1 : x / 1048576 * 1048576 % 4294967296 / 1048576 = x / 1048576 := by omega
        have r2 : x / 32 % 16 % 16 = x / 32 % 16 := by omega
        rw [p1, p2, q1, q2, q3, h18', r1, r2]
    · have e : D1 x = dZ := by unfold D1; rw [if_neg h1, if_neg h2]
      rw [e, if_neg h1, if_neg h2]
      exact E0 dZ (by decide)
theorem lar_sum (x : Int) (h : 0 ≤ x ∧ x < 4294967296) (h4 : x % 4 = 1) : x / 512 * 512 + x % 64 = 1 + 4 * (x / 4 % 4) + 16 * (x / 16 % 4) + 512 * (x / 512 % 2) + 1024 * (x / 1024 % 2) + 2048 * (x / 2048 % 2) + 4096 * (x / 4096 % 8) + 32768 * (x / 32768 % 2) + 65536 * (x / 65536) := by omega
theorem sma_sum (x : Int) (h : 0 ≤ x ∧ x < 4294967296) (h4 : x % 4 = 2 ∨ x % 4 = 3) : x = 2 + x % 2 + 4 * (x / 4 % 4) + 16 * (x / 16 % 4) + 64 * (x / 64 % 8) + 512 * (x / 512 % 2) + 1024 * (x / 1024 % 2) + 2048 * (x / 2048 % 2) + 4096 * (x / 4096) := by omega
theorem ED2 (x : Int) (h : 0 ≤ x ∧ x < 4294967296) : E (D2 x) = m2v x := by
  have hO := (ok_D2 x h).1
  unfold m2v
  by_cases h0 : x % 4 = 0
  · have e : D2 x = dZ := by unfold D2; rw [if_pos h0]
    rw [e, if_pos h0]
    exact E0 dZ (by decide)
  · by_cases h1 : x % 4 = 1
    · have e : D2 x = dL x := by unfold D2; rw [if_neg h0, if_pos h1]
      rw [e] at hO ⊢
      rw [if_neg h0, if_pos h1, lar_sum x h h1, (E4 (dL x) rfl hO).eq]
      simp only [dL, b2_F]
      simp only [F_5_4, F_3_1, F_19_1, F_15_1, F_10_2, F_12_3, F_2_2, F_16_1, F_17_1, F_4_1, F_20_4, F_9_1, F_4_2, F_10_1, F_11_1, F_6_3, F_0_1, F_18_1]
      obtain ⟨p1, p2⟩ := apn (x / 512 % 2) (x / 16 % 4) (by omega) (by omega)
      obtain ⟨q1, q2, q3⟩ := btn (x / 4096 % 8) (x / 4 % 4) (x / 1024 % 2) (by omega) (by omega) (by omega)
      have r1 : x / 65536 * 65536 % 4294967296 / 65536 = x / 65536 := by omega
      rw [p1, p2, q1, q2, q3, r1]
    · have e : D2 x = dM x := by unfold D2; rw [if_neg h0, if_neg h1]
      rw [e] at hO ⊢
      rw [if_neg h0, if_neg h1, (E5 (dM x) rfl hO).eq]
      refine Eq.trans ?_ (sma_sum x h (by omega)).symm
      simp only [dM, b2_F]
      simp only [F_5_4, F_3_1, F_19_1, F_15_1, F_10_2, F_12_3, F_2_2, F_16_1, F_17_1, F_4_1, F_20_4, F_9_1, F_4_2, F_10_1, F_11_1, F_6_3, F_0_1, F_18_1]
      obtain ⟨p1, p2⟩ := apn (x / 512 % 2) (x / 16 % 4) (by omega) (by omega)
      obtain ⟨q1, q2, q3⟩ := btn (x / 64 % 8) (x / 4 % 4) (x / 1024 % 2) (by omega) (by omega) (by omega)
      have r1 : x / 4096 * 4096 % 4294967296 / 4096 = x / 4096 := by omega
      rw [p1, p2, q1, q2, q3, r1, Int.ediv_one]
end Go.Proofs.YtnjlajjjcmhfgaaGreatDoor
