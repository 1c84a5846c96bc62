import Derived.Test.YtmodcbdgnmjkoabDoorEa
namespace Go.Proofs.YtmodcbdgnmjkoabDoor
open Go.RowKit
open Mm (Turn gr PM valV errV Byts setV wrs byt num)
set_option linter.unusedVariables false
set_option linter.unusedSimpArgs false
theorem rdL_none {M : Mo} {c : Ctx} {va : Int} (h : rdL M c va = []) : c.on = false ∨ fO c va = false := by
  cases hon : c.on
  · exact .inl rfl
  · cases hO : fO c va
    · exact .inr rfl
    · unfold rdL at h
      rw [if_pos hon] at h
      split at h <;> simp [r1, hO] at h
theorem rdL_off {M : Mo} {c : Ctx} {va : Int} (h : c.on = false ∨ fO c va = false) : rdL M c va = [] := by
  cases hon : c.on
  · simp [rdL, hon]
  · have hO : fO c va = false := by rcases h with h | h; rw [hon] at h; cases h; exact h
    have h1 : w1 M c va = (dZ, ⟨3, 0, 0⟩) := by simp [w1, hO]
    simp [rdL, hon, h1, r1, hO]
/-- The last descriptor that is read is 0 now. -/
theorem edit_zero1 {N : Nat} {m : Nat → Int} {c : Ctx} {va : Int} (hon : c.on = true) (hO : fO c va = true) (hf : 0 ≤ fA c va) (he : errV N (fA c va) 4 = 0) : wk (ramMo N (putM N m (fA c va) 0)) c va = (tZ, ⟨3, 0, 0⟩) := by
  have hw : (ramMo N (putM N m (fA c va) 0)).wd (fA c va) = 0 := putM_same hf he (by omega) (by omega)
  have hr : (ramMo N (putM N m (fA c va) 0)).er (fA c va) = 0 := he
  have h1 : w1 (ramMo N (putM N m (fA c va) 0)) c va = (dZ, ⟨3, 0, 0⟩) := by
    unfold w1
    rw [if_pos hO, if_pos hr, hw, D1_0]
    rfl
  unfold wk
  rw [if_pos hon, h1]
  rfl
theorem edit_zero2 {N : Nat} {m : Nat → Int} {c : Ctx} {va : Int} (hB : Byts m) (hc : c.Ok) (hv : 0 ≤ va ∧ va < 4294967296) (hon : c.on = true) (hk : (w1 (ramMo N m) c va).2.k = 0) (h1 : (w1 (ramMo N m) c va).1.kind = 1)
    (hn : fA c va ≠ sA (w1 (ramMo N m) c va).1 va) (he : errV N (sA (w1 (ramMo N m) c va).1 va) 4 = 0) : ∃ d, wk (ramMo N (putM N m (sA (w1 (ramMo N m) c va).1 va) 0)) c va = (tZ, ⟨5, 0, d⟩) := by
  obtain ⟨ho, hef, hw, hz⟩ := w1_kind hk
  have hf := fA_rng c va hc hv
  rw [hw] at h1 hn he ⊢
  dsimp only at h1 hn he ⊢
  have hs := sA_rng (ramMo_ok (N := N) hB (fA c va)) h1 hv.1
  generalize hS : sA (D1 ((ramMo N m).wd (fA c va))) va = s at *
  have hw1 : w1 (ramMo N (putM N m s 0)) c va = w1 (ramMo N m) c va := by
    unfold w1
    rw [putM_er, putM_other hs.1 hf.1 (fun e => hn e.symm)]
  have hws : (ramMo N (putM N m s 0)).wd s = 0 := putM_same hs.1 he (by omega) (by omega)
  have hrs : (ramMo N (putM N m s 0)).er s = 0 := he
  unfold wk
  rw [if_pos hon, hw1, hw, if_pos (show fZ.k = 0 from rfl)]
  dsimp only
  rw [if_pos h1]
  unfold w2
  rw [hS, if_pos hrs, hws, D2_0]
  exact ⟨_, rfl⟩
theorem d1_sec : D1 3074 = ⟨2, 0, 0, false, 3, 0, false, false⟩ := by
  unfold D1
  rw [if_neg (by decide), if_pos (by decide), if_neg (by decide)]
  rfl
theorem tr_sec (va : Int) : trF ⟨2, 0, 0, false, 3, 0, false, false⟩ 0 va = ⟨3, va / 1048576 * 1048576, 0, 0, 3, 0, false, false⟩ := by
  have hs : sb ⟨2, 0, 0, false, 3, 0, false, false⟩ = true := by
    have h := DED1 3074 (by omega)
    rw [d1_sec] at h
    unfold sb
    rw [if_pos (.inl rfl), Ent.same_iff]
    exact h
  unfold trF
  rw [if_pos ⟨hs, by decide, by decide⟩]
  rfl
/-- The first-level descriptor says a section at 0. -/
theorem edit_sec {N : Nat} {m : Nat → Int} {c : Ctx} {va : Int} (hon : c.on = true) (hO : fO c va = true) (hf : 0 ≤ fA c va) (he : errV N (fA c va) 4 = 0) : wk (ramMo N (putM N m (fA c va) 3074)) c va = (⟨3, va / 1048576 * 1048576, 0, 0, 3, 0, false, false⟩, fZ) := by
  have hw : (ramMo N (putM N m (fA c va) 3074)).wd (fA c va) = 3074 := putM_same hf he (by omega) (by omega)
  have hr : (ramMo N (putM N m (fA c va) 3074)).er (fA c va) = 0 := he
  have h1 : w1 (ramMo N (putM N m (fA c va) 3074)) c va = (⟨2, 0, 0, false, 3, 0, false, false⟩, fZ) := by
    unfold w1
    rw [if_pos hO, if_pos hr, hw, d1_sec]
    rfl
  unfold wk
  rw [if_pos hon, h1, if_pos (show fZ.k = 0 from rfl), if_neg (show ¬ (2 : Int) = 1 by decide), tr_sec]
end Go.Proofs.YtmodcbdgnmjkoabDoor
