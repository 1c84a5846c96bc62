import Derived.Test.YtmodcbdgnmjkoabDoorWg
namespace Go.Proofs.YtmodcbdgnmjkoabDoor
open Go.RowKit
open Mm (Turn gr PM valV errV Byts setV wrs byt num)
set_option linter.unusedVariables false
set_option linter.unusedSimpArgs false
/-! ### A word is put: what is read of it, and beside it -/
theorem wrs_out (m : Nat → Int) (a : Nat) (l : List Int) {x : Nat} (h : x < a ∨ a + l.length ≤ x) : wrs m a l x = m x := by
  unfold wrs
  rw [if_neg (by omega)]
theorem wrs_in (m : Nat → Int) (a : Nat) (l : List Int) {i : Nat} (h : i < l.length) : wrs m a l (a + i) = l.getD i 0 := by
  unfold wrs
  rw [if_pos (by omega), show a + i - a = i by omega]
theorem num_same (m : Nat → Int) (a : Nat) (v : Int) (h0 : 0 ≤ v) (h1 : v < 4294967296) : num (wrs m a (byt v 4)) a 4 = v := by
  have hl : (byt v 4).length = 4 := Mm.byt_len v 4
  have e0 := wrs_in m a (byt v 4) (i := 0) (by omega)
  have e1 := wrs_in m a (byt v 4) (i := 1) (by omega)
  have e2 := wrs_in m a (byt v 4) (i := 2) (by omega)
  have e3 := wrs_in m a (byt v 4) (i := 3) (by omega)
  rw [Mm.num4]
  rw [Nat.add_zero] at e0
  rw [e0, e1, e2, e3, Mm.byt4]
  simp
  omega
theorem num_other (m : Nat → Int) (a b : Nat) (v : Int) (ha : a % 4 = 0) (hb : b % 4 = 0) (hn : a ≠ b) : num (wrs m a (byt v 4)) b 4 = num m b 4 := by
  have hl : (byt v 4).length = 4 := Mm.byt_len v 4
  rw [Mm.num4, Mm.num4, wrs_out _ _ _ (by omega), wrs_out _ _ _ (by omega), wrs_out _ _ _ (by omega), wrs_out _ _ _ (by omega)]
theorem er_ok {N : Nat} {a : Int} (h : errV N a 4 = 0) : a % 4 = 0 := by
  unfold errV at h
  split at h
  · cases h
  · rename_i h1
    omega
/-- The memory with a word put. -/
def putM (N : Nat) (m : Nat → Int) (a v : Int) : Nat → Int := setV N m a.toNat 4 v
theorem putM_no {N : Nat} {m : Nat → Int} {a v : Int} (h0 : 0 ≤ a) (h : errV N a 4 ≠ 0) : putM N m a v = m := by
  unfold putM setV
  rw [Int.toNat_of_nonneg h0, if_neg h]
theorem putM_er {N : Nat} {m : Nat → Int} {a v b : Int} : (ramMo N (putM N m a v)).er b = (ramMo N m).er b := rfl
theorem putM_same {N : Nat} {m : Nat → Int} {a v : Int} (h0 : 0 ≤ a) (h : errV N a 4 = 0) (hv0 : 0 ≤ v) (hv1 : v < 4294967296) : (ramMo N (putM N m a v)).wd a = v := by
  show valV N (putM N m a v) a.toNat 4 = v
  unfold putM setV valV
  rw [Int.toNat_of_nonneg h0, if_pos h, if_pos h]
  exact num_same m a.toNat v hv0 hv1
theorem putM_other {N : Nat} {m : Nat → Int} {a v b : Int} (ha : 0 ≤ a) (hb : 0 ≤ b) (hn : a ≠ b) : (ramMo N (putM N m a v)).wd b = (ramMo N m).wd b := by
  by_cases h : errV N a 4 = 0
  · show valV N (putM N m a v) b.toNat 4 = valV N m b.toNat 4
    unfold putM setV valV
    rw [Int.toNat_of_nonneg ha, if_pos h, Int.toNat_of_nonneg hb]
    by_cases hb4 : errV N b 4 = 0
    · rw [if_pos hb4, if_pos hb4]
      have h1 := er_ok h
      have h2 := er_ok hb4
      exact num_other m a.toNat b.toNat v (by omega) (by omega) (by omega)
    · rw [if_neg hb4, if_neg hb4]
  · rw [putM_no ha h]
/-- A walk hangs on the words that it reads alone. -/
theorem wk_congr {M M' : Mo} {c : Ctx} {va : Int} (he : ∀ a, M'.er a = M.er a) (hw : ∀ a ∈ rdL M c va, M'.wd a = M.wd a) : wk M' c va = wk M c va ∧ rdL M' c va = rdL M c va := by
  cases hon : c.on
  · simp [wk, rdL, hon]
  · cases hO : fO c va
    · have h1 : ∀ M : Mo, w1 M c va = (dZ, ⟨3, 0, 0⟩) := fun M => by simp [w1, hO]
      simp [wk, rdL, hon, h1, r1, hO]
    · have hm : fA c va ∈ rdL M c va := by
        unfold rdL
        rw [if_pos hon]
        split <;> simp [r1, hO]
      have e1 : w1 M' c va = w1 M c va := by
        unfold w1
        rw [he, hw _ hm]
      unfold wk rdL at *
      rw [if_pos hon] at hw
      rw [if_pos hon, if_pos hon, if_pos hon, if_pos hon, e1]
      by_cases hk : (w1 M c va).2.k = 0
      · by_cases h1 : (w1 M c va).1.kind = 1
        · rw [if_pos ⟨hk, h1⟩] at hw
          have e2 : w2 M' (w1 M c va).1 va = w2 M (w1 M c va).1 va := by
            unfold w2
            rw [he, hw _ (by simp)]
          rw [e2]
          exact ⟨rfl, rfl⟩
        · simp [hk, h1]
      · simp [hk]
/-- The addresses that are read are addresses. -/
theorem rdL_nn {M : Mo} {c : Ctx} {va : Int} (hM : M.Ok) (hc : c.Ok) (hv : 0 ≤ va ∧ va < 4294967296) : ∀ a ∈ rdL M c va, 0 ≤ a ∧ a < 18446744073709551616 := by
  have h1 := fA_rng c va hc hv
  intro a ha
  unfold rdL at ha
  split at ha
  · split at ha
    · rename_i hk
      obtain ⟨ho, he, hw, hz⟩ := w1_kind hk.1
      rw [hw] at ha hk
      have h2 := sA_rng (hM (fA c va)) hk.2 hv.1
      rcases List.mem_append.1 ha with ha | ha
      · unfold r1 at ha
        rw [if_pos ho] at ha
        simp at ha; omega
      · simp at ha
        subst ha
        omega
    · unfold r1 at ha
      split at ha
      · simp at ha; omega
      · simp at ha
  · simp at ha
theorem edit_keep {N : Nat} {m : Nat → Int} {a v : Int} {c : Ctx} {va : Int} (hB : Byts m) (ha : 0 ≤ a) (hc : c.Ok) (hv : 0 ≤ va ∧ va < 4294967296) (hn : a ∉ rdL (ramMo N m) c va) : wk (ramMo N (putM N m a v)) c va = wk (ramMo N m) c va :=
  (wk_congr (M := ramMo N m) (M' := ramMo N (putM N m a v)) (fun _ => rfl) (fun b hb => putM_other ha (rdL_nn (ramMo_ok hB) hc hv b hb).1 (fun e => hn (e ▸ hb)))).1
end Go.Proofs.YtmodcbdgnmjkoabDoor
