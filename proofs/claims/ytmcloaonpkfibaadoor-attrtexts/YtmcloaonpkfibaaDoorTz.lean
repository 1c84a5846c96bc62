import Derived.Test.YtmcloaonpkfibaaDoorRd
import Derived.Lib.IndexMore
namespace Go.Proofs.YtmcloaonpkfibaaDoor
open Go.RowKit
set_option linter.unusedVariables false
set_option linter.unusedSimpArgs false
theorem joinTail_ne (sep : List UInt8) : ∀ (r : List (List UInt8)), r ≠ [] → Lib.joinTail sep r = sep ++ Lib.join r sep
  | [], h => absurd rfl h
  | y :: r, _ => by rw [Lib.join_cons]; simp [Lib.joinTail]
theorem splitK_ne (k : Nat) (s : List UInt8) : Lib.splitK [32] 0 k s ≠ [] := by
  cases k with
  | zero => simp [Lib.splitK]
  | succ k =>
    unfold Lib.splitK
    split <;> simp
theorem join_splitK : ∀ (k : Nat) (s : List UInt8), Lib.join (Lib.splitK [32] 0 k s) [32] = s
  | 0, s => Lib.join_one s _
  | k + 1, s => by
    unfold Lib.splitK
    split
    · exact Lib.join_one s _
    · rename_i h
      rw [Lib.join_cons, joinTail_ne _ _ (splitK_ne _ _), join_splitK k]
      rcases Lib.index_spec s [32] with ⟨h1, _⟩ | ⟨i, h1, h2, h3, _⟩
      · exact absurd (by simp [h1]) h
      · rw [h1]
        have e : s.drop i = 32 :: s.drop (i + 1) := by
          have h4 := h3
          unfold Lib.occAt at h4
          cases hd : s.drop i with
          | nil => rw [hd] at h4; simp at h4
          | cons b l =>
            rw [hd] at h4
            simp at h4
            have hl : s.drop (i + 1) = l := by rw [← List.drop_drop, hd]; rfl
            rw [hl, h4]
        have e2 : (i : Int).toNat = i := by omega
        rw [e2]
        simp only [Nat.add_zero, List.length_cons, List.length_nil, Nat.zero_add, List.singleton_append]
        rw [← e]
        exact List.take_append_drop i s
theorem jn_ws (s : ByteArray) : jn (wsOf s) = s := by
  unfold jn wsOf
  rw [Lib.splitB_data]
  rw [show (⟨#[32]⟩ : ByteArray).data.toList = [32] from rfl, join_splitK]
/-- Words of a table. -/
theorem nO_range : ∀ (l : List ByteArray) (k : Int) (x : ByteArray), 0 ≤ k → nO l k x = -1 ∨ (k ≤ nO l k x ∧ nO l k x < k + l.length)
  | [], k, x, _ => .inl rfl
  | a :: r, k, x, hk => by
    unfold nO
    split
    · right; simp; omega
    · rcases nO_range r (k + 1) x (by omega) with h | ⟨h1, h2⟩
      · exact .inl h
      · right; simp only [List.length_cons]; omega
theorem cw_nO (x : ByteArray) (h : 0 ≤ nO lCaches 0 x) : cw (nO lCaches 0 x) = x := by
  unfold lCaches at *
  simp only [nO] at *
  repeat' split
  all_goals first | (rename_i h1; exact h1) | skip
  all_goals simp_all [cw]
theorem sw_nO (x : ByteArray) (h : 0 ≤ nO lShares 0 x) : sw (nO lShares 0 x) = x := by
  unfold lShares at *
  simp only [nO] at *
  repeat' split
  all_goals simp_all [sw]
theorem rd_ok {s : ByteArray} {m : Mem} (h : rd s = (0, m)) : K m ∧ tx m = s := by
  unfold rd at h
  by_cases hk : K (kW (wsOf s))
  · rw [if_pos hk] at h
    obtain rfl : kW (wsOf s) = m := congrArg Prod.snd h
    refine ⟨hk, ?_⟩
    have hj := jn_ws s
    generalize wsOf s = L at *
    match L, hk, hj with
    | [a], hk, hj =>
      by_cases ha : a = wStrong
      · rw [show kW [a] = ⟨0, 0, 0, 2⟩ from if_pos ha]
        rw [ha] at hj
        exact hj
      · rw [show kW [a] = mZ from if_neg ha] at hk
        exact absurd hk K_zero
    | [a, b], hk, hj =>
      by_cases ha : a = wDevice
      · rw [show kW [a, b] = ⟨1, 0, 0, nO lShares 0 b⟩ from if_pos ha] at hk ⊢
        have hb : 0 ≤ nO lShares 0 b := by
          rcases hk with ⟨h1, _⟩ | ⟨_, _, _, h2, _⟩ | ⟨h1, _⟩
          · exact absurd h1 (by simp)
          · exact h2
          · exact absurd h1 (by simp)
        show jn [wDevice, sw (nO lShares 0 b)] = s
        rw [sw_nO b hb, ← ha]
        exact hj
      · rw [show kW [a, b] = mZ from if_neg ha] at hk
        exact absurd hk K_zero
    | [a, b, c, d], hk, hj =>
      by_cases ha : a = wNormal
      · rw [show kW [a, b, c, d] = ⟨2, nO lCaches 0 b, nO lCaches 0 c, nO lShares 0 d⟩ from if_pos ha] at hk ⊢
        obtain ⟨hb, hc, hd⟩ : 0 ≤ nO lCaches 0 b ∧ 0 ≤ nO lCaches 0 c ∧ 0 ≤ nO lShares 0 d := by
          rcases hk with ⟨h1, _⟩ | ⟨h1, _⟩ | ⟨_, h2, _, h3, _, h4, _⟩
          · exact absurd h1 (by simp)
          · exact absurd h1 (by simp)
          · exact ⟨h2, h3, h4⟩
        show jn [wNormal, cw (nO lCaches 0 b), cw (nO lCaches 0 c), sw (nO lShares 0 d)] = s
        rw [cw_nO b hb, cw_nO c hc, sw_nO d hd, ← ha]
        exact hj
      · rw [show kW [a, b, c, d] = mZ from if_neg ha] at hk
        exact absurd hk K_zero
    | [], hk, _ => exact absurd hk K_zero
    | [a, b, c], hk, _ => exact absurd hk K_zero
    | a :: b :: c :: d :: e :: r, hk, _ => exact absurd hk K_zero
  · rw [if_neg hk] at h
    exact absurd (congrArg Prod.fst h) (by simp)
theorem rd_tx {m : Mem} (h : K m) : rd (tx m) = (0, m) := by
  obtain ⟨t, i, o, s⟩ := m
  rcases h with ⟨rfl, rfl, rfl, rfl⟩ | ⟨rfl, rfl, rfl, a, b⟩ | ⟨rfl, a, b, c, d, e, f⟩
  · kernel_rfl
  · simp only at a b
    rcases (show s = 0 ∨ s = 1 ∨ s = 2 by omega) with rfl | rfl | rfl <;> kernel_rfl
  · simp only at a b c d e f
    rcases (show i = 0 ∨ i = 1 ∨ i = 2 ∨ i = 3 by omega) with rfl | rfl | rfl | rfl <;> rcases (show o = 0 ∨ o = 1 ∨ o = 2 ∨ o = 3 by omega) with rfl | rfl | rfl | rfl <;> rcases (show s = 0 ∨ s = 1 ∨ s = 2 by omega) with rfl | rfl | rfl <;> kernel_rfl
theorem rd_err (s : ByteArray) : (rd s).1 = 0 ∨ rd s = (62, mZ) := by
  unfold rd
  split
  · exact .inl rfl
  · exact .inr rfl
theorem tx_size {m : Mem} : (tx m).size < 4294967281 := by
  have := wd_len m
  have e : (tx m).size = (Lib.join ((wd m).map (·.data.toList)) [32]).length := by
    show (List.toArray _).size = _
    simp
  omega
end Go.Proofs.YtmcloaonpkfibaaDoor
