import Derived.Test.YtlfgnbjioofplaaBi
namespace Go.Proofs.Ytlfgnbjioofplaa
open Go.RowKit
set_option linter.unusedVariables false

theorem clear_nat (n k x : Nat) (hk : k ≤ n) (hx : x < 2 ^ n) : x &&& (2 ^ n - (2 ^ k - 1 + 1)) = 2 ^ k * (x / 2 ^ k) := by
  have hlt : 2 ^ k - 1 < 2 ^ n := by
    have h1 : 2 ^ k ≤ 2 ^ n := Nat.pow_le_pow_right (by omega) hk
    have h3 : 0 < 2 ^ k := Nat.two_pow_pos k
    omega
  apply Nat.eq_of_testBit_eq
  intro j
  rw [Nat.testBit_and, Nat.testBit_two_pow_sub_succ hlt, Nat.testBit_two_pow_mul, Nat.testBit_two_pow_sub_one]
  have hxj : x.testBit j = (decide (j < n) && x.testBit j) := by
    by_cases hj : j < n
    · simp [hj]
    · have : x.testBit j = false := Nat.testBit_lt_two_pow (Nat.lt_of_lt_of_le hx (Nat.pow_le_pow_right (by omega) (by omega)))
      simp [hj, this]
  by_cases h1 : j < k
  · have h2 : ¬ k ≤ j := by omega
    simp [h1, h2]
  · have h2 : k ≤ j := by omega
    rw [Nat.testBit_div_two_pow, show j - k + k = j by omega]
    simp [h1, h2]
    intro hb
    rw [hb] at hxj
    simp at hxj
    exact hxj
theorem not_mask (x M k : Nat) (hk : k ≤ 60) (hM : (BitVec.ofInt 64 (M : Int)).toNat = 2 ^ k - 1) (hx : x < 9223372036854775808) : bits BinOp.andNot IntKind.i64 (x : Int) (M : Int) = ((x - x % 2 ^ k : Nat) : Int) := by
  show IntKind.i64.wrap ((BitVec.ofInt 64 (x : Int) &&& ~~~BitVec.ofInt 64 (M : Int)).toNat : Int) = _
  have hp := Nat.two_pow_pos k
  rw [BitVec.toNat_and, BitVec.toNat_not, ofInt_u64 x (by omega), hM, show 2 ^ 64 - 1 - (2 ^ k - 1) = 2 ^ 64 - (2 ^ k - 1 + 1) by omega, clear_nat 64 k x (by omega) (by omega), IntKind.wrap_i64]
  have h1 := Nat.div_add_mod x (2 ^ k)
  have h2 := Nat.mod_lt x hp
  omega
theorem not4095 (x : Nat) (hx : x < 16384) : bits BinOp.andNot IntKind.i64 (x : Int) 4095 = ((x - x % 4096 : Nat) : Int) := not_mask x 4095 12 (by decide) (by decide) (by omega)
theorem not1 (x : Nat) (hx : x < 16384) : bits BinOp.andNot IntKind.i64 (x : Int) 1 = ((x - x % 2 : Nat) : Int) := not_mask x 1 1 (by decide) (by decide) (by omega)
theorem not3 (x : Nat) (hx : x < 16384) : bits BinOp.andNot IntKind.i64 (x : Int) 3 = ((x - x % 4 : Nat) : Int) := not_mask x 3 2 (by decide) (by decide) (by omega)

theorem wrs2 (m : Nat → Int) (b : Nat) (v w : Int) : wrs m b [v, w] = upd (upd m b v) (b + 1) w := by
  rw [show [v, w] = [v] ++ [w] from rfl, wrs_snoc, show [v] = [] ++ [v] from rfl, wrs_snoc, wrs_nil]
  rfl
theorem wrs4 (m : Nat → Int) (b : Nat) (v w x y : Int) : wrs m b [v, w, x, y] = upd (upd (upd (upd m b v) (b + 1) w) (b + 2) x) (b + 3) y := by
  rw [show [v, w, x, y] = [v, w] ++ [x] ++ [y] from rfl, wrs_snoc, wrs_snoc, wrs2]
  rfl
theorem byt2 (v : Int) : byt v 2 = [v % 256, v / 256 % 256] := rfl
theorem half0 {m : Nat → Int} (hm : Byts m) (b : Nat) (v : Int) (hv : 0 ≤ v ∧ v < 256) : wrs m b (byt (256 * (num m b 2 / 256) + v) 2) = upd m b v := by
  have h0 := hm b
  have h1 := hm (b + 1)
  rw [byt2, num2, wrs2]
  funext x
  unfold upd
  split
  · rename_i e; subst e; rw [if_neg (by omega)]; omega
  · split <;> omega
theorem half1 {m : Nat → Int} (hm : Byts m) (b : Nat) (v : Int) (hv : 0 ≤ v ∧ v < 256) : wrs m b (byt (256 * (256 * (num m b 2 / 65536) + v) + num m b 2 % 256) 2) = upd m (b + 1) v := by
  have h0 := hm b
  have h1 := hm (b + 1)
  rw [byt2, num2, wrs2]
  funext x
  unfold upd
  split
  · omega
  · split
    · rename_i e; subst e; omega
    · rfl
theorem word0 {m : Nat → Int} (hm : Byts m) (b : Nat) (v : Int) (hv : 0 ≤ v ∧ v < 256) : wrs m b (byt (256 * (num m b 4 / 256) + v) 4) = upd m b v := by
  have h0 := hm b
  have h1 := hm (b + 1)
  have h2 := hm (b + 2)
  have h3 := hm (b + 3)
  rw [byt4, num4, wrs4]
  funext x
  unfold upd
  split
  · rename_i e; subst e; rw [if_neg (by omega)]; omega
  · split
    · rename_i e; subst e; rw [if_neg (by omega)]; omega
    · split
      · rename_i e; subst e; rw [if_neg (by omega)]; omega
      · split <;> omega
theorem word1 {m : Nat → Int} (hm : Byts m) (b : Nat) (v : Int) (hv : 0 ≤ v ∧ v < 256) : wrs m b (byt (256 * (256 * (num m b 4 / 65536) + v) + num m b 4 % 256) 4) = upd m (b + 1) v := by
  have h0 := hm b
  have h1 := hm (b + 1)
  have h2 := hm (b + 2)
  have h3 := hm (b + 3)
  rw [byt4, num4, wrs4]
  funext x
  unfold upd
  split
  · rename_i e; subst e; rw [if_neg (by omega)]; omega
  · split
    · rename_i e; subst e; rw [if_neg (by omega)]; omega
    · split
      · omega
      · split
        · rename_i e; subst e; omega
        · rfl
theorem word2 {m : Nat → Int} (hm : Byts m) (b : Nat) (v : Int) (hv : 0 ≤ v ∧ v < 256) : wrs m b (byt (65536 * (256 * (num m b 4 / 16777216) + v) + num m b 4 % 65536) 4) = upd m (b + 2) v := by
  have h0 := hm b
  have h1 := hm (b + 1)
  have h2 := hm (b + 2)
  have h3 := hm (b + 3)
  rw [byt4, num4, wrs4]
  funext x
  unfold upd
  split
  · rename_i e; subst e; rw [if_neg (by omega)]; omega
  · split
    · omega
    · split
      · rename_i e; subst e; omega
      · split
        · rename_i e; subst e; omega
        · rfl
theorem word3 {m : Nat → Int} (hm : Byts m) (b : Nat) (v : Int) (hv : 0 ≤ v ∧ v < 256) : wrs m b (byt (16777216 * (256 * (num m b 4 / 4294967296) + v) + num m b 4 % 16777216) 4) = upd m (b + 3) v := by
  have h0 := hm b
  have h1 := hm (b + 1)
  have h2 := hm (b + 2)
  have h3 := hm (b + 3)
  rw [byt4, num4, wrs4]
  funext x
  unfold upd
  split
  · omega
  · split
    · rename_i e; subst e; omega
    · split
      · rename_i e; subst e; omega
      · split
        · rename_i e; subst e; omega
        · rfl

/-- So many zeros laid from a place on. -/
def wz (m : Nat → Int) (a k : Nat) : Nat → Int := fun x => if a ≤ x ∧ x < a + k then 0 else m x
theorem wz_zero (m : Nat → Int) (a : Nat) : wz m a 0 = m := by
  funext x
  unfold wz
  rw [if_neg (by omega)]
theorem wz_next (m : Nat → Int) (a k : Nat) : wz m a (k + 1) = upd (wz m a k) (a + k) 0 := by
  funext x
  simp only [wz, upd]
  by_cases h : x = a + k
  · rw [if_pos h, if_pos (by omega)]
  · rw [if_neg h]
    by_cases h2 : a ≤ x ∧ x < a + k
    · rw [if_pos h2, if_pos (by omega)]
    · rw [if_neg h2, if_neg (by omega)]
theorem wz_all (m : Nat → Int) (f : Nat) : wz m (f * 4096) 4096 = wipe m f := by
  funext x
  unfold wz wipe
  by_cases h : x / 4096 = f
  · rw [if_pos h, if_pos (by omega)]
  · rw [if_neg h, if_neg (by omega)]
theorem rd_upd (m : Nat → Int) (k a : Nat) (v : Int) : rd (upd m a v) 0 k = (rd m 0 k).set a v := by
  apply List.ext_getElem?
  intro j
  by_cases hj : j < k
  · rw [rd_at _ _ _ hj]
    by_cases hjo : j = a
    · subst hjo
      rw [List.getElem?_set_self (by rw [rd_len]; exact hj)]
      simp [upd]
    · rw [List.getElem?_set_ne (by omega), rd_at _ _ _ hj]
      simp only [upd]
      rw [if_neg (by omega)]
  · rw [List.getElem?_eq_none (by rw [rd_len]; omega), List.getElem?_eq_none (by rw [List.length_set, rd_len]; omega)]
theorem encB_set (l : List Int) (a : Nat) (v : Int) : encB (l.set a v) = (encB l).set a (.int .u8 v) := by
  unfold encB
  rw [List.map_set]

/-- A book of bytes. -/
def Bk (W : World) (bk : Nat) (m : Nat → Int) : Prop := RowAt W bk 5 (encB (rd m 0 16384))
theorem Bk.cell {W : World} {bk : Nat} {m : Nat → Int} (h : Bk W bk m) {a : Nat} (ha : a < 16384) : W.cell? ⟨bk, a, none⟩ = some (.int .u8 (m a)) := by
  have := RowAt.cell h a
  rw [this]
  refine encB_at ?_
  rw [rd_at _ _ _ ha, Nat.zero_add]
theorem Bk.upd {W : World} {bk : Nat} {m : Nat → Int} (h : Bk W bk m) (a : Nat) (v : Int) : Bk (W.setCell ⟨bk, a, none⟩ (.int .u8 v)) bk (upd m a v) := by
  have := RowAt.set h a (.int .u8 v)
  rw [← encB_set, ← rd_upd] at this
  exact this
theorem Bk.turn {S : Nat → Prop} {W W' : World} {bk : Nat} {m : Nat → Int} (h : Bk W bk m) (T : Turn S W W') (hn : ¬ S bk) : Bk W' bk m := RowAt.turn h T hn
end Go.Proofs.Ytlfgnbjioofplaa
