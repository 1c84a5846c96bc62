import Derived.Test.YtmodcbdgnmjkoabDoorCx
import Derived.Test.YtmodcbdgnmjkoabDoorFp
import Derived.Test.YtmodcbdgnmjkoabDoorMX
import Derived.Test.YtmodcbdgnmjkoabDoorLz
namespace Go.Proofs.YtmodcbdgnmjkoabDoor
open Go.RowKit
open Mm (Turn gr PM)
set_option linter.unusedVariables false
set_option linter.unusedSimpArgs false

/-- A memory: what an address' word is, and its error. -/
structure Mo where
  wd : Int → Int
  er : Int → Int
/-- Its words are words. -/
def Mo.Ok (M : Mo) : Prop := ∀ a, 0 ≤ M.wd a ∧ M.wd a < 4294967296
def nN (c : Ctx) : Nat := (c.n % 8).toNat
def lw (c : Ctx) (va : Int) : Bool := va / 2 ^ (32 - nN c) == 0
def cl (b : Int) (n : Nat) : Int := b / 2 ^ n * 2 ^ n
/-- Where the first-level descriptor stands; whether walks go there. -/
def fA (c : Ctx) (va : Int) : Int := if lw c va then cl c.b0 (14 - nN c) + 4 * (va / 1048576) else cl c.b1 14 + 4 * (va / 1048576)
def fO (c : Ctx) (va : Int) : Bool := if lw c va then !c.pd0 else !c.pd1
def w1 (M : Mo) (c : Ctx) (va : Int) : Ent × Fa :=
  if fO c va then (if M.er (fA c va) = 0 then (if (D1 (M.wd (fA c va))).kind = 0 then (dZ, ⟨3, 0, 0⟩) else (D1 (M.wd (fA c va)), fZ)) else (dZ, ⟨2, 0, 0⟩)) else (dZ, ⟨3, 0, 0⟩)
def sA (x : Ent) (va : Int) : Int := x.base + 4 * (va / 4096 % 256)
def w2 (M : Mo) (x : Ent) (va : Int) : Tra × Fa :=
  if M.er (sA x va) = 0 then (if (D2 (M.wd (sA x va))).kind = 0 then (tZ, ⟨5, 0, x.dom⟩) else (trF (D2 (M.wd (sA x va))) x.dom va, fZ)) else (tZ, ⟨4, 0, x.dom⟩)
def itF (va : Int) : Tra := ⟨1, va / 4096 * 4096, va / 4096 * 4096, 0, 3, 0, false, false⟩
/-- The walk; what it reads. -/
def wk (M : Mo) (c : Ctx) (va : Int) : Tra × Fa :=
  if c.on then (if (w1 M c va).2.k = 0 then (if (w1 M c va).1.kind = 1 then w2 M (w1 M c va).1 va else (trF (w1 M c va).1 0 va, fZ)) else (tZ, (w1 M c va).2)) else (itF va, fZ)
def r1 (c : Ctx) (va : Int) : List Int := if fO c va then [fA c va] else []
def rdL (M : Mo) (c : Ctx) (va : Int) : List Int :=
  if c.on then (if (w1 M c va).2.k = 0 ∧ (w1 M c va).1.kind = 1 then r1 c va ++ [sA (w1 M c va).1 va] else r1 c va) else []
/-- A context's numbers fit. -/
structure Ctx.Ok (c : Ctx) : Prop where
  n : -9223372036854775808 ≤ c.n ∧ c.n ≤ 9223372036854775807
  b0 : 0 ≤ c.b0 ∧ c.b0 < 18446744073709551616
  b1 : 0 ≤ c.b1 ∧ c.b1 < 18446744073709551616
  dacr : 0 ≤ c.dacr ∧ c.dacr < 4294967296
theorem nN_lt (c : Ctx) : nN c ≤ 7 := by unfold nN; omega
theorem pw_split (n : Nat) (h : n ≤ 7) : (2 : Int) ^ (32 - n) = 2 ^ (14 - n) * 262144 := by
  rw [show 32 - n = (14 - n) + 18 by omega, Int.pow_add]; rfl
theorem pw_mul (n : Nat) (h : n ≤ 14) : (2 : Int) ^ n * 2 ^ (64 - n) = 18446744073709551616 := by
  rw [← Int.pow_add, show n + (64 - n) = 64 by omega]; rfl
theorem cl_le (b : Int) (n : Nat) (h0 : 0 ≤ b) : 0 ≤ cl b n ∧ cl b n ≤ b := by
  have h := pow_pos n
  exact ⟨Int.mul_nonneg (Int.ediv_nonneg h0 (by omega)) (by omega), Int.ediv_mul_le b (by omega)⟩
theorem cl_hi (b : Int) (n : Nat) (hn : n ≤ 14) (h0 : 0 ≤ b) (h : b < 18446744073709551616) : cl b n + 2 ^ n ≤ 18446744073709551616 := by
  have hp := pow_pos n
  have hm := pw_mul n hn
  have h1 : b / 2 ^ n < 2 ^ (64 - n) := by
    refine Int.ediv_lt_of_lt_mul hp ?_
    rw [Int.mul_comm, hm]; exact h
  have h2 : (b / 2 ^ n + 1) * 2 ^ n ≤ 2 ^ (64 - n) * 2 ^ n := Int.mul_le_mul_of_nonneg_right (by omega) (by omega)
  rw [Int.add_mul, Int.one_mul, Int.mul_comm (2 ^ (64 - n)), hm] at h2
  exact h2
theorem lw_idx {c : Ctx} {va : Int} (h0 : 0 ≤ va) (h : lw c va = true) : 4 * (va / 1048576) < 2 ^ (14 - nN c) := by
  have hp := pow_pos (14 - nN c)
  have h1 : va / 2 ^ (32 - nN c) = 0 := by simpa [lw] using h
  have h2 : va < 2 ^ (32 - nN c) := by
    have := Int.lt_ediv_add_one_mul_self va (pow_pos (32 - nN c))
    rw [h1] at this; omega
  rw [pw_split _ (nN_lt c)] at h2
  have h3 : va / 262144 < 2 ^ (14 - nN c) := Int.ediv_lt_of_lt_mul (by decide) h2
  omega
theorem fA_rng (c : Ctx) (va : Int) (hc : c.Ok) (hv : 0 ≤ va ∧ va < 4294967296) : 0 ≤ fA c va ∧ fA c va < 18446744073709551616 := by
  unfold fA
  split
  · rename_i h
    have h1 := cl_le c.b0 (14 - nN c) hc.b0.1
    have h2 := cl_hi c.b0 (14 - nN c) (by omega) hc.b0.1 hc.b0.2
    have h3 := lw_idx hv.1 h
    omega
  · have h1 := cl_le c.b1 14 hc.b1.1
    have h2 := cl_hi c.b1 14 (by omega) hc.b1.1 hc.b1.2
    rw [show (2 : Int) ^ 14 = 16384 from rfl] at h2
    omega
theorem D1_base (x : Int) (h : 0 ≤ x ∧ x < 4294967296) : (D1 x).kind = 1 → 0 ≤ (D1 x).base ∧ (D1 x).base ≤ 4294966272 ∧ (D1 x).base % 1024 = 0 ∧ 0 ≤ (D1 x).dom ∧ (D1 x).dom ≤ 15 := by
  intro hk
  unfold D1 at hk ⊢
  split at hk
  · rename_i h1
    rw [if_pos h1]
    simp only [dT, F_5_4]
    omega
  · split at hk
    · split at hk <;> cases hk
    · cases hk
theorem w1_kind {M : Mo} {c : Ctx} {va : Int} (h : (w1 M c va).2.k = 0) : fO c va = true ∧ M.er (fA c va) = 0 ∧ w1 M c va = (D1 (M.wd (fA c va)), fZ) ∧ (D1 (M.wd (fA c va))).kind ≠ 0 := by
  unfold w1 at h ⊢
  split at h
  · rename_i h1
    split at h
    · rename_i h2
      split at h
      · cases h
      · rename_i h3
        exact ⟨h1, h2, by rw [if_pos h1, if_pos h2, if_neg h3], h3⟩
    · cases h
  · cases h
theorem sA_rng {x va : Int} (hx : 0 ≤ x ∧ x < 4294967296) (hk : (D1 x).kind = 1) (hv : 0 ≤ va) : 0 ≤ sA (D1 x) va ∧ sA (D1 x) va < 4294967296 ∧ sA (D1 x) va % 4 = 0 := by
  have := D1_base x hx hk
  unfold sA
  omega
end Go.Proofs.YtmodcbdgnmjkoabDoor
