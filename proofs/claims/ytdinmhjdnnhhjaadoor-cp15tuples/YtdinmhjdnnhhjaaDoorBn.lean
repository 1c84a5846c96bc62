import Derived.Test.YtdinmhjdnnhhjaaDoorBa
namespace Go.Proofs.YtdinmhjdnnhhjaaDoor
open Go.RowKit
set_option linter.unusedVariables false
/-- A tuple. -/
structure Tu where
  a : Int
  b : Int
  c : Int
  d : Int
def Tu.same (x y : Tu) : Bool := x.a == y.a && (x.b == y.b && (x.c == y.c && x.d == y.d))
theorem Tu.same_iff (x y : Tu) : x.same y = true ↔ x = y := by
  obtain ⟨a, b, c, d⟩ := x
  obtain ⟨a', b', c', d'⟩ := y
  simp [Tu.same]
theorem Tu.same_self (x : Tu) : x.same x = true := (Tu.same_iff x x).2 rfl
theorem Tu.same_comm (x y : Tu) : x.same y = y.same x := by
  cases h : x.same y
  · cases h2 : y.same x
    · rfl
    · rw [(Tu.same_iff y x).1 h2, Tu.same_self] at h; cases h
  · rw [(Tu.same_iff x y).1 h, Tu.same_self]
/-- A register. -/
structure Rg where
  t : Tu
  kept : Nat
  start : Nat
  ctx : Bool
def lRg : List Rg := [⟨⟨1, 0, 0, 0⟩, 805306369, 0, true⟩, ⟨⟨2, 0, 0, 0⟩, 4294967168, 0, true⟩, ⟨⟨2, 0, 0, 1⟩, 4294950912, 0, true⟩, ⟨⟨2, 0, 0, 2⟩, 55, 0, true⟩, ⟨⟨3, 0, 0, 0⟩, 4294967295, 0, true⟩, ⟨⟨5, 0, 0, 0⟩, 7423, 0, false⟩, ⟨⟨5, 0, 0, 1⟩, 5135, 0, false⟩, ⟨⟨6, 0, 0, 0⟩, 4294967295, 0, false⟩, ⟨⟨6, 0, 0, 2⟩, 4294967295, 0, false⟩, ⟨⟨7, 0, 4, 0⟩, 4294967295, 0, false⟩, ⟨⟨10, 0, 2, 0⟩, 4279238655, 625316, true⟩, ⟨⟨10, 0, 2, 1⟩, 4294967295, 1155549408, true⟩, ⟨⟨13, 0, 0, 1⟩, 4294967295, 0, true⟩]
def rg (k : Nat) : Rg := lRg.getD k ⟨⟨0, 0, 0, 0⟩, 0, 0, false⟩
def rgV (r : Rg) : List Value := [.int .i64 r.t.a, .int .i64 r.t.b, .int .i64 r.t.c, .int .i64 r.t.d, .int .u32 (r.kept : Nat), .int .u32 (r.start : Nat), .bool r.ctx]
def rgL : List Value := lRg.flatMap rgV
theorem rg_at (k : Nat) (h : k < 13) : lRg[k]? = some (rg k) := by
  have : k < lRg.length := h
  simp [rg, List.getD, this]
theorem upto13 (k : Nat) (h : k < 13) : k = 0 ∨ k = 1 ∨ k = 2 ∨ k = 3 ∨ k = 4 ∨ k = 5 ∨ k = 6 ∨ k = 7 ∨ k = 8 ∨ k = 9 ∨ k = 10 ∨ k = 11 ∨ k = 12 := by omega
theorem rgL_at (k l : Nat) (h : k < 13) (hl : l < 7) : rgL[k * 7 + l]? = (rgV (rg k))[l]? := by
  rcases upto13 k h with rfl | rfl | rfl | rfl | rfl | rfl | rfl | rfl | rfl | rfl | rfl | rfl | rfl <;> rcases (show l = 0 ∨ l = 1 ∨ l = 2 ∨ l = 3 ∨ l = 4 ∨ l = 5 ∨ l = 6 by omega) with rfl | rfl | rfl | rfl | rfl | rfl | rfl <;> rfl
theorem rg_kept (k : Nat) : (rg k).kept < 4294967296 := by
  by_cases h : k < 13
  · rcases upto13 k h with rfl | rfl | rfl | rfl | rfl | rfl | rfl | rfl | rfl | rfl | rfl | rfl | rfl <;> decide
  · have : ¬ k < lRg.length := h
    simp [rg, List.getD, this]
theorem rg_start (k : Nat) : (rg k).start < 4294967296 := by
  by_cases h : k < 13
  · rcases upto13 k h with rfl | rfl | rfl | rfl | rfl | rfl | rfl | rfl | rfl | rfl | rfl | rfl | rfl <;> decide
  · have : ¬ k < lRg.length := h
    simp [rg, List.getD, this]
/-- The kept bits of a word. -/
def keepW (r x : Nat) : Nat := x &&& (rg r).kept
theorem keepW_lt (r x : Nat) (h : x < 4294967296) : keepW r x < 4294967296 := by
  unfold keepW
  exact Nat.lt_of_le_of_lt Nat.and_le_left h
theorem keepW_and (r x : Nat) : keepW r x &&& x = keepW r x := by
  unfold keepW
  rw [Nat.and_comm x, Nat.and_assoc, Nat.and_self]
theorem keepW_twice (r x : Nat) : keepW r (keepW r x) = keepW r x := by
  unfold keepW
  rw [Nat.and_assoc, Nat.and_self]
theorem keepW_zero (r : Nat) : keepW r 0 = 0 := by unfold keepW; exact Nat.zero_and _
theorem keepW_all (r : Nat) : keepW r 4294967295 = (rg r).kept := by
  unfold keepW
  rw [Nat.and_comm, show (4294967295 : Nat) = 2 ^ 32 - 1 from rfl, Nat.and_two_pow_sub_one_eq_mod]
  exact Nat.mod_eq_of_lt (rg_kept r)
/-- The table of registers lies in its place. -/
def TR (w : World) : Prop := w.rangeAt 0 0 rgL
theorem TR.lt {w : World} (h : TR w) : 0 < w.heap.size := by
  have := h 0 (.int .i64 1) rfl
  exact cell_lt this
theorem TR.below {w w' : World} (h : TR w) (hb : Below w.heap.size w w') : TR w' := fun j v hv => (hb.cell (p := ⟨0, 0 + j, none⟩) h.lt).trans (h j v hv)
theorem TR.turn {S : Nat → Prop} {w w' : World} (h : TR w) (hb : Turn S w w') (hn : ¬ S 0) : TR w' := fun j v hv => (World.cell?_of_block (w := w) (hb.block 0 h.lt hn)).trans (h j v hv)
theorem TR.cell {w : World} (h : TR w) {k l : Nat} (hk : k < 13) (hl : l < 7) : w.cell? ⟨0, k * 7 + l, none⟩ = (rgV (rg k))[l]? := by
  have e := rgL_at k l hk hl
  obtain ⟨v, hv⟩ : ∃ v, (rgV (rg k))[l]? = some v := ⟨_, List.getElem?_eq_getElem (by simpa [rgV] using hl)⟩
  rw [hv] at e ⊢
  have := h _ _ e
  rwa [Nat.zero_add] at this
theorem TR.ne {t : TypeId} {w : World} {b : Nat} {F : List Nat} (h : TR w) (f : Fi t w b F) : b ≠ 0 := by
  rintro rfl
  have h1 := h 13 (.bool true) rfl
  rw [f.row.cell, List.getElem?_eq_none (by rw [encF_len, f.len]; omega)] at h1
  cases h1
/-- The register of a tuple. -/
def nR : List Rg → Nat → Tu → Option Nat
  | [], _, _ => none
  | g :: l, k, t => if g.t.same t = true then some k else nR l (k + 1) t
def regOf (t : Tu) : Option Nat := nR lRg 0 t
theorem nR_at (k : Nat) (hk : k < 13) (t : Tu) : nR (lRg.drop k) k t = if (rg k).t.same t = true then some k else nR (lRg.drop (k + 1)) (k + 1) t := by
  have h1 : k < lRg.length := hk
  have h2 : lRg[k] = rg k := by
    have := rg_at k hk
    simpa [h1] using this
  rw [List.drop_eq_getElem_cons h1, h2, nR]
theorem nR_lt : ∀ (l : List Rg) (k : Nat) (t : Tu) (r : Nat), nR l k t = some r → k ≤ r ∧ r < k + l.length
  | [], _, _, _, h => by cases h
  | g :: l, k, t, r, h => by
    rw [nR] at h
    split at h
    · injection h with h
      simp only [List.length_cons]; omega
    · have := nR_lt l (k + 1) t r h
      simp only [List.length_cons]; omega
theorem regOf_lt {t : Tu} {r : Nat} (h : regOf t = some r) : r < 13 := by
  have := (nR_lt _ _ _ _ h).2
  have e : lRg.length = 13 := rfl
  omega
/-- What an operation does, by a number: 0 to 3 drops, 4 to 7 asks, 8 a barrier. -/
def lOp : List (Tu × Nat) := [(⟨8, 0, 3, 0⟩, 0), (⟨8, 0, 5, 0⟩, 0), (⟨8, 0, 6, 0⟩, 0), (⟨8, 0, 7, 0⟩, 0), (⟨8, 0, 3, 1⟩, 1), (⟨8, 0, 5, 1⟩, 1), (⟨8, 0, 6, 1⟩, 1), (⟨8, 0, 7, 1⟩, 1), (⟨8, 0, 3, 2⟩, 2), (⟨8, 0, 5, 2⟩, 2), (⟨8, 0, 6, 2⟩, 2), (⟨8, 0, 7, 2⟩, 2), (⟨8, 0, 3, 3⟩, 3), (⟨8, 0, 7, 3⟩, 3), (⟨7, 0, 8, 0⟩, 4), (⟨7, 0, 8, 1⟩, 5), (⟨7, 0, 8, 2⟩, 6), (⟨7, 0, 8, 3⟩, 7), (⟨7, 0, 5, 4⟩, 8), (⟨7, 0, 10, 4⟩, 8), (⟨7, 0, 10, 5⟩, 8)]
def nO : List (Tu × Nat) → Tu → Option Nat
  | [], _ => none
  | g :: l, t => if g.1.same t = true then some g.2 else nO l t
def opOf (t : Tu) : Option Nat := nO lOp t
def op (k : Nat) : Tu × Nat := lOp.getD k (⟨0, 0, 0, 0⟩, 0)
theorem nO_at (k : Nat) (hk : k < 21) (t : Tu) : nO (lOp.drop k) t = if (op k).1.same t = true then some (op k).2 else nO (lOp.drop (k + 1)) t := by
  have h1 : k < lOp.length := hk
  have h2 : lOp[k] = op k := by simp [op, List.getD, h1]
  rw [List.drop_eq_getElem_cons h1, h2, nO]
theorem nO_mem : ∀ (l : List (Tu × Nat)) (t : Tu) (c : Nat), nO l t = some c → (t, c) ∈ l
  | [], _, _, h => by cases h
  | g :: l, t, c, h => by
    rw [nO] at h
    split at h
    · rename_i hs
      injection h with h
      have := (Tu.same_iff _ _).1 hs
      subst h
      subst this
      exact List.mem_cons_self
    · exact List.mem_cons_of_mem _ (nO_mem l t c h)
/-- What is done. -/
structure Ac where
  k : Int
  tk : Int
  tva : Nat
  tas : Nat
  va : Nat
  us : Bool
  st : Bool
def aZ : Ac := ⟨0, 0, 0, 0, 0, false, false⟩
def aReg : Ac := ⟨1, 0, 0, 0, 0, false, false⟩
def pg (x : Nat) : Nat := x / 4096 * 4096
def actD (c x : Nat) : Ac :=
  match c with
  | 0 => ⟨2, 1, 0, 0, 0, false, false⟩
  | 1 => ⟨2, 2, pg x, x % 256, 0, false, false⟩
  | 2 => ⟨2, 3, 0, x % 256, 0, false, false⟩
  | 3 => ⟨2, 4, pg x, 0, 0, false, false⟩
  | 4 => ⟨3, 0, 0, 0, pg x, false, false⟩
  | 5 => ⟨3, 0, 0, 0, pg x, false, true⟩
  | 6 => ⟨3, 0, 0, 0, pg x, true, false⟩
  | 7 => ⟨3, 0, 0, 0, pg x, true, true⟩
  | _ => aZ
/-- What a write answers, and what the file holds then. -/
def setF (F : List Nat) (r : Nat) (priv : Bool) (x : Nat) : Ac × Nat × List Nat :=
  if priv then (if (rg r).ctx then aReg else aZ, 0, F.set r (keepW r x)) else (aZ, 81, F)
def wrF (F : List Nat) (t : Tu) (priv : Bool) (x : Nat) : Ac × Nat × List Nat :=
  match regOf t with
  | some r => setF F r priv x
  | none => match opOf t with
    | none => (aZ, 80, F)
    | some c => if priv || c == 8 then (actD c x, 0, F) else (aZ, 81, F)
def rdF (F : List Nat) (t : Tu) (priv : Bool) : Nat × Nat :=
  match regOf t with
  | some r => if priv then (F.getD r 0, 0) else (0, 81)
  | none => (0, 80)
/-- The numbers that are a register's. -/
def isR (r : Int) : Bool := decide (0 ≤ r) && decide (r < 13)
theorem isR_iff (r : Int) : isR r = true ↔ 0 ≤ r ∧ r < 13 := by simp [isR]
def gtF (F : List Nat) (r : Int) : Nat × Nat := if isR r then (F.getD r.toNat 0, 0) else (0, 1)
def ptE (r : Int) : Nat := if isR r then 0 else 1
def ptF (F : List Nat) (r : Int) (x : Nat) : List Nat := if isR r then F.set r.toNat (keepW r.toNat x) else F
/-- A context. -/
structure Ctx where
  on : Bool
  tre : Bool
  afe : Bool
  n : Nat
  pd0 : Bool
  pd1 : Bool
  b0 : Nat
  b1 : Nat
  dacr : Nat
  prrr : Nat
  nmrr : Nat
  asid : Nat
def bitB (x k : Nat) : Bool := x / 2 ^ k % 2 == 1
def ctF (F : List Nat) : Ctx :=
  ⟨bitB (F.getD 0 0) 0, bitB (F.getD 0 0) 28, bitB (F.getD 0 0) 29, F.getD 3 0 % 8, bitB (F.getD 3 0) 4, bitB (F.getD 3 0) 5, F.getD 1 0 / 2 ^ (14 - F.getD 3 0 % 8) * 2 ^ (14 - F.getD 3 0 % 8), F.getD 2 0, F.getD 4 0, F.getD 10 0, F.getD 11 0, F.getD 12 0 % 256⟩
/-- A file at the start. -/
def fZ : List Nat := lRg.map (·.start)
/-- Numbers. -/
theorem and_page (x : Nat) (h : x < 4294967296) : x &&& 4294963200 = pg x := by
  unfold pg
  apply Nat.eq_of_testBit_eq
  intro i
  rw [Nat.testBit_and, show (4294963200 : Nat) = (2 ^ 20 - 1) <<< 12 from rfl, show x / 4096 * 4096 = (x >>> 12) <<< 12 by rw [Nat.shiftLeft_eq, Nat.shiftRight_eq_div_pow], Nat.testBit_shiftLeft, Nat.testBit_shiftLeft, Nat.testBit_shiftRight, Nat.testBit_two_pow_sub_one]
  by_cases h12 : 12 ≤ i
  · by_cases h32 : i < 32
    · simp [h12, show i - 12 < 20 by omega, show 12 + (i - 12) = i by omega]
    · have : x.testBit i = false := Nat.testBit_lt_two_pow (Nat.lt_of_lt_of_le h (by rw [show (4294967296 : Nat) = 2 ^ 32 from rfl]; exact Nat.pow_le_pow_right (by omega) (by omega)))
      simp [this, show 12 + (i - 12) = i by omega]
  · simp [h12]
theorem and_page_u (x : Nat) (h : x < 4294967296) : bits .and .u32 (x : Int) 4294963200 = ((pg x : Nat) : Int) := by
  rw [← and_page x h]
  exact u32_and_nat x 4294963200 h (by decide)
theorem and_255_u (x : Nat) (h : x < 4294967296) : bits .and .u32 (x : Int) 255 = ((x % 256 : Nat) : Int) := by
  rw [← nat_mask8]
  exact u32_and_nat x 255 h (by decide)
theorem and_7_u (x : Nat) (h : x < 4294967296) : bits .and .u32 (x : Int) 7 = ((x % 8 : Nat) : Int) := by
  rw [← nat_mask3]
  exact u32_and_nat x 7 h (by decide)
theorem and_1_u (x : Nat) (h : x < 4294967296) : bits .and .u32 (x : Int) 1 = ((x % 2 : Nat) : Int) := by
  rw [← nat_mask1]
  exact u32_and_nat x 1 h (by decide)
theorem and_kept_u (r x : Nat) (h : x < 4294967296) : bits .and .u32 (x : Int) ((rg r).kept : Nat) = ((keepW r x : Nat) : Int) := u32_and_nat x _ h (rg_kept r)
theorem pg_lt (x : Nat) (h : x < 4294967296) : pg x < 4294967296 := by unfold pg; omega
end Go.Proofs.YtdinmhjdnnhhjaaDoor
