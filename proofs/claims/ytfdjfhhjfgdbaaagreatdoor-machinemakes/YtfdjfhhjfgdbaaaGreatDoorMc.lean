import Derived.Test.YtfdjfhhjfgdbaaaGreatDoorMb
import Derived.Laws.BitsAllLaws
namespace Go.Proofs.YtfdjfhhjfgdbaaaGreatDoor
open Go.RowKit
set_option linter.unusedVariables false
set_option linter.unusedSimpArgs false
def encF (F : List Nat) : List Value := F.map fun (x : Nat) => .int .u32 (x : Int)
theorem encF_len (F : List Nat) : (encF F).length = F.length := by simp [encF]
theorem encF_at {F : List Nat} {i x : Nat} (h : F[i]? = some x) : (encF F)[i]? = some (.int .u32 (x : Int)) := by simp [encF, h]
theorem encF_set (F : List Nat) (i x : Nat) : (encF F).set i (.int .u32 (x : Int)) = encF (F.set i x) := by simp [encF, List.map_set]
structure Fi (t : TypeId) (w : World) (b : Nat) (F : List Nat) : Prop where
  row : Bl w b t (encF F)
  len : F.length = 13
  le : ∀ x ∈ F, x < 4294967296
section
variable {t : TypeId} {w w' : World} {b : Nat} {F : List Nat} {S : Nat → Prop}
theorem Fi.lt (h : Fi t w b F) : b < w.heap.size := h.row.lt
theorem Fi.below (h : Fi t w b F) (hb : Below w.heap.size w w') : Fi t w' b F := ⟨h.row.below hb, h.len, h.le⟩
theorem Fi.turn (h : Fi t w b F) (hb : Turn S w w') (hn : ¬ S b) : Fi t w' b F := ⟨h.row.turn hb hn, h.len, h.le⟩
theorem Fi.drew (h : Fi t w b F) : Fi t w.drew b F := ⟨h.row, h.len, h.le⟩
theorem Fi.drewN (h : Fi t w b F) (q : Nat) : Fi t (w.drewN q) b F := ⟨h.row, h.len, h.le⟩
theorem Fi.at (h : Fi t w b F) {r : Nat} (hr : r < 13) : ∃ x, F[r]? = some x ∧ x < 4294967296 ∧ F.getD r 0 = x := by
  have hl := h.len
  refine ⟨F[r], List.getElem?_eq_getElem (by omega), h.le _ (List.getElem_mem _), ?_⟩
  simp [List.getD, show r < F.length by omega]
theorem Fi.get (h : Fi t w b F) {r : Nat} (hr : r < 13) : F[r]? = some (F.getD r 0) := by
  obtain ⟨x, h1, _, h2⟩ := h.at hr
  rw [h2]; exact h1
theorem Fi.lt32 (h : Fi t w b F) (r : Nat) : F.getD r 0 < 4294967296 := by
  by_cases hr : r < 13
  · obtain ⟨x, _, h1, h2⟩ := h.at hr
    rw [h2]; exact h1
  · have hl := h.len
    simp [List.getD, show ¬ r < F.length by omega]
theorem Fi.cell (h : Fi t w b F) {r : Nat} (hr : r < 13) : w.cell? ⟨b, r, none⟩ = some (.int .u32 ((F.getD r 0 : Nat) : Int)) := by
  rw [h.row.cell]
  exact encF_at (h.get hr)
theorem Fi.frozen (h : Fi t w b F) (r : Nat) : w.frozen? ⟨b, r, none⟩ = false := h.row.frozen r
theorem Fi.set (h : Fi t w b F) (r x : Nat) (hx : x < 4294967296) : Fi t (w.setCell ⟨b, r, none⟩ (.int .u32 (x : Int))) b (F.set r x) :=
  ⟨by rw [← encF_set]; exact h.row.set r _, by rw [List.length_set]; exact h.len, fun y hy => by rcases List.mem_or_eq_of_mem_set hy with h1 | h1; exact h.le y h1; rw [h1]; exact hx⟩
theorem Fi.setO (h : Fi t w b F) {k : Nat} (hk : b ≠ k) (j : Nat) (v : Value) : Fi t (w.setCell ⟨k, j, none⟩ v) b F := ⟨h.row.setO hk j v, h.len, h.le⟩
end
/-- A tuple. -/
structure Tu where
  a : Int
  b : Int
  c : Int
  d : Int
/-- A register. -/
structure Rg where
  t : Tu
  kept : Nat
  start : Nat
  ctx : Bool
def lRg : List Rg := [⟨⟨1, 0, 0, 0⟩, 805306369, 0, true⟩, ⟨⟨2, 0, 0, 0⟩, 4294967168, 0, true⟩, ⟨⟨2, 0, 0, 1⟩, 4294950912, 0, true⟩, ⟨⟨2, 0, 0, 2⟩, 55, 0, true⟩, ⟨⟨3, 0, 0, 0⟩, 4294967295, 0, true⟩, ⟨⟨5, 0, 0, 0⟩, 7423, 0, false⟩, ⟨⟨5, 0, 0, 1⟩, 5135, 0, false⟩, ⟨⟨6, 0, 0, 0⟩, 4294967295, 0, false⟩, ⟨⟨6, 0, 0, 2⟩, 4294967295, 0, false⟩, ⟨⟨7, 0, 4, 0⟩, 4294967295, 0, false⟩, ⟨⟨10, 0, 2, 0⟩, 4279238655, 625316, true⟩, ⟨⟨10, 0, 2, 1⟩, 4294967295, 1155549408, true⟩, ⟨⟨13, 0, 0, 1⟩, 4294967295, 0, true⟩]
def rg (k : Nat) : Rg := lRg.getD k ⟨⟨0, 0, 0, 0⟩, 0, 0, false⟩
def rgV (r : Rg) : List Value := [.int .i64 r.t.a, .int .i64 r.t.b, .int .i64 r.t.c, .int .i64 r.t.d, .int .u32 (r.kept : Nat), .int .u32 (r.start : Nat), .bool r.ctx]
def rgL : List Value := lRg.flatMap rgV
theorem rg_at (k : Nat) (h : k < 13) : lRg[k]? = some (rg k) := by
  have : k < lRg.length := h
  simp [rg, List.getD, this]
theorem upto13 (k : Nat) (h : k < 13) : k = 0 ∨ k = 1 ∨ k = 2 ∨ k = 3 ∨ k = 4 ∨ k = 5 ∨ k = 6 ∨ k = 7 ∨ k = 8 ∨ k = 9 ∨ k = 10 ∨ k = 11 ∨ k = 12 := by omega
theorem rgL_at (k l : Nat) (h : k < 13) (hl : l < 7) : rgL[k * 7 + l]? = (rgV (rg k))[l]? := by
  rcases upto13 k h with rfl | rfl | rfl | rfl | rfl | rfl | rfl | rfl | rfl | rfl | rfl | rfl | rfl <;> rcases (show l = 0 ∨ l = 1 ∨ l = 2 ∨ l = 3 ∨ l = 4 ∨ l = 5 ∨ l = 6 by omega) with rfl | rfl | rfl | rfl | rfl | rfl | rfl <;> rfl
theorem rg_start (k : Nat) : (rg k).start < 4294967296 := by
  by_cases h : k < 13
  · rcases upto13 k h with rfl | rfl | rfl | rfl | rfl | rfl | rfl | rfl | rfl | rfl | rfl | rfl | rfl <;> decide
  · have : ¬ k < lRg.length := h
    simp [rg, List.getD, this]
/-- The table of registers lies in its place. -/
def TR (w : World) : Prop := w.rangeAt 0 0 rgL
theorem TR.lt {w : World} (h : TR w) : 0 < w.heap.size := by
  have := h 0 (.int .i64 1) rfl
  exact cell_lt this
theorem TR.below {w w' : World} (h : TR w) (hb : Below w.heap.size w w') : TR w' := fun j v hv => (hb.cell (p := ⟨0, 0 + j, none⟩) h.lt).trans (h j v hv)
/-- The numbers that are a register's. -/
def isR (r : Int) : Bool := decide (0 ≤ r) && decide (r < 13)
theorem isR_iff (r : Int) : isR r = true ↔ 0 ≤ r ∧ r < 13 := by simp [isR]
def gtF (F : List Nat) (r : Int) : Nat × Nat := if isR r then (F.getD r.toNat 0, 0) else (0, 1)
/-- A context. -/
structure Ctx where
  on : Bool
  tre : Bool
  afe : Bool
  n : Nat
  pd0 : Bool
  pd1 : Bool
  b0 : Nat
  b1 : Nat
  dacr : Nat
  prrr : Nat
  nmrr : Nat
  asid : Nat
def bitB (x k : Nat) : Bool := x / 2 ^ k % 2 == 1
def ctF (F : List Nat) : Ctx :=
  ⟨bitB (F.getD 0 0) 0, bitB (F.getD 0 0) 28, bitB (F.getD 0 0) 29, F.getD 3 0 % 8, bitB (F.getD 3 0) 4, bitB (F.getD 3 0) 5, F.getD 1 0 / 2 ^ (14 - F.getD 3 0 % 8) * 2 ^ (14 - F.getD 3 0 % 8), F.getD 2 0, F.getD 4 0, F.getD 10 0, F.getD 11 0, F.getD 12 0 % 256⟩
/-- A file at the start. -/
def fZ : List Nat := lRg.map (·.start)
theorem and_255_u (x : Nat) (h : x < 4294967296) : bits .and .u32 (x : Int) 255 = ((x % 256 : Nat) : Int) := by
  rw [← nat_mask8]
  exact u32_and_nat x 255 h (by decide)
theorem and_7_u (x : Nat) (h : x < 4294967296) : bits .and .u32 (x : Int) 7 = ((x % 8 : Nat) : Int) := by
  rw [← nat_mask3]
  exact u32_and_nat x 7 h (by decide)
theorem and_1_u (x : Nat) (h : x < 4294967296) : bits .and .u32 (x : Int) 1 = ((x % 2 : Nat) : Int) := by
  rw [← nat_mask1]
  exact u32_and_nat x 1 h (by decide)
end Go.Proofs.YtfdjfhhjfgdbaaaGreatDoor
