import Derived.Test.YtmcloaonpkfibaaDoorProg
import Derived.WalkKit
import Derived.ProofKit
import Derived.Outline
import Derived.Deep.QuietTactic
import Derived.BigQuiet
import Derived.LoopTactic
import Derived.Deep.RegionHeld3
import Derived.Laws.BitsAllLaws
namespace Go.Proofs.YtmcloaonpkfibaaDoor
open Go.RowKit
set_option linter.unusedVariables false

theorem below_drewN {B : Nat} {a w : World} (h : Below B a w) (q : Nat) : Below B a (w.drewN q) := ⟨h.os, h.tape, h.output, h.size, h.block⟩
theorem below_drew {B : Nat} {a w : World} (h : Below B a w) : Below B a w.drew := ⟨h.os, h.tape, h.output, h.size, h.block⟩
theorem Below.one {w w' : World} {o : Obj} (h : Below (w.alloc o).heap.size (w.alloc o) w') : Below w.heap.size w w' :=
  ((Below.refl _ _).alloc (Nat.le_refl _) o).trans (h.mono (by simp))
theorem cell_lt {w : World} {p : Addr} {v : Value} (h : w.cell? p = some v) : p.block < w.heap.size := by
  cases hb : w.heap[p.block]? with
  | none => simp [World.cell?, hb] at h
  | some o => exact (Array.getElem?_eq_some_iff.1 hb).1
/-- A block of cells. -/
def Bl (w : World) (b : Nat) (t : TypeId) (l : List Value) : Prop := w.heap[b]? = some (.cells l.toArray t (0, 0))
theorem Bl.new (w : World) (t : TypeId) (l : List Value) : Bl (w.alloc (.cells l.toArray t)) w.heap.size t l := heap_alloc_new w (.cells l.toArray t)
theorem Bl.lt {w : World} {b : Nat} {t : TypeId} {l : List Value} (h : Bl w b t l) : b < w.heap.size := (Array.getElem?_eq_some_iff.1 h).1
theorem Bl.below {w w' : World} {b : Nat} {t : TypeId} {l : List Value} (h : Bl w b t l) (hb : Below w.heap.size w w') : Bl w' b t l := (hb.block b h.lt).trans h
theorem Bl.drew {w : World} {b : Nat} {t : TypeId} {l : List Value} (h : Bl w b t l) : Bl w.drew b t l := h
theorem Bl.cell {w : World} {b : Nat} {t : TypeId} {l : List Value} (h : Bl w b t l) (j : Nat) : w.cell? ⟨b, j, none⟩ = l[j]? := by
  rw [World.cell?, show w.heap[b]? = _ from h]
  simp
theorem Bl.frozen {w : World} {b : Nat} {t : TypeId} {l : List Value} (h : Bl w b t l) (j : Nat) : w.frozen? ⟨b, j, none⟩ = false := by
  simp [World.frozen?, show w.heap[b]? = _ from h]

/-- A kind of memory. -/
structure Mem where
  t : Int
  i : Int
  o : Int
  s : Int
def mZ : Mem := ⟨0, 0, 0, 0⟩
def Mem.same (a b : Mem) : Bool := a.t == b.t && (a.i == b.i && (a.o == b.o && a.s == b.s))
theorem Mem.same_iff (a b : Mem) : a.same b = true ↔ a = b := by
  obtain ⟨a1, a2, a3, a4⟩ := a
  obtain ⟨b1, b2, b3, b4⟩ := b
  simp [Mem.same]
theorem Mem.same_self (a : Mem) : a.same a = true := (Mem.same_iff a a).2 rfl
set_option maxRecDepth 100000 in
theorem eqM (a b : Mem) (w : World) : (Op.equalIn 10000 24 (.agg #[.int .i64 a.t, .int .i64 a.i, .int .i64 a.o, .int .i64 a.s]) (.agg #[.int .i64 b.t, .int .i64 b.i, .int .i64 b.o, .int .i64 b.s])).run Tryd.prog w = .ok (a.same b) w := by
  obtain ⟨a1, a2, a3, a4⟩ := a
  obtain ⟨b1, b2, b3, b4⟩ := b
  go_simp
  simp only [Mem.same]
  repeat' split
  all_goals simp_all
/-- It is a kind. -/
abbrev K (m : Mem) : Prop := (m.t = 0 ∧ m.i = 0 ∧ m.o = 0 ∧ m.s = 2) ∨ (m.t = 1 ∧ m.i = 0 ∧ m.o = 0 ∧ 0 ≤ m.s ∧ m.s ≤ 2) ∨ (m.t = 2 ∧ 0 ≤ m.i ∧ m.i ≤ 3 ∧ 0 ≤ m.o ∧ m.o ≤ 3 ∧ 0 ≤ m.s ∧ m.s ≤ 2)
theorem K_zero : ¬ K mZ := by simp [K, mZ]
/-- Two bits of a word, one bit of it. -/
def pr (w : Int) (k : Nat) : Int := w / 2 ^ k % 4
def bt (w : Int) (k : Nat) : Int := w / 2 ^ k % 2
theorem pr_lo (w : Int) (k : Nat) : 0 ≤ pr w k := Int.emod_nonneg _ (by decide)
theorem pr_hi (w : Int) (k : Nat) : pr w k < 4 := Int.emod_lt_of_pos _ (by decide)
theorem bt_lo (w : Int) (k : Nat) : 0 ≤ bt w k := Int.emod_nonneg _ (by decide)
theorem bt_hi (w : Int) (k : Nat) : bt w k < 2 := Int.emod_lt_of_pos _ (by decide)
theorem pow_nat (n : Nat) : ((2 ^ n : Nat) : Int) = 2 ^ n := Int.natCast_pow 2 n
theorem pow_pos (n : Nat) : (0 : Int) < 2 ^ n := by have := Nat.two_pow_pos n; have := pow_nat n; omega
theorem shr_range (x : Int) (n : Nat) (hx : 0 ≤ x ∧ x < 4294967296) : 0 ≤ x / 2 ^ n ∧ x / 2 ^ n < 4294967296 := by
  have h := pow_pos n
  refine ⟨Int.ediv_nonneg hx.1 (by omega), ?_⟩
  have := Int.ediv_le_self (2 ^ n) hx.1
  omega
theorem and_low (y : Int) (n : Nat) (hy : 0 ≤ y ∧ y < 4294967296) (hn : n ≤ 8) : bits .and .u32 y ((2 ^ n - 1 : Nat) : Int) = y % 2 ^ n := by
  obtain ⟨y, rfl⟩ := Int.eq_ofNat_of_zero_le hy.1
  have h1 : 2 ^ n ≤ 2 ^ 8 := Nat.pow_le_pow_right (by omega) hn
  have h2 := Nat.two_pow_pos n
  rw [u32_and_nat _ _ (by omega) (by omega), Nat.and_two_pow_sub_one_eq_mod, Int.natCast_emod, pow_nat]
theorem and1 (x : Int) (h : 0 ≤ x ∧ x < 4294967296) : bits BinOp.and IntKind.u32 x 1 = x % 2 := and_low x 1 h (by decide)
theorem and3 (x : Int) (h : 0 ≤ x ∧ x < 4294967296) : bits BinOp.and IntKind.u32 x 3 = x % 4 := and_low x 2 h (by decide)
theorem and7 (x : Int) (h : 0 ≤ x ∧ x < 4294967296) : bits BinOp.and IntKind.u32 x 7 = x % 8 := and_low x 3 h (by decide)
/-- Who shares. -/
def shF (p : Int) (n k : Nat) : Int := if bt p k = 0 then 0 else if bt p (24 + n) = 1 then 1 else 2
/-- What the bits mean: an error or 0, and the kind. -/
def pF (b : Nat) : Int × Mem :=
  if 32 ≤ b then (0, ⟨2, b / 2 % 4, b / 8 % 4, 2 * (b % 2)⟩)
  else if b / 2 = 0 then (0, ⟨0, 0, 0, 2⟩)
  else if b / 2 = 1 then (0, ⟨1, 0, 0, 2⟩)
  else if b / 2 = 2 then (0, ⟨2, 2, 2, 2 * (b % 2)⟩)
  else if b / 2 = 3 then (0, ⟨2, 3, 3, 2 * (b % 2)⟩)
  else if b / 2 = 4 then (0, ⟨2, 0, 0, 2 * (b % 2)⟩)
  else if b / 2 = 7 then (0, ⟨2, 1, 1, 2 * (b % 2)⟩)
  else if b / 2 = 8 then (0, ⟨1, 0, 0, 0⟩)
  else (61, mZ)
def rM (p q : Int) (n s : Nat) : Int × Mem :=
  if n = 6 ∨ pr p (2 * n) = 3 then (61, mZ)
  else if pr p (2 * n) = 0 then (0, ⟨0, 0, 0, 2⟩)
  else if pr p (2 * n) = 1 then (0, ⟨1, 0, 0, shF p n (16 + s)⟩)
  else (0, ⟨2, pr q (2 * n), pr q (2 * n + 16), shF p n (18 + s)⟩)
def oF (tre : Bool) (p q : Int) (b : Nat) : Int × Mem :=
  if 63 < b then (60, mZ) else if tre then rM p q (b / 2 % 8) (b % 2) else pF b
end Go.Proofs.YtmcloaonpkfibaaDoor
