import Derived.Test.YtmmocnejacflmabDoorFi
namespace Go.Proofs.YtmmocnejacflmabDoor
open Go.RowKit
set_option linter.unusedVariables false
/-- An entry. -/
structure Ent where
  kind : Int
  base : Int
  dom : Int
  ns : Bool
  ap : Int
  bits : Int
  ng : Bool
  xn : Bool
/-- A translation. -/
structure Tra where
  size : Int
  va : Int
  pa : Int
  dom : Int
  ap : Int
  bits : Int
  ng : Bool
  xn : Bool
def Ent.same (a b : Ent) : Bool := a.kind == b.kind && (a.base == b.base && (a.dom == b.dom && (a.ns == b.ns && (a.ap == b.ap && (a.bits == b.bits && (a.ng == b.ng && a.xn == b.xn))))))
def Tra.same (a b : Tra) : Bool := a.size == b.size && (a.va == b.va && (a.pa == b.pa && (a.dom == b.dom && (a.ap == b.ap && (a.bits == b.bits && (a.ng == b.ng && a.xn == b.xn))))))
theorem Ent.same_iff (a b : Ent) : a.same b = true ↔ a = b := by
  obtain ⟨a1, a2, a3, a4, a5, a6, a7, a8⟩ := a
  obtain ⟨b1, b2, b3, b4, b5, b6, b7, b8⟩ := b
  simp [Ent.same]
theorem Tra.same_iff (a b : Tra) : a.same b = true ↔ a = b := by
  obtain ⟨a1, a2, a3, a4, a5, a6, a7, a8⟩ := a
  obtain ⟨b1, b2, b3, b4, b5, b6, b7, b8⟩ := b
  simp [Tra.same]
theorem Ent.same_self (a : Ent) : a.same a = true := (Ent.same_iff a a).2 rfl
theorem Tra.same_self (a : Tra) : a.same a = true := (Tra.same_iff a a).2 rfl
set_option maxRecDepth 100000 in
theorem eqE (a b : Ent) (w : World) : (Op.equalIn 10000 66 (.agg #[.int .i64 a.kind, .int .u64 a.base, .int .i64 a.dom, .bool a.ns, .int .i64 a.ap, .int .u32 a.bits, .bool a.ng, .bool a.xn]) (.agg #[.int .i64 b.kind, .int .u64 b.base, .int .i64 b.dom, .bool b.ns, .int .i64 b.ap, .int .u32 b.bits, .bool b.ng, .bool b.xn])).run Tryd.prog w = .ok (a.same b) w := by
  obtain ⟨a1, a2, a3, a4, a5, a6, a7, a8⟩ := a
  obtain ⟨b1, b2, b3, b4, b5, b6, b7, b8⟩ := b
  go_simp
  simp only [Ent.same]
  repeat' split
  all_goals simp_all
set_option maxRecDepth 100000 in
theorem eqT (a b : Tra) (w : World) : (Op.equalIn 10000 35 (.agg #[.int .i64 a.size, .int .u32 a.va, .int .u64 a.pa, .int .i64 a.dom, .int .i64 a.ap, .int .u32 a.bits, .bool a.ng, .bool a.xn]) (.agg #[.int .i64 b.size, .int .u32 b.va, .int .u64 b.pa, .int .i64 b.dom, .int .i64 b.ap, .int .u32 b.bits, .bool b.ng, .bool b.xn])).run Tryd.prog w = .ok (a.same b) w := by
  obtain ⟨a1, a2, a3, a4, a5, a6, a7, a8⟩ := a
  obtain ⟨b1, b2, b3, b4, b5, b6, b7, b8⟩ := b
  go_simp
  simp only [Tra.same]
  repeat' split
  all_goals simp_all
def sameL (a1 a2 : Int) (a3 a4 : Bool) (b1 b2 : Int) (b3 b4 : Bool) : Bool := a1 == b1 && (a2 == b2 && (a3 == b3 && a4 == b4))
theorem sameL_iff (a1 a2 : Int) (a3 a4 : Bool) (b1 b2 : Int) (b3 b4 : Bool) : sameL a1 a2 a3 a4 b1 b2 b3 b4 = true ↔ a1 = b1 ∧ a2 = b2 ∧ a3 = b3 ∧ a4 = b4 := by simp [sameL]
set_option maxRecDepth 100000 in
theorem eqL (a1 a2 : Int) (a3 a4 : Bool) (b1 b2 : Int) (b3 b4 : Bool) (w : World) : (Op.equalIn 10000 24 (.agg #[.int .i64 a1, .int .u32 a2, .bool a3, .bool a4]) (.agg #[.int .i64 b1, .int .u32 b2, .bool b3, .bool b4])).run Tryd.prog w = .ok (sameL a1 a2 a3 a4 b1 b2 b3 b4) w := by
  go_simp
  simp only [sameL]
  repeat' split
  all_goals simp_all

/-- What a box holds. -/
def BX (w : World) (b : Nat) (l : List Value) : Prop := ∀ i v, l[i]? = some v → w.cell? ⟨b, i, none⟩ = some v
theorem BX.below {w w' : World} {b : Nat} {l : List Value} (h : BX w b l) (hb : Below w.heap.size w w') : BX w' b l := fun i v hv => (hb.cell (cell_lt (h i v hv))).trans (h i v hv)
theorem BX.new (w : World) (t : TypeId) (l : List Value) : BX (w.alloc (.cells l.toArray t)) w.heap.size l := by
  intro i v hv
  have hb := heap_alloc_new w (.cells l.toArray t)
  rw [World.cell?, hb]
  simpa using hv
theorem BX.drew {w : World} {b : Nat} {l : List Value} (h : BX w b l) : BX w.drew b l := fun i v hv => h i v hv
theorem BX.alloc {w : World} {b : Nat} {l : List Value} (h : BX w b l) (o : Obj) : BX (w.alloc o) b l := h.below ((Below.refl _ _).alloc (Nat.le_refl _) o)

/-- A number whose bits lie within those of m. -/
def In (m : Nat) (a : Int) : Prop := ∃ k : Nat, a = (k : Int) ∧ k &&& m = k
theorem In.le {m : Nat} {a : Int} (h : In m a) : 0 ≤ a ∧ a ≤ m := by
  obtain ⟨k, rfl, h⟩ := h
  have := Nat.and_le_right (n := k) (m := m)
  omega
theorem nat_or_add {k l : Nat} (hk : k < 2 ^ 63) (hl : l < 2 ^ 63) (h : k &&& l = 0) : k ||| l = k + l := by
  have e := BitVec.add_eq_or_of_and_eq_zero (BitVec.ofNat 64 k) (BitVec.ofNat 64 l) (by
    apply BitVec.eq_of_toNat_eq
    rw [BitVec.toNat_and, BitVec.toNat_ofNat, BitVec.toNat_ofNat, Nat.mod_eq_of_lt (by omega), Nat.mod_eq_of_lt (by omega), h]
    rfl)
  have e2 := congrArg BitVec.toNat e
  rw [BitVec.toNat_add, BitVec.toNat_or, BitVec.toNat_ofNat, BitVec.toNat_ofNat, Nat.mod_eq_of_lt (show k < 2 ^ 64 by omega), Nat.mod_eq_of_lt (show l < 2 ^ 64 by omega)] at e2
  omega
theorem in_or {m n : Nat} {a b : Int} (ha : In m a) (hb : In n b) (hd : m &&& n = 0) (hm : m < 2 ^ 63) (hn : n < 2 ^ 63) : ∃ k l : Nat, a = k ∧ b = l ∧ k ≤ m ∧ l ≤ n ∧ k ||| l = k + l ∧ In (m ||| n) (a + b) := by
  obtain ⟨k, rfl, hk⟩ := ha
  obtain ⟨l, rfl, hl⟩ := hb
  have k1 := Nat.and_le_right (n := k) (m := m)
  have l1 := Nat.and_le_right (n := l) (m := n)
  have hz : k &&& l = 0 := by
    rw [← hk, ← hl, Nat.and_assoc, ← Nat.and_assoc m l n, Nat.and_comm m l, Nat.and_assoc l m n, hd, Nat.and_zero, Nat.and_zero]
  have ho := nat_or_add (by omega) (by omega) hz
  refine ⟨k, l, rfl, rfl, by omega, by omega, ho, k + l, by omega, ?_⟩
  rw [← ho]
  apply Nat.eq_of_testBit_eq
  intro j
  have tk := congrArg (fun z => z.testBit j) hk
  have tl := congrArg (fun z => z.testBit j) hl
  simp only [Nat.testBit_and] at tk tl
  simp only [Nat.testBit_and, Nat.testBit_or]
  revert tk tl
  cases k.testBit j <;> cases l.testBit j <;> cases m.testBit j <;> cases n.testBit j <;> simp
theorem or32 {m n : Nat} {a b : Int} (ha : In m a) (hb : In n b) (hd : m &&& n = 0) (hm : m < 4294967296) (hn : n < 4294967296) : bits .or .u32 a b = a + b ∧ In (m ||| n) (a + b) := by
  obtain ⟨k, l, rfl, rfl, hk, hl, ho, hi⟩ := in_or ha hb hd (by omega) (by omega)
  refine ⟨?_, hi⟩
  rw [u32_or_nat k l (by omega) (by omega), ho]
  omega
theorem or64 {m n : Nat} {a b : Int} (ha : In m a) (hb : In n b) (hd : m &&& n = 0) (hm : m < 2 ^ 63) (hn : n < 2 ^ 63) : bits .or .u64 a b = a + b ∧ In (m ||| n) (a + b) := by
  obtain ⟨k, l, rfl, rfl, hk, hl, ho, hi⟩ := in_or ha hb hd (by omega) (by omega)
  refine ⟨?_, hi⟩
  rw [u64_or_nat k l (by omega) (by omega), ho]
  omega
/-- The bits from a on, n of them. -/
theorem in_low (v : Int) (n : Nat) (hv : 0 ≤ v) (h : v < 2 ^ n) : In (2 ^ n - 1) v := by
  obtain ⟨k, rfl⟩ := Int.eq_ofNat_of_zero_le hv
  refine ⟨k, rfl, ?_⟩
  rw [Nat.and_two_pow_sub_one_eq_mod, Nat.mod_eq_of_lt]
  rw [← pow_nat] at h
  omega
theorem In.shl {m : Nat} {v : Int} (h : In m v) (a : Nat) : In (m * 2 ^ a) (v * 2 ^ a) := by
  obtain ⟨k, rfl, hk⟩ := h
  refine ⟨k * 2 ^ a, by rw [Int.natCast_mul, pow_nat], ?_⟩
  apply Nat.eq_of_testBit_eq
  intro j
  rw [Nat.testBit_and, Nat.testBit_mul_two_pow, Nat.testBit_mul_two_pow]
  have tk := congrArg (fun z => z.testBit (j - a)) hk
  simp only [Nat.testBit_and] at tk
  revert tk
  by_cases hj : a ≤ j
  · simp [hj]
  · simp [hj]
theorem in_F (x a n : Int) : In (2 ^ n.toNat - 1) (F x a n) := in_low _ _ (F_lo x a n) (F_hi x a n)
theorem in_G (x a n : Int) : In ((2 ^ n.toNat - 1) * 2 ^ a.toNat) (G x a n) := (in_low _ _ (Int.emod_nonneg _ (by have := pow_pos n.toNat; omega)) (Int.emod_lt_of_pos _ (pow_pos _))).shl _
end Go.Proofs.YtmmocnejacflmabDoor
