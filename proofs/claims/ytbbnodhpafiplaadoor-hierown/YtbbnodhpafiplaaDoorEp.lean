import Derived.Test.YtbbnodhpafiplaaDoorME
namespace Go.Proofs.YtbbnodhpafiplaaDoor
open Go.RowKit
set_option linter.unusedVariables false
set_option linter.unusedSimpArgs false

def b2 (b : Bool) : Int := if b then 1 else 0
/-- The leaf's bits in a word, by the places of its fields. -/
def EL (lo hi tx sh ng xn : Int) (ap bt : Int) (g x : Bool) : Int := G (ap % 4294967296) lo 2 + G (ap % 4294967296 / 4) hi 1 + G bt sh 1 + G (bt / 2) 2 2 + G (bt / 8) tx 3 + G (b2 g) ng 1 + G (b2 x) xn 1
def eT (e : Ent) : Int := 1 + e.base % 4294967296 / 1024 * 1024 + G (e.dom % 4294967296) 5 4 + G (b2 e.ns) 3 1
def eS (e : Ent) : Int := 2 + e.base % 4294967296 / 1048576 * 1048576 + (G (e.dom % 4294967296) 5 4 + G (b2 e.ns) 19 1) + EL 10 15 12 16 17 4 e.ap e.bits e.ng e.xn
def eU (e : Ent) : Int := 262146 + e.base % 4294967296 / 16777216 * 16777216 + (G (e.base / 4294967296 % 4294967296) 20 4 + G (e.base / 68719476736 % 4294967296) 5 4 + G (b2 e.ns) 19 1) + EL 10 15 12 16 17 4 e.ap e.bits e.ng e.xn
def eL (e : Ent) : Int := 1 + e.base % 4294967296 / 65536 * 65536 + EL 4 9 12 10 11 15 e.ap e.bits e.ng e.xn
def eM (e : Ent) : Int := 2 + e.base % 4294967296 / 4096 * 4096 + EL 4 9 6 10 11 0 e.ap e.bits e.ng e.xn
def E (e : Ent) : Int := if e.kind = 1 then eT e else if e.kind = 2 then eS e else if e.kind = 3 then eU e else if e.kind = 4 then eL e else if e.kind = 5 then eM e else 0

theorem or7 {m1 m2 m3 m4 m5 m6 m7 : Nat} {a1 a2 a3 a4 a5 a6 a7 : Int} (h1 : In m1 a1) (h2 : In m2 a2) (h3 : In m3 a3) (h4 : In m4 a4) (h5 : In m5 a5) (h6 : In m6 a6) (h7 : In m7 a7)
    (g : (m1 &&& m2 = 0 ∧ (m1 ||| m2) &&& m3 = 0 ∧ (m1 ||| m2 ||| m3) &&& m4 = 0 ∧ (m1 ||| m2 ||| m3 ||| m4) &&& m5 = 0 ∧ (m1 ||| m2 ||| m3 ||| m4 ||| m5) &&& m6 = 0 ∧ (m1 ||| m2 ||| m3 ||| m4 ||| m5 ||| m6) &&& m7 = 0) ∧
      m1 < 4294967296 ∧ m2 < 4294967296 ∧ m3 < 4294967296 ∧ m4 < 4294967296 ∧ m5 < 4294967296 ∧ m6 < 4294967296 ∧ m7 < 4294967296 ∧ m1 ||| m2 < 4294967296 ∧ m1 ||| m2 ||| m3 < 4294967296 ∧ m1 ||| m2 ||| m3 ||| m4 < 4294967296 ∧ m1 ||| m2 ||| m3 ||| m4 ||| m5 < 4294967296 ∧ m1 ||| m2 ||| m3 ||| m4 ||| m5 ||| m6 < 4294967296) :
    bits .or .u32 (bits .or .u32 (bits .or .u32 (bits .or .u32 (bits .or .u32 (bits .or .u32 a1 a2) a3) a4) a5) a6) a7 = a1 + a2 + a3 + a4 + a5 + a6 + a7 ∧ In (m1 ||| m2 ||| m3 ||| m4 ||| m5 ||| m6 ||| m7) (a1 + a2 + a3 + a4 + a5 + a6 + a7) := by
  obtain ⟨⟨d1, d2, d3, d4, d5, d6⟩, l1, l2, l3, l4, l5, l6, l7, k2, k3, k4, k5, k6⟩ := g
  have o1 := or32 h1 h2 d1 l1 l2
  have o2 := or32 o1.2 h3 d2 k2 l3
  have o3 := or32 o2.2 h4 d3 k3 l4
  have o4 := or32 o3.2 h5 d4 k4 l5
  have o5 := or32 o4.2 h6 d5 k5 l6
  have o6 := or32 o5.2 h7 d6 k6 l7
  exact ⟨by rw [o1.1, o2.1, o3.1, o4.1, o5.1, o6.1], o6.2⟩
theorem in_one (n : Nat) : In n (n : Int) := ⟨n, rfl, Nat.and_self n⟩
theorem in_base (x : Int) (n : Nat) (hn : n ≤ 32) : In ((2 ^ (32 - n) - 1) * 2 ^ n) (x % 4294967296 / 2 ^ n * 2 ^ n) := by
  have h0 := pow_pos n
  refine In.shl (in_low _ (32 - n) (Int.ediv_nonneg (by omega) (by omega)) ?_) n
  refine Int.ediv_lt_of_lt_mul h0 ?_
  rw [← Int.pow_add, show 32 - n + n = 32 by omega]
  have : (2 : Int) ^ 32 = 4294967296 := by decide
  omega
theorem base_lt (x : Int) (a : Int) (ha : 0 < a) : x % 4294967296 / a * a % 4294967296 = x % 4294967296 / a * a := by
  have h1 := Int.ediv_mul_le (x % 4294967296) (b := a) (by omega)
  have h2 : 0 ≤ x % 4294967296 / a := Int.ediv_nonneg (by omega) (by omega)
  have h3 := Int.mul_nonneg h2 (Int.le_of_lt ha)
  omega
theorem elA (ap bt : Int) (g x : Bool) : bits .or .u32 (bits .or .u32 (bits .or .u32 (bits .or .u32 (bits .or .u32 (bits .or .u32 (G (ap % 4294967296) 10 2) (G (ap % 4294967296 / 4) 15 1)) (G bt 16 1)) (G (bt / 2) 2 2)) (G (bt / 8) 12 3)) (G (b2 g) 17 1)) (G (b2 x) 4 1) = EL 10 15 12 16 17 4 ap bt g x ∧ In 261148 (EL 10 15 12 16 17 4 ap bt g x) :=
  or7 (in_G _ 10 2) (in_G _ 15 1) (in_G _ 16 1) (in_G _ 2 2) (in_G _ 12 3) (in_G _ 17 1) (in_G _ 4 1) (by decide)
theorem elB (ap bt : Int) (g x : Bool) : bits .or .u32 (bits .or .u32 (bits .or .u32 (bits .or .u32 (bits .or .u32 (bits .or .u32 (G (ap % 4294967296) 4 2) (G (ap % 4294967296 / 4) 9 1)) (G bt 10 1)) (G (bt / 2) 2 2)) (G (bt / 8) 12 3)) (G (b2 g) 11 1)) (G (b2 x) 15 1) = EL 4 9 12 10 11 15 ap bt g x ∧ In 65084 (EL 4 9 12 10 11 15 ap bt g x) :=
  or7 (in_G _ 4 2) (in_G _ 9 1) (in_G _ 10 1) (in_G _ 2 2) (in_G _ 12 3) (in_G _ 11 1) (in_G _ 15 1) (by decide)
theorem elC (ap bt : Int) (g x : Bool) : bits .or .u32 (bits .or .u32 (bits .or .u32 (bits .or .u32 (bits .or .u32 (bits .or .u32 (G (ap % 4294967296) 4 2) (G (ap % 4294967296 / 4) 9 1)) (G bt 10 1)) (G (bt / 2) 2 2)) (G (bt / 8) 6 3)) (G (b2 g) 11 1)) (G (b2 x) 0 1) = EL 4 9 6 10 11 0 ap bt g x ∧ In 4093 (EL 4 9 6 10 11 0 ap bt g x) :=
  or7 (in_G _ 4 2) (in_G _ 9 1) (in_G _ 10 1) (in_G _ 2 2) (in_G _ 6 3) (in_G _ 11 1) (in_G _ 0 1) (by decide)
end Go.Proofs.YtbbnodhpafiplaaDoor
