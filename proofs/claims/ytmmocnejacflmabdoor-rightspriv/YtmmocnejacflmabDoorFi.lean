import Derived.Test.YtmmocnejacflmabDoorProg
import Derived.WalkKit
import Derived.ProofKit
import Derived.Outline
import Derived.Deep.QuietTactic
import Derived.BigQuiet
import Derived.LoopTactic
import Derived.Deep.RegionHeld3
import Derived.Laws.BitsAllLaws
namespace Go.Proofs.YtmmocnejacflmabDoor
open Go.RowKit
set_option linter.unusedVariables false

theorem below_drewN {B : Nat} {a w : World} (h : Below B a w) (q : Nat) : Below B a (w.drewN q) := ⟨h.os, h.tape, h.output, h.size, h.block⟩
theorem below_drew {B : Nat} {a w : World} (h : Below B a w) : Below B a w.drew := ⟨h.os, h.tape, h.output, h.size, h.block⟩

/-- The bits of a word from a on, n of them. -/
def F (w a n : Int) : Int := w / 2 ^ a.toNat % 2 ^ n.toNat
/-- The lowest n bits of a number, from a on. -/
def G (v a n : Int) : Int := v % 2 ^ n.toNat * 2 ^ a.toNat

theorem pow_nat (n : Nat) : ((2 ^ n : Nat) : Int) = 2 ^ n := Int.natCast_pow 2 n
theorem pow_pos (n : Nat) : (0 : Int) < 2 ^ n := by have := Nat.two_pow_pos n; have := pow_nat n; omega
theorem F_lo (w a n : Int) : 0 ≤ F w a n := Int.emod_nonneg _ (by have := pow_pos n.toNat; omega)
theorem F_hi (w a n : Int) : F w a n < 2 ^ n.toNat := Int.emod_lt_of_pos _ (pow_pos _)

theorem and_low (y : Int) (n : Nat) (hy : 0 ≤ y ∧ y < 4294967296) (hn : n ≤ 8) : bits .and .u32 y ((2 ^ n - 1) % 4294967296) = y % 2 ^ n := by
  obtain ⟨y, rfl⟩ := Int.eq_ofNat_of_zero_le hy.1
  have h1 : 2 ^ n ≤ 2 ^ 8 := Nat.pow_le_pow_right (by omega) hn
  have h2 := Nat.two_pow_pos n
  have e : ((2 : Int) ^ n - 1) % 4294967296 = ((2 ^ n - 1 : Nat) : Int) := by have := pow_nat n; omega
  rw [e, u32_and_nat _ _ (by omega) (by omega), Nat.and_two_pow_sub_one_eq_mod, Int.natCast_emod, pow_nat]

theorem shr_range (x : Int) (n : Nat) (hx : 0 ≤ x ∧ x < 4294967296) : 0 ≤ x / 2 ^ n ∧ x / 2 ^ n < 4294967296 := by
  have h := pow_pos n
  refine ⟨Int.ediv_nonneg hx.1 (by omega), ?_⟩
  have := Int.ediv_le_self (2 ^ n) hx.1
  omega

set_option maxRecDepth 100000 in
theorem field_any (x a n : Int) (w : World) (hx : 0 ≤ x ∧ x < 4294967296) (ha : 0 ≤ a ∧ a < 32) (hn : 0 ≤ n ∧ n ≤ 8) :
    Calls Tryd.prog 57 #[.int .u32 x, .int .u8 a, .int .u8 n] w fun e w' => e = .returned (.int .u32 (F x a n)) ∧ w = w' := by
  have hk := and_low (x / 2 ^ a.toNat) n.toNat (shr_range x _ hx) (by omega)
  go_enter Tryd.func57, Tryd.ntmps57
  go_wp2
  go_ret
  exact ⟨rfl, rfl⟩

set_option maxRecDepth 100000 in
theorem flag_any (x a : Int) (w : World) (hx : 0 ≤ x ∧ x < 4294967296) (ha : 0 ≤ a ∧ a < 32) :
    Calls Tryd.prog 47 #[.int .u32 x, .int .u8 a] w fun e w' => e = .returned (.bool (F x a 1 == 1)) ∧ w = w' := by
  go_enter Tryd.func47, Tryd.ntmps47
  go_wp2_with (first | (go_at_call 57; refine (field_any x a 1 _ hx ha (by decide)).mono ?_; rintro e w' ⟨rfl, rfl⟩) | go_in)
  go_ret
  exact ⟨rfl, rfl⟩

set_option maxRecDepth 100000 in
theorem place_any (x a n : Int) (w : World) (hx : 0 ≤ x ∧ x < 4294967296) (ha : 0 ≤ a ∧ a < 32) (hn : 0 ≤ n ∧ n ≤ 8) (han : a + n ≤ 32) :
    Calls Tryd.prog 49 #[.int .u32 x, .int .u8 a, .int .u8 n] w fun e w' => e = .returned (.int .u32 (G x a n)) ∧ w = w' := by
  have hk := and_low x n.toNat hx (by omega)
  have hw : x % 2 ^ n.toNat * 2 ^ a.toNat % 4294967296 = x % 2 ^ n.toNat * 2 ^ a.toNat := by
    have h1 := Int.emod_nonneg x (show (2 : Int) ^ n.toNat ≠ 0 by have := pow_pos n.toNat; omega)
    have h2 := Int.emod_lt_of_pos x (pow_pos n.toNat)
    have h3 := pow_pos a.toNat
    have h4 : (2 : Int) ^ n.toNat * 2 ^ a.toNat ≤ 4294967296 := by
      rw [← Int.pow_add, ← pow_nat]
      have := Nat.pow_le_pow_right (n := 2) (by omega) (show n.toNat + a.toNat ≤ 32 by omega)
      omega
    refine Int.emod_eq_of_lt (Int.mul_nonneg h1 (by omega)) ?_
    exact Int.lt_of_lt_of_le (Int.mul_lt_mul_of_pos_right h2 h3) h4
  go_enter Tryd.func49, Tryd.ntmps49
  go_wp2
  go_ret
  exact ⟨rfl, rfl⟩

set_option maxRecDepth 100000 in
theorem placeFlag_any (b : Bool) (a : Int) (w : World) (ha : 0 ≤ a ∧ a < 32) :
    Calls Tryd.prog 50 #[.bool b, .int .u8 a] w fun e w' => e = .returned (.int .u32 (G (if b then 1 else 0) a 1)) ∧ w = w' := by
  have hw : (2 : Int) ^ a.toNat % 4294967296 = 2 ^ a.toNat := by
    have h3 := pow_pos a.toNat
    refine Int.emod_eq_of_lt (by omega) ?_
    have := Nat.pow_lt_pow_right (a := 2) (by omega) (show a.toNat < 32 by omega)
    rw [← pow_nat]
    omega
  have e0 : G 0 a 1 = 0 := by unfold G; simp
  have e1 : G 1 a 1 = 2 ^ a.toNat := by
    unfold G
    rw [show (1 : Int) % 2 ^ (1 : Int).toNat = 1 from rfl, Int.one_mul]
  cases b
  · go_enter Tryd.func50, Tryd.ntmps50
    go_wp2
    go_ret
    exact ⟨by simp, rfl⟩
  · go_enter Tryd.func50, Tryd.ntmps50
    go_wp2
    go_ret
    exact ⟨by simp, rfl⟩

/-- A table of numbers in a block. -/
def Tb (k : IntKind) (w : World) (g : Nat) (l : List Int) : Prop := ∀ i v, l[i]? = some v → w.cell? ⟨g, i, none⟩ = some (.int k v)
theorem cell_lt {w : World} {p : Addr} {v : Value} (h : w.cell? p = some v) : p.block < w.heap.size := by
  cases hb : w.heap[p.block]? with
  | none => simp [World.cell?, hb] at h
  | some o => exact (Array.getElem?_eq_some_iff.1 hb).1
theorem Tb.below {k : IntKind} {w w' : World} {g : Nat} {l : List Int} (h : Tb k w g l) (hb : Below w.heap.size w w') : Tb k w' g l := fun i v hv => (hb.cell (cell_lt (h i v hv))).trans (h i v hv)
def lFirst : List Int := [0, 1, 2, 0]
def lSecond : List Int := [0, 4, 5, 5]
def lBase : List Int := [0, 10, 20, 24, 16, 12]
def lTags : List Int := [0, 1, 2, 262146, 1, 2]
def lLeaf : List Int := [0, 0, 0, 0, 0, 0, 0, 0, 0, 0, 0, 0, 10, 15, 12, 16, 17, 4, 10, 15, 12, 16, 17, 4, 4, 9, 12, 10, 11, 15, 4, 9, 6, 10, 11, 0]
def lKind : List Int := [0, 5, 4, 2, 3]
def lSize : List Int := [0, 0, 3, 4, 2, 1]
def lRep : List Int := [0, 1, 16, 1, 16]
/-- What decoding reads. -/
structure TD (w : World) : Prop where
  first : Tb .u8 w 7 lFirst
  second : Tb .u8 w 9 lSecond
  base : Tb .u8 w 5 lBase
  leaf : Tb .u8 w 11 lLeaf
theorem TD.below {w w' : World} (h : TD w) (hb : Below w.heap.size w w') : TD w' := ⟨h.first.below hb, h.second.below hb, h.base.below hb, h.leaf.below hb⟩
/-- What encoding reads besides. -/
structure TE (w : World) : Prop extends TD w where
  tags : Tb .u32 w 8 lTags
theorem TE.below {w w' : World} (h : TE w) (hb : Below w.heap.size w w') : TE w' := ⟨h.toTD.below hb, h.tags.below hb⟩
/-- What Trans reads besides. -/
structure TT (w : World) : Prop extends TE w where
  size : Tb .u8 w 4 lSize
theorem TT.below {w w' : World} (h : TT w) (hb : Below w.heap.size w w') : TT w' := ⟨h.toTE.below hb, h.size.below hb⟩
/-- What Right reads besides. -/
structure TR (w : World) : Prop extends TT w where
  kind : Tb .u8 w 6 lKind
theorem TR.below {w w' : World} (h : TR w) (hb : Below w.heap.size w w') : TR w' := ⟨h.toTT.below hb, h.kind.below hb⟩
end Go.Proofs.YtmmocnejacflmabDoor
