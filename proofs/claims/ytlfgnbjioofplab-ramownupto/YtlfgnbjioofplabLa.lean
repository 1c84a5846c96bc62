import Derived.Test.YtlfgnbjioofplabPh
import Derived.Test.YtlfgnbjioofplabRh
namespace Go.Proofs.Ytlfgnbjioofplab
open Go.RowKit
set_option linter.unusedVariables false

/-- The number of a memory. -/
def w3 (n : Int) : Nat := if n % 4 = 3 then 0 else (n % 4).toNat
theorem w3_lt (n : Int) : w3 n < 3 := by unfold w3; split <;> omega
theorem and3 (n : Int) : bits BinOp.and IntKind.i64 n 3 = n % 4 := by
  have h127 : (BitVec.ofInt 64 3).toNat = 2 ^ 2 - 1 := by decide
  have key : (BitVec.ofInt 64 n &&& BitVec.ofInt 64 3).toNat = (n % ((2 ^ 64 : Nat) : Int)).toNat % 2 ^ 2 := by
    rw [BitVec.toNat_and, BitVec.toNat_ofInt, h127, Nat.and_two_pow_sub_one_eq_mod]
  show IntKind.i64.wrap ((BitVec.ofInt 64 n &&& BitVec.ofInt 64 3).toNat : Nat) = n % 4
  rw [key, IntKind.wrap_i64]
  omega
theorem who_any (W : World) (n : Int) (h1 : -9223372036854775808 ≤ n) (h2 : n ≤ 9223372036854775807) :
    Calls Try.prog 6 #[.int .i64 n] W fun e W' => e = .returned (.int .i64 (w3 n : Int)) ∧ W = W' := by
  have ha := and3 n
  have hr : 0 ≤ n % 4 ∧ n % 4 < 4 := by omega
  by_cases h : n % 4 = 3
  · have hw : w3 n = 0 := by unfold w3; rw [if_pos h]
    rw [hw]
    go_enter Try.func6, Try.ntmps6
    go_wp2
    go_ret
    exact ⟨rfl, rfl⟩
  · have hw : (w3 n : Int) = n % 4 := by unfold w3; rw [if_neg h]; omega
    rw [hw]
    go_enter Try.func6, Try.ntmps6
    go_wp2
    go_ret
    exact ⟨rfl, rfl⟩

set_option maxHeartbeats 4000000 in
theorem bytes_any (W : World) (a b : Option Addr) (ca cb : Nat) (bs : List Int) (ha : ∀ i v, bs[i]? = some v → ∃ g o, a = some ⟨g, o, none⟩ ∧ W.cell? ⟨g, o + i, none⟩ = some (.int .u8 v)) (hb : ∀ i v, bs[i]? = some v → ∃ g o, b = some ⟨g, o, none⟩ ∧ W.cell? ⟨g, o + i, none⟩ = some (.int .u8 v)) (hl : bs.length ≤ 281474976710656) :
    Calls Try.prog 10 #[.slice a bs.length ca, .slice b bs.length cb] W fun e W' => e = .returned (.bool true) ∧ ∃ q, W' = W.drewN q := by
  have HA : Hid (∀ i v, bs[i]? = some v → ∃ g o, a = some ⟨g, o, none⟩ ∧ W.cell? ⟨g, o + i, none⟩ = some (.int .u8 v)) := ha
  have HB : Hid (∀ i v, bs[i]? = some v → ∃ g o, b = some ⟨g, o, none⟩ ∧ W.cell? ⟨g, o + i, none⟩ = some (.int .u8 v)) := hb
  clear ha hb
  generalize hn : bs.length = n at *
  have HN : Hid (bs.length = n) := hn
  clear hn
  go_enter Try.func10, Try.ntmps10
  go_wp2
  go_loopw [5] (fun i wr => ∃ k : Nat, k ≤ n ∧ i = .int .i64 k ∧ ∃ q, wr = W.drewN q) (fun i _ => n - (intOf i).toNat)
  case atStart => exact ⟨0, Nat.zero_le _, rfl, 0, rfl⟩
  case round =>
    obtain ⟨k, hk, rfl, q, rfl⟩ := hrel
    by_cases hlt : k < n
    · obtain ⟨v, hv⟩ : ∃ v, bs[k]? = some v := ⟨_, List.getElem?_eq_getElem (by rw [HN.out]; omega)⟩
      obtain ⟨g, o, rfl, hc⟩ := HA.out k v hv
      obtain ⟨g', o', rfl, hc'⟩ := HB.out k v hv
      clear hv
      have hkz : (k : Int) < (n : Int) := by omega
      go_wp2
      go_quiet (fail)
      go_wp2
      go_roundw
      case rel => exact ⟨k + 1, by omega, by go_num, _, rfl⟩
      case measure => simp [intOf]; omega
    · go_wp2
      go_ret
      exact ⟨rfl, q, rfl⟩
set_option maxHeartbeats 4000000 in
theorem ints_any (W : World) (a b : Option Addr) (ca cb : Nat) (bs : List Int) (ha : ∀ i v, bs[i]? = some v → ∃ g o, a = some ⟨g, o, none⟩ ∧ W.cell? ⟨g, o + i, none⟩ = some (.int .i64 v)) (hb : ∀ i v, bs[i]? = some v → ∃ g o, b = some ⟨g, o, none⟩ ∧ W.cell? ⟨g, o + i, none⟩ = some (.int .i64 v)) (hl : bs.length ≤ 281474976710656) :
    Calls Try.prog 11 #[.slice a bs.length ca, .slice b bs.length cb] W fun e W' => e = .returned (.bool true) ∧ ∃ q, W' = W.drewN q := by
  have HA : Hid (∀ i v, bs[i]? = some v → ∃ g o, a = some ⟨g, o, none⟩ ∧ W.cell? ⟨g, o + i, none⟩ = some (.int .i64 v)) := ha
  have HB : Hid (∀ i v, bs[i]? = some v → ∃ g o, b = some ⟨g, o, none⟩ ∧ W.cell? ⟨g, o + i, none⟩ = some (.int .i64 v)) := hb
  clear ha hb
  generalize hn : bs.length = n at *
  have HN : Hid (bs.length = n) := hn
  clear hn
  go_enter Try.func11, Try.ntmps11
  go_wp2
  go_loopw [5] (fun i wr => ∃ k : Nat, k ≤ n ∧ i = .int .i64 k ∧ ∃ q, wr = W.drewN q) (fun i _ => n - (intOf i).toNat)
  case atStart => exact ⟨0, Nat.zero_le _, rfl, 0, rfl⟩
  case round =>
    obtain ⟨k, hk, rfl, q, rfl⟩ := hrel
    by_cases hlt : k < n
    · obtain ⟨v, hv⟩ : ∃ v, bs[k]? = some v := ⟨_, List.getElem?_eq_getElem (by rw [HN.out]; omega)⟩
      obtain ⟨g, o, rfl, hc⟩ := HA.out k v hv
      obtain ⟨g', o', rfl, hc'⟩ := HB.out k v hv
      clear hv
      have hkz : (k : Int) < (n : Int) := by omega
      go_wp2
      go_quiet (fail)
      go_wp2
      go_roundw
      case rel => exact ⟨k + 1, by omega, by go_num, _, rfl⟩
      case measure => simp [intOf]; omega
    · go_wp2
      go_ret
      exact ⟨rfl, q, rfl⟩
end Go.Proofs.Ytlfgnbjioofplab
