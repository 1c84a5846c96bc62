import Derived.Test.YtaahbklganhfkabDoorProg
import Derived.Test.YtaahbklganhfkabDoorPlain
import Derived.WalkKit
import Derived.ProofKit
import Derived.Outline
import Derived.Deep.QuietTactic
import Derived.BigQuiet
import Derived.LoopTactic
import Derived.WalkSmall
import Derived.Laws.IdiomStrings
namespace Go.Proofs.YtaahbklganhfkabDoor
open Go.RowKit
set_option linter.unusedVariables false

theorem ret_bool {a b : Bool} (h : a = b) : Ending.returned (.bool a) = .returned (.bool b) := by rw [h]
theorem ret_str {a b : ByteArray} (h : a = b) : Ending.returned (.string a) = .returned (.string b) := by rw [h]

theorem below_drewN {B : Nat} {a w : World} (h : Below B a w) (q : Nat) : Below B a (w.drewN q) := ⟨h.os, h.tape, h.output, h.size, h.block⟩

theorem app1 (c : UInt8) (out : List UInt8) : (⟨#[c]⟩ ++ ⟨out.toArray⟩ : ByteArray) = ⟨(c :: out).toArray⟩ := by
  apply ByteArray.ext
  rw [ByteArray.data_append]
  simp
theorem app3 (c : UInt8) (out : List UInt8) : (⟨#[48, 120]⟩ ++ (⟨#[c]⟩ ++ ⟨out.toArray⟩) : ByteArray) = ⟨([48, 120] ++ c :: out).toArray⟩ := by
  rw [app1]
  apply ByteArray.ext
  rw [ByteArray.data_append]
  simp

/-- Digits as Go's text has them: 16 of them, 36 of them. -/
def d16 : ByteArray := ⟨#[48, 49, 50, 51, 52, 53, 54, 55, 56, 57, 97, 98, 99, 100, 101, 102]⟩
def d36 : ByteArray := ⟨#[48, 49, 50, 51, 52, 53, 54, 55, 56, 57, 97, 98, 99, 100, 101, 102, 103, 104, 105, 106, 107, 108, 109, 110, 111, 112, 113, 114, 115, 116, 117, 118, 119, 120, 121, 122]⟩
theorem d16_at : ∀ n (h : n < 16), (d16[n]'(by show n < 16; exact h)) = hxd n := by decide
theorem d36_at : ∀ n (h : n < 16), (d36[n]'(by show n < 36; omega)) = hxd n := by decide

set_option maxRecDepth 100000 in
set_option maxHeartbeats 400000 in
/-- math/bits.TrailingZeros at 16. -/
theorem tz_16 (w : World) (hc : w.cell? ⟨3, 15, none⟩ = some (.int .u8 4)) : Calls Tryd.prog 32 #[.int .u64 16] w fun e w' => e = .returned (.int .i64 4) ∧ w = w' := by
  have hidx : IntKind.u64.wrap (bits BinOp.and IntKind.u64 16 (IntKind.u64.wrap (-16)) * 285870213051353865) / 288230376151711744 = 15 := by decide +kernel
  go_enter Tryd.func32, Tryd.ntmps32
  go_wp2
  go_ret
  exact ⟨rfl, rfl⟩

set_option maxRecDepth 100000 in
set_option maxHeartbeats 800000 in
/-- atlasref01.Hex. -/
theorem refHex_any (v : Nat) (w : World) (hv : v < 18446744073709551616) : Calls Tryd.prog 6 #[.int .u64 v] w fun e w' => e = .returned (.string ⟨([48, 120] ++ hexL v).toArray⟩) ∧ Below w.heap.size w w' := by
  go_enter Tryd.func6, Tryd.ntmps6
  go_wp2
  go_loopw [0, 4] (fun x o wr => ∃ (n f : Nat) (out : List UInt8), x = .int .u64 n ∧ o = .string ⟨out.toArray⟩ ∧ Below w.heap.size w wr ∧ hexAcc (f + 1) n out = hexL v ∧ n < 16 ^ (f + 1) ∧ n < 18446744073709551616 ∧ out.length + f ≤ 16) (fun x _ _ => (intOf x).toNat)
  case atStart => exact ⟨v, 16, [], rfl, rfl, Below.refl _ _, rfl, by omega, hv, by simp⟩
  case round =>
    obtain ⟨n, f, out, rfl, rfl, hB, hh, hn, hv, hl⟩ := hrel
    have HH : Hid (_ = _) := hh
    clear hh
    have hl17 : out.length ≤ 16 := by omega
    have hlt : n % 16 < 16 := Nat.mod_lt _ (by omega)
    have hdg0 := d16_at (n % 16) hlt
    unfold d16 at hdg0
    obtain ⟨c, hc⟩ : ∃ c, hxd (n % 16) = c := ⟨_, rfl⟩
    rw [hc] at hdg0
    have HC : Hid (_ = _) := hc
    have hcv := run_convert_bytes_back (P := Tryd.prog) (wr.alloc (.cells #[.int .u8 (c.toNat : Int)] 5)) 26 9 5 ⟨wr.heap.size, 0, none⟩ 1 [c] Tryd.underlying26 Tryd.underlying5 Tryd.underlying9 (fun j hj => by
      have : j = 0 := by simpa using hj
      subst this
      simp [Addr.add])
    have hcv' : (convert 26 9 (.slice (some ⟨wr.heap.size, 0, none⟩) 1 1)).run Tryd.prog (wr.alloc (.cells #[.int .u8 (c.toNat : Int)] 5)) = .ok (.string ⟨#[c]⟩) (wr.alloc (.cells #[.int .u8 (c.toNat : Int)] 5)) := hcv
    clear hcv hc
    have hsz : (⟨out.toArray⟩ : ByteArray).size ≤ 16 := by show out.toArray.size ≤ 16; simpa using hl17
    by_cases h16 : n < 16
    · have hz : ((n : Int) / 16 == 0) = true := by rw [beq_iff_eq]; omega
      go_wp2
      go_ret
      refine ⟨ret_str ?_, hB.alloc hB.size _⟩
      rw [← HH.out, hexAcc_last h16]
      have hn' : n % 16 = n := Nat.mod_eq_of_lt h16
      have hcc := HC.out
      rw [hn'] at hcc
      rw [hcc]
      exact app3 c out
    · have hz : ((n : Int) / 16 == 0) = false := by rw [beq_eq_false_iff_ne]; omega
      cases f with
      | zero => exact absurd hn (by omega)
      | succ f =>
        go_wp2
        go_roundw
        case rel =>
          refine ⟨n / 16, f, c :: out, by go_num, ?_, hB.alloc hB.size _, ?_, ?_, by omega, by simp; omega⟩
          · exact congrArg Value.string (app1 c out)
          · rw [← HH.out, hexAcc_step h16, HC.out]
          · rw [Nat.div_lt_iff_lt_mul (by omega), ← Nat.pow_succ]
            exact hn
        case measure =>
          simp [intOf]
          omega
end Go.Proofs.YtaahbklganhfkabDoor
