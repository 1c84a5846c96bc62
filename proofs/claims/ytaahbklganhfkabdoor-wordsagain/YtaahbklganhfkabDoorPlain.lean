import Derived.Laws.RangeAny
import Derived.Lib.Strings
namespace Go.Proofs.YtaahbklganhfkabDoor

/-- A hexadecimal digit. -/
def hxd (n : Nat) : UInt8 := if n < 10 then UInt8.ofNat (48 + n) else UInt8.ofNat (87 + n)
/-- The digits of a number, ahead of others. -/
def hexAcc : Nat → Nat → List UInt8 → List UInt8
  | 0, _, out => out
  | f + 1, v, out => if v < 16 then hxd v :: out else hexAcc f (v / 16) (hxd (v % 16) :: out)
/-- The digits of a number, without a zero ahead. -/
def hexL (v : Nat) : List UInt8 := hexAcc 17 v []

theorem hexAcc_last {f v : Nat} {out : List UInt8} (h : v < 16) : hexAcc (f + 1) v out = hxd v :: out := by rw [hexAcc, if_pos h]
theorem hexAcc_step {f v : Nat} {out : List UInt8} (h : ¬ v < 16) : hexAcc (f + 1) v out = hexAcc f (v / 16) (hxd (v % 16) :: out) := by rw [hexAcc, if_neg h]

theorem hexAcc_len : ∀ (f v : Nat) (out : List UInt8), (hexAcc f v out).length ≤ out.length + f
  | 0, _, _ => by simp [hexAcc]
  | f + 1, v, out => by
    unfold hexAcc
    split
    · simp
    · have := hexAcc_len f (v / 16) (hxd (v % 16) :: out)
      simp at this
      omega
theorem hexL_len (v : Nat) : (hexL v).length ≤ 17 := by
  have := hexAcc_len 17 v []
  unfold hexL
  simp at this
  omega

end Go.Proofs.YtaahbklganhfkabDoor
