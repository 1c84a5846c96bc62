import Derived.Test.YtmodcbdgnmjkoabGreatDoorWa
namespace Go.Proofs.YtmodcbdgnmjkoabGreatDoor
open Go.RowKit
open Mm (Turn gr valV errV)
set_option linter.unusedVariables false
set_option linter.unusedSimpArgs false
theorem ask_nil (w : World) (pa : Int) :
    Calls Tryz.prog 26 #[.nilIface, .int .u64 pa] w fun e w' => e = .returned (.tuple #[.int .u32 0, .int .i64 30]) ∧ w = w' := by
  go_enter Tryz.func26, Tryz.ntmps26
  go_wp2
  go_ret2
  exact ⟨rfl, rfl⟩
theorem cleared_any (b : Int) (n : Nat) (w : World) (hb : 0 ≤ b ∧ b < 18446744073709551616) (hn : n ≤ 14) :
    Calls Tryz.prog 48 #[.int .u64 b, .int .i64 (n : Int)] w fun e w' => e = .returned (.int .u64 (cl b n)) ∧ w = w' := by
  have h1 := cl_le b n hb.1
  have hw : IntKind.u64.wrap (b / 2 ^ n * 2 ^ n) = cl b n := by
    unfold cl at *
    simp only [IntKind.wrap_u64]
    omega
  go_enter Tryz.func48, Tryz.ntmps48
  go_wp2
  go_ret
  exact ⟨by simp [cl], rfl⟩
theorem itself_any (va : Int) (w : World) (hv : 0 ≤ va ∧ va < 4294967296) :
    Calls Tryz.prog 13 #[.int .u32 va] w fun e w' => e = .returned (.agg #[.int .i64 (itF va).size, .int .u32 (itF va).va, .int .u64 (itF va).pa, .int .i64 (itF va).dom, .int .i64 (itF va).ap, .int .u32 (itF va).bits, .bool (itF va).ng, .bool (itF va).xn]) ∧ Below w.heap.size w w' := by
  go_enter Tryz.func13, Tryz.ntmps13
  go_wp2
  refine bodyPost_ret (v := .agg #[.int .i64 (itF va).size, .int .u32 (itF va).va, .int .u64 (itF va).pa, .int .i64 (itF va).dom, .int .i64 (itF va).ap, .int .u32 (itF va).bits, .bool (itF va).ng, .bool (itF va).xn]) (by simp [results, Tryz.results13, go_sem, itF]) rfl ⟨rfl, ?_⟩
  (repeat (first | refine Below.setCell ?_ (by simp) _ | refine Below.alloc ?_ (by simp) _)); exact Below.refl _ _
end Go.Proofs.YtmodcbdgnmjkoabGreatDoor
