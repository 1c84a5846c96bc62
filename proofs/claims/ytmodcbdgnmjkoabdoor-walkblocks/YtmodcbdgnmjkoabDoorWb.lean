import Derived.Test.YtmodcbdgnmjkoabDoorWa
namespace Go.Proofs.YtmodcbdgnmjkoabDoor
open Go.RowKit
open Mm (Turn gr PM valV errV)
set_option linter.unusedVariables false
set_option linter.unusedSimpArgs false
/-- The program's memory, asked. -/
theorem ask_ram (w : World) (S : Nat → Prop) (p N : Nat) (m : Nat → Int) (pa : Nat) (h : PM w S p N m) (hp : pa < 18446744073709551616) :
    Calls Tryd.prog 58 #[.iface 35 (.pointer (some ⟨p, 0, none⟩)), .int .u64 pa] w fun e w' => e = .returned (.tuple #[.int .u32 (valV N m pa 4), .int .i64 (errV N pa 4)]) ∧ w = w' := by
  have HW := hidW (Mm.word_any w S p N m pa h hp)
  generalize valV N m pa 4 = x at *
  generalize errV N pa 4 = er at *
  clear h
  go_enter Tryd.func58, Tryd.ntmps58
  go_wp2_with (first
    | (go_at_call 130; refine HW.out.mono ?_; rintro e w1 ⟨rfl, rfl⟩))
  go_ret2
  exact ⟨rfl, rfl⟩
theorem ask_nil (w : World) (pa : Int) :
    Calls Tryd.prog 58 #[.nilIface, .int .u64 pa] w fun e w' => e = .returned (.tuple #[.int .u32 0, .int .i64 30]) ∧ w = w' := by
  go_enter Tryd.func58, Tryd.ntmps58
  go_wp2
  go_ret2
  exact ⟨rfl, rfl⟩
theorem cleared_any (b : Int) (n : Nat) (w : World) (hb : 0 ≤ b ∧ b < 18446744073709551616) (hn : n ≤ 14) :
    Calls Tryd.prog 85 #[.int .u64 b, .int .i64 (n : Int)] w fun e w' => e = .returned (.int .u64 (cl b n)) ∧ w = w' := by
  have h1 := cl_le b n hb.1
  have hw : IntKind.u64.wrap (b / 2 ^ n * 2 ^ n) = cl b n := by
    unfold cl at *
    simp only [IntKind.wrap_u64]
    omega
  go_enter Tryd.func85, Tryd.ntmps85
  go_wp2
  go_ret
  exact ⟨by simp [cl], rfl⟩
theorem itself_any (va : Int) (w : World) (hv : 0 ≤ va ∧ va < 4294967296) :
    Calls Tryd.prog 27 #[.int .u32 va] w fun e w' => e = .returned (.agg #[.int .i64 (itF va).size, .int .u32 (itF va).va, .int .u64 (itF va).pa, .int .i64 (itF va).dom, .int .i64 (itF va).ap, .int .u32 (itF va).bits, .bool (itF va).ng, .bool (itF va).xn]) ∧ Below w.heap.size w w' := by
  go_enter Tryd.func27, Tryd.ntmps27
  go_wp2
  refine bodyPost_ret (v := .agg #[.int .i64 (itF va).size, .int .u32 (itF va).va, .int .u64 (itF va).pa, .int .i64 (itF va).dom, .int .i64 (itF va).ap, .int .u32 (itF va).bits, .bool (itF va).ng, .bool (itF va).xn]) (by simp [results, Tryd.results27, go_sem, itF]) rfl ⟨rfl, ?_⟩
  (repeat (first | refine Below.setCell ?_ (by simp) _ | refine Below.alloc ?_ (by simp) _)); exact Below.refl _ _
end Go.Proofs.YtmodcbdgnmjkoabDoor
