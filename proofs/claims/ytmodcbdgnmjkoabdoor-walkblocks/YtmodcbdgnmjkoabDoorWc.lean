import Derived.Test.YtmodcbdgnmjkoabDoorWb
namespace Go.Proofs.YtmodcbdgnmjkoabDoor
open Go.RowKit
open Mm (Turn gr PM valV errV)
set_option linter.unusedVariables false
set_option linter.unusedSimpArgs false
theorem and7 (n : Int) : bits BinOp.and IntKind.i64 n 7 = n % 8 := by
  have h127 : (BitVec.ofInt 64 7).toNat = 2 ^ 3 - 1 := by decide
  have key : (BitVec.ofInt 64 n &&& BitVec.ofInt 64 7).toNat = (n % ((2 ^ 64 : Nat) : Int)).toNat % 2 ^ 3 := by
    rw [BitVec.toNat_and, BitVec.toNat_ofInt, h127, Nat.and_two_pow_sub_one_eq_mod]
  show IntKind.i64.wrap ((BitVec.ofInt 64 n &&& BitVec.ofInt 64 7).toNat : Nat) = n % 8
  rw [key, IntKind.wrap_i64]
  omega
set_option maxRecDepth 100000 in
set_option maxHeartbeats 2000000 in
theorem firstAt_any (c : Ctx) (va : Int) (w : World) (hc : c.Ok) (hv : 0 ≤ va ∧ va < 4294967296) :
    Calls Tryd.prog 57 #[.agg #[.bool c.on, .bool c.tre, .bool c.afe, .int .i64 c.n, .bool c.pd0, .bool c.pd1, .int .u64 c.b0, .int .u64 c.b1, .int .u32 c.dacr, .int .u32 c.prrr, .int .u32 c.nmrr, .int .i64 c.asid], .int .u32 va] w fun e w' => e = .returned (.tuple #[.int .u64 (fA c va), .bool (fO c va)]) ∧ Below w.heap.size w w' := by
  have HC0 := hidW (fun w => cleared_any c.b0 (14 - nN c) w hc.b0 (by omega))
  have HC1 := hidW (fun w => cleared_any c.b1 14 w hc.b1 (by omega))
  have HB : Hid (∀ o, Below w.heap.size w (w.alloc o)) := fun o => below_new w o
  have hN := nN_lt c
  have ha : bits BinOp.and IntKind.i64 c.n 7 = (nN c : Int) := by rw [and7]; unfold nN; omega
  have hr := hidW (fA_rng c va hc hv)
  have hx := (Bl.new w 26 [.bool c.on, .bool c.tre, .bool c.afe, .int .i64 c.n, .bool c.pd0, .bool c.pd1, .int .u64 c.b0, .int .u64 c.b1, .int .u32 c.dacr, .int .u32 c.prrr, .int .u32 c.nmrr, .int .i64 c.asid]).drew
  have e14 : ((14 - nN c : Nat) : Int) = 14 - (nN c : Int) := by omega
  have e32 : (32 - (nN c : Int)).toNat = 32 - nN c := by omega
  rw [e14] at HC0
  have w14 : IntKind.i64.wrap (14 - (nN c : Int)) = 14 - (nN c : Int) := by rw [IntKind.wrap_i64]; omega
  have w32 : IntKind.i64.wrap (32 - (nN c : Int)) = 32 - (nN c : Int) := by rw [IntKind.wrap_i64]; omega
  cases hl : lw c va
  · have hq : (va / 2 ^ (32 - nN c) == 0) = false := hl
    have hfa : fA c va = cl c.b1 14 + 4 * (va / 1048576) := by unfold fA; rw [hl]; rfl
    have hfo : fO c va = !c.pd1 := by unfold fO; rw [hl]; rfl
    rw [hfa] at hr ⊢
    rw [hfo]
    generalize cl c.b1 14 = B at *
    go_enter Tryd.func57, Tryd.ntmps57
    go_wp2
    go_region_held3 (fun w' => w'.cell? ⟨w.heap.size, 7, none⟩ = some (.int .u64 c.b1) ∧ w'.cell? ⟨w.heap.size, 5, none⟩ = some (.bool c.pd1)) (exact ⟨hx.cell 7, hx.cell 5⟩) (first | (go_at_call 85; refine (HC1.out _).mono ?_; rintro e w1 ⟨rfl, rfl⟩))
    go_wp2
    have hr := hr.out
    go_ret2
    exact ⟨by rw [show IntKind.u64.wrap (4 * (va / 1048576)) = 4 * (va / 1048576) by rw [IntKind.wrap_u64]; omega, IntKind.wrap_u64]; simp; omega, below_drew (HB.out _)⟩
  · have hq : (va / 2 ^ (32 - nN c) == 0) = true := hl
    have hfa : fA c va = cl c.b0 (14 - nN c) + 4 * (va / 1048576) := by unfold fA; rw [hl]; rfl
    have hfo : fO c va = !c.pd0 := by unfold fO; rw [hl]; rfl
    rw [hfa] at hr ⊢
    rw [hfo]
    generalize cl c.b0 (14 - nN c) = B at *
    go_enter Tryd.func57, Tryd.ntmps57
    go_wp2
    go_region_held3 (fun w' => w'.cell? ⟨w.heap.size, 6, none⟩ = some (.int .u64 c.b0) ∧ w'.cell? ⟨w.heap.size, 4, none⟩ = some (.bool c.pd0)) (exact ⟨hx.cell 6, hx.cell 4⟩) (first | (go_at_call 85; refine (HC0.out _).mono ?_; rintro e w1 ⟨rfl, rfl⟩))
    go_wp2
    have hr := hr.out
    go_ret2
    exact ⟨by rw [show IntKind.u64.wrap (4 * (va / 1048576)) = 4 * (va / 1048576) by rw [IntKind.wrap_u64]; omega, IntKind.wrap_u64]; simp; omega, below_drew (HB.out _)⟩
end Go.Proofs.YtmodcbdgnmjkoabDoor
