import Derived.Test.YtmodcbdgnmjkoabDoorVa
namespace Go.Proofs.YtmodcbdgnmjkoabDoor
open Go.RowKit
open Mm (Turn gr PM RM valV errV Byts)
set_option linter.unusedVariables false
set_option linter.unusedSimpArgs false
theorem cl_sub (b : Int) (n : Nat) : b - b % 2 ^ n = cl b n := by
  unfold cl
  have := Int.ediv_mul_add_emod b (2 ^ n)
  omega
theorem pw_lt (n : Nat) (h : n ≤ 60) : (0 : Int) < 2 ^ n ∧ (2 : Int) ^ n ≤ 1152921504606846976 := by
  have h1 : 2 ^ n ≤ 2 ^ 60 := Nat.pow_le_pow_right (by omega) h
  have h2 := pow_nat n
  have h3 := pow_pos n
  omega
theorem lw_iff (c : Ctx) (va : Int) (h0 : 0 ≤ va) : lw c va = decide (va < 2 ^ (32 - nN c)) := by
  have hp := pow_pos (32 - nN c)
  have h1 : 0 ≤ va / 2 ^ (32 - nN c) := Int.ediv_nonneg h0 (by omega)
  apply Bool.eq_iff_iff.2
  unfold lw
  rw [beq_iff_eq, decide_eq_true_eq]
  constructor
  · intro h
    have := Int.lt_ediv_add_one_mul_self va hp
    rw [h] at this
    omega
  · intro h
    exact Int.ediv_eq_zero_of_lt h0 h
set_option maxRecDepth 100000 in
set_option maxHeartbeats 4000000 in
theorem vfirst_any (c : Ctx) (va : Int) (w : World) (hc : c.Ok) (hv : 0 ≤ va ∧ va < 4294967296) :
    Calls Tryd.prog 18 #[.agg #[.bool c.on, .bool c.tre, .bool c.afe, .int .i64 c.n, .bool c.pd0, .bool c.pd1, .int .u64 c.b0, .int .u64 c.b1, .int .u32 c.dacr, .int .u32 c.prrr, .int .u32 c.nmrr, .int .i64 c.asid], .int .u32 va] w fun e w' => e = .returned (.tuple #[.int .u64 (fA c va), .bool (fO c va)]) ∧ Below w.heap.size w w' := by
  have hN := nN_lt c
  have HP0 := hidW (fun w => vpower_any (14 - nN c) w (by omega))
  have HP1 := hidW (fun w => vpower_any 14 w (by omega))
  have HP2 := hidW (fun w => vpower_any (32 - nN c) w (by omega))
  have HB : Hid (∀ o, Below w.heap.size w (w.alloc o)) := fun o => below_new w o
  have ha : bits BinOp.and IntKind.i64 c.n 7 = (nN c : Int) := by rw [and7]; unfold nN; omega
  have hr := hidW (fA_rng c va hc hv)
  have hx := (Bl.new w 26 [.bool c.on, .bool c.tre, .bool c.afe, .int .i64 c.n, .bool c.pd0, .bool c.pd1, .int .u64 c.b0, .int .u64 c.b1, .int .u32 c.dacr, .int .u32 c.prrr, .int .u32 c.nmrr, .int .i64 c.asid]).drew
  have e14 : ((14 - nN c : Nat) : Int) = 14 - (nN c : Int) := by omega
  have e32 : ((32 - nN c : Nat) : Int) = 32 - (nN c : Int) := by omega
  rw [e14] at HP0
  rw [e32] at HP2
  have w14 : IntKind.i64.wrap (14 - (nN c : Int)) = 14 - (nN c : Int) := by rw [IntKind.wrap_i64]; omega
  have w32 : IntKind.i64.wrap (32 - (nN c : Int)) = 32 - (nN c : Int) := by rw [IntKind.wrap_i64]; omega
  have td : va.tdiv 1048576 = va / 1048576 := Int.tdiv_eq_ediv_of_nonneg hv.1
  have wm : IntKind.u64.wrap (4 * (va / 1048576)) = 4 * (va / 1048576) := by rw [IntKind.wrap_u64]; omega
  have hl' := lw_iff c va hv.1
  have s0 := cl_sub c.b0 (14 - nN c)
  have s1 := cl_sub c.b1 14
  have m0 : c.b0.tmod (2 ^ (14 - nN c)) = c.b0 % 2 ^ (14 - nN c) := Int.tmod_eq_emod_of_nonneg hc.b0.1
  have m1 : c.b1.tmod (2 ^ 14) = c.b1 % 2 ^ 14 := Int.tmod_eq_emod_of_nonneg hc.b1.1
  have k0 := cl_le c.b0 (14 - nN c) hc.b0.1
  have k1 := cl_le c.b1 14 hc.b1.1
  have u0 : IntKind.u64.wrap (c.b0 - c.b0 % 2 ^ (14 - nN c)) = cl c.b0 (14 - nN c) := by rw [IntKind.wrap_u64, s0]; have := hc.b0; omega
  have u1 : IntKind.u64.wrap (c.b1 - c.b1 % 2 ^ 14) = cl c.b1 14 := by rw [IntKind.wrap_u64, s1]; have := hc.b1; omega
  have z0 : ¬ (2 : Int) ^ (14 - nN c) = 0 := by have := pow_pos (14 - nN c); omega
  have z1 : ¬ (2 : Int) ^ 14 = 0 := by decide
  have wA : IntKind.u32.wrap (va / 1048576) = va / 1048576 := by rw [IntKind.wrap_u32]; omega
  have wB : IntKind.u64.wrap (va / 1048576) = va / 1048576 := by rw [IntKind.wrap_u64]; omega
  clear s0 s1 k0 k1
  cases hl : lw c va
  · have hq : decide (va < 2 ^ (32 - nN c)) = false := by rw [← hl', hl]
    have hfa : fA c va = cl c.b1 14 + 4 * (va / 1048576) := by unfold fA; rw [hl]; rfl
    have hfo : fO c va = !c.pd1 := by unfold fO; rw [hl]; rfl
    have hn0 : ¬ nN c = 0 := by
      intro h
      rw [h] at hq
      simp at hq
      omega
    have hq0 : ((nN c : Int) == 0) = false := by simp [hn0]
    rw [hfa] at hr ⊢
    rw [hfo]
    have wf : IntKind.u64.wrap (cl c.b1 14 + 4 * (va / 1048576)) = cl c.b1 14 + 4 * (va / 1048576) := by have := hr.out; rw [IntKind.wrap_u64]; omega
    generalize cl c.b1 14 = B at *
    generalize (2 : Int) ^ 14 = q14 at *
    go_enter Tryd.func18, Tryd.ntmps18
    go_wp2_with (first | (go_at_call 38; refine (HP2.out _).mono ?_; rintro e w1 ⟨rfl, rfl⟩))
    have hz1 : (q14 == 0) = false := by simp [z1]
    have b1 := hc.b1
    clear hl' m0 u0 z0 HP0 HP2 e14 e32 w14 w32 hq hq0 hn0 hl hfa hfo hc
    go_region_held3 (fun w' => w'.cell? ⟨w.heap.size, 7, none⟩ = some (.int .u64 c.b1) ∧ w'.cell? ⟨w.heap.size, 5, none⟩ = some (.bool c.pd1)) (exact ⟨hx.cell 7, hx.cell 5⟩) (first | (go_at_call 38; refine (HP1.out _).mono ?_; rintro e w1 ⟨rfl, rfl⟩))
    go_wp2
    go_ret2
    exact ⟨rfl, below_drew (HB.out _)⟩
  · have hq : decide (va < 2 ^ (32 - nN c)) = true := by rw [← hl', hl]
    have hfa : fA c va = cl c.b0 (14 - nN c) + 4 * (va / 1048576) := by unfold fA; rw [hl]; rfl
    have hfo : fO c va = !c.pd0 := by unfold fO; rw [hl]; rfl
    rw [hfa] at hr ⊢
    rw [hfo]
    have wf : IntKind.u64.wrap (cl c.b0 (14 - nN c) + 4 * (va / 1048576)) = cl c.b0 (14 - nN c) + 4 * (va / 1048576) := by have := hr.out; rw [IntKind.wrap_u64]; omega
    generalize cl c.b0 (14 - nN c) = B at *
    have hz0 : ((2 : Int) ^ (14 - nN c) == 0) = false := by simp [z0]
    have b0 := hc.b0
    generalize (2 : Int) ^ (14 - nN c) = q at *
    generalize (2 : Int) ^ (32 - nN c) = q32 at *
    clear hl' m1 u1 z1 HP1 e14 e32 hl hfa hfo hc
    have he : ∃ b, ((nN c : Int) == 0) = b := ⟨_, rfl⟩
    obtain ⟨b, hb⟩ := he
    cases b
    · go_enter Tryd.func18, Tryd.ntmps18
      go_wp2_with fail
      go_at_call 38
      refine (HP2.out _).mono ?_
      rintro e w1 ⟨rfl, rfl⟩
      go_wp2_with fail
      go_at_call 38
      refine (HP0.out _).mono ?_
      rintro e w1 ⟨rfl, rfl⟩
      go_wp2_with fail
      clear HP0 HP2 w14 w32 hq hb
      go_region_held3 (fun w' => w'.cell? ⟨w.heap.size, 6, none⟩ = some (.int .u64 c.b0) ∧ w'.cell? ⟨w.heap.size, 4, none⟩ = some (.bool c.pd0)) (exact ⟨hx.cell 6, hx.cell 4⟩) (first | fail)
      go_wp2
      go_ret2
      exact ⟨rfl, below_drew (HB.out _)⟩
    · go_enter Tryd.func18, Tryd.ntmps18
      go_wp2_with fail
      go_at_call 38
      refine (HP0.out _).mono ?_
      rintro e w1 ⟨rfl, rfl⟩
      go_wp2_with fail
      clear HP0 HP2 w14 w32 hq hb
      go_region_held3 (fun w' => w'.cell? ⟨w.heap.size, 6, none⟩ = some (.int .u64 c.b0) ∧ w'.cell? ⟨w.heap.size, 4, none⟩ = some (.bool c.pd0)) (exact ⟨hx.cell 6, hx.cell 4⟩) (first | fail)
      go_wp2
      go_ret2
      exact ⟨rfl, below_drew (HB.out _)⟩
end Go.Proofs.YtmodcbdgnmjkoabDoor
