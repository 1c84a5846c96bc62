import Derived.Test.YtmodcbdgnmjkoabDoorWi
import Derived.Test.YtmodcbdgnmjkoabDoorMX
import Derived.Test.YtmodcbdgnmjkoabDoorLr
import Derived.Test.YtmodcbdgnmjkoabDoorMT
import Derived.Deep.CutRange
namespace Go.Proofs.YtmodcbdgnmjkoabDoor
open Go.RowKit
open Mm (Turn gr PM RM valV errV Byts)
set_option linter.unusedVariables false
set_option linter.unusedSimpArgs false
set_option maxRecDepth 100000 in
theorem vpower_any (n : Nat) (w : World) (hn : n ≤ 60) : Calls Tryd.prog 38 #[.int .i64 n] w fun e w' => e = .returned (.int .u64 (2 ^ n)) ∧ w = w' := by
  go_enter Tryd.func38, Tryd.ntmps38
  go_wp2
  go_loopw [3, 4] (fun p i wr => ∃ k : Nat, k ≤ n ∧ p = .int .u64 (2 ^ k) ∧ i = .int .i64 k ∧ w = wr) (fun _ i _ => n - (intOf i).toNat)
  case atStart => exact ⟨0, by omega, rfl, rfl, rfl⟩
  case round =>
    obtain ⟨k, hk, rfl, rfl, rfl⟩ := hrel
    by_cases h : k < n
    · have hi : (k : Int) < (n : Int) := by omega
      have hp : (2 : Int) * 2 ^ k % 18446744073709551616 = 2 ^ (k + 1) := by
        have h1 : 2 ^ (k + 1) ≤ 2 ^ 60 := Nat.pow_le_pow_right (by omega) (by omega)
        have h2 := pow_nat (k + 1)
        have h3 := pow_pos (k + 1)
        rw [Int.mul_comm, ← Int.pow_succ]
        omega
      go_wp2
      go_roundw
      case rel => exact ⟨k + 1, by omega, by rw [Int.pow_succ, Int.mul_comm], by first | rfl | trivial | go_num⟩
      case measure => simp [intOf]; omega
    · have hi : ¬ (k : Int) < (n : Int) := by omega
      obtain rfl : k = n := by omega
      go_wp2
      go_ret
      exact ⟨rfl, rfl⟩
theorem vsecond_any (b va : Int) (w : World) (hb : 0 ≤ b ∧ b < 4294967296) (hv : 0 ≤ va ∧ va < 4294967296) :
    Calls Tryd.prog 67 #[.int .u64 b, .int .u32 va] w fun e w' => e = .returned (.int .u64 (b + 4 * (va / 4096 % 256))) ∧ w = w' := by
  have wm : IntKind.u64.wrap (4 * (va / 4096 % 256)) = 4 * (va / 4096 % 256) := by rw [IntKind.wrap_u64]; omega
  have ws : IntKind.u64.wrap (b + 4 * (va / 4096 % 256)) = b + 4 * (va / 4096 % 256) := by rw [IntKind.wrap_u64]; omega
  have td : va.tdiv 4096 = va / 4096 := Int.tdiv_eq_ediv_of_nonneg hv.1
  have tm : (va / 4096).tmod 256 = va / 4096 % 256 := Int.tmod_eq_emod_of_nonneg (by omega)
  go_enter Tryd.func67, Tryd.ntmps67
  go_wp2
  go_ret
  exact ⟨rfl, rfl⟩
theorem flat_any (va : Int) (w : World) (hv : 0 ≤ va ∧ va < 4294967296) :
    Calls Tryd.prog 66 #[.int .u32 va] w fun e w' => e = .returned (.agg #[.int .i64 (itF va).size, .int .u32 (itF va).va, .int .u64 (itF va).pa, .int .i64 (itF va).dom, .int .i64 (itF va).ap, .int .u32 (itF va).bits, .bool (itF va).ng, .bool (itF va).xn]) ∧ Below w.heap.size w w' := by
  have tm : va.tmod 4096 = va % 4096 := Int.tmod_eq_emod_of_nonneg hv.1
  have ws : IntKind.u32.wrap (va - va % 4096) = va / 4096 * 4096 := by rw [IntKind.wrap_u32]; omega
  go_enter Tryd.func66, Tryd.ntmps66
  go_wp2
  refine bodyPost_ret (v := .agg #[.int .i64 (itF va).size, .int .u32 (itF va).va, .int .u64 (itF va).pa, .int .i64 (itF va).dom, .int .i64 (itF va).ap, .int .u32 (itF va).bits, .bool (itF va).ng, .bool (itF va).xn]) (by simp [results, Tryd.results66, go_sem, itF]) rfl ⟨rfl, ?_⟩
  (repeat (first | refine Below.setCell ?_ (by simp) _ | refine Below.alloc ?_ (by simp) _)); exact Below.refl _ _
/-- The reference's memory: a ram, or none. -/
def MemR (w : World) (S : Nat → Prop) (rv : Value) (M : Mo) : Prop :=
  (∃ r N m, rv = .pointer (some ⟨r, 0, none⟩) ∧ M = ramMo N m ∧ RM w S r N m) ∨ (rv = .pointer none ∧ M = nilMo ∧ ∀ b, ¬ S b)
theorem MemR.keep {w w' : World} {S X : Nat → Prop} {rv : Value} {M : Mo} (h : MemR w S rv M) (T : Turn X w w') (hd : ∀ b, S b → ¬ X b) : MemR w' S rv M := by
  rcases h with ⟨p, N, m, rfl, rfl, h⟩ | h
  · exact .inl ⟨p, N, m, rfl, rfl, h.keep T hd⟩
  · exact .inr h
theorem MemR.below {w w' : World} {S : Nat → Prop} {rv : Value} {M : Mo} (h : MemR w S rv M) (hb : Below w.heap.size w w') : MemR w' S rv M := h.keep (X := fun _ => False) (Turn.below hb) (fun _ _ h => h)
theorem MemR.ok {w : World} {S : Nat → Prop} {rv : Value} {M : Mo} (h : MemR w S rv M) : M.Ok := by
  rcases h with ⟨p, N, m, rfl, rfl, h⟩ | ⟨_, rfl, h⟩
  · exact ramMo_ok h.byts
  · exact nilMo_ok
theorem word_ram (w : World) (S : Nat → Prop) (r N : Nat) (m : Nat → Int) (pa : Nat) (h : RM w S r N m) (hp : pa < 18446744073709551616) :
    Calls Tryd.prog 19 #[.pointer (some ⟨r, 0, none⟩), .int .u64 pa] w fun e w' => e = .returned (.tuple #[.int .u32 (valV N m pa 4), .int .i64 (errV N pa 4)]) ∧ w = w' := by
  have HW := hidW (Mm.rWord_any w S r N m pa h hp)
  generalize valV N m pa 4 = x at *
  generalize errV N pa 4 = er at *
  clear h
  go_enter Tryd.func19, Tryd.ntmps19
  go_wp2_with (first
    | (go_at_call 39; refine HW.out.mono ?_; rintro e w1 ⟨rfl, rfl⟩))
  go_ret2
  exact ⟨rfl, rfl⟩
theorem word_nil (w : World) (pa : Int) :
    Calls Tryd.prog 19 #[.pointer none, .int .u64 pa] w fun e w' => e = .returned (.tuple #[.int .u32 0, .int .i64 30]) ∧ w = w' := by
  go_enter Tryd.func19, Tryd.ntmps19
  go_wp2
  go_ret2
  exact ⟨rfl, rfl⟩
theorem MemR.word {w : World} {S : Nat → Prop} {rv : Value} {M : Mo} (h : MemR w S rv M) (pa : Int) (h0 : 0 ≤ pa) (h1 : pa < 18446744073709551616) :
    Calls Tryd.prog 19 #[rv, .int .u64 pa] w fun e w' => e = .returned (.tuple #[.int .u32 (M.wd pa), .int .i64 (M.er pa)]) ∧ w = w' := by
  rcases h with ⟨p, N, m, rfl, rfl, h⟩ | ⟨rfl, rfl, h⟩
  · have := word_ram w S p N m pa.toNat h (by omega)
    rw [Int.toNat_of_nonneg h0] at this
    exact this
  · exact word_nil w pa
end Go.Proofs.YtmodcbdgnmjkoabDoor
namespace Go.Proofs.YtmodcbdgnmjkoabDoor
open Go.RowKit
open Mm (Turn gr PM RM valV errV Byts)
set_option linter.unusedVariables false
set_option linter.unusedSimpArgs false
theorem cl_sub (b : Int) (n : Nat) : b - b % 2 ^ n = cl b n := by
  unfold cl
  have := Int.ediv_mul_add_emod b (2 ^ n)
  omega
theorem pw_lt (n : Nat) (h : n ≤ 60) : (0 : Int) < 2 ^ n ∧ (2 : Int) ^ n ≤ 1152921504606846976 := by
  have h1 : 2 ^ n ≤ 2 ^ 60 := Nat.pow_le_pow_right (by omega) h
  have h2 := pow_nat n
  have h3 := pow_pos n
  omega
theorem lw_iff (c : Ctx) (va : Int) (h0 : 0 ≤ va) : lw c va = decide (va < 2 ^ (32 - nN c)) := by
  have hp := pow_pos (32 - nN c)
  have h1 : 0 ≤ va / 2 ^ (32 - nN c) := Int.ediv_nonneg h0 (by omega)
  apply Bool.eq_iff_iff.2
  unfold lw
  rw [beq_iff_eq, decide_eq_true_eq]
  constructor
  · intro h
    have := Int.lt_ediv_add_one_mul_self va hp
    rw [h] at this
    omega
  · intro h
    exact Int.ediv_eq_zero_of_lt h0 h
set_option maxRecDepth 100000 in
set_option maxHeartbeats 4000000 in
theorem vfirst_any (c : Ctx) (va : Int) (w : World) (hc : c.Ok) (hv : 0 ≤ va ∧ va < 4294967296) :
    Calls Tryd.prog 18 #[.agg #[.bool c.on, .bool c.tre, .bool c.afe, .int .i64 c.n, .bool c.pd0, .bool c.pd1, .int .u64 c.b0, .int .u64 c.b1, .int .u32 c.dacr, .int .u32 c.prrr, .int .u32 c.nmrr, .int .i64 c.asid], .int .u32 va] w fun e w' => e = .returned (.tuple #[.int .u64 (fA c va), .bool (fO c va)]) ∧ Below w.heap.size w w' := by
  have hN := nN_lt c
  have HP0 := hidW (fun w => vpower_any (14 - nN c) w (by omega))
  have HP1 := hidW (fun w => vpower_any 14 w (by omega))
  have HP2 := hidW (fun w => vpower_any (32 - nN c) w (by omega))
  have HB : Hid (∀ o, Below w.heap.size w (w.alloc o)) := fun o => below_new w o
  have ha : bits BinOp.and IntKind.i64 c.n 7 = (nN c : Int) := by rw [and7]; unfold nN; omega
  have hr := hidW (fA_rng c va hc hv)
  have hx := (Bl.new w 26 [.bool c.on, .bool c.tre, .bool c.afe, .int .i64 c.n, .bool c.pd0, .bool c.pd1, .int .u64 c.b0, .int .u64 c.b1, .int .u32 c.dacr, .int .u32 c.prrr, .int .u32 c.nmrr, .int .i64 c.asid]).drew
  have e14 : ((14 - nN c : Nat) : Int) = 14 - (nN c : Int) := by omega
  have e32 : ((32 - nN c : Nat) : Int) = 32 - (nN c : Int) := by omega
  rw [e14] at HP0
  rw [e32] at HP2
  have w14 : IntKind.i64.wrap (14 - (nN c : Int)) = 14 - (nN c : Int) := by rw [IntKind.wrap_i64]; omega
  have w32 : IntKind.i64.wrap (32 - (nN c : Int)) = 32 - (nN c : Int) := by rw [IntKind.wrap_i64]; omega
  have td : va.tdiv 1048576 = va / 1048576 := Int.tdiv_eq_ediv_of_nonneg hv.1
  have wm : IntKind.u64.wrap (4 * (va / 1048576)) = 4 * (va / 1048576) := by rw [IntKind.wrap_u64]; omega
  have hl' := lw_iff c va hv.1
  have s0 := cl_sub c.b0 (14 - nN c)
  have s1 := cl_sub c.b1 14
  have m0 : c.b0.tmod (2 ^ (14 - nN c)) = c.b0 % 2 ^ (14 - nN c) := Int.tmod_eq_emod_of_nonneg hc.b0.1
  have m1 : c.b1.tmod (2 ^ 14) = c.b1 % 2 ^ 14 := Int.tmod_eq_emod_of_nonneg hc.b1.1
  have k0 := cl_le c.b0 (14 - nN c) hc.b0.1
  have k1 := cl_le c.b1 14 hc.b1.1
  have u0 : IntKind.u64.wrap (c.b0 - c.b0 % 2 ^ (14 - nN c)) = cl c.b0 (14 - nN c) := by rw [IntKind.wrap_u64, s0]; have := hc.b0; omega
  have u1 : IntKind.u64.wrap (c.b1 - c.b1 % 2 ^ 14) = cl c.b1 14 := by rw [IntKind.wrap_u64, s1]; have := hc.b1; omega
  have z0 : ¬ (2 : Int) ^ (14 - nN c) = 0 := by have := pow_pos (14 - nN c); omega
  have z1 : ¬ (2 : Int) ^ 14 = 0 := by decide
  have wA : IntKind.u32.wrap (va / 1048576) = va / 1048576 := by rw [IntKind.wrap_u32]; omega
  have wB : IntKind.u64.wrap (va / 1048576) = va / 1048576 := by rw [IntKind.wrap_u64]; omega
  clear s0 s1 k0 k1
  cases hl : lw c va
  · have hq : decide (va < 2 ^ (32 - nN c)) = false := by rw [← hl', hl]
    have hfa : fA c va = cl c.b1 14 + 4 * (va / 1048576) := by unfold fA; rw [hl]; rfl
    have hfo : fO c va = !c.pd1 := by unfold fO; rw [hl]; rfl
    have hn0 : ¬ nN c = 0 := by
      intro h
      rw [h] at hq
      simp at hq
      omega
    have hq0 : ((nN c : Int) == 0) = false := by simp [hn0]
    rw [hfa] at hr ⊢
    rw [hfo]
    have wf : IntKind.u64.wrap (cl c.b1 14 + 4 * (va / 1048576)) = cl c.b1 14 + 4 * (va / 1048576) := by have := hr.out; rw [IntKind.wrap_u64]; omega
    generalize cl c.b1 14 = B at *
    generalize (2 : Int) ^ 14 = q14 at *
    go_enter Tryd.func18, Tryd.ntmps18
    go_wp2_with (first | (go_at_call 38; refine (HP2.out _).mono ?_; rintro e w1 ⟨rfl, rfl⟩))
    have hz1 : (q14 == 0) = false := by simp [z1]
    have b1 := hc.b1
    clear hl' m0 u0 z0 HP0 HP2 e14 e32 w14 w32 hq hq0 hn0 hl hfa hfo hc
    go_region_held3 (fun w' => w'.cell? ⟨w.heap.size, 7, none⟩ = some (.int .u64 c.b1) ∧ w'.cell? ⟨w.heap.size, 5, none⟩ = some (.bool c.pd1)) (exact ⟨hx.cell 7, hx.cell 5⟩) (first | (go_at_call 38; refine (HP1.out _).mono ?_; rintro e w1 ⟨rfl, rfl⟩))
    go_wp2
    go_ret2
    exact ⟨rfl, below_drew (HB.out _)⟩
  · have hq : decide (va < 2 ^ (32 - nN c)) = true := by rw [← hl', hl]
    have hfa : fA c va = cl c.b0 (14 - nN c) + 4 * (va / 1048576) := by unfold fA; rw [hl]; rfl
    have hfo : fO c va = !c.pd0 := by unfold fO; rw [hl]; rfl
    rw [hfa] at hr ⊢
    rw [hfo]
    have wf : IntKind.u64.wrap (cl c.b0 (14 - nN c) + 4 * (va / 1048576)) = cl c.b0 (14 - nN c) + 4 * (va / 1048576) := by have := hr.out; rw [IntKind.wrap_u64]; omega
    generalize cl c.b0 (14 - nN c) = B at *
    have hz0 : ((2 : Int) ^ (14 - nN c) == 0) = false := by simp [z0]
    have b0 := hc.b0
    generalize (2 : Int) ^ (14 - nN c) = q at *
    generalize (2 : Int) ^ (32 - nN c) = q32 at *
    clear hl' m1 u1 z1 HP1 e14 e32 hl hfa hfo hc
    have he : ∃ b, ((nN c : Int) == 0) = b := ⟨_, rfl⟩
    obtain ⟨b, hb⟩ := he
    cases b
    · go_enter Tryd.func18, Tryd.ntmps18
      go_wp2_with fail
      go_at_call 38
      refine (HP2.out _).mono ?_
      rintro e w1 ⟨rfl, rfl⟩
      go_wp2_with fail
      go_at_call 38
      refine (HP0.out _).mono ?_
      rintro e w1 ⟨rfl, rfl⟩
      go_wp2_with fail
      clear HP0 HP2 w14 w32 hq hb
      go_region_held3 (fun w' => w'.cell? ⟨w.heap.size, 6, none⟩ = some (.int .u64 c.b0) ∧ w'.cell? ⟨w.heap.size, 4, none⟩ = some (.bool c.pd0)) (exact ⟨hx.cell 6, hx.cell 4⟩) (first | fail)
      go_wp2
      go_ret2
      exact ⟨rfl, below_drew (HB.out _)⟩
    · go_enter Tryd.func18, Tryd.ntmps18
      go_wp2_with fail
      go_at_call 38
      refine (HP0.out _).mono ?_
      rintro e w1 ⟨rfl, rfl⟩
      go_wp2_with fail
      clear HP0 HP2 w14 w32 hq hb
      go_region_held3 (fun w' => w'.cell? ⟨w.heap.size, 6, none⟩ = some (.int .u64 c.b0) ∧ w'.cell? ⟨w.heap.size, 4, none⟩ = some (.bool c.pd0)) (exact ⟨hx.cell 6, hx.cell 4⟩) (first | fail)
      go_wp2
      go_ret2
      exact ⟨rfl, below_drew (HB.out _)⟩
end Go.Proofs.YtmodcbdgnmjkoabDoor
namespace Go.Proofs.YtmodcbdgnmjkoabDoor
open Go.RowKit
open Mm (Turn gr PM RM valV errV Byts)
set_option linter.unusedVariables false
set_option linter.unusedSimpArgs false
/-- No memory at all is asked. -/
abbrev St0 : List Int → (Nat → Prop) → World → Prop := Pu (fun _ => False) .nilIface nilMo
theorem A0 (H : Nat) : Asker H nilMo .nilIface St0 := asker_pure H nilMo_ok
theorem St0.new {w : World} (ht : TW w) : St0 [] (fun b => b < w.heap.size) w := ⟨.inr ⟨rfl, rfl, fun _ h => h⟩, fun _ h => h.elim, fun b hb => ht.low hb, fun b hb => hb, ht⟩
theorem Fin.bel {w W : World} {L : List Int} (h : Fin w.heap.size St0 w (fun b => b < w.heap.size) L W) : Below w.heap.size w W := h.2.to (fun x hx => hx.2) (Nat.le_refl _)
theorem Fw.bel {w W : World} {Zr : Nat → Prop} {L : List Int} (h : Fw w.heap.size St0 w (fun b => b < w.heap.size) L W Zr) : Below w.heap.size w W := h.trn.to (fun x hx => hx.2) (Nat.le_refl _)
theorem Us.one {w : World} {g : Nat} {t : TypeId} {a : Int} (h : Bl w g t [.int .u64 a]) : Us w (.slice (some ⟨g, 0, none⟩) 1 1) [a] := by
  refine ⟨some ⟨g, 0, none⟩, 1, rfl, fun i x hx => ⟨g, 0, rfl, ?_⟩⟩
  rw [Nat.zero_add, h.cell i]
  match i, hx with
  | 0, hx => simpa using hx
theorem Us.two {w : World} {g : Nat} {t : TypeId} {a b : Int} (h : Bl w g t [.int .u64 a, .int .u64 b]) : Us w (.slice (some ⟨g, 0, none⟩) 2 2) [a, b] := by
  refine ⟨some ⟨g, 0, none⟩, 2, rfl, fun i x hx => ⟨g, 0, rfl, ?_⟩⟩
  rw [Nat.zero_add, h.cell i]
  match i, hx with
  | 0, hx => simpa using hx
  | 1, hx => simpa using hx
set_option maxRecDepth 100000 in
set_option maxHeartbeats 2000000 in
theorem steps_off (c : Ctx) (va : Int) (w : World) {S : Nat → Prop} {rv : Value} {M : Mo} (hm : MemR w S rv M) (ht : TW w) (hc : c.Ok) (hv : 0 ≤ va ∧ va < 4294967296) (hon : c.on = false) :
    Calls Tryd.prog 34 #[rv, .agg #[.bool c.on, .bool c.tre, .bool c.afe, .int .i64 c.n, .bool c.pd0, .bool c.pd1, .int .u64 c.b0, .int .u64 c.b1, .int .u32 c.dacr, .int .u32 c.prrr, .int .u32 c.nmrr, .int .i64 c.asid], .int .u32 va] w fun e w' => ∃ v, e = .returned (.tuple #[.agg #[.int .i64 (itF va).size, .int .u32 (itF va).va, .int .u64 (itF va).pa, .int .i64 (itF va).dom, .int .i64 (itF va).ap, .int .u32 (itF va).bits, .bool (itF va).ng, .bool (itF va).xn], .agg #[.int .i64 0, .int .i64 0, .int .i64 0], v]) ∧ Us w' v [] ∧ Below w.heap.size w w' := by
  have HI := hidW (fun ww => flat_any va ww hv)
  have HX := hidW (F3.new (A0 w.heap.size) (St0.new ht) 26 49 32 [.bool c.on, .bool c.tre, .bool c.afe, .int .i64 c.n, .bool c.pd0, .bool c.pd1, .int .u64 c.b0, .int .u64 c.b1, .int .u32 c.dacr, .int .u32 c.prrr, .int .u32 c.nmrr, .int .i64 c.asid] [.int .i64 0, .int .u32 0, .int .u64 0, .int .i64 0, .int .i64 0, .int .u32 0, .bool false, .bool false] [.int .i64 0, .int .i64 0, .int .i64 0])
  have A := A0 w.heap.size
  rw [hon] at HX ⊢
  go_enter Tryd.func34, Tryd.ntmps34
  go_wp2_with fail
  go_at_call 66
  refine (HI.out _).mono ?_
  rintro e wa ⟨rfl, hb⟩
  have HX1 := hidW (HX.out.below A hb)
  clear hb HX HI
  generalize w.heap.size + 1 + 1 = z at *
  generalize w.heap.size + 1 = y at *
  have c1 := HX1.out.b.bl.cell
  have f1 := HX1.out.b.bl.frozen
  have c2 := HX1.out.c.bl.cell
  have f2 := HX1.out.c.bl.frozen
  have n1 : ¬ y = z := by have := HX1.out.hz; omega
  have n2 : ¬ z = y := by have := HX1.out.hz; omega
  have l1 := HX1.out.b.bl.lt
  have l2 := HX1.out.c.bl.lt
  go_wp2
  refine bodyPost_ret (v := .tuple #[.agg #[.int .i64 (itF va).size, .int .u32 (itF va).va, .int .u64 (itF va).pa, .int .i64 (itF va).dom, .int .i64 (itF va).ap, .int .u32 (itF va).bits, .bool (itF va).ng, .bool (itF va).xn], .agg #[.int .i64 0, .int .i64 0, .int .i64 0], .slice none 0 0]) (by simp [results, Tryd.results34, go_sem, c1, f1, c2, f2, n1, n2, l1, l2, tZ]) rfl ⟨_, rfl, Us.nil _, (HX1.out.fin11 A _ _ _ _ _ _ _ _ _ _ _).bel⟩
set_option maxRecDepth 100000 in
set_option maxHeartbeats 2000000 in
theorem steps_shut (c : Ctx) (va : Int) (w : World) {S : Nat → Prop} {rv : Value} {M : Mo} (hm : MemR w S rv M) (ht : TW w) (hc : c.Ok) (hv : 0 ≤ va ∧ va < 4294967296) (hon : c.on = true) (hO : fO c va = false) :
    Calls Tryd.prog 34 #[rv, .agg #[.bool c.on, .bool c.tre, .bool c.afe, .int .i64 c.n, .bool c.pd0, .bool c.pd1, .int .u64 c.b0, .int .u64 c.b1, .int .u32 c.dacr, .int .u32 c.prrr, .int .u32 c.nmrr, .int .i64 c.asid], .int .u32 va] w fun e w' => ∃ v, e = .returned (.tuple #[.agg #[.int .i64 tZ.size, .int .u32 tZ.va, .int .u64 tZ.pa, .int .i64 tZ.dom, .int .i64 tZ.ap, .int .u32 tZ.bits, .bool tZ.ng, .bool tZ.xn], .agg #[.int .i64 3, .int .i64 0, .int .i64 0], v]) ∧ Us w' v [] ∧ Below w.heap.size w w' := by
  have HA := hidW (fun ww => vfirst_any c va ww hc hv)
  rw [hO, hon] at HA
  have HX := hidW (F3.new (A0 w.heap.size) (St0.new ht) 26 49 32 [.bool c.on, .bool c.tre, .bool c.afe, .int .i64 c.n, .bool c.pd0, .bool c.pd1, .int .u64 c.b0, .int .u64 c.b1, .int .u32 c.dacr, .int .u32 c.prrr, .int .u32 c.nmrr, .int .i64 c.asid] [.int .i64 0, .int .u32 0, .int .u64 0, .int .i64 0, .int .i64 0, .int .u32 0, .bool false, .bool false] [.int .i64 0, .int .i64 0, .int .i64 0])
  have A := A0 w.heap.size
  rw [hon] at HX ⊢
  go_enter Tryd.func34, Tryd.ntmps34
  go_wp2_with fail
  go_at_call 18
  refine (HA.out _).mono ?_
  rintro e wa ⟨rfl, hb⟩
  have HX1 := hidW (HX.out.below A hb)
  clear hb HX HA
  generalize w.heap.size + 1 + 1 = z at *
  generalize w.heap.size + 1 = y at *
  have c1 := HX1.out.b.bl.cell
  have f1 := HX1.out.b.bl.frozen
  have c2 := HX1.out.c.bl.cell
  have f2 := HX1.out.c.bl.frozen
  have n1 : ¬ y = z := by have := HX1.out.hz; omega
  have n2 : ¬ z = y := by have := HX1.out.hz; omega
  have l1 := HX1.out.b.bl.lt
  have l2 := HX1.out.c.bl.lt
  go_wp2
  refine bodyPost_ret (v := .tuple #[.agg #[.int .i64 tZ.size, .int .u32 tZ.va, .int .u64 tZ.pa, .int .i64 tZ.dom, .int .i64 tZ.ap, .int .u32 tZ.bits, .bool tZ.ng, .bool tZ.xn], .agg #[.int .i64 3, .int .i64 0, .int .i64 0], .slice none 0 0]) (by simp [results, Tryd.results34, go_sem, c1, f1, c2, f2, n1, n2, l1, l2, tZ]) rfl ⟨_, rfl, Us.nil _, (HX1.out.fin11 A _ _ _ _ _ _ _ _ _ _ _).bel⟩
set_option maxRecDepth 100000 in
set_option maxHeartbeats 2000000 in
theorem steps_bus (c : Ctx) (va : Int) (w : World) {S : Nat → Prop} {rv : Value} {M : Mo} (hm : MemR w S rv M) (ht : TW w) (hc : c.Ok) (hv : 0 ≤ va ∧ va < 4294967296) (hon : c.on = true) (hO : fO c va = true) (x er : Int) (hx : M.wd (fA c va) = x) (he : M.er (fA c va) = er) (hne : ¬ er = 0) :
    Calls Tryd.prog 34 #[rv, .agg #[.bool c.on, .bool c.tre, .bool c.afe, .int .i64 c.n, .bool c.pd0, .bool c.pd1, .int .u64 c.b0, .int .u64 c.b1, .int .u32 c.dacr, .int .u32 c.prrr, .int .u32 c.nmrr, .int .i64 c.asid], .int .u32 va] w fun e w' => ∃ v, e = .returned (.tuple #[.agg #[.int .i64 tZ.size, .int .u32 tZ.va, .int .u64 tZ.pa, .int .i64 tZ.dom, .int .i64 tZ.ap, .int .u32 tZ.bits, .bool tZ.ng, .bool tZ.xn], .agg #[.int .i64 2, .int .i64 0, .int .i64 0], v]) ∧ Us w' v [fA c va] ∧ Below w.heap.size w w' := by
  have hq : (er != 0) = true := by simp [hne]
  have HA := hidW (fun ww => vfirst_any c va ww hc hv)
  rw [hO, hon] at HA
  have HX := hidW (F3.new (A0 w.heap.size) (St0.new ht) 26 49 32 [.bool c.on, .bool c.tre, .bool c.afe, .int .i64 c.n, .bool c.pd0, .bool c.pd1, .int .u64 c.b0, .int .u64 c.b1, .int .u32 c.dacr, .int .u32 c.prrr, .int .u32 c.nmrr, .int .i64 c.asid] [.int .i64 0, .int .u32 0, .int .u64 0, .int .i64 0, .int .i64 0, .int .u32 0, .bool false, .bool false] [.int .i64 0, .int .i64 0, .int .i64 0])
  have A := A0 w.heap.size
  rw [hon] at HX ⊢
  go_enter Tryd.func34, Tryd.ntmps34
  go_wp2_with fail
  go_at_call 18
  refine (HA.out _).mono ?_
  rintro e wa ⟨rfl, hb⟩
  have HX1 := hidW (HX.out.below A hb)
  clear hb HX HA
  generalize w.heap.size + 1 + 1 = z at *
  generalize w.heap.size + 1 = y at *
  have HK := hidW ((hm.below HX1.out.f.bel).word (fA c va) (fA_rng c va hc hv).1 (fA_rng c va hc hv).2)
  rw [hx, he] at HK
  go_wp2_with fail
  go_at_call 19
  refine HK.out.mono ?_
  rintro e wb ⟨rfl, rfl⟩
  clear HK
  have HX2 := hidW (HX1.out.below A (below_new wa (.cells #[.int .u64 (fA c va)] 23)))
  have c1 := HX2.out.b.bl.cell
  have f1 := HX2.out.b.bl.frozen
  have c2 := HX2.out.c.bl.cell
  have f2 := HX2.out.c.bl.frozen
  have n1 : ¬ y = z := by have := HX2.out.hz; omega
  have n2 : ¬ z = y := by have := HX2.out.hz; omega
  go_wp2
  refine bodyPost_ret (v := .tuple #[.agg #[.int .i64 tZ.size, .int .u32 tZ.va, .int .u64 tZ.pa, .int .i64 tZ.dom, .int .i64 tZ.ap, .int .u32 tZ.bits, .bool tZ.ng, .bool tZ.xn], .agg #[.int .i64 2, .int .i64 0, .int .i64 0], .slice (some ⟨wa.heap.size, 0, none⟩) 1 1]) (by simp [results, Tryd.results34, go_sem, c1, f1, c2, f2, n1, n2, tZ]) rfl ⟨_, rfl, Us.one (Bl.keep3 (Bl.keep8 (Bl.new wa 23 [.int .u64 (fA c va)]) (by have := HX1.out.b.bl.lt; omega) _ _ _ _ _ _ _ _) (by have := HX1.out.c.bl.lt; omega) _ _ _), (HX2.out.fin11 A _ _ _ _ _ _ _ _ _ _ _).bel⟩
set_option maxRecDepth 100000 in
set_option maxHeartbeats 2000000 in
theorem steps_zero (c : Ctx) (va : Int) (w : World) {S : Nat → Prop} {rv : Value} {M : Mo} (hm : MemR w S rv M) (ht : TW w) (hc : c.Ok) (hv : 0 ≤ va ∧ va < 4294967296) (hon : c.on = true) (hO : fO c va = true) (x er : Int) (hx : M.wd (fA c va) = x) (he : M.er (fA c va) = er) (h0 : er = 0) (k1 k2 k3 : Int) (k4 : Bool) (k5 k6 : Int) (k7 k8 : Bool) (hd : D1 x = ⟨k1, k2, k3, k4, k5, k6, k7, k8⟩) (hk : k1 = 0) :
    Calls Tryd.prog 34 #[rv, .agg #[.bool c.on, .bool c.tre, .bool c.afe, .int .i64 c.n, .bool c.pd0, .bool c.pd1, .int .u64 c.b0, .int .u64 c.b1, .int .u32 c.dacr, .int .u32 c.prrr, .int .u32 c.nmrr, .int .i64 c.asid], .int .u32 va] w fun e w' => ∃ v, e = .returned (.tuple #[.agg #[.int .i64 tZ.size, .int .u32 tZ.va, .int .u64 tZ.pa, .int .i64 tZ.dom, .int .i64 tZ.ap, .int .u32 tZ.bits, .bool tZ.ng, .bool tZ.xn], .agg #[.int .i64 3, .int .i64 0, .int .i64 0], v]) ∧ Us w' v [fA c va] ∧ Below w.heap.size w w' := by
  subst h0
  have hx0 : 0 ≤ x ∧ x < 4294967296 := by rw [← hx]; exact hm.ok _
  have HD := hidW (fun ww => rdec1_any x ww hx0)
  rw [hd] at HD
  clear hd
  subst hk
  have HA := hidW (fun ww => vfirst_any c va ww hc hv)
  rw [hO, hon] at HA
  have HX := hidW (F3.new (A0 w.heap.size) (St0.new ht) 26 49 32 [.bool c.on, .bool c.tre, .bool c.afe, .int .i64 c.n, .bool c.pd0, .bool c.pd1, .int .u64 c.b0, .int .u64 c.b1, .int .u32 c.dacr, .int .u32 c.prrr, .int .u32 c.nmrr, .int .i64 c.asid] [.int .i64 0, .int .u32 0, .int .u64 0, .int .i64 0, .int .i64 0, .int .u32 0, .bool false, .bool false] [.int .i64 0, .int .i64 0, .int .i64 0])
  have A := A0 w.heap.size
  rw [hon] at HX ⊢
  go_enter Tryd.func34, Tryd.ntmps34
  go_wp2_with fail
  go_at_call 18
  refine (HA.out _).mono ?_
  rintro e wa ⟨rfl, hb⟩
  have HX1 := hidW (HX.out.below A hb)
  clear hb HX HA
  generalize w.heap.size + 1 + 1 = z at *
  generalize w.heap.size + 1 = y at *
  have HK := hidW ((hm.below HX1.out.f.bel).word (fA c va) (fA_rng c va hc hv).1 (fA_rng c va hc hv).2)
  rw [hx, he] at HK
  go_wp2_with fail
  go_at_call 19
  refine HK.out.mono ?_
  rintro e wb ⟨rfl, rfl⟩
  clear HK
  go_wp2_with fail
  go_at_call 20
  refine (HD.out _).mono ?_
  rintro e wc ⟨rfl, hb⟩
  have HX2 := hidW (HX1.out.below A hb)
  clear hb HX1 HD
  have HX3 := hidW (HX2.out.below A (below_new wc (.cells #[.int .i64 0, .int .u64 k2, .int .i64 k3, .bool k4, .int .i64 k5, .int .u32 k6, .bool k7, .bool k8] 70)))
  have HX4 := hidW (HX3.out.below A (below_new _ (.cells #[.int .u64 (fA c va)] 23)))
  have hsz : (wc.alloc (.cells #[.int .i64 0, .int .u64 k2, .int .i64 k3, .bool k4, .int .i64 k5, .int .u32 k6, .bool k7, .bool k8] 70)).heap.size = wc.heap.size + 1 := by simp
  have HN := hidW (Bl.new (wc.alloc (.cells #[.int .i64 0, .int .u64 k2, .int .i64 k3, .bool k4, .int .i64 k5, .int .u32 k6, .bool k7, .bool k8] 70)) 23 [.int .u64 (fA c va)])
  rw [hsz] at HN
  have c1 := HX4.out.b.bl.cell
  have f1 := HX4.out.b.bl.frozen
  have c2 := HX4.out.c.bl.cell
  have f2 := HX4.out.c.bl.frozen
  have n1 : ¬ y = z := by have := HX4.out.hz; omega
  have n2 : ¬ z = y := by have := HX4.out.hz; omega
  have m1 : wc.heap.size + 1 ≠ y := by have := HX2.out.b.bl.lt; omega
  have m2 : wc.heap.size + 1 ≠ z := by have := HX2.out.c.bl.lt; omega
  go_wp2
  refine bodyPost_ret (v := .tuple #[.agg #[.int .i64 tZ.size, .int .u32 tZ.va, .int .u64 tZ.pa, .int .i64 tZ.dom, .int .i64 tZ.ap, .int .u32 tZ.bits, .bool tZ.ng, .bool tZ.xn], .agg #[.int .i64 3, .int .i64 0, .int .i64 0], .slice (some ⟨wc.heap.size + 1, 0, none⟩) 1 1]) (by simp [results, Tryd.results34, go_sem, c1, f1, c2, f2, n1, n2, tZ]) rfl ⟨_, rfl, Us.one (Bl.keep3 (Bl.keep8 HN.out m1 _ _ _ _ _ _ _ _) m2 _ _ _), (HX4.out.fin11 A _ _ _ _ _ _ _ _ _ _ _).bel⟩
set_option maxRecDepth 100000 in
set_option maxHeartbeats 2000000 in
theorem steps_blk (c : Ctx) (va : Int) (w : World) {S : Nat → Prop} {rv : Value} {M : Mo} (hm : MemR w S rv M) (ht : TW w) (hc : c.Ok) (hv : 0 ≤ va ∧ va < 4294967296) (hon : c.on = true) (hO : fO c va = true) (x er : Int) (hx : M.wd (fA c va) = x) (he : M.er (fA c va) = er) (h0 : er = 0) (k1 k2 k3 : Int) (k4 : Bool) (k5 k6 : Int) (k7 k8 : Bool) (hd : D1 x = ⟨k1, k2, k3, k4, k5, k6, k7, k8⟩) (hk : ¬ k1 = 0) (hk1 : ¬ k1 = 1) (u : Tra) (hu : trF ⟨k1, k2, k3, k4, k5, k6, k7, k8⟩ 0 va = u) :
    Calls Tryd.prog 34 #[rv, .agg #[.bool c.on, .bool c.tre, .bool c.afe, .int .i64 c.n, .bool c.pd0, .bool c.pd1, .int .u64 c.b0, .int .u64 c.b1, .int .u32 c.dacr, .int .u32 c.prrr, .int .u32 c.nmrr, .int .i64 c.asid], .int .u32 va] w fun e w' => ∃ v, e = .returned (.tuple #[.agg #[.int .i64 u.size, .int .u32 u.va, .int .u64 u.pa, .int .i64 u.dom, .int .i64 u.ap, .int .u32 u.bits, .bool u.ng, .bool u.xn], .agg #[.int .i64 0, .int .i64 0, .int .i64 0], v]) ∧ Us w' v [fA c va] ∧ Below w.heap.size w w' := by
  subst h0
  have hx0 : 0 ≤ x ∧ x < 4294967296 := by rw [← hx]; exact hm.ok _
  have HD := hidW (fun ww => rdec1_any x ww hx0)
  rw [hd] at HD
  have HT := hidW (fun ww => rtrans_any (D1 x) 0 va ww (ok_D1 x hx0).1 hv)
  rw [hd, hu] at HT
  clear hd hu
  have hq : (k1 == 0) = false := by simp [hk]
  have hq1 : (k1 != 1) = true := by simp [hk1]
  have HA := hidW (fun ww => vfirst_any c va ww hc hv)
  rw [hO, hon] at HA
  have HX := hidW (F3.new (A0 w.heap.size) (St0.new ht) 26 49 32 [.bool c.on, .bool c.tre, .bool c.afe, .int .i64 c.n, .bool c.pd0, .bool c.pd1, .int .u64 c.b0, .int .u64 c.b1, .int .u32 c.dacr, .int .u32 c.prrr, .int .u32 c.nmrr, .int .i64 c.asid] [.int .i64 0, .int .u32 0, .int .u64 0, .int .i64 0, .int .i64 0, .int .u32 0, .bool false, .bool false] [.int .i64 0, .int .i64 0, .int .i64 0])
  have A := A0 w.heap.size
  rw [hon] at HX ⊢
  go_enter Tryd.func34, Tryd.ntmps34
  go_wp2_with fail
  go_at_call 18
  refine (HA.out _).mono ?_
  rintro e wa ⟨rfl, hb⟩
  have HX1 := hidW (HX.out.below A hb)
  clear hb HX HA
  generalize w.heap.size + 1 + 1 = z at *
  generalize w.heap.size + 1 = y at *
  have HK := hidW ((hm.below HX1.out.f.bel).word (fA c va) (fA_rng c va hc hv).1 (fA_rng c va hc hv).2)
  rw [hx, he] at HK
  go_wp2_with fail
  go_at_call 19
  refine HK.out.mono ?_
  rintro e wb ⟨rfl, rfl⟩
  clear HK
  go_wp2_with fail
  go_at_call 20
  refine (HD.out _).mono ?_
  rintro e wc ⟨rfl, hb⟩
  have HX2 := hidW (HX1.out.below A hb)
  clear hb HX1 HD
  have HX3 := hidW (HX2.out.below A (below_new wc (.cells #[.int .i64 k1, .int .u64 k2, .int .i64 k3, .bool k4, .int .i64 k5, .int .u32 k6, .bool k7, .bool k8] 70)))
  go_wp2_with fail
  go_at_call 22
  refine (HT.out _).mono ?_
  rintro e wd ⟨rfl, hb⟩
  have HX5 := hidW (HX3.out.below A hb)
  clear hb HX2 HX3 HT
  have HX4 := hidW (HX5.out.below A (below_new wd (.cells #[.int .u64 (fA c va)] 23)))
  have c1 := HX4.out.b.bl.cell
  have f1 := HX4.out.b.bl.frozen
  have c2 := HX4.out.c.bl.cell
  have f2 := HX4.out.c.bl.frozen
  have n1 : ¬ y = z := by have := HX4.out.hz; omega
  have n2 : ¬ z = y := by have := HX4.out.hz; omega
  go_wp2
  refine bodyPost_ret (v := .tuple #[.agg #[.int .i64 u.size, .int .u32 u.va, .int .u64 u.pa, .int .i64 u.dom, .int .i64 u.ap, .int .u32 u.bits, .bool u.ng, .bool u.xn], .agg #[.int .i64 0, .int .i64 0, .int .i64 0], .slice (some ⟨wd.heap.size, 0, none⟩) 1 1]) (by simp [results, Tryd.results34, go_sem, c1, f1, c2, f2, n1, n2, tZ]) rfl ⟨_, rfl, Us.one (Bl.keep3 (Bl.keep8 (Bl.new wd 23 [.int .u64 (fA c va)]) (by have := HX5.out.b.bl.lt; omega) _ _ _ _ _ _ _ _) (by have := HX5.out.c.bl.lt; omega) _ _ _), (HX4.out.fin11 A _ _ _ _ _ _ _ _ _ _ _).bel⟩
end Go.Proofs.YtmodcbdgnmjkoabDoor
namespace Go.Proofs.YtmodcbdgnmjkoabDoor
open Go.RowKit
open Mm (Turn gr PM RM valV errV Byts)
set_option linter.unusedVariables false
set_option linter.unusedSimpArgs false
theorem Bl.put {w : World} {b : Nat} {t : TypeId} {l : List Value} (h : Bl w b t l) (i : Nat) (v : Value) : Bl (w.setCell ⟨b, i, none⟩ v) b t (l.set i v) := by
  unfold Bl at h ⊢
  simp only [World.setCell, Array.getElem?_modify, h, if_true]
  simp
theorem Bl.set8 {w : World} {b : Nat} {t : TypeId} {u0 u1 u2 u3 u4 u5 u6 u7 : Value} (h : Bl w b t [u0, u1, u2, u3, u4, u5, u6, u7]) (v0 v1 v2 v3 v4 v5 v6 v7 : Value) : Bl ((((((((w.setCell ⟨b, 0, none⟩ v0).setCell ⟨b, 1, none⟩ v1).setCell ⟨b, 2, none⟩ v2).setCell ⟨b, 3, none⟩ v3).setCell ⟨b, 4, none⟩ v4).setCell ⟨b, 5, none⟩ v5).setCell ⟨b, 6, none⟩ v6).setCell ⟨b, 7, none⟩ v7) b t [v0, v1, v2, v3, v4, v5, v6, v7] :=
  (((((((h.put 0 v0).put 1 v1).put 2 v2).put 3 v3).put 4 v4).put 5 v5).put 6 v6).put 7 v7
theorem Bl.set3 {w : World} {b : Nat} {t : TypeId} {u0 u1 u2 : Value} (h : Bl w b t [u0, u1, u2]) (v0 v1 v2 : Value) : Bl (((w.setCell ⟨b, 0, none⟩ v0).setCell ⟨b, 1, none⟩ v1).setCell ⟨b, 2, none⟩ v2) b t [v0, v1, v2] :=
  ((h.put 0 v0).put 1 v1).put 2 v2
theorem heap8 (w : World) (b : Nat) (v0 v1 v2 v3 v4 v5 v6 v7 : Value) : ((((((((w.setCell ⟨b, 0, none⟩ v0).setCell ⟨b, 1, none⟩ v1).setCell ⟨b, 2, none⟩ v2).setCell ⟨b, 3, none⟩ v3).setCell ⟨b, 4, none⟩ v4).setCell ⟨b, 5, none⟩ v5).setCell ⟨b, 6, none⟩ v6).setCell ⟨b, 7, none⟩ v7).heap.size = w.heap.size := by simp
theorem heap3 (w : World) (b : Nat) (v0 v1 v2 : Value) : (((w.setCell ⟨b, 0, none⟩ v0).setCell ⟨b, 1, none⟩ v1).setCell ⟨b, 2, none⟩ v2).heap.size = w.heap.size := by simp
/-- What both result boxes and a list's block are behind the stores. -/
structure Ends (w wz : World) (y z g : Nat) (l0 l1 l2 : List Value) : Prop where
  a : Bl wz y 49 l0
  b : Bl wz z 32 l1
  c : Bl wz g 23 l2
  bel : Below w.heap.size w wz
theorem Ends.of {w wx : World} {Zr : Nat → Prop} {x y z : Nat} {t0 : TypeId} {l0 : List Value} {p0 p1 p2 p3 p4 p5 p6 p7 q0 q1 q2 : Value} {L : List Int} (h : F3 w.heap.size St0 w (fun b => b < w.heap.size) x y z t0 49 32 l0 [p0, p1, p2, p3, p4, p5, p6, p7] [q0, q1, q2] L wx Zr) (v0 v1 v2 v3 v4 v5 v6 v7 u0 u1 u2 : Value) (l : List Value) :
    Ends w ((((((((((((wx.setCell ⟨y, 0, none⟩ v0).setCell ⟨y, 1, none⟩ v1).setCell ⟨y, 2, none⟩ v2).setCell ⟨y, 3, none⟩ v3).setCell ⟨y, 4, none⟩ v4).setCell ⟨y, 5, none⟩ v5).setCell ⟨y, 6, none⟩ v6).setCell ⟨y, 7, none⟩ v7).setCell ⟨z, 0, none⟩ u0).setCell ⟨z, 1, none⟩ u1).setCell ⟨z, 2, none⟩ u2).alloc (.cells l.toArray 23)).drew y z wx.heap.size [v0, v1, v2, v3, v4, v5, v6, v7] [u0, u1, u2] l := by
  have n1 : y ≠ z := by have := h.hz; omega
  have n2 : z ≠ y := by have := h.hz; omega
  refine ⟨?_, ?_, ?_, ?_⟩
  · exact (((h.b.bl.set8 v0 v1 v2 v3 v4 v5 v6 v7).keep3 n1 u0 u1 u2).below (below_new _ _)).drew
  · exact (((h.c.bl.keep8 n2 v0 v1 v2 v3 v4 v5 v6 v7).set3 u0 u1 u2).below (below_new _ _)).drew
  · have hN := Bl.new (((((((((((wx.setCell ⟨y, 0, none⟩ v0).setCell ⟨y, 1, none⟩ v1).setCell ⟨y, 2, none⟩ v2).setCell ⟨y, 3, none⟩ v3).setCell ⟨y, 4, none⟩ v4).setCell ⟨y, 5, none⟩ v5).setCell ⟨y, 6, none⟩ v6).setCell ⟨y, 7, none⟩ v7).setCell ⟨z, 0, none⟩ u0).setCell ⟨z, 1, none⟩ u1).setCell ⟨z, 2, none⟩ u2) 23 l
    rw [heap3, heap8] at hN
    exact hN.drew
  · have hf := (h.fin11 (A0 w.heap.size) v0 v1 v2 v3 v4 v5 v6 v7 u0 u1 u2).bel
    exact below_drew (hf.alloc (by rw [heap3, heap8]; exact h.f.bel.size) _)
set_option maxRecDepth 100000 in
set_option maxHeartbeats 2000000 in
theorem steps_bus2 (c : Ctx) (va : Int) (w : World) {S : Nat → Prop} {rv : Value} {M : Mo} (hm : MemR w S rv M) (ht : TW w) (hc : c.Ok) (hv : 0 ≤ va ∧ va < 4294967296) (hon : c.on = true) (hO : fO c va = true) (x er : Int) (hx : M.wd (fA c va) = x) (he : M.er (fA c va) = er) (h0 : er = 0) (k1 k2 k3 : Int) (k4 : Bool) (k5 k6 : Int) (k7 k8 : Bool) (hd : D1 x = ⟨k1, k2, k3, k4, k5, k6, k7, k8⟩) (hk : k1 = 1) (x2 er2 : Int) (hx2 : M.wd (sA ⟨k1, k2, k3, k4, k5, k6, k7, k8⟩ va) = x2) (he2 : M.er (sA ⟨k1, k2, k3, k4, k5, k6, k7, k8⟩ va) = er2) (hne : ¬ er2 = 0) :
    Calls Tryd.prog 34 #[rv, .agg #[.bool c.on, .bool c.tre, .bool c.afe, .int .i64 c.n, .bool c.pd0, .bool c.pd1, .int .u64 c.b0, .int .u64 c.b1, .int .u32 c.dacr, .int .u32 c.prrr, .int .u32 c.nmrr, .int .i64 c.asid], .int .u32 va] w fun e w' => ∃ v, e = .returned (.tuple #[.agg #[.int .i64 tZ.size, .int .u32 tZ.va, .int .u64 tZ.pa, .int .i64 tZ.dom, .int .i64 tZ.ap, .int .u32 tZ.bits, .bool tZ.ng, .bool tZ.xn], .agg #[.int .i64 4, .int .i64 0, .int .i64 k3], v]) ∧ Us w' v [fA c va, sA ⟨k1, k2, k3, k4, k5, k6, k7, k8⟩ va] ∧ Below w.heap.size w w' := by
  subst h0
  have hx0 : 0 ≤ x ∧ x < 4294967296 := by rw [← hx]; exact hm.ok _
  have HD := hidW (fun ww => rdec1_any x ww hx0)
  rw [hd] at HD
  have hb0 := D1_base x hx0 (by rw [hd]; exact hk)
  rw [hd] at hb0
  dsimp only at hb0
  have HS := hidW (fun ww => vsecond_any k2 va ww (by omega) hv)
  have hsA : sA ⟨k1, k2, k3, k4, k5, k6, k7, k8⟩ va = k2 + 4 * (va / 4096 % 256) := rfl
  have hr2 : 0 ≤ k2 + 4 * (va / 4096 % 256) ∧ k2 + 4 * (va / 4096 % 256) < 18446744073709551616 := by omega
  rw [hsA] at hx2 he2 ⊢
  have HM2 := hidW hm
  clear hd hsA hb0
  subst hk
  generalize k2 + 4 * (va / 4096 % 256) = b2 at *
  have hq : (er2 != 0) = true := by simp [hne]
  have HA := hidW (fun ww => vfirst_any c va ww hc hv)
  rw [hO, hon] at HA
  have HX := hidW (F3.new (A0 w.heap.size) (St0.new ht) 26 49 32 [.bool c.on, .bool c.tre, .bool c.afe, .int .i64 c.n, .bool c.pd0, .bool c.pd1, .int .u64 c.b0, .int .u64 c.b1, .int .u32 c.dacr, .int .u32 c.prrr, .int .u32 c.nmrr, .int .i64 c.asid] [.int .i64 0, .int .u32 0, .int .u64 0, .int .i64 0, .int .i64 0, .int .u32 0, .bool false, .bool false] [.int .i64 0, .int .i64 0, .int .i64 0])
  have A := A0 w.heap.size
  rw [hon] at HX ⊢
  go_enter Tryd.func34, Tryd.ntmps34
  go_wp2_with fail
  go_at_call 18
  refine (HA.out _).mono ?_
  rintro e wa ⟨rfl, hb⟩
  have HX1 := hidW (HX.out.below A hb)
  clear hb HX HA
  generalize w.heap.size + 1 + 1 = z at *
  generalize w.heap.size + 1 = y at *
  have HK := hidW ((hm.below HX1.out.f.bel).word (fA c va) (fA_rng c va hc hv).1 (fA_rng c va hc hv).2)
  rw [hx, he] at HK
  go_wp2_with fail
  go_at_call 19
  refine HK.out.mono ?_
  rintro e wb ⟨rfl, rfl⟩
  clear HK
  go_wp2_with fail
  go_at_call 20
  refine (HD.out _).mono ?_
  rintro e wc ⟨rfl, hb⟩
  have HX2 := hidW (HX1.out.below A hb)
  clear hb HX1 HD
  have HX3 := hidW (HX2.out.below A (below_new wc (.cells #[.int .i64 1, .int .u64 k2, .int .i64 k3, .bool k4, .int .i64 k5, .int .u32 k6, .bool k7, .bool k8] 70)))
  have HN := hidW (Bl.new wc 70 [.int .i64 1, .int .u64 k2, .int .i64 k3, .bool k4, .int .i64 k5, .int .u32 k6, .bool k7, .bool k8])
  have m3 : ¬ wc.heap.size = y := by have := HX2.out.b.bl.lt; omega
  have m4 : ¬ wc.heap.size = z := by have := HX2.out.c.bl.lt; omega
  go_wp2_with fail
  generalize (wc.alloc (.cells #[.int .i64 1, .int .u64 k2, .int .i64 k3, .bool k4, .int .i64 k5, .int .u32 k6, .bool k7, .bool k8] 70)) = wx at *
  go_at_call 67
  refine (HS.out _).mono ?_
  rintro e wy ⟨rfl, rfl⟩
  have HK2 := hidW ((HM2.out.below HX3.out.f.bel).word b2 hr2.1 hr2.2)
  rw [hx2, he2] at HK2
  go_wp2_with fail
  go_at_call 19
  refine HK2.out.mono ?_
  rintro e wy ⟨rfl, rfl⟩
  clear HK2 HS
  have l1 := HX3.out.b.bl.lt
  have l2 := HX3.out.c.bl.lt
  have c1 := HX3.out.b.bl.cell
  have f1 := HX3.out.b.bl.frozen
  have c2 := HX3.out.c.bl.cell
  have f2 := HX3.out.c.bl.frozen
  have n1 : ¬ y = z := by have := HX3.out.hz; omega
  have n2 : ¬ z = y := by have := HX3.out.hz; omega
  have n3 : ¬ y = wx.heap.size := by omega
  have n4 : ¬ z = wx.heap.size := by omega
  have g1 : w.heap.size ≤ y := by have := HX3.out.hx; have := HX3.out.hy; omega
  have g2 : w.heap.size ≤ z := by have := HX3.out.hz; omega
  have cx : wx.drew.cell? ⟨wc.heap.size, 2, none⟩ = some (.int .i64 k3) := HN.out.drew.cell 2
  go_wp2_with fail
  have HE := hidW (Ends.of HX3.out (.int .i64 0) (.int .u32 0) (.int .u64 0) (.int .i64 0) (.int .i64 0) (.int .u32 0) (.bool false) (.bool false) (.int .i64 4) (.int .i64 0) (.int .i64 k3) [.int .u64 (fA c va), .int .u64 b2])
  go_region_held3 (fun w' => w'.cell? ⟨wc.heap.size, 2, none⟩ = some (.int .i64 k3)) (first | (with_reducible exact cx) | ((with_reducible refine Eq.trans (Bl.cell (Bl.drew (Bl.below HN.out (below_new _ _))) 2) ?_); rfl) | ((with_reducible refine Eq.trans (Bl.cell (Bl.drew (Bl.keep8 (Bl.below HN.out (below_new _ _)) m3 _ _ _ _ _ _ _ _)) 2) ?_); rfl) | ((with_reducible refine Eq.trans (Bl.cell (Bl.drew (Bl.keep3 (Bl.keep8 (Bl.below HN.out (below_new _ _)) m3 _ _ _ _ _ _ _ _) m4 _ _ _)) 2) ?_); rfl) | ((with_reducible refine Eq.trans (Bl.cell (Bl.drew (Bl.keep8 HN.out m3 _ _ _ _ _ _ _ _)) 2) ?_); rfl) | ((with_reducible refine Eq.trans (Bl.cell (Bl.drew (Bl.below (Bl.keep8 HN.out m3 _ _ _ _ _ _ _ _) (below_new _ _))) 2) ?_); rfl) | ((with_reducible refine Eq.trans (Bl.cell (Bl.drew (Bl.keep3 (Bl.below (Bl.keep8 HN.out m3 _ _ _ _ _ _ _ _) (below_new _ _)) m4 _ _ _)) 2) ?_); rfl) | ((with_reducible refine Eq.trans (Bl.cell (Bl.drew (Bl.keep3 (Bl.keep8 HN.out m3 _ _ _ _ _ _ _ _) m4 _ _ _)) 2) ?_); rfl) | ((with_reducible refine Eq.trans (Bl.cell (Bl.drew (Bl.below (Bl.keep3 (Bl.keep8 HN.out m3 _ _ _ _ _ _ _ _) m4 _ _ _) (below_new _ _))) 2) ?_); rfl)) (first | fail)
  all_goals
    clear c1 f1 c2 f2
    generalize ((((((((((((wx.setCell ⟨y, 0, none⟩ (.int .i64 0)).setCell ⟨y, 1, none⟩ (.int .u32 0)).setCell ⟨y, 2, none⟩ (.int .u64 0)).setCell ⟨y, 3, none⟩ (.int .i64 0)).setCell ⟨y, 4, none⟩ (.int .i64 0)).setCell ⟨y, 5, none⟩ (.int .u32 0)).setCell ⟨y, 6, none⟩ (.bool false)).setCell ⟨y, 7, none⟩ (.bool false)).setCell ⟨z, 0, none⟩ (.int .i64 4)).setCell ⟨z, 1, none⟩ (.int .i64 0)).setCell ⟨z, 2, none⟩ (.int .i64 k3)).alloc (.cells #[.int .u64 (fA c va), .int .u64 b2] 23)).drew = wz at *
    have c1 := HE.out.a.cell
    have c2 := HE.out.b.cell
    go_wp2
    refine bodyPost_ret (v := .tuple #[.agg #[.int .i64 tZ.size, .int .u32 tZ.va, .int .u64 tZ.pa, .int .i64 tZ.dom, .int .i64 tZ.ap, .int .u32 tZ.bits, .bool tZ.ng, .bool tZ.xn], .agg #[.int .i64 4, .int .i64 0, .int .i64 k3], .slice (some ⟨wx.heap.size, 0, none⟩) 2 2]) (by simp [results, Tryd.results34, go_sem, c1, c2, tZ]) rfl ⟨_, rfl, Us.two HE.out.c, HE.out.bel⟩
end Go.Proofs.YtmodcbdgnmjkoabDoor
namespace Go.Proofs.YtmodcbdgnmjkoabDoor
open Go.RowKit
open Mm (Turn gr PM RM valV errV Byts)
set_option linter.unusedVariables false
set_option linter.unusedSimpArgs false
set_option maxRecDepth 100000 in
set_option maxHeartbeats 2000000 in
theorem steps_zero2 (c : Ctx) (va : Int) (w : World) {S : Nat → Prop} {rv : Value} {M : Mo} (hm : MemR w S rv M) (ht : TW w) (hc : c.Ok) (hv : 0 ≤ va ∧ va < 4294967296) (hon : c.on = true) (hO : fO c va = true) (x er : Int) (hx : M.wd (fA c va) = x) (he : M.er (fA c va) = er) (h0 : er = 0) (k1 k2 k3 : Int) (k4 : Bool) (k5 k6 : Int) (k7 k8 : Bool) (hd : D1 x = ⟨k1, k2, k3, k4, k5, k6, k7, k8⟩) (hk : k1 = 1) (x2 er2 : Int) (hx2 : M.wd (sA ⟨k1, k2, k3, k4, k5, k6, k7, k8⟩ va) = x2) (he2 : M.er (sA ⟨k1, k2, k3, k4, k5, k6, k7, k8⟩ va) = er2) (h02 : er2 = 0) (j1 j2 j3 : Int) (j4 : Bool) (j5 j6 : Int) (j7 j8 : Bool) (hd2 : D2 x2 = ⟨j1, j2, j3, j4, j5, j6, j7, j8⟩) (hk2 : j1 = 0) :
    Calls Tryd.prog 34 #[rv, .agg #[.bool c.on, .bool c.tre, .bool c.afe, .int .i64 c.n, .bool c.pd0, .bool c.pd1, .int .u64 c.b0, .int .u64 c.b1, .int .u32 c.dacr, .int .u32 c.prrr, .int .u32 c.nmrr, .int .i64 c.asid], .int .u32 va] w fun e w' => ∃ v, e = .returned (.tuple #[.agg #[.int .i64 tZ.size, .int .u32 tZ.va, .int .u64 tZ.pa, .int .i64 tZ.dom, .int .i64 tZ.ap, .int .u32 tZ.bits, .bool tZ.ng, .bool tZ.xn], .agg #[.int .i64 5, .int .i64 0, .int .i64 k3], v]) ∧ Us w' v [fA c va, sA ⟨k1, k2, k3, k4, k5, k6, k7, k8⟩ va] ∧ Below w.heap.size w w' := by
  subst h0
  have hx0 : 0 ≤ x ∧ x < 4294967296 := by rw [← hx]; exact hm.ok _
  have HD := hidW (fun ww => rdec1_any x ww hx0)
  rw [hd] at HD
  have hb0 := D1_base x hx0 (by rw [hd]; exact hk)
  rw [hd] at hb0
  dsimp only at hb0
  have HS := hidW (fun ww => vsecond_any k2 va ww (by omega) hv)
  have hsA : sA ⟨k1, k2, k3, k4, k5, k6, k7, k8⟩ va = k2 + 4 * (va / 4096 % 256) := rfl
  have hr2 : 0 ≤ k2 + 4 * (va / 4096 % 256) ∧ k2 + 4 * (va / 4096 % 256) < 18446744073709551616 := by omega
  rw [hsA] at hx2 he2 ⊢
  have HM2 := hidW hm
  clear hd hsA hb0
  subst hk
  generalize k2 + 4 * (va / 4096 % 256) = b2 at *
  subst h02
  have hx20 : 0 ≤ x2 ∧ x2 < 4294967296 := by rw [← hx2]; exact hm.ok _
  have HD2 := hidW (fun ww => rdec2_any x2 ww hx20)
  rw [hd2] at HD2
  clear hd2
  subst hk2
  have HA := hidW (fun ww => vfirst_any c va ww hc hv)
  rw [hO, hon] at HA
  have HX := hidW (F3.new (A0 w.heap.size) (St0.new ht) 26 49 32 [.bool c.on, .bool c.tre, .bool c.afe, .int .i64 c.n, .bool c.pd0, .bool c.pd1, .int .u64 c.b0, .int .u64 c.b1, .int .u32 c.dacr, .int .u32 c.prrr, .int .u32 c.nmrr, .int .i64 c.asid] [.int .i64 0, .int .u32 0, .int .u64 0, .int .i64 0, .int .i64 0, .int .u32 0, .bool false, .bool false] [.int .i64 0, .int .i64 0, .int .i64 0])
  have A := A0 w.heap.size
  rw [hon] at HX ⊢
  go_enter Tryd.func34, Tryd.ntmps34
  go_wp2_with fail
  go_at_call 18
  refine (HA.out _).mono ?_
  rintro e wa ⟨rfl, hb⟩
  have HX1 := hidW (HX.out.below A hb)
  clear hb HX HA
  generalize w.heap.size + 1 + 1 = z at *
  generalize w.heap.size + 1 = y at *
  have HK := hidW ((hm.below HX1.out.f.bel).word (fA c va) (fA_rng c va hc hv).1 (fA_rng c va hc hv).2)
  rw [hx, he] at HK
  go_wp2_with fail
  go_at_call 19
  refine HK.out.mono ?_
  rintro e wb ⟨rfl, rfl⟩
  clear HK
  go_wp2_with fail
  go_at_call 20
  refine (HD.out _).mono ?_
  rintro e wc ⟨rfl, hb⟩
  have HX2 := hidW (HX1.out.below A hb)
  clear hb HX1 HD
  have HX3 := hidW (HX2.out.below A (below_new wc (.cells #[.int .i64 1, .int .u64 k2, .int .i64 k3, .bool k4, .int .i64 k5, .int .u32 k6, .bool k7, .bool k8] 70)))
  have HN := hidW (Bl.new wc 70 [.int .i64 1, .int .u64 k2, .int .i64 k3, .bool k4, .int .i64 k5, .int .u32 k6, .bool k7, .bool k8])
  have m3 : ¬ wc.heap.size = y := by have := HX2.out.b.bl.lt; omega
  have m4 : ¬ wc.heap.size = z := by have := HX2.out.c.bl.lt; omega
  go_wp2_with fail
  generalize (wc.alloc (.cells #[.int .i64 1, .int .u64 k2, .int .i64 k3, .bool k4, .int .i64 k5, .int .u32 k6, .bool k7, .bool k8] 70)) = wx at *
  go_at_call 67
  refine (HS.out _).mono ?_
  rintro e wy ⟨rfl, rfl⟩
  have HK2 := hidW ((HM2.out.below HX3.out.f.bel).word b2 hr2.1 hr2.2)
  rw [hx2, he2] at HK2
  go_wp2_with fail
  go_at_call 19
  refine HK2.out.mono ?_
  rintro e wy ⟨rfl, rfl⟩
  clear HK2 HS
  go_wp2_with fail
  go_at_call 68
  refine (HD2.out _).mono ?_
  rintro e wf ⟨rfl, hb⟩
  have HX5 := hidW (HX3.out.below A hb)
  have HN5 := hidW (HN.out.below hb)
  clear hb HX3 HD2 HN
  have HX6 := hidW (HX5.out.below A (below_new wf (.cells #[.int .i64 0, .int .u64 j2, .int .i64 j3, .bool j4, .int .i64 j5, .int .u32 j6, .bool j7, .bool j8] 70)))
  have HN6 := hidW (HN5.out.below (below_new wf (.cells #[.int .i64 0, .int .u64 j2, .int .i64 j3, .bool j4, .int .i64 j5, .int .u32 j6, .bool j7, .bool j8] 70)))
  clear HX5 HN5
  go_wp2_with fail
  generalize (wf.alloc (.cells #[.int .i64 0, .int .u64 j2, .int .i64 j3, .bool j4, .int .i64 j5, .int .u32 j6, .bool j7, .bool j8] 70)) = wv at *
  have l1 := HX6.out.b.bl.lt
  have l2 := HX6.out.c.bl.lt
  have c1 := HX6.out.b.bl.cell
  have f1 := HX6.out.b.bl.frozen
  have c2 := HX6.out.c.bl.cell
  have f2 := HX6.out.c.bl.frozen
  have n1 : ¬ y = z := by have := HX6.out.hz; omega
  have n2 : ¬ z = y := by have := HX6.out.hz; omega
  have n3 : ¬ y = wv.heap.size := by omega
  have n4 : ¬ z = wv.heap.size := by omega
  have g1 : w.heap.size ≤ y := by have := HX6.out.hx; have := HX6.out.hy; omega
  have g2 : w.heap.size ≤ z := by have := HX6.out.hz; omega
  have cx : wv.drew.cell? ⟨wc.heap.size, 2, none⟩ = some (.int .i64 k3) := HN6.out.drew.cell 2
  go_wp2_with fail
  have HE := hidW (Ends.of HX6.out (.int .i64 0) (.int .u32 0) (.int .u64 0) (.int .i64 0) (.int .i64 0) (.int .u32 0) (.bool false) (.bool false) (.int .i64 5) (.int .i64 0) (.int .i64 k3) [.int .u64 (fA c va), .int .u64 b2])
  go_region_held3 (fun w' => w'.cell? ⟨wc.heap.size, 2, none⟩ = some (.int .i64 k3)) (first | (with_reducible exact cx) | ((with_reducible refine Eq.trans (Bl.cell (Bl.drew (Bl.below HN6.out (below_new _ _))) 2) ?_); rfl) | ((with_reducible refine Eq.trans (Bl.cell (Bl.drew (Bl.keep8 (Bl.below HN6.out (below_new _ _)) m3 _ _ _ _ _ _ _ _)) 2) ?_); rfl) | ((with_reducible refine Eq.trans (Bl.cell (Bl.drew (Bl.keep3 (Bl.keep8 (Bl.below HN6.out (below_new _ _)) m3 _ _ _ _ _ _ _ _) m4 _ _ _)) 2) ?_); rfl) | ((with_reducible refine Eq.trans (Bl.cell (Bl.drew (Bl.keep8 HN6.out m3 _ _ _ _ _ _ _ _)) 2) ?_); rfl) | ((with_reducible refine Eq.trans (Bl.cell (Bl.drew (Bl.below (Bl.keep8 HN6.out m3 _ _ _ _ _ _ _ _) (below_new _ _))) 2) ?_); rfl) | ((with_reducible refine Eq.trans (Bl.cell (Bl.drew (Bl.keep3 (Bl.below (Bl.keep8 HN6.out m3 _ _ _ _ _ _ _ _) (below_new _ _)) m4 _ _ _)) 2) ?_); rfl) | ((with_reducible refine Eq.trans (Bl.cell (Bl.drew (Bl.keep3 (Bl.keep8 HN6.out m3 _ _ _ _ _ _ _ _) m4 _ _ _)) 2) ?_); rfl) | ((with_reducible refine Eq.trans (Bl.cell (Bl.drew (Bl.below (Bl.keep3 (Bl.keep8 HN6.out m3 _ _ _ _ _ _ _ _) m4 _ _ _) (below_new _ _))) 2) ?_); rfl)) (first | fail)
  all_goals
    clear c1 f1 c2 f2
    generalize ((((((((((((wv.setCell ⟨y, 0, none⟩ (.int .i64 0)).setCell ⟨y, 1, none⟩ (.int .u32 0)).setCell ⟨y, 2, none⟩ (.int .u64 0)).setCell ⟨y, 3, none⟩ (.int .i64 0)).setCell ⟨y, 4, none⟩ (.int .i64 0)).setCell ⟨y, 5, none⟩ (.int .u32 0)).setCell ⟨y, 6, none⟩ (.bool false)).setCell ⟨y, 7, none⟩ (.bool false)).setCell ⟨z, 0, none⟩ (.int .i64 5)).setCell ⟨z, 1, none⟩ (.int .i64 0)).setCell ⟨z, 2, none⟩ (.int .i64 k3)).alloc (.cells #[.int .u64 (fA c va), .int .u64 b2] 23)).drew = wz at *
    have c1 := HE.out.a.cell
    have c2 := HE.out.b.cell
    go_wp2
    refine bodyPost_ret (v := .tuple #[.agg #[.int .i64 tZ.size, .int .u32 tZ.va, .int .u64 tZ.pa, .int .i64 tZ.dom, .int .i64 tZ.ap, .int .u32 tZ.bits, .bool tZ.ng, .bool tZ.xn], .agg #[.int .i64 5, .int .i64 0, .int .i64 k3], .slice (some ⟨wv.heap.size, 0, none⟩) 2 2]) (by simp [results, Tryd.results34, go_sem, c1, c2, tZ]) rfl ⟨_, rfl, Us.two HE.out.c, HE.out.bel⟩
set_option maxRecDepth 100000 in
set_option maxHeartbeats 2000000 in
theorem steps_ok2 (c : Ctx) (va : Int) (w : World) {S : Nat → Prop} {rv : Value} {M : Mo} (hm : MemR w S rv M) (ht : TW w) (hc : c.Ok) (hv : 0 ≤ va ∧ va < 4294967296) (hon : c.on = true) (hO : fO c va = true) (x er : Int) (hx : M.wd (fA c va) = x) (he : M.er (fA c va) = er) (h0 : er = 0) (k1 k2 k3 : Int) (k4 : Bool) (k5 k6 : Int) (k7 k8 : Bool) (hd : D1 x = ⟨k1, k2, k3, k4, k5, k6, k7, k8⟩) (hk : k1 = 1) (x2 er2 : Int) (hx2 : M.wd (sA ⟨k1, k2, k3, k4, k5, k6, k7, k8⟩ va) = x2) (he2 : M.er (sA ⟨k1, k2, k3, k4, k5, k6, k7, k8⟩ va) = er2) (h02 : er2 = 0) (j1 j2 j3 : Int) (j4 : Bool) (j5 j6 : Int) (j7 j8 : Bool) (hd2 : D2 x2 = ⟨j1, j2, j3, j4, j5, j6, j7, j8⟩) (hk2 : ¬ j1 = 0) (u : Tra) (hu : trF ⟨j1, j2, j3, j4, j5, j6, j7, j8⟩ k3 va = u) :
    Calls Tryd.prog 34 #[rv, .agg #[.bool c.on, .bool c.tre, .bool c.afe, .int .i64 c.n, .bool c.pd0, .bool c.pd1, .int .u64 c.b0, .int .u64 c.b1, .int .u32 c.dacr, .int .u32 c.prrr, .int .u32 c.nmrr, .int .i64 c.asid], .int .u32 va] w fun e w' => ∃ v, e = .returned (.tuple #[.agg #[.int .i64 u.size, .int .u32 u.va, .int .u64 u.pa, .int .i64 u.dom, .int .i64 u.ap, .int .u32 u.bits, .bool u.ng, .bool u.xn], .agg #[.int .i64 0, .int .i64 0, .int .i64 0], v]) ∧ Us w' v [fA c va, sA ⟨k1, k2, k3, k4, k5, k6, k7, k8⟩ va] ∧ Below w.heap.size w w' := by
  subst h0
  have hx0 : 0 ≤ x ∧ x < 4294967296 := by rw [← hx]; exact hm.ok _
  have HD := hidW (fun ww => rdec1_any x ww hx0)
  rw [hd] at HD
  have hb0 := D1_base x hx0 (by rw [hd]; exact hk)
  rw [hd] at hb0
  dsimp only at hb0
  have HS := hidW (fun ww => vsecond_any k2 va ww (by omega) hv)
  have hsA : sA ⟨k1, k2, k3, k4, k5, k6, k7, k8⟩ va = k2 + 4 * (va / 4096 % 256) := rfl
  have hr2 : 0 ≤ k2 + 4 * (va / 4096 % 256) ∧ k2 + 4 * (va / 4096 % 256) < 18446744073709551616 := by omega
  rw [hsA] at hx2 he2 ⊢
  have HM2 := hidW hm
  clear hd hsA hb0
  subst hk
  generalize k2 + 4 * (va / 4096 % 256) = b2 at *
  subst h02
  have hx20 : 0 ≤ x2 ∧ x2 < 4294967296 := by rw [← hx2]; exact hm.ok _
  have HD2 := hidW (fun ww => rdec2_any x2 ww hx20)
  rw [hd2] at HD2
  have HT := hidW (fun ww => rtrans_any (D2 x2) k3 va ww (ok_D2 x2 hx20).1 hv)
  rw [hd2, hu] at HT
  clear hd2 hu
  have hq2 : (j1 == 0) = false := by simp [hk2]
  have HA := hidW (fun ww => vfirst_any c va ww hc hv)
  rw [hO, hon] at HA
  have HX := hidW (F3.new (A0 w.heap.size) (St0.new ht) 26 49 32 [.bool c.on, .bool c.tre, .bool c.afe, .int .i64 c.n, .bool c.pd0, .bool c.pd1, .int .u64 c.b0, .int .u64 c.b1, .int .u32 c.dacr, .int .u32 c.prrr, .int .u32 c.nmrr, .int .i64 c.asid] [.int .i64 0, .int .u32 0, .int .u64 0, .int .i64 0, .int .i64 0, .int .u32 0, .bool false, .bool false] [.int .i64 0, .int .i64 0, .int .i64 0])
  have A := A0 w.heap.size
  rw [hon] at HX ⊢
  go_enter Tryd.func34, Tryd.ntmps34
  go_wp2_with fail
  go_at_call 18
  refine (HA.out _).mono ?_
  rintro e wa ⟨rfl, hb⟩
  have HX1 := hidW (HX.out.below A hb)
  clear hb HX HA
  generalize w.heap.size + 1 + 1 = z at *
  generalize w.heap.size + 1 = y at *
  have HK := hidW ((hm.below HX1.out.f.bel).word (fA c va) (fA_rng c va hc hv).1 (fA_rng c va hc hv).2)
  rw [hx, he] at HK
  go_wp2_with fail
  go_at_call 19
  refine HK.out.mono ?_
  rintro e wb ⟨rfl, rfl⟩
  clear HK
  go_wp2_with fail
  go_at_call 20
  refine (HD.out _).mono ?_
  rintro e wc ⟨rfl, hb⟩
  have HX2 := hidW (HX1.out.below A hb)
  clear hb HX1 HD
  have HX3 := hidW (HX2.out.below A (below_new wc (.cells #[.int .i64 1, .int .u64 k2, .int .i64 k3, .bool k4, .int .i64 k5, .int .u32 k6, .bool k7, .bool k8] 70)))
  have HN := hidW (Bl.new wc 70 [.int .i64 1, .int .u64 k2, .int .i64 k3, .bool k4, .int .i64 k5, .int .u32 k6, .bool k7, .bool k8])
  have m3 : ¬ wc.heap.size = y := by have := HX2.out.b.bl.lt; omega
  have m4 : ¬ wc.heap.size = z := by have := HX2.out.c.bl.lt; omega
  go_wp2_with fail
  generalize (wc.alloc (.cells #[.int .i64 1, .int .u64 k2, .int .i64 k3, .bool k4, .int .i64 k5, .int .u32 k6, .bool k7, .bool k8] 70)) = wx at *
  go_at_call 67
  refine (HS.out _).mono ?_
  rintro e wy ⟨rfl, rfl⟩
  have HK2 := hidW ((HM2.out.below HX3.out.f.bel).word b2 hr2.1 hr2.2)
  rw [hx2, he2] at HK2
  go_wp2_with fail
  go_at_call 19
  refine HK2.out.mono ?_
  rintro e wy ⟨rfl, rfl⟩
  clear HK2 HS
  go_wp2_with fail
  go_at_call 68
  refine (HD2.out _).mono ?_
  rintro e wf ⟨rfl, hb⟩
  have HX5 := hidW (HX3.out.below A hb)
  have HN5 := hidW (HN.out.below hb)
  clear hb HX3 HD2 HN
  have HX6 := hidW (HX5.out.below A (below_new wf (.cells #[.int .i64 j1, .int .u64 j2, .int .i64 j3, .bool j4, .int .i64 j5, .int .u32 j6, .bool j7, .bool j8] 70)))
  have HN6 := hidW (HN5.out.below (below_new wf (.cells #[.int .i64 j1, .int .u64 j2, .int .i64 j3, .bool j4, .int .i64 j5, .int .u32 j6, .bool j7, .bool j8] 70)))
  clear HX5 HN5
  have cx := HN6.out.cell 2
  simp only [List.getElem?_cons_succ, List.getElem?_cons_zero] at cx
  go_wp2_with fail
  go_at_call 22
  refine (HT.out _).mono ?_
  rintro e wd ⟨rfl, hb⟩
  have HX7 := hidW (HX6.out.below A hb)
  clear hb HX6 HN6 HT cx
  have HX8 := hidW (HX7.out.below A (below_new wd (.cells #[.int .u64 (fA c va), .int .u64 b2] 23)))
  have c1 := HX8.out.b.bl.cell
  have f1 := HX8.out.b.bl.frozen
  have c2 := HX8.out.c.bl.cell
  have f2 := HX8.out.c.bl.frozen
  have n1 : ¬ y = z := by have := HX8.out.hz; omega
  have n2 : ¬ z = y := by have := HX8.out.hz; omega
  go_wp2
  refine bodyPost_ret (v := .tuple #[.agg #[.int .i64 u.size, .int .u32 u.va, .int .u64 u.pa, .int .i64 u.dom, .int .i64 u.ap, .int .u32 u.bits, .bool u.ng, .bool u.xn], .agg #[.int .i64 0, .int .i64 0, .int .i64 0], .slice (some ⟨wd.heap.size, 0, none⟩) 2 2]) (by simp [results, Tryd.results34, go_sem, c1, f1, c2, f2, n1, n2]) rfl ⟨_, rfl, Us.two (Bl.keep3 (Bl.keep8 (Bl.new wd 23 [.int .u64 (fA c va), .int .u64 b2]) (by have := HX7.out.b.bl.lt; omega) _ _ _ _ _ _ _ _) (by have := HX7.out.c.bl.lt; omega) _ _ _), (HX8.out.fin11 A _ _ _ _ _ _ _ _ _ _ _).bel⟩
theorem steps_any (c : Ctx) (va : Int) (w : World) {S : Nat → Prop} {rv : Value} {M : Mo} (hm : MemR w S rv M) (ht : TW w) (hc : c.Ok) (hv : 0 ≤ va ∧ va < 4294967296) :
    Calls Tryd.prog 34 #[rv, .agg #[.bool c.on, .bool c.tre, .bool c.afe, .int .i64 c.n, .bool c.pd0, .bool c.pd1, .int .u64 c.b0, .int .u64 c.b1, .int .u32 c.dacr, .int .u32 c.prrr, .int .u32 c.nmrr, .int .i64 c.asid], .int .u32 va] w fun e w' => ∃ v, e = .returned (.tuple #[.agg #[.int .i64 ((wk M c va).1).size, .int .u32 ((wk M c va).1).va, .int .u64 ((wk M c va).1).pa, .int .i64 ((wk M c va).1).dom, .int .i64 ((wk M c va).1).ap, .int .u32 ((wk M c va).1).bits, .bool ((wk M c va).1).ng, .bool ((wk M c va).1).xn], .agg #[.int .i64 ((wk M c va).2).k, .int .i64 ((wk M c va).2).l, .int .i64 ((wk M c va).2).d], v]) ∧ Us w' v (rdL M c va) ∧ Below w.heap.size w w' := by
  unfold wk rdL
  cases hon : c.on
  · have h := steps_off c va w hm ht hc hv hon
    rw [hon] at h
    simpa [fZ] using h
  · cases hO : fO c va
    · have hw : w1 M c va = (dZ, ⟨3, 0, 0⟩) := by unfold w1; rw [hO]; rfl
      have h := steps_shut c va w hm ht hc hv hon hO
      rw [hon] at h
      simpa [hw, r1, hO] using h
    · by_cases he : M.er (fA c va) = 0
      · by_cases hk : (D1 (M.wd (fA c va))).kind = 0
        · have hw : w1 M c va = (dZ, ⟨3, 0, 0⟩) := by unfold w1; rw [if_pos hO, if_pos he, if_pos hk]
          have h := steps_zero c va w hm ht hc hv hon hO _ _ rfl rfl he (D1 (M.wd (fA c va))).kind (D1 (M.wd (fA c va))).base (D1 (M.wd (fA c va))).dom (D1 (M.wd (fA c va))).ns (D1 (M.wd (fA c va))).ap (D1 (M.wd (fA c va))).bits (D1 (M.wd (fA c va))).ng (D1 (M.wd (fA c va))).xn rfl hk
          rw [hon] at h
          simpa [hw, r1, hO] using h
        · have hw : w1 M c va = (D1 (M.wd (fA c va)), fZ) := by unfold w1; rw [if_pos hO, if_pos he, if_neg hk]
          rw [hw]
          by_cases hk1 : (D1 (M.wd (fA c va))).kind = 1
          · have hz : fZ.k = 0 := rfl
            simp only [hz, if_true, hk1, r1, hO, and_self, List.singleton_append]
            unfold w2
            by_cases he2 : M.er (sA (D1 (M.wd (fA c va))) va) = 0
            · by_cases hk2 : (D2 (M.wd (sA (D1 (M.wd (fA c va))) va))).kind = 0
              · have h := steps_zero2 c va w hm ht hc hv hon hO _ _ rfl rfl he (D1 (M.wd (fA c va))).kind (D1 (M.wd (fA c va))).base (D1 (M.wd (fA c va))).dom (D1 (M.wd (fA c va))).ns (D1 (M.wd (fA c va))).ap (D1 (M.wd (fA c va))).bits (D1 (M.wd (fA c va))).ng (D1 (M.wd (fA c va))).xn rfl hk1 _ _ rfl rfl he2 (D2 (M.wd (sA (D1 (M.wd (fA c va))) va))).kind (D2 (M.wd (sA (D1 (M.wd (fA c va))) va))).base (D2 (M.wd (sA (D1 (M.wd (fA c va))) va))).dom (D2 (M.wd (sA (D1 (M.wd (fA c va))) va))).ns (D2 (M.wd (sA (D1 (M.wd (fA c va))) va))).ap (D2 (M.wd (sA (D1 (M.wd (fA c va))) va))).bits (D2 (M.wd (sA (D1 (M.wd (fA c va))) va))).ng (D2 (M.wd (sA (D1 (M.wd (fA c va))) va))).xn rfl hk2
                rw [hon] at h
                rw [if_pos he2, if_pos hk2]
                exact h
              · have h := steps_ok2 c va w hm ht hc hv hon hO _ _ rfl rfl he (D1 (M.wd (fA c va))).kind (D1 (M.wd (fA c va))).base (D1 (M.wd (fA c va))).dom (D1 (M.wd (fA c va))).ns (D1 (M.wd (fA c va))).ap (D1 (M.wd (fA c va))).bits (D1 (M.wd (fA c va))).ng (D1 (M.wd (fA c va))).xn rfl hk1 _ _ rfl rfl he2 (D2 (M.wd (sA (D1 (M.wd (fA c va))) va))).kind (D2 (M.wd (sA (D1 (M.wd (fA c va))) va))).base (D2 (M.wd (sA (D1 (M.wd (fA c va))) va))).dom (D2 (M.wd (sA (D1 (M.wd (fA c va))) va))).ns (D2 (M.wd (sA (D1 (M.wd (fA c va))) va))).ap (D2 (M.wd (sA (D1 (M.wd (fA c va))) va))).bits (D2 (M.wd (sA (D1 (M.wd (fA c va))) va))).ng (D2 (M.wd (sA (D1 (M.wd (fA c va))) va))).xn rfl hk2 _ rfl
                rw [hon] at h
                rw [if_pos he2, if_neg hk2]
                exact h
            · have h := steps_bus2 c va w hm ht hc hv hon hO _ _ rfl rfl he (D1 (M.wd (fA c va))).kind (D1 (M.wd (fA c va))).base (D1 (M.wd (fA c va))).dom (D1 (M.wd (fA c va))).ns (D1 (M.wd (fA c va))).ap (D1 (M.wd (fA c va))).bits (D1 (M.wd (fA c va))).ng (D1 (M.wd (fA c va))).xn rfl hk1 _ _ rfl rfl he2
              rw [hon] at h
              rw [if_neg he2]
              exact h
          · have hz : fZ.k = 0 := rfl
            have h := steps_blk c va w hm ht hc hv hon hO _ _ rfl rfl he (D1 (M.wd (fA c va))).kind (D1 (M.wd (fA c va))).base (D1 (M.wd (fA c va))).dom (D1 (M.wd (fA c va))).ns (D1 (M.wd (fA c va))).ap (D1 (M.wd (fA c va))).bits (D1 (M.wd (fA c va))).ng (D1 (M.wd (fA c va))).xn rfl hk hk1 _ rfl
            rw [hon] at h
            simpa [hz, hk1, r1, hO, fZ] using h
      · have hw : w1 M c va = (dZ, ⟨2, 0, 0⟩) := by unfold w1; rw [if_pos hO, if_neg he]
        have h := steps_bus c va w hm ht hc hv hon hO _ _ rfl rfl he
        rw [hon] at h
        simpa [hw, r1, hO] using h
end Go.Proofs.YtmodcbdgnmjkoabDoor
namespace Go.Proofs.YtmodcbdgnmjkoabDoor
open Go.RowKit
open Mm (Turn gr PM RM valV errV Byts)
set_option linter.unusedVariables false
set_option linter.unusedSimpArgs false
set_option maxRecDepth 100000 in
set_option maxHeartbeats 4000000 in
theorem vwalk_core (c : Ctx) (va : Int) (w : World) (rv : Value) (ht : TW w) (u : Tra) (f : Fa) (l : List Int)
    (HS : ∀ ww, Below w.heap.size w ww → Calls Tryd.prog 34 #[rv, .agg #[.bool c.on, .bool c.tre, .bool c.afe, .int .i64 c.n, .bool c.pd0, .bool c.pd1, .int .u64 c.b0, .int .u64 c.b1, .int .u32 c.dacr, .int .u32 c.prrr, .int .u32 c.nmrr, .int .i64 c.asid], .int .u32 va] ww fun e w' => ∃ v, e = .returned (.tuple #[.agg #[.int .i64 u.size, .int .u32 u.va, .int .u64 u.pa, .int .i64 u.dom, .int .i64 u.ap, .int .u32 u.bits, .bool u.ng, .bool u.xn], .agg #[.int .i64 f.k, .int .i64 f.l, .int .i64 f.d], v]) ∧ Us w' v l ∧ Below ww.heap.size ww w') :
    Calls Tryd.prog 16 #[rv, .agg #[.bool c.on, .bool c.tre, .bool c.afe, .int .i64 c.n, .bool c.pd0, .bool c.pd1, .int .u64 c.b0, .int .u64 c.b1, .int .u32 c.dacr, .int .u32 c.prrr, .int .u32 c.nmrr, .int .i64 c.asid], .int .u32 va] w fun e w' => e = .returned (.tuple #[.agg #[.int .i64 u.size, .int .u32 u.va, .int .u64 u.pa, .int .i64 u.dom, .int .i64 u.ap, .int .u32 u.bits, .bool u.ng, .bool u.xn], .agg #[.int .i64 f.k, .int .i64 f.l, .int .i64 f.d]]) ∧ Below w.heap.size w w' := by
  have A := A0 w.heap.size
  have HX := hidW (F3.new A (St0.new ht) 26 49 32 [.bool c.on, .bool c.tre, .bool c.afe, .int .i64 c.n, .bool c.pd0, .bool c.pd1, .int .u64 c.b0, .int .u64 c.b1, .int .u32 c.dacr, .int .u32 c.prrr, .int .u32 c.nmrr, .int .i64 c.asid] [.int .i64 0, .int .u32 0, .int .u64 0, .int .i64 0, .int .i64 0, .int .u32 0, .bool false, .bool false] [.int .i64 0, .int .i64 0, .int .i64 0])
  have HS := hidW HS
  go_enter Tryd.func16, Tryd.ntmps16
  go_wp2_with fail
  go_at_call 34
  refine (HS.out _ HX.out.f.bel).mono ?_
  rintro e wa ⟨v, rfl, _, hb⟩
  have HX1 := hidW (HX.out.below A hb)
  clear hb HX HS
  generalize w.heap.size + 1 + 1 = z at *
  generalize w.heap.size + 1 = y at *
  have HX2 := hidW ((HX1.out.below A (below_new wa (.cells #[.int .i64 u.size, .int .u32 u.va, .int .u64 u.pa, .int .i64 u.dom, .int .i64 u.ap, .int .u32 u.bits, .bool u.ng, .bool u.xn] 49))).below A (below_new _ (.cells #[.int .i64 f.k, .int .i64 f.l, .int .i64 f.d] 32)))
  have HN := hidW ((Bl.new wa 49 [.int .i64 u.size, .int .u32 u.va, .int .u64 u.pa, .int .i64 u.dom, .int .i64 u.ap, .int .u32 u.bits, .bool u.ng, .bool u.xn]).below (below_new _ (.cells #[.int .i64 f.k, .int .i64 f.l, .int .i64 f.d] 32)))
  have HM := hidW (Bl.new (wa.alloc (.cells #[.int .i64 u.size, .int .u32 u.va, .int .u64 u.pa, .int .i64 u.dom, .int .i64 u.ap, .int .u32 u.bits, .bool u.ng, .bool u.xn] 49)) 32 [.int .i64 f.k, .int .i64 f.l, .int .i64 f.d])
  rw [show (wa.alloc (.cells #[.int .i64 u.size, .int .u32 u.va, .int .u64 u.pa, .int .i64 u.dom, .int .i64 u.ap, .int .u32 u.bits, .bool u.ng, .bool u.xn] 49)).heap.size = wa.heap.size + 1 by simp] at HM
  have m1 : ¬ wa.heap.size = y := by have := HX1.out.b.bl.lt; omega
  have m2 : ¬ wa.heap.size = z := by have := HX1.out.c.bl.lt; omega
  have m3 : ¬ wa.heap.size + 1 = y := by have := HX1.out.b.bl.lt; omega
  have m4 : ¬ wa.heap.size + 1 = z := by have := HX1.out.c.bl.lt; omega
  go_wp2
  generalize ((wa.alloc (.cells #[.int .i64 u.size, .int .u32 u.va, .int .u64 u.pa, .int .i64 u.dom, .int .i64 u.ap, .int .u32 u.bits, .bool u.ng, .bool u.xn] 49)).alloc (.cells #[.int .i64 f.k, .int .i64 f.l, .int .i64 f.d] 32)) = wx at *
  generalize wa.heap.size + 1 = b2 at *
  generalize wa.heap.size = b1 at *
  have c1 := HX2.out.b.bl.cell
  have f1 := HX2.out.b.bl.frozen
  have l1 := HX2.out.b.bl.lt
  have c2 := HX2.out.c.bl.cell
  have f2 := HX2.out.c.bl.frozen
  have l2 := HX2.out.c.bl.lt
  have n1 : ¬ y = z := by have := HX2.out.hz; omega
  have n2 : ¬ z = y := by have := HX2.out.hz; omega
  have hS : ∀ ww, Bl ww b1 49 [.int .i64 u.size, .int .u32 u.va, .int .u64 u.pa, .int .i64 u.dom, .int .i64 u.ap, .int .u32 u.bits, .bool u.ng, .bool u.xn] → Bl ww b2 32 [.int .i64 f.k, .int .i64 f.l, .int .i64 f.d] → (ww.drew.cell? ⟨b1, 0, none⟩ = some (.int .i64 u.size) ∧ ww.drew.cell? ⟨b1, 1, none⟩ = some (.int .u32 u.va) ∧ ww.drew.cell? ⟨b1, 2, none⟩ = some (.int .u64 u.pa) ∧ ww.drew.cell? ⟨b1, 3, none⟩ = some (.int .i64 u.dom) ∧ ww.drew.cell? ⟨b1, 4, none⟩ = some (.int .i64 u.ap) ∧ ww.drew.cell? ⟨b1, 5, none⟩ = some (.int .u32 u.bits) ∧ ww.drew.cell? ⟨b1, 6, none⟩ = some (.bool u.ng) ∧ ww.drew.cell? ⟨b1, 7, none⟩ = some (.bool u.xn) ∧ ww.drew.cell? ⟨b2, 0, none⟩ = some (.int .i64 f.k) ∧ ww.drew.cell? ⟨b2, 1, none⟩ = some (.int .i64 f.l) ∧ ww.drew.cell? ⟨b2, 2, none⟩ = some (.int .i64 f.d)) := fun ww h1 h2 => ⟨h1.drew.cell 0, h1.drew.cell 1, h1.drew.cell 2, h1.drew.cell 3, h1.drew.cell 4, h1.drew.cell 5, h1.drew.cell 6, h1.drew.cell 7, h2.drew.cell 0, h2.drew.cell 1, h2.drew.cell 2⟩
  go_region_held3 (fun w' => (w'.cell? ⟨b1, 0, none⟩ = some (.int .i64 u.size) ∧ w'.cell? ⟨b1, 1, none⟩ = some (.int .u32 u.va) ∧ w'.cell? ⟨b1, 2, none⟩ = some (.int .u64 u.pa) ∧ w'.cell? ⟨b1, 3, none⟩ = some (.int .i64 u.dom) ∧ w'.cell? ⟨b1, 4, none⟩ = some (.int .i64 u.ap) ∧ w'.cell? ⟨b1, 5, none⟩ = some (.int .u32 u.bits) ∧ w'.cell? ⟨b1, 6, none⟩ = some (.bool u.ng) ∧ w'.cell? ⟨b1, 7, none⟩ = some (.bool u.xn) ∧ w'.cell? ⟨b2, 0, none⟩ = some (.int .i64 f.k) ∧ w'.cell? ⟨b2, 1, none⟩ = some (.int .i64 f.l) ∧ w'.cell? ⟨b2, 2, none⟩ = some (.int .i64 f.d))) (first | (with_reducible exact hS _ HN.out HM.out) | (with_reducible exact hS _ (Bl.keep8 HN.out m1 _ _ _ _ _ _ _ _) (Bl.keep8 HM.out m3 _ _ _ _ _ _ _ _)) | (with_reducible exact hS _ (Bl.keep3 (Bl.keep8 HN.out m1 _ _ _ _ _ _ _ _) m2 _ _ _) (Bl.keep3 (Bl.keep8 HM.out m3 _ _ _ _ _ _ _ _) m4 _ _ _))) (first | fail)
  go_wp2
  refine bodyPost_ret (v := .tuple #[.agg #[.int .i64 u.size, .int .u32 u.va, .int .u64 u.pa, .int .i64 u.dom, .int .i64 u.ap, .int .u32 u.bits, .bool u.ng, .bool u.xn], .agg #[.int .i64 f.k, .int .i64 f.l, .int .i64 f.d]]) (by simp [results, Tryd.results16, go_sem, c1, f1, c2, f2, n1, n2, l1, l2]) rfl ⟨rfl, ?_⟩
  exact ((HX2.out.fin11 A _ _ _ _ _ _ _ _ _ _ _).drew A).bel
theorem vwalk_any (c : Ctx) (va : Int) (w : World) {S : Nat → Prop} {rv : Value} {M : Mo} (hm : MemR w S rv M) (ht : TW w) (hc : c.Ok) (hv : 0 ≤ va ∧ va < 4294967296) :
    Calls Tryd.prog 16 #[rv, .agg #[.bool c.on, .bool c.tre, .bool c.afe, .int .i64 c.n, .bool c.pd0, .bool c.pd1, .int .u64 c.b0, .int .u64 c.b1, .int .u32 c.dacr, .int .u32 c.prrr, .int .u32 c.nmrr, .int .i64 c.asid], .int .u32 va] w fun e w' => e = .returned (.tuple #[.agg #[.int .i64 ((wk M c va).1).size, .int .u32 ((wk M c va).1).va, .int .u64 ((wk M c va).1).pa, .int .i64 ((wk M c va).1).dom, .int .i64 ((wk M c va).1).ap, .int .u32 ((wk M c va).1).bits, .bool ((wk M c va).1).ng, .bool ((wk M c va).1).xn], .agg #[.int .i64 ((wk M c va).2).k, .int .i64 ((wk M c va).2).l, .int .i64 ((wk M c va).2).d]]) ∧ Below w.heap.size w w' :=
  vwalk_core c va w rv ht _ _ (rdL M c va) (fun ww hb => steps_any c va ww (hm.below hb) (ht.below hb) hc hv)
end Go.Proofs.YtmodcbdgnmjkoabDoor
namespace Go.Proofs.YtmodcbdgnmjkoabDoor
open Go.RowKit
open Mm (Turn gr PM RM valV errV Byts setV)
set_option linter.unusedVariables false
set_option linter.unusedSimpArgs false
/-- A script of words to be put. -/
structure Pt where
  pa : Int
  w : Int
structure PutsAt (W : World) (a : Option Addr) (ps : List Pt) : Prop where
  lies : ∀ k p, ps[k]? = some p → ∃ b off, a = some ⟨b, off, none⟩ ∧ b < W.heap.size ∧ W.cell? ⟨b, off + k * 2, none⟩ = some (.int .u64 p.pa) ∧ W.cell? ⟨b, off + k * 2 + 1, none⟩ = some (.int .u32 p.w)
  oks : ∀ p ∈ ps, (0 ≤ p.pa ∧ p.pa < 18446744073709551616) ∧ 0 ≤ p.w ∧ p.w < 4294967296
/-- Addresses in a slice. -/
structure Ws (W : World) (a : Option Addr) (l : List Int) : Prop where
  lies : ∀ k v, l[k]? = some v → ∃ b off, a = some ⟨b, off, none⟩ ∧ b < W.heap.size ∧ W.cell? ⟨b, off + k, none⟩ = some (.int .u32 v)
  oks : ∀ v ∈ l, 0 ≤ v ∧ v < 4294967296
/-- The bytes behind the first k of them. -/
def pm (N : Nat) (ps : List Pt) (k : Nat) : Nat → Int := (ps.take k).foldl (fun m p => setV N m p.pa.toNat 4 p.w) (fun _ => 0)
theorem pm_step {N : Nat} {ps : List Pt} {k : Nat} {p : Pt} (h : ps[k]? = some p) : pm N ps (k + 1) = setV N (pm N ps k) p.pa.toNat 4 p.w := by
  unfold pm
  obtain ⟨hk, rfl⟩ := List.getElem?_eq_some_iff.1 h
  rw [List.take_add_one, List.getElem?_eq_getElem hk, Option.toList_some, List.foldl_append]
  rfl
/-- Both memories, one beside the other. -/
structure Two (W wr : World) (p r N : Nat) (m : Nat → Int) : Prop where
  mem : ∃ S1 S2, PM wr S1 p N m ∧ RM wr S2 r N m ∧ (∀ b, S1 b → ¬ S2 b) ∧ (∀ b, S1 b → W.heap.size ≤ b) ∧ (∀ b, S2 b → W.heap.size ≤ b)
  bel : Below W.heap.size W wr
theorem Two.below {W wr wn : World} {p r N : Nat} {m : Nat → Int} (h : Two W wr p r N m) (hb : Below wr.heap.size wr wn) : Two W wn p r N m := by
  obtain ⟨⟨S1, S2, h1, h2, h3, h4, h5⟩, h6⟩ := h
  exact ⟨⟨S1, S2, h1.keep (S' := fun _ => False) (Turn.below hb) (fun _ _ h => h), h2.keep (S' := fun _ => False) (Turn.below hb) (fun _ _ h => h), h3, h4, h5⟩, Below.step h6 hb⟩
theorem Two.new {W w1 w2 : World} {p r N : Nat} (h1 : PM w1 (gr (fun _ => False) W w1) p N (fun _ => 0)) (T1 : Turn (fun _ => False) W w1) (h2 : RM w2 (gr (fun _ => False) w1 w2) r N (fun _ => 0)) (T2 : Turn (fun _ => False) w1 w2) : Two W w2 p r N (fun _ => 0) := by
  refine ⟨⟨_, _, h1.keep T2 (fun _ _ h => h), h2, ?_, ?_, ?_⟩, ?_⟩
  · rintro b (h | ⟨_, h⟩) (h' | ⟨h', _⟩)
    · exact h
    · exact h
    · exact h'
    · omega
  · rintro b (h | ⟨h, _⟩)
    · exact h.elim
    · exact h
  · rintro b (h | ⟨h, _⟩)
    · exact h.elim
    · have := T1.size; omega
  · exact (T1.trans T2 (fun _ h => h.elim)).to (fun _ h => h.elim) (Nat.le_refl _)
/-- A word has been put into the program's memory, then into the reference's. -/
theorem Two.put {W wr : World} {p r N : Nat} {m : Nat → Int} (h : Two W wr p r N m) (pa : Nat) (v : Int) (hp : pa < 18446744073709551616) (hv0 : 0 ≤ v) (hv1 : v < 4294967296) :
    Calls Tryd.prog 12 #[.pointer (some ⟨p, 0, none⟩), .int .u64 pa, .int .u32 v] wr fun e w1 => e = .returned (.int .i64 (errV N pa 4)) ∧ Below W.heap.size W w1 ∧
      Calls Tryd.prog 13 #[.pointer (some ⟨r, 0, none⟩), .int .u64 pa, .int .u32 v] w1 fun e w2 => e = .returned (.int .i64 (errV N pa 4)) ∧ Two W w2 p r N (setV N m pa 4 v) := by
  obtain ⟨⟨S1, S2, h1, h2, h3, h4, h5⟩, h6⟩ := h
  refine (Mm.setWord_any wr S1 p N m pa v h1 hp hv0 hv1).mono ?_
  rintro e w1 ⟨rfl, g1, T1⟩
  have h2' := h2.keep T1 (fun b hb hx => h3 b hx hb)
  have b1 : Below W.heap.size W w1 := h6.trans (T1.to h4 h6.size)
  refine ⟨rfl, b1, (Mm.rSetWord_any w1 S2 r N m pa v h2' hp hv0 hv1).mono ?_⟩
  rintro e w2 ⟨rfl, g2, T2⟩
  have l2 := h2.low
  refine ⟨rfl, ⟨⟨_, _, g1.keep T2 ?_, g2, ?_, ?_, ?_⟩, b1.trans (T2.to h5 b1.size)⟩⟩
  · rintro b (hb | ⟨hb, _⟩) hx
    · exact h3 b hb hx
    · have := l2 b hx; omega
  · rintro b (hb | ⟨hb, hb2⟩) (hx | ⟨hx, _⟩)
    · exact h3 b hb hx
    · have := h1.low b hb; have := T1.size; omega
    · have := l2 b hx; omega
    · omega
  · rintro b (hb | ⟨hb, _⟩)
    · exact h4 b hb
    · have := h6.size; omega
  · rintro b (hb | ⟨hb, _⟩)
    · exact h5 b hb
    · have := b1.size; omega
theorem Two.low {W wr : World} {p r N : Nat} {m : Nat → Int} (h : Two W wr p r N m) : 1 ≤ N ∧ N ≤ 65536 := by
  obtain ⟨⟨S1, S2, h1, _⟩, _⟩ := h
  exact ⟨h1.n1, h1.n2⟩
end Go.Proofs.YtmodcbdgnmjkoabDoor
namespace Go.Proofs.YtmodcbdgnmjkoabDoor
open Go.RowKit
open Mm (Turn gr PM RM valV errV Byts setV)
set_option linter.unusedVariables false
set_option linter.unusedSimpArgs false
set_option maxRecDepth 100000 in
theorem begin_bad (W : World) (f : Int) (s : Value) (h : f < 1 ∨ 65536 < f) :
    Calls Tryd.prog 5 #[.int .i64 f, s] W fun e W' => e = .returned (.tuple #[.pointer none, .bool true]) ∧ W = W' := by
  have HP := hidW (Mm.pnew_bad W f h)
  have HR := hidW (Mm.rnew_bad W f h)
  clear h
  go_enter Tryd.func5, Tryd.ntmps5
  go_wp2_with (first
    | (go_at_call 10; refine HP.out.mono ?_; rintro e w1 ⟨rfl, rfl⟩)
    | (go_at_call 11; refine HR.out.mono ?_; rintro e w1 ⟨rfl, rfl⟩))
  go_ret2
  exact ⟨rfl, rfl⟩
set_option maxRecDepth 100000 in
set_option maxHeartbeats 8000000 in
theorem begin_ok (W : World) (N : Nat) (h1 : 1 ≤ N) (h2 : N ≤ 65536) (a : Option Addr) (cap : Nat) (ps : List Pt) (hp : PutsAt W a ps) (hl : ps.length ≤ 9223372036854775807) :
    Calls Tryd.prog 5 #[.int .i64 N, .slice a ps.length cap] W fun e W' => ∃ B p r, e = .returned (.tuple #[.pointer (some ⟨B, 0, none⟩), .bool true]) ∧ Bl W' B 38 [.pointer (some ⟨p, 0, none⟩), .pointer (some ⟨r, 0, none⟩)] ∧ W.heap.size ≤ B ∧ Two W W' p r N (pm N ps ps.length) := by
  have HS := hidW hp
  clear hp
  generalize hn : ps.length = n at *
  have HN := hidW hn
  clear hn
  go_enter Tryd.func5, Tryd.ntmps5
  go_wp2_with fail
  go_at_call 10
  refine (Mm.pnew_any W N h1 h2).mono ?_
  rintro e w1 ⟨rfl, g1, T1⟩
  go_wp2_with fail
  go_at_call 11
  refine (Mm.rnew_any w1 N h1 h2).mono ?_
  rintro e w2 ⟨rfl, g2, T2⟩
  have HT := hidW (Two.new g1 T1 g2 T2)
  clear g1 T1 g2 T2
  generalize W.heap.size + 1 = p at *
  generalize w1.heap.size = r at *
  go_wp2
  go_loopw [10] (fun i wr => ∃ k : Nat, k ≤ n ∧ i = .int .i64 k ∧ Hid (Two W wr p r N (pm N ps k))) (fun i _ => n - (intOf i).toNat)
  case atStart => exact ⟨0, Nat.zero_le _, rfl, HT.out⟩
  case round =>
    obtain ⟨k, hk, rfl, HK⟩ := hrel
    clear HT
    by_cases hlt : k < n
    · obtain ⟨q, hq⟩ : ∃ q, ps[k]? = some q := ⟨_, List.getElem?_eq_getElem (by rw [HN.out]; omega)⟩
      obtain ⟨b, off, rfl, hb, e0, e1⟩ := HS.out.lies k q hq
      have hok := HS.out.oks q (List.mem_of_getElem? hq)
      have hstep := hidW (pm_step (N := N) hq)
      have hkz : (k : Int) < (n : Int) := by omega
      have hpa : ((q.pa.toNat : Nat) : Int) = q.pa := Int.toNat_of_nonneg hok.1.1
      have HD := hidW (HK.out.below (below_drew (Below.refl _ wr)))
      have HC := hidW (HD.out.put q.pa.toNat q.w (by omega) hok.2.1 hok.2.2)
      rw [hpa] at HC
      have d0 : wr.cell? ⟨b, off + k * 2, none⟩ = some (.int .u64 q.pa) := (HK.out.bel.cell hb).trans e0
      have d1 : wr.cell? ⟨b, off + k * 2 + 1, none⟩ = some (.int .u32 q.w) := (HK.out.bel.cell hb).trans e1
      have HE := hidW (And.intro e0 e1)
      have HB1 := hidW HD.out.bel
      clear hq e0 e1 HK
      go_wp2
      go_region_held3 (fun w' => w'.cell? ⟨b, off + k * 2, none⟩ = some (.int .u64 q.pa) ∧ w'.cell? ⟨b, off + k * 2 + 1, none⟩ = some (.int .u32 q.w)) (exact ⟨(HB1.out.cell hb).trans HE.out.1, (HB1.out.cell hb).trans HE.out.2⟩) (first
        | (go_at_call 12; refine HC.out.mono ?_; rintro e wa ⟨rfl, hb1, hc1⟩; have HB1 := hidW hb1; have HC1 := hidW hc1; clear hb1 hc1)
        | (go_at_call 13; refine HC1.out.mono ?_; rintro e wb ⟨rfl, ht2⟩; have HB1 := hidW ht2.bel; have HT2 := hidW ht2; clear ht2))
      have HT3 : Hid (Two W wb p r N (pm N ps (k + 1))) := by rw [hstep.out]; exact HT2.out
      clear HT2 HC1 HC HD hstep
      go_wp2
      go_roundw
      case rel => exact ⟨k + 1, by omega, by go_num, HT3.out⟩
      case measure => simp [intOf]; omega
    · obtain rfl : k = n := by omega
      have HE := hidW (And.intro (Bl.new wr 38 [.pointer (some ⟨p, 0, none⟩), .pointer (some ⟨r, 0, none⟩)]) (And.intro HK.out.bel.size (HK.out.below (below_new wr (.cells #[.pointer (some ⟨p, 0, none⟩), .pointer (some ⟨r, 0, none⟩)] 38)))))
      clear HK
      go_wp2
      go_ret2
      exact ⟨_, p, r, rfl, HE.out.1, HE.out.2.1, HE.out.2.2⟩
end Go.Proofs.YtmodcbdgnmjkoabDoor
namespace Go.Proofs.YtmodcbdgnmjkoabDoor
open Go.RowKit
open Mm (Turn gr PM RM valV errV Byts setV)
set_option linter.unusedVariables false
set_option linter.unusedSimpArgs false
abbrev zT : List Value := [.int .i64 0, .int .u32 0, .int .u64 0, .int .i64 0, .int .i64 0, .int .u32 0, .bool false, .bool false]
abbrev zF : List Value := [.int .i64 0, .int .i64 0, .int .i64 0]
set_option maxRecDepth 100000 in
theorem eqF (a b : Fa) (w : World) : (Op.equalIn 10000 32 (.agg #[.int .i64 a.k, .int .i64 a.l, .int .i64 a.d]) (.agg #[.int .i64 b.k, .int .i64 b.l, .int .i64 b.d])).run Tryd.prog w = .ok (a.same b) w := by
  obtain ⟨a1, a2, a3⟩ := a
  obtain ⟨b1, b2, b3⟩ := b
  go_simp
  simp only [Fa.same]
  repeat' split
  all_goals simp_all
/-- What stands in the laws' loops: the context's box, both memories. -/
structure KL (W wr : World) (c : Ctx) (x B p r N : Nat) (m : Nat → Int) : Prop where
  bel : Below W.heap.size W wr
  C : Bl wr x 26 [.bool c.on, .bool c.tre, .bool c.afe, .int .i64 c.n, .bool c.pd0, .bool c.pd1, .int .u64 c.b0, .int .u64 c.b1, .int .u32 c.dacr, .int .u32 c.prrr, .int .u32 c.nmrr, .int .i64 c.asid]
  B : Bl wr B 38 [.pointer (some ⟨p, 0, none⟩), .pointer (some ⟨r, 0, none⟩)]
  mem : ∃ S1 S2, PM wr S1 p N m ∧ RM wr S2 r N m
  tab : TW wr
theorem KL.below {W wr wn : World} {c : Ctx} {x B p r N : Nat} {m : Nat → Int} (h : KL W wr c x B p r N m) (hb : Below wr.heap.size wr wn) : KL W wn c x B p r N m := by
  obtain ⟨S1, S2, h1, h2⟩ := h.mem
  exact ⟨Below.step h.bel hb, h.C.below hb, h.B.below hb, ⟨S1, S2, h1.keep (S' := fun _ => False) (Turn.below hb) (fun _ _ h => h), h2.keep (S' := fun _ => False) (Turn.below hb) (fun _ _ h => h)⟩, h.tab.below hb⟩
theorem KL.walk {W wr : World} {c : Ctx} {x B p r N : Nat} {m : Nat → Int} (h : KL W wr c x B p r N m) (hc : c.Ok) (va : Int) (hv : 0 ≤ va ∧ va < 4294967296) :
    Calls Tryd.prog 14 #[.iface 35 (.pointer (some ⟨p, 0, none⟩)), .agg #[.bool c.on, .bool c.tre, .bool c.afe, .int .i64 c.n, .bool c.pd0, .bool c.pd1, .int .u64 c.b0, .int .u64 c.b1, .int .u32 c.dacr, .int .u32 c.prrr, .int .u32 c.nmrr, .int .i64 c.asid], .int .u32 va] wr fun e w' => e = .returned (.tuple #[.agg #[.int .i64 ((wk (ramMo N m) c va).1).size, .int .u32 ((wk (ramMo N m) c va).1).va, .int .u64 ((wk (ramMo N m) c va).1).pa, .int .i64 ((wk (ramMo N m) c va).1).dom, .int .i64 ((wk (ramMo N m) c va).1).ap, .int .u32 ((wk (ramMo N m) c va).1).bits, .bool ((wk (ramMo N m) c va).1).ng, .bool ((wk (ramMo N m) c va).1).xn], .agg #[.int .i64 ((wk (ramMo N m) c va).2).k, .int .i64 ((wk (ramMo N m) c va).2).l, .int .i64 ((wk (ramMo N m) c va).2).d]]) ∧ Below wr.heap.size wr w' := by
  obtain ⟨S1, S2, h1, h2⟩ := h.mem
  exact walk_pure c va wr (.inl ⟨p, N, m, rfl, rfl, h1⟩) h.tab hc hv
theorem KL.vwalk {W wr : World} {c : Ctx} {x B p r N : Nat} {m : Nat → Int} (h : KL W wr c x B p r N m) (hc : c.Ok) (va : Int) (hv : 0 ≤ va ∧ va < 4294967296) :
    Calls Tryd.prog 16 #[.pointer (some ⟨r, 0, none⟩), .agg #[.bool c.on, .bool c.tre, .bool c.afe, .int .i64 c.n, .bool c.pd0, .bool c.pd1, .int .u64 c.b0, .int .u64 c.b1, .int .u32 c.dacr, .int .u32 c.prrr, .int .u32 c.nmrr, .int .i64 c.asid], .int .u32 va] wr fun e w' => e = .returned (.tuple #[.agg #[.int .i64 ((wk (ramMo N m) c va).1).size, .int .u32 ((wk (ramMo N m) c va).1).va, .int .u64 ((wk (ramMo N m) c va).1).pa, .int .i64 ((wk (ramMo N m) c va).1).dom, .int .i64 ((wk (ramMo N m) c va).1).ap, .int .u32 ((wk (ramMo N m) c va).1).bits, .bool ((wk (ramMo N m) c va).1).ng, .bool ((wk (ramMo N m) c va).1).xn], .agg #[.int .i64 ((wk (ramMo N m) c va).2).k, .int .i64 ((wk (ramMo N m) c va).2).l, .int .i64 ((wk (ramMo N m) c va).2).d]]) ∧ Below wr.heap.size wr w' := by
  obtain ⟨S1, S2, h1, h2⟩ := h.mem
  exact vwalk_any c va wr (.inl ⟨r, N, m, rfl, rfl, h2⟩) h.tab hc hv
theorem KL.new {W w1 : World} {c : Ctx} {B p r N : Nat} {m : Nat → Int} (hb : Bl w1 B 38 [.pointer (some ⟨p, 0, none⟩), .pointer (some ⟨r, 0, none⟩)]) (h : Two (W.alloc (.cells #[.bool c.on, .bool c.tre, .bool c.afe, .int .i64 c.n, .bool c.pd0, .bool c.pd1, .int .u64 c.b0, .int .u64 c.b1, .int .u32 c.dacr, .int .u32 c.prrr, .int .u32 c.nmrr, .int .i64 c.asid] 26)) w1 p r N m) (ht : TW W) : KL W w1 c W.heap.size B p r N m := by
  obtain ⟨⟨S1, S2, h1, h2, _⟩, h6⟩ := h
  exact ⟨Below.step (below_new _ _) h6, (Bl.new W 26 [.bool c.on, .bool c.tre, .bool c.afe, .int .i64 c.n, .bool c.pd0, .bool c.pd1, .int .u64 c.b0, .int .u64 c.b1, .int .u32 c.dacr, .int .u32 c.prrr, .int .u32 c.nmrr, .int .i64 c.asid]).below h6, hb, ⟨S1, S2, h1, h2⟩, (ht.below (below_new _ _)).below h6⟩
/-- A translation and a fault have been told, and lie in boxes of their own. -/
structure Got (wr wx : World) (s t : Nat) (u : Tra) (f : Fa) : Prop where
  bel : Below wr.heap.size wr wx
  T : Bl wx s 49 [.int .i64 u.size, .int .u32 u.va, .int .u64 u.pa, .int .i64 u.dom, .int .i64 u.ap, .int .u32 u.bits, .bool u.ng, .bool u.xn]
  F : Bl wx t 32 [.int .i64 f.k, .int .i64 f.l, .int .i64 f.d]
  hs : wr.heap.size ≤ s
  ht : wr.heap.size ≤ t
theorem Bl.new1 (w : World) (o : Obj) (t : TypeId) (l : List Value) : Bl ((w.alloc o).alloc (.cells l.toArray t)) (w.heap.size + 1) t l := by
  have h := Bl.new (w.alloc o) t l
  rw [show (w.alloc o).heap.size = w.heap.size + 1 by simp] at h
  exact h
theorem got1 {wr w1 : World} (h : Below wr.heap.size wr w1) (u : Tra) (f : Fa) : Got wr ((w1.alloc (.cells #[.int .i64 u.size, .int .u32 u.va, .int .u64 u.pa, .int .i64 u.dom, .int .i64 u.ap, .int .u32 u.bits, .bool u.ng, .bool u.xn] 49)).alloc (.cells #[.int .i64 f.k, .int .i64 f.l, .int .i64 f.d] 32)) w1.heap.size (w1.heap.size + 1) u f :=
  ⟨(h.alloc h.size _).alloc (by simp; have := h.size; omega) _, (Bl.new w1 _ [.int .i64 u.size, .int .u32 u.va, .int .u64 u.pa, .int .i64 u.dom, .int .i64 u.ap, .int .u32 u.bits, .bool u.ng, .bool u.xn]).below (below_new _ _), Bl.new1 _ _ _ [.int .i64 f.k, .int .i64 f.l, .int .i64 f.d], h.size, by have := h.size; omega⟩
theorem got2 {wr w1 : World} (h : Below wr.heap.size wr w1) (u : Tra) (f : Fa) : Got wr ((w1.alloc (.cells #[.int .i64 f.k, .int .i64 f.l, .int .i64 f.d] 32)).alloc (.cells #[.int .i64 u.size, .int .u32 u.va, .int .u64 u.pa, .int .i64 u.dom, .int .i64 u.ap, .int .u32 u.bits, .bool u.ng, .bool u.xn] 49)) (w1.heap.size + 1) w1.heap.size u f :=
  ⟨(h.alloc h.size _).alloc (by simp; have := h.size; omega) _, Bl.new1 _ _ _ [.int .i64 u.size, .int .u32 u.va, .int .u64 u.pa, .int .i64 u.dom, .int .i64 u.ap, .int .u32 u.bits, .bool u.ng, .bool u.xn], (Bl.new w1 _ [.int .i64 f.k, .int .i64 f.l, .int .i64 f.d]).below (below_new _ _), by have := h.size; omega, h.size⟩
theorem got3 {wr w1 : World} (h : Below wr.heap.size wr w1) (u : Tra) (f : Fa) (b : Nat) (hb : wr.heap.size ≤ b) (hT : Bl w1 b 49 zT) : Got wr ((((((((((w1.setCell ⟨b, 0, none⟩ (.int .i64 u.size)).setCell ⟨b, 1, none⟩ (.int .u32 u.va)).setCell ⟨b, 2, none⟩ (.int .u64 u.pa)).setCell ⟨b, 3, none⟩ (.int .i64 u.dom)).setCell ⟨b, 4, none⟩ (.int .i64 u.ap)).setCell ⟨b, 5, none⟩ (.int .u32 u.bits)).setCell ⟨b, 6, none⟩ (.bool u.ng)).setCell ⟨b, 7, none⟩ (.bool u.xn))).alloc (.cells #[.int .i64 f.k, .int .i64 f.l, .int .i64 f.d] 32)) b w1.heap.size u f := by
  have hN := Bl.new (((((((((w1.setCell ⟨b, 0, none⟩ (.int .i64 u.size)).setCell ⟨b, 1, none⟩ (.int .u32 u.va)).setCell ⟨b, 2, none⟩ (.int .u64 u.pa)).setCell ⟨b, 3, none⟩ (.int .i64 u.dom)).setCell ⟨b, 4, none⟩ (.int .i64 u.ap)).setCell ⟨b, 5, none⟩ (.int .u32 u.bits)).setCell ⟨b, 6, none⟩ (.bool u.ng)).setCell ⟨b, 7, none⟩ (.bool u.xn))) 32 [.int .i64 f.k, .int .i64 f.l, .int .i64 f.d]
  rw [heap8] at hN
  exact ⟨Below.alloc (Below.setCell (Below.setCell (Below.setCell (Below.setCell (Below.setCell (Below.setCell (Below.setCell (Below.setCell h hb _) hb _) hb _) hb _) hb _) hb _) hb _) hb _) (by rw [heap8]; exact h.size) _, (hT.set8 _ _ _ _ _ _ _ _).below (below_new _ _), hN, hb, h.size⟩
theorem got4 {wr w1 : World} (h : Below wr.heap.size wr w1) (u : Tra) (f : Fa) (b : Nat) (hb : wr.heap.size ≤ b) (hF : Bl w1 b 32 zF) : Got wr (((((w1.setCell ⟨b, 0, none⟩ (.int .i64 f.k)).setCell ⟨b, 1, none⟩ (.int .i64 f.l)).setCell ⟨b, 2, none⟩ (.int .i64 f.d))).alloc (.cells #[.int .i64 u.size, .int .u32 u.va, .int .u64 u.pa, .int .i64 u.dom, .int .i64 u.ap, .int .u32 u.bits, .bool u.ng, .bool u.xn] 49)) w1.heap.size b u f := by
  have hN := Bl.new ((((w1.setCell ⟨b, 0, none⟩ (.int .i64 f.k)).setCell ⟨b, 1, none⟩ (.int .i64 f.l)).setCell ⟨b, 2, none⟩ (.int .i64 f.d))) 49 [.int .i64 u.size, .int .u32 u.va, .int .u64 u.pa, .int .i64 u.dom, .int .i64 u.ap, .int .u32 u.bits, .bool u.ng, .bool u.xn]
  rw [heap3] at hN
  exact ⟨Below.alloc (Below.setCell (Below.setCell (Below.setCell h hb _) hb _) hb _) (by rw [heap3]; exact h.size) _, hN, (hF.set3 _ _ _).below (below_new _ _), h.size, hb⟩
theorem got5 {wr w1 : World} (h : Below wr.heap.size wr w1) (u : Tra) (f : Fa) (b d : Nat) (hb : wr.heap.size ≤ b) (hd : wr.heap.size ≤ d) (hn : b ≠ d) (hT : Bl w1 b 49 zT) (hF : Bl w1 d 32 zF) : Got wr ((((((((((((w1.setCell ⟨b, 0, none⟩ (.int .i64 u.size)).setCell ⟨b, 1, none⟩ (.int .u32 u.va)).setCell ⟨b, 2, none⟩ (.int .u64 u.pa)).setCell ⟨b, 3, none⟩ (.int .i64 u.dom)).setCell ⟨b, 4, none⟩ (.int .i64 u.ap)).setCell ⟨b, 5, none⟩ (.int .u32 u.bits)).setCell ⟨b, 6, none⟩ (.bool u.ng)).setCell ⟨b, 7, none⟩ (.bool u.xn)).setCell ⟨d, 0, none⟩ (.int .i64 f.k)).setCell ⟨d, 1, none⟩ (.int .i64 f.l)).setCell ⟨d, 2, none⟩ (.int .i64 f.d))) b d u f :=
  ⟨Below.setCell (Below.setCell (Below.setCell (Below.setCell (Below.setCell (Below.setCell (Below.setCell (Below.setCell (Below.setCell (Below.setCell (Below.setCell h hb _) hb _) hb _) hb _) hb _) hb _) hb _) hb _) hd _) hd _) hd _, (hT.set8 _ _ _ _ _ _ _ _).keep3 hn _ _ _, (hF.keep8 (fun e => hn e.symm) _ _ _ _ _ _ _ _).set3 _ _ _, hb, hd⟩
end Go.Proofs.YtmodcbdgnmjkoabDoor
