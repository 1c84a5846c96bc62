import Derived.Test.YtmodcbdgnmjkoabDoorWi
import Derived.Test.YtmodcbdgnmjkoabDoorMX
import Derived.Test.YtmodcbdgnmjkoabDoorLr
import Derived.Test.YtmodcbdgnmjkoabDoorMT
namespace Go.Proofs.YtmodcbdgnmjkoabDoor
open Go.RowKit
open Mm (Turn gr PM RM valV errV Byts)
set_option linter.unusedVariables false
set_option linter.unusedSimpArgs false
set_option maxRecDepth 100000 in
theorem vpower_any (n : Nat) (w : World) (hn : n ≤ 60) : Calls Tryd.prog 38 #[.int .i64 n] w fun e w' => e = .returned (.int .u64 (2 ^ n)) ∧ w = w' := by
  go_enter Tryd.func38, Tryd.ntmps38
  go_wp2
  go_loopw [3, 4] (fun p i wr => ∃ k : Nat, k ≤ n ∧ p = .int .u64 (2 ^ k) ∧ i = .int .i64 k ∧ w = wr) (fun _ i _ => n - (intOf i).toNat)
  case atStart => exact ⟨0, by omega, rfl, rfl, rfl⟩
  case round =>
    obtain ⟨k, hk, rfl, rfl, rfl⟩ := hrel
    by_cases h : k < n
    · have hi : (k : Int) < (n : Int) := by omega
      have hp : (2 : Int) * 2 ^ k % 18446744073709551616 = 2 ^ (k + 1) := by
        have h1 : 2 ^ (k + 1) ≤ 2 ^ 60 := Nat.pow_le_pow_right (by omega) (by omega)
        have h2 := pow_nat (k + 1)
        have h3 := pow_pos (k + 1)
        rw [Int.mul_comm, ← Int.pow_succ]
        omega
      go_wp2
      go_roundw
      case rel => exact ⟨k + 1, by omega, by rw [Int.pow_succ, Int.mul_comm], by first | rfl | trivial | go_num⟩
      case measure => simp [intOf]; omega
    · have hi : ¬ (k : Int) < (n : Int) := by omega
      obtain rfl : k = n := by omega
      go_wp2
      go_ret
      exact ⟨rfl, rfl⟩
theorem vsecond_any (b va : Int) (w : World) (hb : 0 ≤ b ∧ b < 4294967296) (hv : 0 ≤ va ∧ va < 4294967296) :
    Calls Tryd.prog 67 #[.int .u64 b, .int .u32 va] w fun e w' => e = .returned (.int .u64 (b + 4 * (va / 4096 % 256))) ∧ w = w' := by
  have wm : IntKind.u64.wrap (4 * (va / 4096 % 256)) = 4 * (va / 4096 % 256) := by rw [IntKind.wrap_u64]; omega
  have ws : IntKind.u64.wrap (b + 4 * (va / 4096 % 256)) = b + 4 * (va / 4096 % 256) := by rw [IntKind.wrap_u64]; omega
  have td : va.tdiv 4096 = va / 4096 := Int.tdiv_eq_ediv_of_nonneg hv.1
  have tm : (va / 4096).tmod 256 = va / 4096 % 256 := Int.tmod_eq_emod_of_nonneg (by omega)
  go_enter Tryd.func67, Tryd.ntmps67
  go_wp2
  go_ret
  exact ⟨rfl, rfl⟩
theorem flat_any (va : Int) (w : World) (hv : 0 ≤ va ∧ va < 4294967296) :
    Calls Tryd.prog 66 #[.int .u32 va] w fun e w' => e = .returned (.agg #[.int .i64 (itF va).size, .int .u32 (itF va).va, .int .u64 (itF va).pa, .int .i64 (itF va).dom, .int .i64 (itF va).ap, .int .u32 (itF va).bits, .bool (itF va).ng, .bool (itF va).xn]) ∧ Below w.heap.size w w' := by
  have tm : va.tmod 4096 = va % 4096 := Int.tmod_eq_emod_of_nonneg hv.1
  have ws : IntKind.u32.wrap (va - va % 4096) = va / 4096 * 4096 := by rw [IntKind.wrap_u32]; omega
  go_enter Tryd.func66, Tryd.ntmps66
  go_wp2
  refine bodyPost_ret (v := .agg #[.int .i64 (itF va).size, .int .u32 (itF va).va, .int .u64 (itF va).pa, .int .i64 (itF va).dom, .int .i64 (itF va).ap, .int .u32 (itF va).bits, .bool (itF va).ng, .bool (itF va).xn]) (by simp [results, Tryd.results66, go_sem, itF]) rfl ⟨rfl, ?_⟩
  (repeat (first | refine Below.setCell ?_ (by simp) _ | refine Below.alloc ?_ (by simp) _)); exact Below.refl _ _
/-- The reference's memory: a ram, or none. -/
def MemR (w : World) (S : Nat → Prop) (rv : Value) (M : Mo) : Prop :=
  (∃ r N m, rv = .pointer (some ⟨r, 0, none⟩) ∧ M = ramMo N m ∧ RM w S r N m) ∨ (rv = .pointer none ∧ M = nilMo ∧ ∀ b, ¬ S b)
theorem MemR.keep {w w' : World} {S X : Nat → Prop} {rv : Value} {M : Mo} (h : MemR w S rv M) (T : Turn X w w') (hd : ∀ b, S b → ¬ X b) : MemR w' S rv M := by
  rcases h with ⟨p, N, m, rfl, rfl, h⟩ | h
  · exact .inl ⟨p, N, m, rfl, rfl, h.keep T hd⟩
  · exact .inr h
theorem MemR.below {w w' : World} {S : Nat → Prop} {rv : Value} {M : Mo} (h : MemR w S rv M) (hb : Below w.heap.size w w') : MemR w' S rv M := h.keep (X := fun _ => False) (Turn.below hb) (fun _ _ h => h)
theorem MemR.ok {w : World} {S : Nat → Prop} {rv : Value} {M : Mo} (h : MemR w S rv M) : M.Ok := by
  rcases h with ⟨p, N, m, rfl, rfl, h⟩ | ⟨_, rfl, h⟩
  · exact ramMo_ok h.byts
  · exact nilMo_ok
theorem word_ram (w : World) (S : Nat → Prop) (r N : Nat) (m : Nat → Int) (pa : Nat) (h : RM w S r N m) (hp : pa < 18446744073709551616) :
    Calls Tryd.prog 19 #[.pointer (some ⟨r, 0, none⟩), .int .u64 pa] w fun e w' => e = .returned (.tuple #[.int .u32 (valV N m pa 4), .int .i64 (errV N pa 4)]) ∧ w = w' := by
  have HW := hidW (Mm.rWord_any w S r N m pa h hp)
  generalize valV N m pa 4 = x at *
  generalize errV N pa 4 = er at *
  clear h
  go_enter Tryd.func19, Tryd.ntmps19
  go_wp2_with (first
    | (go_at_call 39; refine HW.out.mono ?_; rintro e w1 ⟨rfl, rfl⟩))
  go_ret2
  exact ⟨rfl, rfl⟩
theorem word_nil (w : World) (pa : Int) :
    Calls Tryd.prog 19 #[.pointer none, .int .u64 pa] w fun e w' => e = .returned (.tuple #[.int .u32 0, .int .i64 30]) ∧ w = w' := by
  go_enter Tryd.func19, Tryd.ntmps19
  go_wp2
  go_ret2
  exact ⟨rfl, rfl⟩
theorem MemR.word {w : World} {S : Nat → Prop} {rv : Value} {M : Mo} (h : MemR w S rv M) (pa : Int) (h0 : 0 ≤ pa) (h1 : pa < 18446744073709551616) :
    Calls Tryd.prog 19 #[rv, .int .u64 pa] w fun e w' => e = .returned (.tuple #[.int .u32 (M.wd pa), .int .i64 (M.er pa)]) ∧ w = w' := by
  rcases h with ⟨p, N, m, rfl, rfl, h⟩ | ⟨rfl, rfl, h⟩
  · have := word_ram w S p N m pa.toNat h (by omega)
    rw [Int.toNat_of_nonneg h0] at this
    exact this
  · exact word_nil w pa
end Go.Proofs.YtmodcbdgnmjkoabDoor
