import Derived.Test.YtfdjfhhjfgdbaaaGreatDoorMc
namespace Go.Proofs.YtfdjfhhjfgdbaaaGreatDoor
open Go.RowKit
set_option linter.unusedVariables false
set_option linter.unusedSimpArgs false
theorem ret_bool {a b : Bool} (h : a = b) : Ending.returned (.bool a) = .returned (.bool b) := by rw [h]
set_option maxRecDepth 100000 in
theorem isReg_any (r : Int) (w : World) : Calls Tryz.prog 57 #[.int .i64 r] w fun e w' => e = .returned (.bool (isR r)) ∧ w = w' := by
  unfold isR
  by_cases h : 0 ≤ r
  · have h1 : decide (0 ≤ r) = true := by simp [h]
    go_enter Tryz.func57, Tryz.ntmps57
    go_wp2
    go_ret
    exact ⟨by simp [h], rfl⟩
  · have h1 : decide (0 ≤ r) = false := by simp [h]
    go_enter Tryz.func57, Tryz.ntmps57
    go_wp2
    go_ret
    exact ⟨by simp [h], rfl⟩
set_option maxRecDepth 100000 in
theorem hasBit_any (x k : Nat) (w : World) (hx : x < 4294967296) (hk : k < 32) : Calls Tryz.prog 58 #[.int .u32 (x : Int), .int .i64 (k : Int)] w fun e w' => e = .returned (.bool (bitB x k)) ∧ w = w' := by
  have h1 := and_1_u (x / 2 ^ k) (Nat.lt_of_le_of_lt (Nat.div_le_self _ _) hx)
  have h2 : ((x / 2 ^ k : Nat) : Int) = (x : Int) / 2 ^ k := by rw [Int.natCast_ediv, Int.natCast_pow]; rfl
  rw [h2] at h1
  have h3 : (k : Int) < 32 := by omega
  have HB : Hid (((x : Int) / 2 ^ k % 2 == 1) = bitB x k) := by
    show _ = _
    unfold bitB
    rw [← h2, show (2 : Int) = ((2 : Nat) : Int) from rfl, ← Int.natCast_emod]
    generalize x / 2 ^ k % 2 = z
    rw [Bool.eq_iff_iff]; simp; omega
  clear h2 hk
  go_enter Tryz.func58, Tryz.ntmps58
  go_wp2
  go_ret
  exact ⟨ret_bool HB.out, rfl⟩
theorem gt_yes (F : List Nat) (r : Nat) (h : r < 13) : gtF F (r : Int) = (F.getD r 0, 0) := by
  have : isR (r : Int) = true := (isR_iff _).2 ⟨by omega, by omega⟩
  simp [gtF, this]
theorem gt_no (F : List Nat) (r : Int) (h : isR r = false) : gtF F r = (0, 1) := by simp [gtF, h]
set_option maxRecDepth 100000 in
theorem get_any (b : Nat) (F : List Nat) (r : Int) (w : World) (hF : Fi 147 w b F) : Calls Tryz.prog 40 #[.pointer (some ⟨b, 0, none⟩), .int .i64 r] w fun e w' => e = .returned (.tuple #[.int .u32 ((gtF F r).1 : Nat), .int .i64 ((gtF F r).2 : Nat)]) ∧ w = w' := by
  have hr := isReg_any r
  cases h : isR r
  · rw [h] at hr
    rw [gt_no F r h]
    clear hF
    go_enter Tryz.func40, Tryz.ntmps40
    go_wp2_with (go_at_call 57; refine (hr _).mono ?_; rintro e w' ⟨rfl, rfl⟩)
    go_ret2
    exact ⟨rfl, rfl⟩
  · rw [h] at hr
    obtain ⟨h1, h2⟩ := (isR_iff r).1 h
    obtain ⟨k, rfl⟩ := Int.eq_ofNat_of_zero_le h1
    have hk : k < 13 := by omega
    rw [gt_yes F k hk]
    have hc := hF.cell hk
    have hlt := hF.lt
    clear hF h h1
    go_enter Tryz.func40, Tryz.ntmps40
    go_wp2_with (go_at_call 57; refine (hr _).mono ?_; rintro e w' ⟨rfl, rfl⟩)
    go_ret2
    exact ⟨rfl, rfl⟩
end Go.Proofs.YtfdjfhhjfgdbaaaGreatDoor
