import Derived.Test.YtcpcmjmgiagnoabDoorAl
import Derived.Test.YtcpcmjmgiagnoabDoorFp
namespace Go.Proofs.YtcpcmjmgiagnoabDoor
open Go.RowKit
set_option linter.unusedVariables false
set_option linter.unusedSimpArgs false
def n1 (x : Int) : Int := if x % 4 = 1 then 4294966763 else if x % 4 = 2 then 4294966783 else 0
def n2 (x : Int) : Int := if x % 4 = 0 then 0 else if x % 4 = 1 then 4294966847 else 4294967295
theorem and1 (y : Int) (h : 0 ≤ y ∧ y < 4294967296) : bits BinOp.and IntKind.u32 y 1 = y % 2 := and_low y 1 h (by decide)
set_option maxRecDepth 100000 in
theorem named1_any (x : Int) (w : World) (hx : 0 ≤ x ∧ x < 4294967296) : Calls Tryd.prog 11 #[.int .u32 x] w fun e w' => e = .returned (.int .u32 (n1 x)) ∧ w = w' := by
  have h3 := and3 x hx
  rcases (show x % 4 = 1 ∨ x % 4 = 2 ∨ x % 4 = 0 ∨ x % 4 = 3 by omega) with h | h | h | h
  · rw [h] at h3
    have hn : n1 x = 4294966763 := by unfold n1; rw [if_pos h]
    rw [hn]
    clear hx h hn
    go_enter Tryd.func11, Tryd.ntmps11
    go_wp2
    go_ret
    exact ⟨rfl, rfl⟩
  · rw [h] at h3
    have hn : n1 x = 4294966783 := by unfold n1; rw [if_neg (by omega), if_pos h]
    have h1 := and1 (x / 262144) (by omega)
    rw [hn]
    rcases (show x / 262144 % 2 = 0 ∨ x / 262144 % 2 = 1 by omega) with g | g
    · rw [g] at h1
      clear hx h hn g
      go_enter Tryd.func11, Tryd.ntmps11
      go_wp2
      go_ret
      exact ⟨rfl, rfl⟩
    · rw [g] at h1
      clear hx h hn g
      go_enter Tryd.func11, Tryd.ntmps11
      go_wp2
      go_ret
      exact ⟨rfl, rfl⟩
  · rw [h] at h3
    have hn : n1 x = 0 := by unfold n1; rw [if_neg (by omega), if_neg (by omega)]
    rw [hn]
    clear hx h hn
    go_enter Tryd.func11, Tryd.ntmps11
    go_wp2
    go_ret
    exact ⟨rfl, rfl⟩
  · rw [h] at h3
    have hn : n1 x = 0 := by unfold n1; rw [if_neg (by omega), if_neg (by omega)]
    rw [hn]
    clear hx h hn
    go_enter Tryd.func11, Tryd.ntmps11
    go_wp2
    go_ret
    exact ⟨rfl, rfl⟩
set_option maxRecDepth 100000 in
theorem named2_any (x : Int) (w : World) (hx : 0 ≤ x ∧ x < 4294967296) : Calls Tryd.prog 12 #[.int .u32 x] w fun e w' => e = .returned (.int .u32 (n2 x)) ∧ w = w' := by
  have h3 := and3 x hx
  have hn : n2 x = if x % 4 = 0 then 0 else if x % 4 = 1 then 4294966847 else 4294967295 := rfl
  rcases (show x % 4 = 1 ∨ x % 4 = 2 ∨ x % 4 = 0 ∨ x % 4 = 3 by omega) with h | h | h | h
  all_goals
    rw [h] at h3 hn
    simp at hn
    rw [hn]
    clear hx h hn
    go_enter Tryd.func12, Tryd.ntmps12
    go_wp2
    go_ret
    exact ⟨rfl, rfl⟩
end Go.Proofs.YtcpcmjmgiagnoabDoor
