import Derived.Test.YtmmocnejacflmabDoorRr
import Derived.Test.YtmmocnejacflmabDoorRz
namespace Go.Proofs.YtmmocnejacflmabDoor
open Go.RowKit
set_option linter.unusedVariables false
set_option linter.unusedSimpArgs false

set_option maxRecDepth 100000 in
theorem rplace_24_32 (b : Int) (w : World) (hb : 0 ≤ b) : Calls Tryd.prog 34 #[.int .u64 b, .int .i64 24, .int .i64 32] w fun e w' => e = .returned (.bool (decide (b % 16777216 = 0) && decide (b < 4294967296))) ∧ w = w' := by
  have hp1 := fun w => power_lit2 24 16777216 w (by decide) (by decide) 24 rfl
  have hp2 := fun w => power_lit2 32 4294967296 w (by decide) (by decide) 32 rfl
  have ht : b.tmod 16777216 = b % 16777216 := Int.tmod_eq_emod_of_nonneg hb
  by_cases h : b % 16777216 = 0
  · have q : (b % 16777216 == 0) = true := by simp [h]
    go_enter Tryd.func34, Tryd.ntmps34
    go_wp2_with (first
      | (go_at_call_of 38 (Value.int IntKind.i64 24); refine (hp1 _).mono ?_; rintro e w' ⟨rfl, rfl⟩)
      | (go_at_call_of 38 (Value.int IntKind.i64 32); refine (hp2 _).mono ?_; rintro e w' ⟨rfl, rfl⟩)
      | go_in)
    go_ret
    exact ⟨by simp [h], rfl⟩
  · have q : (b % 16777216 == 0) = false := by simp [h]
    go_enter Tryd.func34, Tryd.ntmps34
    go_wp2_with (first
      | (go_at_call_of 38 (Value.int IntKind.i64 24); refine (hp1 _).mono ?_; rintro e w' ⟨rfl, rfl⟩)
      | (go_at_call_of 38 (Value.int IntKind.i64 32); refine (hp2 _).mono ?_; rintro e w' ⟨rfl, rfl⟩)
      | go_in)
    go_ret
    exact ⟨by simp [h], rfl⟩
end Go.Proofs.YtmmocnejacflmabDoor
