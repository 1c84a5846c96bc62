import Derived.Test.YtmmocnejacflmabDoorGs
import Derived.Test.YtmmocnejacflmabDoorQs
import Derived.Test.YtmmocnejacflmabDoorEf
namespace Go.Proofs.YtmmocnejacflmabDoor
open Go.RowKit
set_option linter.unusedVariables false
set_option linter.unusedSimpArgs false
/-- A small number in decimal digits. -/
def lIt : List ByteArray := [⟨#[48]⟩, ⟨#[49]⟩, ⟨#[50]⟩, ⟨#[51]⟩, ⟨#[52]⟩, ⟨#[53]⟩, ⟨#[54]⟩, ⟨#[55]⟩, ⟨#[56]⟩, ⟨#[57]⟩, ⟨#[49, 48]⟩, ⟨#[49, 49]⟩, ⟨#[49, 50]⟩, ⟨#[49, 51]⟩, ⟨#[49, 52]⟩, ⟨#[49, 53]⟩]
def itS (n : Int) : ByteArray := lIt.getD n.toNat ⟨#[]⟩
set_option maxRecDepth 100000 in
set_option maxHeartbeats 4000000 in
theorem small_any (n : Int) (w : World) (h : 0 ≤ n ∧ n < 16) : Calls Tryd.prog 43 #[.int .i64 n] w fun e w' => e = .returned (.string (itS n)) ∧ w = w' := by
  rcases (show n = 0 ∨ n = 1 ∨ n = 2 ∨ n = 3 ∨ n = 4 ∨ n = 5 ∨ n = 6 ∨ n = 7 ∨ n = 8 ∨ n = 9 ∨ n = 10 ∨ n = 11 ∨ n = 12 ∨ n = 13 ∨ n = 14 ∨ n = 15 by omega) with rfl | rfl | rfl | rfl | rfl | rfl | rfl | rfl | rfl | rfl | rfl | rfl | rfl | rfl | rfl | rfl
  all_goals
    go_enter Tryd.func43, Tryd.ntmps43
    go_wp2
    go_ret
    exact ⟨by kernel_rfl, rfl⟩
set_option maxRecDepth 100000 in
theorem format_any (n : Int) (w : World) (h : 0 ≤ n ∧ n < 16) : Calls Tryd.prog 39 #[.int .i64 n, .int .i64 10] w fun e w' => e = .returned (.string (itS n)) ∧ w = w' := by
  have HS : Hid (∀ w, Calls Tryd.prog 43 #[.int .i64 n] w fun e w' => e = .returned (.string (itS n)) ∧ w = w') := fun w => small_any n w h
  have q1 : decide (0 ≤ n) = true := decide_eq_true h.1
  have q2 : decide (n < 100) = true := decide_eq_true (by omega)
  clear h
  go_enter Tryd.func39, Tryd.ntmps39
  go_wp2_with (first | (go_at_call 43; refine (HS.out _).mono ?_; rintro e w' ⟨rfl, rfl⟩) | go_in)
  go_ret
  exact ⟨rfl, rfl⟩
set_option maxRecDepth 100000 in
theorem itoaI_any (n : Int) (w : World) (h : 0 ≤ n ∧ n < 16) : Calls Tryd.prog 36 #[.int .i64 n] w fun e w' => e = .returned (.string (itS n)) ∧ w = w' := by
  have HS : Hid (∀ w, Calls Tryd.prog 39 #[.int .i64 n, .int .i64 10] w fun e w' => e = .returned (.string (itS n)) ∧ w = w') := fun w => format_any n w h
  clear h
  go_enter Tryd.func36, Tryd.ntmps36
  go_wp2_with (first | (go_at_call 39; refine (HS.out _).mono ?_; rintro e w' ⟨rfl, rfl⟩) | go_in)
  go_ret
  exact ⟨rfl, rfl⟩
set_option maxRecDepth 100000 in
theorem itoa_any (n : Int) (w : World) (h : 0 ≤ n ∧ n < 16) : Calls Tryd.prog 26 #[.int .i64 n] w fun e w' => e = .returned (.string (itS n)) ∧ w = w' := by
  have HS : Hid (∀ w, Calls Tryd.prog 36 #[.int .i64 n] w fun e w' => e = .returned (.string (itS n)) ∧ w = w') := fun w => itoaI_any n w h
  clear h
  go_enter Tryd.func26, Tryd.ntmps26
  go_wp2_with (first | (go_at_call 36; refine (HS.out _).mono ?_; rintro e w' ⟨rfl, rfl⟩) | go_in)
  go_ret
  exact ⟨rfl, rfl⟩
end Go.Proofs.YtmmocnejacflmabDoor
