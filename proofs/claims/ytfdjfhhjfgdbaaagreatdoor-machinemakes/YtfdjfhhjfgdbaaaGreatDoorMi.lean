import Derived.Test.YtfdjfhhjfgdbaaaGreatDoorMf
import Derived.Test.YtfdjfhhjfgdbaaaGreatDoorMg
import Derived.Test.YtfdjfhhjfgdbaaaGreatDoorMe
namespace Go.Proofs.YtfdjfhhjfgdbaaaGreatDoor
open Go.RowKit
open Go.Maps (Keyed)
set_option linter.unusedVariables false
set_option linter.unusedSimpArgs false
set_option maxRecDepth 100000 in
set_option maxHeartbeats 1000000 in
theorem len64_zero (w : World) : Calls Tryz.prog 127 #[.int .u64 0] w fun e w' => e = .returned (.int .i64 0) ∧ w = w' := by
  go_enter Tryz.func127, Tryz.ntmps127
  go_wp2
  go_ret
  exact ⟨by kernel_rfl, rfl⟩
set_option maxRecDepth 100000 in
set_option maxHeartbeats 1000000 in
theorem len_zero (w : World) : Calls Tryz.prog 93 #[.int .u64 0] w fun e w' => e = .returned (.int .i64 0) ∧ w = w' := by
  have H := hidW (len64_zero w)
  go_enter Tryz.func93, Tryz.ntmps93
  go_wp2_with (go_at_call 127; refine H.out.mono ?_; rintro e w1 ⟨rfl, rfl⟩)
  go_ret
  exact ⟨rfl, rfl⟩
set_option maxRecDepth 100000 in
set_option maxHeartbeats 1000000 in
theorem insD_zero (s f : Value) (w : World) : Calls Tryz.prog 118 #[s, .int .i64 0, .int .i64 0, f] w fun e w' => e = .returned (.tuple #[]) ∧ w = w' := by
  go_enter Tryz.func118, Tryz.ntmps118
  go_wp2
  go_loopw [8] (fun i wr => i = .int .i64 1 ∧ Hid (w = wr)) (fun i _ => 0)
  case atStart => exact ⟨rfl, rfl⟩
  case round =>
    obtain ⟨rfl, HK⟩ := hrel
    have e := HK.out
    subst e
    go_wp2
    go_end0
    exact ⟨rfl, rfl⟩
set_option maxRecDepth 100000 in
set_option maxHeartbeats 4000000 in
theorem pdqD_zero (s f : Value) (w : World) : Calls Tryz.prog 92 #[s, .int .i64 0, .int .i64 0, .int .i64 0, f] w fun e w' => e = .returned (.tuple #[]) ∧ w = w' := by
  have H := hidW (insD_zero s f w)
  go_enter Tryz.func92, Tryz.ntmps92
  go_wp2
  go_loopw [1, 2] (fun i j wr => i = .int .i64 0 ∧ j = .int .i64 0 ∧ Hid (w = wr)) (fun i _ _ => 0)
  case atStart => exact ⟨rfl, rfl, rfl⟩
  case round =>
    obtain ⟨rfl, rfl, HK⟩ := hrel
    have e := HK.out
    subst e
    go_wp2_with (go_at_call 118; refine H.out.mono ?_; rintro e w1 ⟨rfl, rfl⟩)
    (try simp only [Exit.inBlock, Exit.then])
    refine bodyPost_ret (results_none rfl _ _ _) rfl ?_
    exact ⟨rfl, rfl⟩
set_option maxRecDepth 100000 in
set_option maxHeartbeats 4000000 in
theorem sortD_zero (a : Option Addr) (cap : Nat) (f : Value) (w : World) : Calls Tryz.prog 68 #[.slice a 0 cap, f] w fun e w' => e = .returned (.tuple #[]) ∧ w = w' := by
  have H := hidW (pdqD_zero (.slice a 0 cap) f w)
  have HL := hidW (len_zero w)
  go_enter Tryz.func68, Tryz.ntmps68
  go_wp2_with (first | (go_at_call 93; refine HL.out.mono ?_; rintro e w1 ⟨rfl, rfl⟩) | (go_at_call 92; refine H.out.mono ?_; rintro e w1 ⟨rfl, rfl⟩))
  go_end0
  exact ⟨rfl, rfl⟩
set_option maxRecDepth 100000 in
set_option maxHeartbeats 1000000 in
theorem insB_zero (s f : Value) (w : World) : Calls Tryz.prog 129 #[s, .int .i64 0, .int .i64 0, f] w fun e w' => e = .returned (.tuple #[]) ∧ w = w' := by
  go_enter Tryz.func129, Tryz.ntmps129
  go_wp2
  go_loopw [8] (fun i wr => i = .int .i64 1 ∧ Hid (w = wr)) (fun i _ => 0)
  case atStart => exact ⟨rfl, rfl⟩
  case round =>
    obtain ⟨rfl, HK⟩ := hrel
    have e := HK.out
    subst e
    go_wp2
    go_end0
    exact ⟨rfl, rfl⟩
set_option maxRecDepth 100000 in
set_option maxHeartbeats 4000000 in
theorem pdqB_zero (s f : Value) (w : World) : Calls Tryz.prog 96 #[s, .int .i64 0, .int .i64 0, .int .i64 0, f] w fun e w' => e = .returned (.tuple #[]) ∧ w = w' := by
  have H := hidW (insB_zero s f w)
  go_enter Tryz.func96, Tryz.ntmps96
  go_wp2
  go_loopw [1, 2] (fun i j wr => i = .int .i64 0 ∧ j = .int .i64 0 ∧ Hid (w = wr)) (fun i _ _ => 0)
  case atStart => exact ⟨rfl, rfl, rfl⟩
  case round =>
    obtain ⟨rfl, rfl, HK⟩ := hrel
    have e := HK.out
    subst e
    go_wp2_with (go_at_call 129; refine H.out.mono ?_; rintro e w1 ⟨rfl, rfl⟩)
    (try simp only [Exit.inBlock, Exit.then])
    refine bodyPost_ret (results_none rfl _ _ _) rfl ?_
    exact ⟨rfl, rfl⟩
set_option maxRecDepth 100000 in
set_option maxHeartbeats 4000000 in
theorem sortB_zero (a : Option Addr) (cap : Nat) (f : Value) (w : World) : Calls Tryz.prog 70 #[.slice a 0 cap, f] w fun e w' => e = .returned (.tuple #[]) ∧ w = w' := by
  have H := hidW (pdqB_zero (.slice a 0 cap) f w)
  have HL := hidW (len_zero w)
  go_enter Tryz.func70, Tryz.ntmps70
  go_wp2_with (first | (go_at_call 93; refine HL.out.mono ?_; rintro e w1 ⟨rfl, rfl⟩) | (go_at_call 96; refine H.out.mono ?_; rintro e w1 ⟨rfl, rfl⟩))
  go_end0
  exact ⟨rfl, rfl⟩
end Go.Proofs.YtfdjfhhjfgdbaaaGreatDoor
