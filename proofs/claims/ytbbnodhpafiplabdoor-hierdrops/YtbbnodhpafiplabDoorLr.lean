import Derived.Test.YtbbnodhpafiplabDoorLd
namespace Go.Proofs.YtbbnodhpafiplabDoor
open Go.RowKit
set_option linter.unusedVariables false
set_option linter.unusedSimpArgs false
set_option maxRecDepth 100000 in
theorem law_drops (W : World) (i d m : Int) (sa : Option Addr) (cap : Nat) (ops : List Opr) (hS : Scr W sa ops) (hT : TR W) (hl : ops.length ≤ maxLen) :
    Calls Tryd.prog 5 #[.int .i64 i, .int .i64 d, .int .i64 m, .slice sa ops.length cap] W fun e w' => e = .returned (.bool true) ∧ Below W.heap.size W w' := by
  have HP := hidW (play_any W i d m sa cap ops 4 hS hT hl)
  clear hS hT hl
  generalize ops.length = n at *
  go_enter Tryd.func5, Tryd.ntmps5
  go_wp2_with (fail)
  go_at_call 6
  refine HP.out.mono ?_
  rintro e w1 ⟨rfl, hb⟩
  have HX := hidW hb
  clear hb HP
  go_wp2
  go_ret
  exact ⟨rfl, HX.out⟩
end Go.Proofs.YtbbnodhpafiplabDoor
