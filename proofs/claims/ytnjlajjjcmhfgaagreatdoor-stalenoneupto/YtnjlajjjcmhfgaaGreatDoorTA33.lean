import Derived.Test.YtnjlajjjcmhfgaaGreatDoorTA32
namespace Go.Proofs.YtnjlajjjcmhfgaaGreatDoor
open Go.RowKit
open Mm (Turn gr RM valV errV Byts setV RowAt)
set_option linter.unusedVariables false
set_option linter.unusedSimpArgs false
attribute [local go_sem] Oper.semAt_some
set_option maxHeartbeats 4000000 in
theorem lbytes_any (W:World) (b:Blo) (hs:1≤b.t.size∧b.t.size≤4) :
    Calls Tryz.prog 26 #[.agg #[.int .i64 b.asid,.int .i64 b.t.size,.int .u32 b.t.va,.int .u64 b.t.pa,.int .i64 b.t.dom,.int .i64 b.t.ap,.int .u32 b.t.bits,.bool b.t.ng,.bool b.t.xn]] W fun e w'=>e= .returned (.int .u64 (byN b.t.size))∧Below W.heap.size W w':=by
  obtain ⟨a,s,t2,t3,t4,t5,t6,t7,t8⟩:=b
  dsimp only at *
  rcases (show s=1∨s=2∨s=3∨s=4 by omega) with rfl|rfl|rfl|rfl
  all_goals
    go_enter Tryz.func26,Tryz.ntmps26
    go_wp2
    go_ret
    exact ⟨rfl,below_new _ _⟩
end Go.Proofs.YtnjlajjjcmhfgaaGreatDoor
