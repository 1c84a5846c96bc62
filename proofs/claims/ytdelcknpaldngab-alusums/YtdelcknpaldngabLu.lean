import Derived.Test.YtdelcknpaldngabLe
import Derived.Test.YtdelcknpaldngabRj
namespace Go.Proofs.Ytdelcknpaldngab
open Go.RowKit
set_option linter.unusedVariables false
set_option linter.unusedSimpArgs false
set_option maxRecDepth 100000 in
set_option maxHeartbeats 2000000 in
theorem law_sums (x y : Int) (c : Bool) (w : World) (x0 : 0 ≤ x) (x1 : x < 4294967296) (y0 : 0 ≤ y) (y1 : y < 4294967296) :
    Calls Try.prog 4 #[.int .u32 x, .int .u32 y, .bool c] w fun e w' => e = .returned (.bool true) ∧ Below w.heap.size w w' := by
  have HG : Hid (∀ w, Calls Try.prog 12 #[.int .u32 x, .int .u32 y, .bool c] w fun e w' => e = .returned (.tuple #[.int .u32 (suW x y c), .agg #[.bool (suF x y c).n, .bool (suF x y c).z, .bool (suF x y c).c, .bool (suF x y c).v]]) ∧ Below w.heap.size w w') := fun w => gsum_any x y c w x0 x1 y0 y1
  have HJ : Hid (∀ w, Calls Try.prog 13 #[.int .u32 x, .int .u32 y, .bool c] w fun e w' => e = .returned (.tuple #[.int .u32 (suW x y c), .agg #[.bool (suF x y c).n, .bool (suF x y c).z, .bool (suF x y c).c, .bool (suF x y c).v]]) ∧ Below w.heap.size w w') := fun w => jsum_any x y c w x0 x1 y0 y1
  have HL : Hid (∀ w, Calls Try.prog 9 #[] w fun e w' => e = .returned (.bool true) ∧ Below w.heap.size w w') := live_any
  have HE : ∀ w, (Op.equalIn 10000 28 (.agg #[.bool (suF x y c).n, .bool (suF x y c).z, .bool (suF x y c).c, .bool (suF x y c).v]) (.agg #[.bool (suF x y c).n, .bool (suF x y c).z, .bool (suF x y c).c, .bool (suF x y c).v])).run Try.prog w = .ok true w := fun w => by rw [eqFl, Fl.same_self]
  generalize suW x y c = W at *
  generalize suF x y c = F at *
  obtain ⟨gn, gz, gc, gv⟩ := F
  simp only at *
  clear x0 x1 y0 y1
  go_enter Try.func4, Try.ntmps4
  go_wp2_with (first
    | (go_at_call 12; refine (HG.out _).mono ?_; rintro e w1 ⟨rfl, hb1⟩; have HB : Hid (Below w.heap.size w w1) := hb1; clear hb1)
    | (go_at_call 13; refine (HJ.out _).mono ?_; rintro e w2 ⟨rfl, hb⟩; have B1 : Hid (Bl _ _ _ _) := (Bl.new _ _ _).below hb; have HB : Hid (Below _ _ _) := Below.step (Below.step HB.out (below_new _ _)) hb; clear hb)
    | (go_at_call 9; refine (HL.out _).mono ?_; rintro e w3 ⟨rfl, hb⟩; have B2 : Hid (Bl _ _ _ _) := (Bl.new _ _ _).below hb; have B1 : Hid (Bl _ _ _ _) := (B1.out.alloc _).below hb; have HB : Hid (Below _ _ _) := Below.step (Below.step HB.out (below_new _ _)) hb; clear hb; generalize w1.heap.size = p at B1 ⊢; generalize w2.heap.size = q at B2 ⊢; obtain ⟨⟨c0, c1, c2, c3⟩, -⟩ := B1.out.four; obtain ⟨⟨k0, k1, k2, k3⟩, -⟩ := B2.out.four))
  go_ret
  exact ⟨rfl, HB.out⟩
end Go.Proofs.Ytdelcknpaldngab
