import Derived.Test.YtdelcknpaldngabDf
namespace Go.Proofs.Ytdelcknpaldngab
open Go.RowKit
set_option linter.unusedVariables false
set_option linter.unusedSimpArgs false
set_option maxRecDepth 100000 in
theorem jbit_any (x i : Int) (w : World) (hx : 0 ≤ x ∧ x < 4294967296) (hi : 0 ≤ i ∧ i < 32) :
    Calls Try.prog 29 #[.int .u32 x, .int .i64 i] w fun e w' => e = .returned (.bool (bt x i.toNat)) ∧ w' = w := by
  have h3 := band1 (x / 2 ^ i.toNat) (shr_range x _ hx)
  have hm : 0 ≤ i := by omega
  have hm2 : i < 32 := by omega
  clear hx hi
  unfold bt
  go_enter Try.func29, Try.ntmps29
  go_wp2
  go_ret
  exact ⟨rfl, rfl⟩
end Go.Proofs.Ytdelcknpaldngab
