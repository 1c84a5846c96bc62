import Derived.Test.YtdelcknpaldngabGx
namespace Go.Proofs.Ytdelcknpaldngab
open Go.RowKit
set_option linter.unusedVariables false
set_option linter.unusedSimpArgs false
theorem pk_3fc : pkW 1020 = 4095 ∧ pkO 1020 = true := by decide +kernel
set_option maxRecDepth 100000 in
set_option maxHeartbeats 2000000 in
/-- The chapter's examples come. -/
theorem live_any (w : World) : Calls Try.prog 9 #[] w fun e w' => e = .returned (.bool true) ∧ Below w.heap.size w w' := by
  have HS : Hid (∀ w, Calls Try.prog 17 #[.int .i64 4, .int .u32 3, .int .i64 0, .bool true] w fun e w' => e = .returned (.tuple #[.int .u32 2147483649, .bool true]) ∧ Below w.heap.size w w') := fun w => gshift_any 4 0 3 true w (by decide)
  have HD : Hid (∀ w, Calls Try.prog 21 #[.int .i64 3, .int .u32 5, .int .u32 5, .bool false, .agg #[.bool false, .bool false, .bool false, .bool false]] w fun e w' => e = .returned (.tuple #[.int .u32 0, .bool true, .agg #[.bool false, .bool true, .bool true, .bool false]]) ∧ Below w.heap.size w w') := fun w => gdo_any 3 5 5 false ⟨false, false, false, false⟩ w (by decide) (by decide) (by decide) (by decide)
  have HP : Hid (∀ w, Calls Try.prog 23 #[.int .u32 1020] w fun e w' => e = .returned (.tuple #[.int .u32 4095, .bool true]) ∧ Below w.heap.size w w') := fun w => by
    have := gpack_any 1020 w (by decide)
    rwa [pk_3fc.1, pk_3fc.2] at this
  have HL : Hid (∀ w, Calls Try.prog 19 #[.int .i64 23, .int .u32 4294967295, .int .u32 2, .int .u32 0, .int .u32 0] w fun e w' => e = .returned (.tuple #[.int .u32 4294967295, .int .u32 4294967294, .bool true]) ∧ Below w.heap.size w w') := fun w => glong_any 23 4294967295 2 0 0 w (by decide) (by decide) (by decide) (by decide) (by decide) (by decide) (by decide) (by decide)
  have HM : Hid (∀ w, Calls Try.prog 24 #[.int .i64 29, .int .u32 32768, .int .i64 1] w fun e w' => e = .returned (.tuple #[.int .u32 4294967168, .bool true]) ∧ Below w.heap.size w w') := fun w => gsmall_any 29 32768 1 w (by decide)
  have HA : Hid (∀ w, Calls Try.prog 15 #[.int .i64 8, .agg #[.bool false, .bool false, .bool true, .bool false]] w fun e w' => e = .returned (.bool true) ∧ Below w.heap.size w w') := fun w => gpassed_any 8 ⟨false, false, true, false⟩ w
  have HW : Hid (∀ w, Calls Try.prog 25 #[.agg #[.bool false, .bool true, .bool true, .bool false]] w fun e w' => e = .returned (.int .u32 1610612736) ∧ Below w.heap.size w w') := fun w => gword_any ⟨false, true, true, false⟩ w
  go_enter Try.func9, Try.ntmps9
  go_wp2_with (first | (go_at_call 17; refine (HS.out _).mono ?_; rintro e w1 ⟨rfl, hb1⟩) | (go_at_call 21; refine (HD.out _).mono ?_; rintro e w2 ⟨rfl, hb2⟩) | (go_at_call 23; refine Hid.out ?_))
  show Calls _ _ _ _ _
  refine (HP.out _).mono ?_
  rintro e w3 ⟨rfl, hb3⟩
  have B := (Bl.new _ _ _).below hb3
  have HB : Hid (Below w.heap.size w w3) := Below.step (Below.step (Below.step hb1 hb2) (below_new _ _)) hb3
  generalize w2.heap.size = b at B ⊢
  obtain ⟨⟨c0, c1, c2, c3⟩, -⟩ := B.four
  have B : Hid (Bl _ _ _ _) := B
  clear hb1 hb2 hb3
  go_wp2_with (first
    | (go_at_call 19; refine (HL.out _).mono ?_; rintro e w4 ⟨rfl, hb⟩; have B : Hid (Bl _ _ _ _) := B.out.below hb; have HB : Hid (Below _ _ _) := Below.step HB.out hb; clear c0 c1 c2 c3 hb; obtain ⟨⟨c0, c1, c2, c3⟩, -⟩ := B.out.four)
    | (go_at_call 24; refine (HM.out _).mono ?_; rintro e w5 ⟨rfl, hb⟩; have B : Hid (Bl _ _ _ _) := B.out.below hb; have HB : Hid (Below _ _ _) := Below.step HB.out hb; clear c0 c1 c2 c3 hb; obtain ⟨⟨c0, c1, c2, c3⟩, -⟩ := B.out.four)
    | (go_at_call 15; refine (HA.out _).mono ?_; rintro e w6 ⟨rfl, hb⟩; have B : Hid (Bl _ _ _ _) := B.out.below hb; have HB : Hid (Below _ _ _) := Below.step HB.out hb; clear c0 c1 c2 c3 hb; obtain ⟨⟨c0, c1, c2, c3⟩, -⟩ := B.out.four)
    | (go_at_call 25; refine (HW.out _).mono ?_; rintro e w7 ⟨rfl, hb⟩; have HB : Hid (Below _ _ _) := Below.step HB.out hb; clear hb))
  go_ret
  exact ⟨rfl, HB.out⟩
end Go.Proofs.Ytdelcknpaldngab
