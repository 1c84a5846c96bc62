import Derived.Test.YtmcloaonpkfibaaDoorLv
namespace Go.Proofs.YtmcloaonpkfibaaDoor
open Go.RowKit
set_option linter.unusedVariables false
set_option linter.unusedSimpArgs false
theorem shF_rng (p : Int) (n k : Nat) : 0 ≤ shF p n k ∧ shF p n k ≤ 2 := by
  unfold shF
  repeat' split
  all_goals decide
theorem oF_kind (tre : Bool) (p q : Int) (b : Nat) (hb : b < 64) : ((oF tre p q b).1 = 0 ∧ K (oF tre p q b).2) ∨ oF tre p q b = (61, mZ) := by
  unfold oF
  rw [if_neg (by omega)]
  cases tre
  · rw [if_neg (by decide)]
    unfold pF
    repeat' split
    all_goals first
      | exact .inr rfl
      | exact .inl ⟨rfl, K_str⟩
      | exact .inl ⟨rfl, K_dev (by decide) (by decide)⟩
      | exact .inl ⟨rfl, K_nor (by omega) (by omega) (by omega) (by omega) (by omega) (by omega)⟩
  · rw [if_pos rfl]
    unfold rM
    repeat' split
    · exact .inr rfl
    · exact .inl ⟨rfl, K_str⟩
    · exact .inl ⟨rfl, K_dev (shF_rng _ _ _).1 (shF_rng _ _ _).2⟩
    · have a1 := pr_lo q (2 * (b / 2 % 8))
      have a2 := pr_hi q (2 * (b / 2 % 8))
      have a3 := pr_lo q (2 * (b / 2 % 8) + 16)
      have a4 := pr_hi q (2 * (b / 2 % 8) + 16)
      exact .inl ⟨rfl, K_nor a1 (by omega) a3 (by omega) (shF_rng _ _ _).1 (shF_rng _ _ _).2⟩
set_option maxRecDepth 100000 in
set_option maxHeartbeats 1000000 in
theorem law_kinds (tre : Bool) (p q : Int) (w : World) (hT : TA w) (hp : 0 ≤ p ∧ p < 4294967296) (hq : 0 ≤ q ∧ q < 4294967296) :
    Calls Tryd.prog 5 #[.bool tre, .int .u32 p, .int .u32 q] w fun e w' => e = .returned (.bool true) ∧ Below w.heap.size w w' := by
  have HO : Hid (∀ (b : Nat) w, TA w → Calls Tryd.prog 13 #[.bool tre, .int .u32 p, .int .u32 q, .int .u32 b] w fun e w' => e = .returned (.tuple #[.agg #[.int .i64 ((oF tre p q b).2).t, .int .i64 ((oF tre p q b).2).i, .int .i64 ((oF tre p q b).2).o, .int .i64 ((oF tre p q b).2).s], .int .i64 (oF tre p q b).1]) ∧ Below w.heap.size w w') := fun b w hw => of_any tre p q b w hp hq hw.plain
  have HX0 : Hid (AX w w) := AX.new w hT
  clear hT hp hq
  go_enter Tryd.func5, Tryd.ntmps5
  go_wp2_with (fail)
  go_at_call 11
  refine (live_any _ HX0.out.tab).mono ?_
  rintro e w1 ⟨rfl, hb⟩
  have HX1 : Hid (AX w w1) := HX0.out.step hb
  clear hb HX0
  go_wp2_with (fail)
  go_loopw [7] (fun i wr => ∃ k : Nat, k ≤ 64 ∧ i = .int .u32 k ∧ AX w wr) (fun i _ => 64 - (intOf i).toNat)
  case atStart => exact ⟨0, by omega, rfl, HX1.out⟩
  case round =>
    obtain ⟨k, hk, rfl, hF⟩ := hrel
    have HF : Hid (AX w _) := hF
    clear HX1 hF
    by_cases h : k < 64
    · have hi : (k : Int) < 64 := by omega
      have hw : IntKind.u32.wrap ((k : Int) + 1) = ((k + 1 : Nat) : Int) := by rw [IntKind.wrap_u32]; omega
      have HO1 := HO.out k
      rcases oF_kind tre p q k h with ⟨h0, hK⟩ | h0
      · rw [h0] at HO1
        generalize (oF tre p q k).2 = M at *
        have HO2 : Hid _ := HO1
        have HS : Hid (∀ w, TA w → Calls Tryd.prog 9 #[.agg #[.int .i64 M.t, .int .i64 M.i, .int .i64 M.o, .int .i64 M.s]] w fun e w' => e = .returned (.tuple #[.string (tx M), .int .i64 0]) ∧ Below w.heap.size w w') := fun w hw => by
          have h := show_any M w hw
          rw [if_pos hK, if_pos hK] at h
          exact h
        have HD : Hid (∀ w, TA w → Calls Tryd.prog 14 #[.string (tx M)] w fun e w' => e = .returned (.tuple #[.agg #[.int .i64 M.t, .int .i64 M.i, .int .i64 M.o, .int .i64 M.s], .int .i64 0]) ∧ Below w.heap.size w w') := fun w hw => by
          have h := read_any (tx M) w tx_size hw
          rw [rd_tx hK] at h
          exact h
        have eM := eqM M M
        rw [Mem.same_self] at eM
        clear HO1 HO hK h0
        generalize tx M = X at *
        go_wp2_with (fail)
        go_at_call 13
        refine (HO2.out _ HF.out.tab).mono ?_
        rintro e w2 ⟨rfl, hb⟩
        have HX2 : Hid (AX w w2) := HF.out.step hb
        clear hb HF
        have HXaa : Hid (AX w (w2.alloc (.cells #[.int .i64 M.t, .int .i64 M.i, .int .i64 M.o, .int .i64 M.s] 24))) := HX2.out.alloc _
        have HBa_0 : Hid (Bl (w2.alloc (.cells #[.int .i64 M.t, .int .i64 M.i, .int .i64 M.o, .int .i64 M.s] 24)) w2.heap.size 24 [.int .i64 M.t, .int .i64 M.i, .int .i64 M.o, .int .i64 M.s]) := Bl.new _ _ _
        clear HX2
        have c0 := HBa_0.out.cell
        have l0 := HBa_0.out.lt
        clear c0 l0
        go_wp2_with (first | (go_at_call 12; refine (no_any _ _).mono ?_; rintro e wn ⟨rfl, rfl⟩))
        go_at_call 9
        refine (HS.out _ HXaa.out.tab).mono ?_
        rintro e w3 ⟨rfl, hb⟩
        have HX3 : Hid (AX w w3) := HXaa.out.step hb
        have HBa_3 : Hid (Bl w3 w2.heap.size 24 [.int .i64 M.t, .int .i64 M.i, .int .i64 M.o, .int .i64 M.s]) := HBa_0.out.below hb
        clear hb HXaa HBa_0
        go_wp2_with (fail)
        go_at_call 14
        refine (HD.out _ HX3.out.tab).mono ?_
        rintro e w4 ⟨rfl, hb⟩
        have HX4 : Hid (AX w w4) := HX3.out.step hb
        have HBa_4 : Hid (Bl w4 w2.heap.size 24 [.int .i64 M.t, .int .i64 M.i, .int .i64 M.o, .int .i64 M.s]) := HBa_3.out.below hb
        clear hb HX3 HBa_3
        have HXab : Hid (AX w (w4.alloc (.cells #[.int .i64 M.t, .int .i64 M.i, .int .i64 M.o, .int .i64 M.s] 24))) := HX4.out.alloc _
        have HBa_b : Hid (Bl (w4.alloc (.cells #[.int .i64 M.t, .int .i64 M.i, .int .i64 M.o, .int .i64 M.s] 24)) w2.heap.size 24 [.int .i64 M.t, .int .i64 M.i, .int .i64 M.o, .int .i64 M.s]) := HBa_4.out.below (below_new _ _)
        have HBb_0 : Hid (Bl (w4.alloc (.cells #[.int .i64 M.t, .int .i64 M.i, .int .i64 M.o, .int .i64 M.s] 24)) w4.heap.size 24 [.int .i64 M.t, .int .i64 M.i, .int .i64 M.o, .int .i64 M.s]) := Bl.new _ _ _
        clear HX4 HBa_4
        have c0 := HBa_b.out.cell
        have f0 := HBa_b.out.frozen
        have l0 := HBa_b.out.lt
        have c1 := HBb_0.out.cell
        have f1 := HBb_0.out.frozen
        have l1 := HBb_0.out.lt
        clear HO2 HS HD
        go_wp2_with (first | (go_at_call 12; refine (no_any _ _).mono ?_; rintro e wn ⟨rfl, rfl⟩))
        go_roundw
        case rel => exact ⟨k + 1, by omega, congrArg _ (by omega), HXab.out⟩
        case measure => simp [intOf]; omega
      · rw [h0] at HO1
        have HO2 : Hid (∀ w, TA w → Calls Tryd.prog 13 #[.bool tre, .int .u32 p, .int .u32 q, .int .u32 k] w fun e w' => e = .returned (.tuple #[.agg #[.int .i64 0, .int .i64 0, .int .i64 0, .int .i64 0], .int .i64 61]) ∧ Below w.heap.size w w') := HO1
        have eM := eqM mZ mZ
        rw [Mem.same_self] at eM
        unfold mZ at eM
        clear HO1 HO h0
        go_wp2_with (fail)
        go_at_call 13
        refine (HO2.out _ HF.out.tab).mono ?_
        rintro e w2 ⟨rfl, hb⟩
        have HX2 : Hid (AX w w2) := HF.out.step hb
        clear hb HF HO2
        go_wp2_with (first | (go_at_call 12; refine (no_any _ _).mono ?_; rintro e wn ⟨rfl, rfl⟩))
        go_roundw
        case rel => exact ⟨k + 1, by omega, congrArg _ (by omega), HX2.out.step (by (repeat (with_reducible refine Below.setCell ?_ (by simp) _)); exact below_new _ _)⟩
        case measure => simp [intOf]; omega
    · obtain rfl : k = 64 := by omega
      clear HO
      go_wp2
      go_ret
      exact ⟨rfl, HF.out.bel⟩
end Go.Proofs.YtmcloaonpkfibaaDoor
