import Derived.Test.YtdelcknpaldngabLe
import Derived.Test.YtdelcknpaldngabRj
namespace Go.Proofs.Ytdelcknpaldngab
open Go.RowKit
set_option linter.unusedVariables false
set_option linter.unusedSimpArgs false
set_option maxRecDepth 100000 in
set_option maxHeartbeats 4000000 in
theorem law_does (op a b : Int) (sh : Bool) (f : Fl) (w : World) (a0 : 0 ≤ a) (a1 : a < 4294967296) (b0 : 0 ≤ b) (b1 : b < 4294967296) :
    Calls Try.prog 8 #[.int .i64 op, .int .u32 a, .int .u32 b, .bool sh, .agg #[.bool f.n, .bool f.z, .bool f.c, .bool f.v]] w fun e w' => e = .returned (.bool true) ∧ Below w.heap.size w w' := by
  have HG : Hid (∀ o w, Calls Try.prog 21 #[.int .i64 o, .int .u32 a, .int .u32 b, .bool sh, .agg #[.bool f.n, .bool f.z, .bool f.c, .bool f.v]] w fun e w' => e = .returned (.tuple #[.int .u32 (dxW o a b f), .bool (dxR o), .agg #[.bool (dxF o a b sh f).n, .bool (dxF o a b sh f).z, .bool (dxF o a b sh f).c, .bool (dxF o a b sh f).v]]) ∧ Below w.heap.size w w') := fun o w => gdo_any o a b sh f w a0 a1 b0 b1
  have HJ : Hid (∀ o w, Calls Try.prog 22 #[.int .i64 o, .int .u32 a, .int .u32 b, .bool sh, .agg #[.bool f.n, .bool f.z, .bool f.c, .bool f.v]] w fun e w' => e = .returned (.tuple #[.int .u32 (dxW o a b f), .bool (dxR o), .agg #[.bool (dxF o a b sh f).n, .bool (dxF o a b sh f).z, .bool (dxF o a b sh f).c, .bool (dxF o a b sh f).v]]) ∧ Below w.heap.size w w') := fun o w => jdo_any o a b sh f w a0 a1 b0 b1
  have HL : Hid (∀ w, Calls Try.prog 9 #[] w fun e w' => e = .returned (.bool true) ∧ Below w.heap.size w w') := live_any
  have HE : ∀ o w, (Op.equalIn 10000 28 (.agg #[.bool (dxF o a b sh f).n, .bool (dxF o a b sh f).z, .bool (dxF o a b sh f).c, .bool (dxF o a b sh f).v]) (.agg #[.bool (dxF o a b sh f).n, .bool (dxF o a b sh f).z, .bool (dxF o a b sh f).c, .bool (dxF o a b sh f).v])).run Try.prog w = .ok true w := fun o w => by rw [eqFl, Fl.same_self]
  obtain ⟨fn, fz, fc, fv⟩ := f
  simp only at HG HJ
  generalize hW : (fun o => dxW o a b ⟨fn, fz, fc, fv⟩) = W at *
  generalize hF : (fun o => dxF o a b sh ⟨fn, fz, fc, fv⟩) = F at *
  have HG : Hid (∀ o w, Calls Try.prog 21 #[.int .i64 o, .int .u32 a, .int .u32 b, .bool sh, .agg #[.bool fn, .bool fz, .bool fc, .bool fv]] w fun e w' => e = .returned (.tuple #[.int .u32 (W o), .bool (dxR o), .agg #[.bool (F o).n, .bool (F o).z, .bool (F o).c, .bool (F o).v]]) ∧ Below w.heap.size w w') := by rw [← hW, ← hF]; exact HG
  have HJ : Hid (∀ o w, Calls Try.prog 22 #[.int .i64 o, .int .u32 a, .int .u32 b, .bool sh, .agg #[.bool fn, .bool fz, .bool fc, .bool fv]] w fun e w' => e = .returned (.tuple #[.int .u32 (W o), .bool (dxR o), .agg #[.bool (F o).n, .bool (F o).z, .bool (F o).c, .bool (F o).v]]) ∧ Below w.heap.size w w') := by rw [← hW, ← hF]; exact HJ
  have HE : ∀ o w, (Op.equalIn 10000 28 (.agg #[.bool (F o).n, .bool (F o).z, .bool (F o).c, .bool (F o).v]) (.agg #[.bool (F o).n, .bool (F o).z, .bool (F o).c, .bool (F o).v])).run Try.prog w = .ok true w := by rw [← hF]; exact HE
  clear hW hF a0 a1 b0 b1
  go_enter Try.func8, Try.ntmps8
  go_wp2_with (go_at_call 9; refine (HL.out _).mono ?_; rintro e w3 ⟨rfl, hb⟩; have B0 : Hid (Bl _ _ _ _) := (Bl.new _ _ _).below hb; have HB : Hid (Below w.heap.size w w3) := Below.step (below_new _ _) hb; clear hb)
  go_loopw [11] (fun k wr => ∃ (n : Int), -1 ≤ n ∧ n ≤ 19 ∧ k = .int .i64 n ∧ Bl wr w.heap.size 28 [.bool fn, .bool fz, .bool fc, .bool fv] ∧ Below w.heap.size w wr) (fun k _ => (19 - intOf k).toNat)
  case atStart => exact ⟨-1, by omega, by omega, rfl, B0.out, HB.out⟩
  case round =>
    obtain ⟨n, h1, h2, rfl, B1, hB⟩ := hrel
    clear HB B0
    have HB : Hid (Below _ _ _) := hB
    obtain ⟨⟨c0, c1, c2, c3⟩, -⟩ := B1.four
    have B0 : Hid (Bl _ _ _ _) := B1
    clear hB B1
    by_cases h : n < 19
    · have hw : IntKind.i64.wrap (n + 1) = n + 1 := by rw [IntKind.wrap_i64]; omega
      have z1 : decide (n < 19) = true := decide_eq_true h
      by_cases hk : n < 0
      · have z2 : decide (n < 0) = true := decide_eq_true hk
        clear hk
        go_wp2_with (first
          | (go_at_call 21; refine (HG.out _ _).mono ?_; rintro e w1 ⟨rfl, hb⟩; have B0 : Hid (Bl _ _ _ _) := B0.out.below hb; have HB : Hid (Below _ _ _) := Below.step HB.out hb; clear hb c0 c1 c2 c3; obtain ⟨⟨c0, c1, c2, c3⟩, -⟩ := (B0.out.alloc (.cells #[.bool (F op).n, .bool (F op).z, .bool (F op).c, .bool (F op).v] 28)).four)
          | (go_at_call 22; refine (HJ.out _ _).mono ?_; rintro e w2 ⟨rfl, hb⟩; have B1 : Hid (Bl _ _ _ _) := (Bl.new _ _ _).below hb; have B0 : Hid (Bl _ _ _ _) := (B0.out.alloc _).below hb; have HB : Hid (Below _ _ _) := Below.step (Below.step HB.out (below_new _ _)) hb; clear hb c0 c1 c2 c3; generalize w1.heap.size = p at B1 ⊢; obtain ⟨⟨c0, c1, c2, c3⟩, -⟩ := (B1.out.alloc (.cells #[.bool (F op).n, .bool (F op).z, .bool (F op).c, .bool (F op).v] 28)).four))
        go_roundw
        case rel => exact ⟨n + 1, by omega, by omega, rfl, B0.out.alloc _, Below.step HB.out (below_new _ _)⟩
        case measure => simp [intOf]; omega
      · have z2 : decide (n < 0) = false := decide_eq_false hk
        clear hk
        go_wp2_with (first
          | (go_at_call 21; refine (HG.out _ _).mono ?_; rintro e w1 ⟨rfl, hb⟩; have B0 : Hid (Bl _ _ _ _) := B0.out.below hb; have HB : Hid (Below _ _ _) := Below.step HB.out hb; clear hb c0 c1 c2 c3; obtain ⟨⟨c0, c1, c2, c3⟩, -⟩ := (B0.out.alloc (.cells #[.bool (F n).n, .bool (F n).z, .bool (F n).c, .bool (F n).v] 28)).four)
          | (go_at_call 22; refine (HJ.out _ _).mono ?_; rintro e w2 ⟨rfl, hb⟩; have B1 : Hid (Bl _ _ _ _) := (Bl.new _ _ _).below hb; have B0 : Hid (Bl _ _ _ _) := (B0.out.alloc _).below hb; have HB : Hid (Below _ _ _) := Below.step (Below.step HB.out (below_new _ _)) hb; clear hb c0 c1 c2 c3; generalize w1.heap.size = p at B1 ⊢; obtain ⟨⟨c0, c1, c2, c3⟩, -⟩ := (B1.out.alloc (.cells #[.bool (F n).n, .bool (F n).z, .bool (F n).c, .bool (F n).v] 28)).four))
        go_roundw
        case rel => exact ⟨n + 1, by omega, by omega, rfl, B0.out.alloc _, Below.step HB.out (below_new _ _)⟩
        case measure => simp [intOf]; omega
    · obtain rfl : n = 19 := by omega
      go_wp2_with fail
      go_ret
      exact ⟨rfl, HB.out⟩
end Go.Proofs.Ytdelcknpaldngab
