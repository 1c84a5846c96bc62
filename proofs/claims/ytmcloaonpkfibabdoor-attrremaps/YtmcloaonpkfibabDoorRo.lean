import Derived.Test.YtmcloaonpkfibabDoorRp0
import Derived.Test.YtmcloaonpkfibabDoorRp1
import Derived.Test.YtmcloaonpkfibabDoorRp2
import Derived.Test.YtmcloaonpkfibabDoorRp3
import Derived.Test.YtmcloaonpkfibabDoorRg
namespace Go.Proofs.YtmcloaonpkfibabDoor
open Go.RowKit
set_option linter.unusedVariables false
set_option linter.unusedSimpArgs false
theorem rplain_any (b : Nat) (w : World) (hb : b < 64) : Calls Tryd.prog 15 #[.int .u32 b] w fun e w' => e = .returned (.tuple #[.agg #[.int .i64 ((pF b).2).t, .int .i64 ((pF b).2).i, .int .i64 ((pF b).2).o, .int .i64 ((pF b).2).s], .int .i64 (pF b).1]) ∧ Below w.heap.size w w' := by
  match b, hb with
  | 0, _ => exact rp_0 w
  | 1, _ => exact rp_1 w
  | 2, _ => exact rp_2 w
  | 3, _ => exact rp_3 w
  | 4, _ => exact rp_4 w
  | 5, _ => exact rp_5 w
  | 6, _ => exact rp_6 w
  | 7, _ => exact rp_7 w
  | 8, _ => exact rp_8 w
  | 9, _ => exact rp_9 w
  | 10, _ => exact rp_10 w
  | 11, _ => exact rp_11 w
  | 12, _ => exact rp_12 w
  | 13, _ => exact rp_13 w
  | 14, _ => exact rp_14 w
  | 15, _ => exact rp_15 w
  | 16, _ => exact rp_16 w
  | 17, _ => exact rp_17 w
  | 18, _ => exact rp_18 w
  | 19, _ => exact rp_19 w
  | 20, _ => exact rp_20 w
  | 21, _ => exact rp_21 w
  | 22, _ => exact rp_22 w
  | 23, _ => exact rp_23 w
  | 24, _ => exact rp_24 w
  | 25, _ => exact rp_25 w
  | 26, _ => exact rp_26 w
  | 27, _ => exact rp_27 w
  | 28, _ => exact rp_28 w
  | 29, _ => exact rp_29 w
  | 30, _ => exact rp_30 w
  | 31, _ => exact rp_31 w
  | 32, _ => exact rp_32 w
  | 33, _ => exact rp_33 w
  | 34, _ => exact rp_34 w
  | 35, _ => exact rp_35 w
  | 36, _ => exact rp_36 w
  | 37, _ => exact rp_37 w
  | 38, _ => exact rp_38 w
  | 39, _ => exact rp_39 w
  | 40, _ => exact rp_40 w
  | 41, _ => exact rp_41 w
  | 42, _ => exact rp_42 w
  | 43, _ => exact rp_43 w
  | 44, _ => exact rp_44 w
  | 45, _ => exact rp_45 w
  | 46, _ => exact rp_46 w
  | 47, _ => exact rp_47 w
  | 48, _ => exact rp_48 w
  | 49, _ => exact rp_49 w
  | 50, _ => exact rp_50 w
  | 51, _ => exact rp_51 w
  | 52, _ => exact rp_52 w
  | 53, _ => exact rp_53 w
  | 54, _ => exact rp_54 w
  | 55, _ => exact rp_55 w
  | 56, _ => exact rp_56 w
  | 57, _ => exact rp_57 w
  | 58, _ => exact rp_58 w
  | 59, _ => exact rp_59 w
  | 60, _ => exact rp_60 w
  | 61, _ => exact rp_61 w
  | 62, _ => exact rp_62 w
  | 63, _ => exact rp_63 w
  | k + 64, h => exact absurd h (by omega)
set_option maxRecDepth 100000 in
set_option maxHeartbeats 4000000 in
theorem rof_big (tre : Bool) (p q b : Int) (w : World) (hb : 63 < b) :
    Calls Tryd.prog 7 #[.bool tre, .int .u32 p, .int .u32 q, .int .u32 b] w fun e w' => e = .returned (.tuple #[.agg #[.int .i64 mZ.t, .int .i64 mZ.i, .int .i64 mZ.o, .int .i64 mZ.s], .int .i64 60]) ∧ Below w.heap.size w w' := by
  unfold mZ
  go_enter Tryd.func7, Tryd.ntmps7
  go_wp2
  refine bodyPost_ret (v := .tuple #[.agg #[.int .i64 0, .int .i64 0, .int .i64 0, .int .i64 0], .int .i64 60]) (by simp [results, Tryd.results7, go_sem]) rfl ⟨rfl, (by (repeat (with_reducible first | refine Below.setCell ?_ (by simp) _ | refine below_drew ?_ | refine Below.alloc ?_ (by simp) _)); exact Below.refl _ _)⟩
set_option maxRecDepth 100000 in
set_option maxHeartbeats 4000000 in
theorem rof_tre (p q : Int) (b : Nat) (E : Int) (M : Mem) (w : World) (hb : b < 64) (H : ∀ w, Calls Tryd.prog 14 #[.int .u32 p, .int .u32 q, .int .u32 b] w fun e w' => e = .returned (.tuple #[.agg #[.int .i64 M.t, .int .i64 M.i, .int .i64 M.o, .int .i64 M.s], .int .i64 E]) ∧ Below w.heap.size w w') :
    Calls Tryd.prog 7 #[.bool true, .int .u32 p, .int .u32 q, .int .u32 b] w fun e w' => e = .returned (.tuple #[.agg #[.int .i64 M.t, .int .i64 M.i, .int .i64 M.o, .int .i64 M.s], .int .i64 E]) ∧ Below w.heap.size w w' := by
  have G : Hid _ := H
  clear H
  have hN0 := Bl.new w 24 [.int .i64 0, .int .i64 0, .int .i64 0, .int .i64 0]
  have h64 : ¬ (63 < (b : Int)) := by omega
  go_enter Tryd.func7, Tryd.ntmps7
  go_wp2_with (first | (go_at_call 14; refine (G.out _).mono ?_; rintro e w1 ⟨rfl, hb1⟩; have hc0 := (hN0.below hb1).cell; have hf0 := (hN0.below hb1).frozen; have hl := (hN0.below hb1).lt; have HB : Hid (Below w.heap.size w w1) := Below.one hb1) | go_in)
  refine bodyPost_ret (v := .tuple #[.agg #[.int .i64 M.t, .int .i64 M.i, .int .i64 M.o, .int .i64 M.s], .int .i64 E]) (by simp [results, Tryd.results7, go_sem, hc0, hf0]) rfl ⟨rfl, (by (repeat (with_reducible refine Below.setCell ?_ (by simp) _)); exact HB.out)⟩
set_option maxRecDepth 100000 in
set_option maxHeartbeats 4000000 in
theorem rof_plain (p q : Int) (b : Nat) (E : Int) (M : Mem) (w : World) (hb : b < 64) (H : ∀ w, Calls Tryd.prog 15 #[.int .u32 b] w fun e w' => e = .returned (.tuple #[.agg #[.int .i64 M.t, .int .i64 M.i, .int .i64 M.o, .int .i64 M.s], .int .i64 E]) ∧ Below w.heap.size w w') :
    Calls Tryd.prog 7 #[.bool false, .int .u32 p, .int .u32 q, .int .u32 b] w fun e w' => e = .returned (.tuple #[.agg #[.int .i64 M.t, .int .i64 M.i, .int .i64 M.o, .int .i64 M.s], .int .i64 E]) ∧ Below w.heap.size w w' := by
  have G : Hid _ := H
  clear H
  have hN0 := Bl.new w 24 [.int .i64 0, .int .i64 0, .int .i64 0, .int .i64 0]
  have h64 : ¬ (63 < (b : Int)) := by omega
  go_enter Tryd.func7, Tryd.ntmps7
  go_wp2_with (first | (go_at_call 15; refine (G.out _).mono ?_; rintro e w1 ⟨rfl, hb1⟩; have hc0 := (hN0.below hb1).cell; have hf0 := (hN0.below hb1).frozen; have hl := (hN0.below hb1).lt; have HB : Hid (Below w.heap.size w w1) := Below.one hb1) | go_in)
  refine bodyPost_ret (v := .tuple #[.agg #[.int .i64 M.t, .int .i64 M.i, .int .i64 M.o, .int .i64 M.s], .int .i64 E]) (by simp [results, Tryd.results7, go_sem, hc0, hf0]) rfl ⟨rfl, (by (repeat (with_reducible refine Below.setCell ?_ (by simp) _)); exact HB.out)⟩
theorem rof_any (tre : Bool) (p q : Int) (b : Nat) (w : World) (hp : 0 ≤ p ∧ p < 4294967296) (hq : 0 ≤ q ∧ q < 4294967296) :
    Calls Tryd.prog 7 #[.bool tre, .int .u32 p, .int .u32 q, .int .u32 b] w fun e w' => e = .returned (.tuple #[.agg #[.int .i64 ((oF tre p q b).2).t, .int .i64 ((oF tre p q b).2).i, .int .i64 ((oF tre p q b).2).o, .int .i64 ((oF tre p q b).2).s], .int .i64 (oF tre p q b).1]) ∧ Below w.heap.size w w' := by
  unfold oF
  by_cases h : 63 < b
  · rw [if_pos h]
    exact rof_big tre p q b w (by omega)
  · rw [if_neg h]
    cases tre
    · rw [if_neg (by decide)]
      exact rof_plain p q b _ _ w (by omega) (fun w => rplain_any b w (by omega))
    · rw [if_pos rfl]
      exact rof_tre p q b _ _ w (by omega) (fun w => mapped_any p q b w hp hq (by omega))
end Go.Proofs.YtmcloaonpkfibabDoor
