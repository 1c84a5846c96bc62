import Derived.Test.YtdinmhjdnnhhjaaDoorLy
namespace Go.Proofs.YtdinmhjdnnhhjaaDoor
open Go.RowKit
set_option linter.unusedVariables false
set_option linter.unusedSimpArgs false
set_option maxRecDepth 100000 in
set_option maxHeartbeats 8000000 in
theorem law_tuples (W : World) (t : Tu) (x : Int) (hT : TR W) (hx : 0 ≤ x ∧ x < 4294967296) :
    Calls Tryd.prog 7 #[.agg #[.int .i64 t.a, .int .i64 t.b, .int .i64 t.c, .int .i64 t.d], .int .u32 x] W fun e W' => e = .returned (.bool true) ∧ Below W.heap.size W W' := by
  obtain ⟨x, rfl⟩ := Int.eq_ofNat_of_zero_le hx.1
  have hx : x < 4294967296 := by omega
  have HT : Hid (TR (W.alloc (.cells ([.int .i64 t.a, .int .i64 t.b, .int .i64 t.c, .int .i64 t.d]).toArray 27))) := hT.below (below_new _ _)
  have HO0 : Hid (Bl (W.alloc (.cells ([.int .i64 t.a, .int .i64 t.b, .int .i64 t.c, .int .i64 t.d]).toArray 27)) W.heap.size 27 ([.int .i64 t.a, .int .i64 t.b, .int .i64 t.c, .int .i64 t.d])) := Bl.new _ _ _
  have HB0 : Hid (Below W.heap.size W (W.alloc (.cells ([.int .i64 t.a, .int .i64 t.b, .int .i64 t.c, .int .i64 t.d]).toArray 27))) := below_new _ _
  have hsz : (W.alloc (.cells ([.int .i64 t.a, .int .i64 t.b, .int .i64 t.c, .int .i64 t.d]).toArray 27)).heap.size = W.heap.size + 1 := by simp
  have HAl : Hid (∀ p q F w, Bx w p q F → Calls Tryd.prog 21 #[.pointer (some ⟨p, 0, none⟩), .pointer (some ⟨q, 0, none⟩)] w fun e w' => e = .returned (.bool true) ∧ Below w.heap.size w w') := fun p q F w h => alike_any p q F w h.f h.g
  have HA6 : Hid (∀ p q F w, Bx w p q F → AskGoal p q ⟨6, t, false, 0, 0⟩ F w) := fun p q F w h => asked_any p q _ F w h (show (0 : Nat) < 4294967296 by decide)
  have HA1 : Hid (∀ b p q F w, Bx w p q F → AskGoal p q ⟨1, t, b, 0, 0⟩ F w) := fun b p q F w h => asked_any p q _ F w h (show (0 : Nat) < 4294967296 by decide)
  have HA2 : Hid (∀ b p q F w, Bx w p q F → AskGoal p q ⟨2, t, b, x, 0⟩ F w) := fun b p q F w h => asked_any p q _ F w h hx
  clear hT
  go_enter Tryd.func7, Tryd.ntmps7
  go_wp2_with (fail)
  go_at_call 8
  refine (new_any _ HT.out).mono ?_
  rintro e w1 ⟨rfl, hf1, hb1⟩
  rw [hsz] at hf1 ⊢
  have H1 : Hid (Fi 63 w1 (W.heap.size + 1) fZ ∧ Below W.heap.size W w1 ∧ TR w1) := ⟨hf1, Below.step HB0.out hb1, HT.out.below hb1⟩
  have HO1 : Hid (Bl w1 W.heap.size 27 ([.int .i64 t.a, .int .i64 t.b, .int .i64 t.c, .int .i64 t.d])) := HO0.out.below hb1
  clear hf1 hb1 HT HO0 HB0 hsz
  go_wp2_with (fail)
  go_at_call 20
  refine (rnew_any w1).mono ?_
  rintro e w2 ⟨rfl, hf1, hb1⟩
  have HS2 : Hid (Px W w2 (W.heap.size + 1) w1.heap.size fZ) := Px.start H1.out.2.2 (by omega) H1.out.1 H1.out.2.1 hf1 hb1
  have HO2 : Hid (Bl w2 W.heap.size 27 ([.int .i64 t.a, .int .i64 t.b, .int .i64 t.c, .int .i64 t.d])) := HO1.out.below hb1
  have hnp : ¬ W.heap.size = W.heap.size + 1 := by omega
  have hnq : ¬ W.heap.size = w1.heap.size := by have := HO1.out.lt; omega
  clear hf1 hb1 H1 HO1
  go_wp2_with (fail)
  go_at_call 9
  refine (live_any w2 HS2.out.bx.tr).mono ?_
  rintro e w3 ⟨rfl, hb⟩
  have HS3 : Hid (Px W w3 (W.heap.size + 1) w1.heap.size fZ) := HS2.out.step hb
  have HO3 : Hid (Bl w3 W.heap.size 27 ([.int .i64 t.a, .int .i64 t.b, .int .i64 t.c, .int .i64 t.d])) := HO2.out.below hb
  clear hb HS2 HO2
  generalize w1.heap.size = q at *
  generalize W.heap.size + 1 = p at *
  have HNP : Hid (¬ PQ p q W.heap.size) := fun h => by rcases h with h | h; exact hnp h; exact hnq h
  clear hnp hnq
  go_wp2
  go_loopw [7] (fun s7 wr => ∃ (k : Nat) (F : List Nat), k ≤ 2 ∧ s7 = .int .i64 k ∧ Px W wr p q F ∧ Bl wr W.heap.size 27 ([.int .i64 t.a, .int .i64 t.b, .int .i64 t.c, .int .i64 t.d])) (fun s7 _ => 2 - (intOf s7).toNat)
  case atStart => exact ⟨0, fZ, by omega, rfl, HS3.out, HO3.out⟩
  case round =>
    obtain ⟨k, F, hk, rfl, hX, hO⟩ := hrel
    clear HS3 HO3
    have HS : Hid (Px W wr p q F) := hX
    have HO : Hid (Bl wr W.heap.size 27 ([.int .i64 t.a, .int .i64 t.b, .int .i64 t.c, .int .i64 t.d])) := hO
    clear hX hO
    by_cases hlt : k < 2
    · have hi : (k : Int) < 2 := by omega
      have hw : IntKind.i64.wrap ((k : Int) + 1) = ((k + 1 : Nat) : Int) := by rw [IntKind.wrap_i64]; omega
      generalize hbb : ((k : Int) == 1) = bb at *
      have o0 := HO.out.cell
      go_wp2_with (fail)
      go_at_call 22
      refine (HA6.out p q F wr HS.out.bx).mono ?_
      rintro e w5 ⟨rfl, hB, ht⟩
      have HS5 : Hid (Px W w5 p q (asF F ⟨6, t, false, 0, 0⟩)) := HS.out.turn hB ht
      have HO5 : Hid (Bl w5 W.heap.size 27 ([.int .i64 t.a, .int .i64 t.b, .int .i64 t.c, .int .i64 t.d])) := HO.out.turn ht HNP.out
      clear hB ht o0 HS HO
      have o0 := HO5.out.cell
      go_wp2_with (fail)
      go_at_call 22
      refine (HA1.out bb p q _ w5 HS5.out.bx).mono ?_
      rintro e w6 ⟨rfl, hB, ht⟩
      have HS6 : Hid (Px W w6 p q _) := HS5.out.turn hB ht
      have HO6 : Hid (Bl w6 W.heap.size 27 ([.int .i64 t.a, .int .i64 t.b, .int .i64 t.c, .int .i64 t.d])) := HO5.out.turn ht HNP.out
      clear hB ht o0 HS5 HO5
      have o0 := HO6.out.cell
      go_wp2_with (fail)
      go_at_call 22
      refine (HA2.out bb p q _ w6 HS6.out.bx).mono ?_
      rintro e w7 ⟨rfl, hB, ht⟩
      have HS7 : Hid (Px W w7 p q _) := HS6.out.turn hB ht
      have HO7 : Hid (Bl w7 W.heap.size 27 ([.int .i64 t.a, .int .i64 t.b, .int .i64 t.c, .int .i64 t.d])) := HO6.out.turn ht HNP.out
      clear hB ht o0 HS6 HO6
      go_wp2_with (fail)
      go_at_call 21
      refine (HAl.out _ _ _ _ HS7.out.bx).mono ?_
      rintro e w8 ⟨rfl, hb⟩
      have HS8 : Hid (Px W w8 p q _) := HS7.out.step hb
      have HO8 : Hid (Bl w8 W.heap.size 27 ([.int .i64 t.a, .int .i64 t.b, .int .i64 t.c, .int .i64 t.d])) := HO7.out.below hb
      clear hb HS7 HO7
      go_wp2
      go_roundw
      case rel => exact ⟨k + 1, _, by omega, rfl, HS8.out, HO8.out⟩
      case measure => simp [intOf]; omega
    · obtain rfl : k = 2 := by omega
      go_wp2
      go_ret
      exact ⟨rfl, HS.out.bel⟩
end Go.Proofs.YtdinmhjdnnhhjaaDoor
