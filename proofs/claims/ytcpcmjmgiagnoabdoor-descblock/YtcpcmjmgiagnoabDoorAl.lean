import Derived.Test.YtcpcmjmgiagnoabDoorEn
namespace Go.Proofs.YtcpcmjmgiagnoabDoor
open Go.RowKit
set_option linter.unusedVariables false
set_option linter.unusedSimpArgs false
theorem d2_alive : D2 67646 = ⟨5, 65536, 0, false, 3, 6, true, false⟩ := by
  unfold D2
  rw [if_neg (by decide), if_neg (by decide)]
  rfl
theorem d1_alive : D1 66593 = ⟨1, 66560, 1, false, 0, 0, false, false⟩ := by
  unfold D1
  rw [if_pos (by decide)]
  rfl
theorem e2_alive : E ⟨5, 65536, 0, false, 3, 6, true, false⟩ = 67646 := by
  unfold E
  rw [if_neg (by decide), if_neg (by decide), if_neg (by decide), if_neg (by decide), if_pos rfl]
  rfl
set_option maxRecDepth 100000 in
set_option maxHeartbeats 4000000 in
theorem alive_any (w : World) (ht : TE w) : Calls Tryd.prog 6 #[] w fun e w' => e = .returned (.bool true) ∧ Below w.heap.size w w' := by
  have HD2 : ∀ ww, TE ww → Calls Tryd.prog 9 #[.int .u32 67646] ww fun r w' => r = .returned (.agg #[.int .i64 5, .int .u64 65536, .int .i64 0, .bool false, .int .i64 3, .int .u32 6, .bool true, .bool false]) ∧ Below ww.heap.size ww w' := fun ww hh => by
    have := Decode2_any 67646 ww hh.toTD (by decide)
    rw [d2_alive] at this
    exact this
  have HD1 : ∀ ww, TE ww → Calls Tryd.prog 7 #[.int .u32 66593] ww fun r w' => r = .returned (.agg #[.int .i64 1, .int .u64 66560, .int .i64 1, .bool false, .int .i64 0, .int .u32 0, .bool false, .bool false]) ∧ Below ww.heap.size ww w' := fun ww hh => by
    have := Decode1_any 66593 ww hh.toTD (by decide)
    rw [d1_alive] at this
    exact this
  have HE : ∀ ww, TE ww → Calls Tryd.prog 10 #[.agg #[.int .i64 5, .int .u64 65536, .int .i64 0, .bool false, .int .i64 3, .int .u32 6, .bool true, .bool false]] ww fun r w' => r = .returned (.tuple #[.int .u32 67646, .int .i64 0]) ∧ Below ww.heap.size ww w' := fun ww hh => by
    have := Encode2_any ⟨5, 65536, 0, false, 3, 6, true, false⟩ ww hh ⟨by decide, by decide⟩
    rw [e2_alive, d2_alive, Ent.same_self] at this
    exact this
  have HT : Hid (TE w) := ht
  clear ht
  go_enter Tryd.func6, Tryd.ntmps6
  go_wp2_with (first
    | (go_at_call 9; refine (HD2 _ HT.out).mono ?_; rintro e w1 ⟨rfl, hb1⟩; have HT1 : Hid (TE w1) := HT.out.below hb1; have HB1 : Hid (Below w.heap.size w w1) := hb1; clear hb1)
    | (go_at_call 10; refine (HE _ (HT1.out.below ((Below.refl _ _).alloc (Nat.le_refl _) _))).mono ?_; rintro e w2 ⟨rfl, hb2⟩; have hx1 := (BX.new w1 28 [.int .i64 5, .int .u64 65536, .int .i64 0, .bool false, .int .i64 3, .int .u32 6, .bool true, .bool false]).below hb2; have HT2 : Hid (TE w2) := HT1.out.below (Below.one hb2); have HB2 : Hid (Below w.heap.size w w2) := Below.step HB1.out (Below.one hb2); clear hb2)
    | (go_at_call 7; refine (HD1 _ HT2.out).mono ?_; rintro e w3 ⟨rfl, hb3⟩; have hx2 := hx1.below hb3; have HB3 : Hid (Below w.heap.size w w3) := Below.step HB2.out hb3; clear hb3; have c0 := hx2 0 _ rfl; have c1 := hx2 1 _ rfl; have c4 := hx2 4 _ rfl; have hlt := cell_lt c0; have hne : ¬ (w1.heap.size = w3.heap.size) := by simp only at hlt; omega)
    | go_in)
  go_ret
  exact ⟨rfl, (by (repeat (first | apply below_drew | refine Below.alloc ?_ HB3.out.size _)); exact HB3.out)⟩
end Go.Proofs.YtcpcmjmgiagnoabDoor
