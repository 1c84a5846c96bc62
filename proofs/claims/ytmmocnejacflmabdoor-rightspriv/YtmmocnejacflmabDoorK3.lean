import Derived.Test.YtmmocnejacflmabDoorL3
import Derived.Deep.RegionWith
namespace Go.Proofs.YtmmocnejacflmabDoor
open Go.RowKit
set_option linter.unusedVariables false

set_option maxRecDepth 100000 in
set_option maxHeartbeats 4000000 in
theorem decode_3 (x : Int) (w : World) (ht : TD w) (hx : 0 ≤ x ∧ x < 4294967296) :
    Calls Tryd.prog 48 #[.int .i64 3, .int .u32 x] w fun e w' => e = .returned (.agg #[.int .i64 (dU x).kind, .int .u64 (dU x).base, .int .i64 (dU x).dom, .bool (dU x).ns, .int .i64 (dU x).ap, .int .u32 (dU x).bits, .bool (dU x).ng, .bool (dU x).xn]) ∧ Below w.heap.size w w' := by
  have c0 := ht.base 3 24 rfl
  have hw : x / 16777216 * 16777216 % 4294967296 = x / 16777216 * 16777216 := by omega
  have hw2 : x / 16777216 * 16777216 % 18446744073709551616 = x / 16777216 * 16777216 := by omega
  have hd : IntKind.i64.wrap (F x 5 4) = F x 5 4 := by have h1 := F_lo x 5 4; have h2 : F x 5 4 < 16 := F_hi x 5 4; rw [IntKind.wrap_i64]; omega
  have hu : bits .or .u64 (x / 16777216 * 16777216) (bits .or .u64 (IntKind.u64.wrap (IntKind.u64.wrap (F x 20 4) * 4294967296)) (IntKind.u64.wrap (IntKind.u64.wrap (F x 5 4) * 68719476736))) = x / 16777216 * 16777216 + (F x 20 4 * 4294967296 + F x 5 4 * 68719476736) := by
    have h1 := F_lo x 5 4
    have h2 : F x 5 4 < 16 := F_hi x 5 4
    have h3 := F_lo x 20 4
    have h4 : F x 20 4 < 16 := F_hi x 20 4
    have ho := or64 (m := 15 * 2 ^ 32) (n := 15 * 2 ^ 36) (show In _ (F x 20 4 * 4294967296) from (in_F x 20 4).shl 32) (show In _ (F x 5 4 * 68719476736) from (in_F x 5 4).shl 36) (by decide) (by decide) (by decide)
    have hb := or64 (m := 255 * 2 ^ 24) (show In _ (x / 16777216 * 16777216) from (in_low (x / 16777216) 8 (by omega) (by omega)).shl 24) ho.2 (by decide) (by decide) (by decide)
    simp only [IntKind.wrap_u64]
    rw [show F x 20 4 % 18446744073709551616 = F x 20 4 by omega, show F x 5 4 % 18446744073709551616 = F x 5 4 by omega, show F x 20 4 * 4294967296 % 18446744073709551616 = F x 20 4 * 4294967296 by omega, show F x 5 4 * 68719476736 % 18446744073709551616 = F x 5 4 * 68719476736 by omega, ho.1, hb.1]
  have Hx : Hid (0 ≤ x ∧ x < 4294967296) := hx
  clear hx
  have HT : Hid (TD w) := ht
  clear ht
  have HU : Hid (_ = _) := hu
  clear hu
  go_enter Tryd.func48, Tryd.ntmps48
  go_wp2
  go_region_held3 (fun w' => w'.cell? ⟨5, 3, none⟩ = some (.int .u8 24)) (first | go_keep) ((first | fail))
  go_wp2_with (first
    | (go_at_call 57; refine (field_any x _ _ _ Hx.out (by decide) (by decide)).mono ?_; rintro e w' ⟨rfl, rfl⟩)
    | (go_at_call 47; refine (flag_any x _ _ Hx.out (by decide)).mono ?_; rintro e w' ⟨rfl, rfl⟩)
    | go_in)
  go_region_with (first
    | (go_at_call 57; refine (field_any x _ _ _ Hx.out (by decide) (by decide)).mono ?_; rintro e w' ⟨rfl, rfl⟩)
    )
  all_goals
    have hu := HU.out
    go_wp2_with (first
    | (go_at_call 47; refine (flag_any x _ _ Hx.out (by decide)).mono ?_; rintro e w' ⟨rfl, rfl⟩)
    | (go_at_call 58; refine (decodeLeaf_3 x _ (HT.out.below (by (repeat (first | apply below_drew | refine Below.setCell ?_ (by simp) _ | refine Below.alloc ?_ (by simp; try omega) _)); exact Below.refl _ _)) Hx.out).mono ?_; rintro e w2 ⟨rfl, o, rfl⟩)
    | go_in)
    refine bodyPost_ret (v := .agg #[.int .i64 (dU x).kind, .int .u64 (dU x).base, .int .i64 (dU x).dom, .bool (dU x).ns, .int .i64 (dU x).ap, .int .u32 (dU x).bits, .bool (dU x).ng, .bool (dU x).xn]) (by simp [results, Tryd.results48, go_sem, dU, *]) rfl ⟨rfl, (by (repeat (first | apply below_drew | refine Below.setCell ?_ (by simp) _ | refine Below.alloc ?_ (by simp; try omega) _)); exact Below.refl _ _)⟩
end Go.Proofs.YtmmocnejacflmabDoor
