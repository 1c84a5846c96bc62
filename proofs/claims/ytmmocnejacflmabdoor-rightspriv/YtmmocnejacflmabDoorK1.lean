import Derived.Test.YtmmocnejacflmabDoorL2
namespace Go.Proofs.YtmmocnejacflmabDoor
open Go.RowKit
set_option linter.unusedVariables false

set_option maxRecDepth 100000 in
set_option maxHeartbeats 4000000 in
theorem decode_1 (x : Int) (w : World) (ht : TD w) (hx : 0 ≤ x ∧ x < 4294967296) :
    Calls Tryd.prog 48 #[.int .i64 1, .int .u32 x] w fun e w' => e = .returned (.agg #[.int .i64 (dT x).kind, .int .u64 (dT x).base, .int .i64 (dT x).dom, .bool (dT x).ns, .int .i64 (dT x).ap, .int .u32 (dT x).bits, .bool (dT x).ng, .bool (dT x).xn]) ∧ Below w.heap.size w w' := by
  have c0 := ht.base 1 10 rfl
  have hw : x / 1024 * 1024 % 4294967296 = x / 1024 * 1024 := by omega
  have hw2 : x / 1024 * 1024 % 18446744073709551616 = x / 1024 * 1024 := by omega
  have hd : IntKind.i64.wrap (F x 5 4) = F x 5 4 := by have h1 := F_lo x 5 4; have h2 : F x 5 4 < 16 := F_hi x 5 4; rw [IntKind.wrap_i64]; omega
  have Hx : Hid (0 ≤ x ∧ x < 4294967296) := hx
  clear hx
  have HT : Hid (TD w) := ht
  clear ht
  go_enter Tryd.func48, Tryd.ntmps48
  go_wp2
  go_region_held3 (fun w' => w'.cell? ⟨5, 1, none⟩ = some (.int .u8 10)) (first | go_keep) ((first | fail))
  go_wp2_with (first
    | (go_at_call 57; refine (field_any x _ _ _ Hx.out (by decide) (by decide)).mono ?_; rintro e w' ⟨rfl, rfl⟩)
    | (go_at_call 47; refine (flag_any x _ _ Hx.out (by decide)).mono ?_; rintro e w' ⟨rfl, rfl⟩)
    | go_in)
  refine bodyPost_ret (v := .agg #[.int .i64 (dT x).kind, .int .u64 (dT x).base, .int .i64 (dT x).dom, .bool (dT x).ns, .int .i64 (dT x).ap, .int .u32 (dT x).bits, .bool (dT x).ng, .bool (dT x).xn]) (by simp [results, Tryd.results48, go_sem, dT, *]) rfl ⟨rfl, (by (repeat (first | apply below_drew | refine Below.setCell ?_ (by simp) _ | refine Below.alloc ?_ (by simp; try omega) _)); exact Below.refl _ _)⟩
end Go.Proofs.YtmmocnejacflmabDoor
