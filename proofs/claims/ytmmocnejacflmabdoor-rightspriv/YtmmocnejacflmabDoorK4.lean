import Derived.Test.YtmmocnejacflmabDoorL4
namespace Go.Proofs.YtmmocnejacflmabDoor
open Go.RowKit
set_option linter.unusedVariables false

set_option maxRecDepth 100000 in
set_option maxHeartbeats 4000000 in
theorem decode_4 (x : Int) (w : World) (ht : TD w) (hx : 0 ≤ x ∧ x < 4294967296) :
    Calls Tryd.prog 48 #[.int .i64 4, .int .u32 x] w fun e w' => e = .returned (.agg #[.int .i64 (dL x).kind, .int .u64 (dL x).base, .int .i64 (dL x).dom, .bool (dL x).ns, .int .i64 (dL x).ap, .int .u32 (dL x).bits, .bool (dL x).ng, .bool (dL x).xn]) ∧ Below w.heap.size w w' := by
  have c0 := ht.base 4 16 rfl
  have hw : x / 65536 * 65536 % 4294967296 = x / 65536 * 65536 := by omega
  have hw2 : x / 65536 * 65536 % 18446744073709551616 = x / 65536 * 65536 := by omega
  have Hx : Hid (0 ≤ x ∧ x < 4294967296) := hx
  clear hx
  have HT : Hid (TD w) := ht
  clear ht
  go_enter Tryd.func48, Tryd.ntmps48
  go_wp2
  go_region_held3 (fun w' => w'.cell? ⟨5, 4, none⟩ = some (.int .u8 16)) (first | go_keep) ((first | fail))
  go_wp2_with (first
    | (go_at_call 57; refine (field_any x _ _ _ Hx.out (by decide) (by decide)).mono ?_; rintro e w' ⟨rfl, rfl⟩)
    | (go_at_call 47; refine (flag_any x _ _ Hx.out (by decide)).mono ?_; rintro e w' ⟨rfl, rfl⟩)
    | (go_at_call 58; refine (decodeLeaf_4 x _ (HT.out.below (by (repeat (first | apply below_drew | refine Below.setCell ?_ (by simp) _ | refine Below.alloc ?_ (by simp; try omega) _)); exact Below.refl _ _)) Hx.out).mono ?_; rintro e w2 ⟨rfl, o, rfl⟩)
    | go_in)
  refine bodyPost_ret (v := .agg #[.int .i64 (dL x).kind, .int .u64 (dL x).base, .int .i64 (dL x).dom, .bool (dL x).ns, .int .i64 (dL x).ap, .int .u32 (dL x).bits, .bool (dL x).ng, .bool (dL x).xn]) (by simp [results, Tryd.results48, go_sem, dL, *]) rfl ⟨rfl, (by (repeat (first | apply below_drew | refine Below.setCell ?_ (by simp) _ | refine Below.alloc ?_ (by simp; try omega) _)); exact Below.refl _ _)⟩
end Go.Proofs.YtmmocnejacflmabDoor
