import Derived.Test.YtmmocnejacflmabDoorDp
namespace Go.Proofs.YtmmocnejacflmabDoor
open Go.RowKit
set_option linter.unusedVariables false

set_option maxRecDepth 100000 in
set_option maxHeartbeats 4000000 in
theorem decodeLeaf_2 (x : Int) (w : World) (ht : TD w) (hx : 0 ≤ x ∧ x < 4294967296) :
    Calls Tryd.prog 58 #[.int .i64 2, .int .u32 x] w fun e w' => e = .returned (.agg #[.int .i64 (F x 15 1 * 4 + F x 10 2), .int .u32 (F x 12 3 * 8 + F x 2 2 * 2 + F x 16 1), .bool (F x 17 1 == 1), .bool (F x 4 1 == 1)]) ∧ ∃ o, w' = (w.alloc o).drew := by
  have tl := ht.leaf
  have c0 := tl 12 10 rfl
  have c1 := tl 13 15 rfl
  have c2 := tl 14 12 rfl
  have c3 := tl 15 16 rfl
  have c4 := tl 16 17 rfl
  have c5 := tl 17 4 rfl
  clear tl ht
  go_enter Tryd.func58, Tryd.ntmps58
  go_wp2
  go_region_held3 (fun w' => w'.cell? ⟨11, 12, none⟩ = some (.int .u8 10) ∧ w'.cell? ⟨11, 13, none⟩ = some (.int .u8 15) ∧ w'.cell? ⟨11, 14, none⟩ = some (.int .u8 12) ∧ w'.cell? ⟨11, 15, none⟩ = some (.int .u8 16) ∧ w'.cell? ⟨11, 16, none⟩ = some (.int .u8 17) ∧ w'.cell? ⟨11, 17, none⟩ = some (.int .u8 4)) (first | go_keep)
    ((first
      | (go_at_call 57; refine (field_any x _ _ _ hx (by decide) (by decide)).mono ?_; rintro e w' ⟨rfl, rfl⟩)
      | (go_at_call 47; refine (flag_any x _ _ hx (by decide)).mono ?_; rintro e w' ⟨rfl, rfl⟩)))
  go_wp2
  refine bodyPost_ret (v := .agg #[.int .i64 (F x 15 1 * 4 + F x 10 2), .int .u32 (F x 12 3 * 8 + F x 2 2 * 2 + F x 16 1), .bool (F x 17 1 == 1), .bool (F x 4 1 == 1)]) (by simp [results, Tryd.results58, leafA, leafB, go_sem]) rfl ⟨rfl, _, rfl⟩
end Go.Proofs.YtmmocnejacflmabDoor
