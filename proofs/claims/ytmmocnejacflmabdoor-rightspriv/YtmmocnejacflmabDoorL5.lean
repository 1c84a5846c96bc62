import Derived.Test.YtmmocnejacflmabDoorDp
namespace Go.Proofs.YtmmocnejacflmabDoor
open Go.RowKit
set_option linter.unusedVariables false

set_option maxRecDepth 100000 in
set_option maxHeartbeats 4000000 in
theorem decodeLeaf_5 (x : Int) (w : World) (ht : TD w) (hx : 0 ≤ x ∧ x < 4294967296) :
    Calls Tryd.prog 58 #[.int .i64 5, .int .u32 x] w fun e w' => e = .returned (.agg #[.int .i64 (F x 9 1 * 4 + F x 4 2), .int .u32 (F x 6 3 * 8 + F x 2 2 * 2 + F x 10 1), .bool (F x 11 1 == 1), .bool (F x 0 1 == 1)]) ∧ ∃ o, w' = (w.alloc o).drew := by
  have tl := ht.leaf
  have c0 := tl 30 4 rfl
  have c1 := tl 31 9 rfl
  have c2 := tl 32 6 rfl
  have c3 := tl 33 10 rfl
  have c4 := tl 34 11 rfl
  have c5 := tl 35 0 rfl
  clear tl ht
  go_enter Tryd.func58, Tryd.ntmps58
  go_wp2
  go_region_held3 (fun w' => w'.cell? ⟨11, 30, none⟩ = some (.int .u8 4) ∧ w'.cell? ⟨11, 31, none⟩ = some (.int .u8 9) ∧ w'.cell? ⟨11, 32, none⟩ = some (.int .u8 6) ∧ w'.cell? ⟨11, 33, none⟩ = some (.int .u8 10) ∧ w'.cell? ⟨11, 34, none⟩ = some (.int .u8 11) ∧ w'.cell? ⟨11, 35, none⟩ = some (.int .u8 0)) (first | go_keep)
    ((first
      | (go_at_call 57; refine (field_any x _ _ _ hx (by decide) (by decide)).mono ?_; rintro e w' ⟨rfl, rfl⟩)
      | (go_at_call 47; refine (flag_any x _ _ hx (by decide)).mono ?_; rintro e w' ⟨rfl, rfl⟩)))
  go_wp2
  refine bodyPost_ret (v := .agg #[.int .i64 (F x 9 1 * 4 + F x 4 2), .int .u32 (F x 6 3 * 8 + F x 2 2 * 2 + F x 10 1), .bool (F x 11 1 == 1), .bool (F x 0 1 == 1)]) (by simp [results, Tryd.results58, leafA, leafB, go_sem]) rfl ⟨rfl, _, rfl⟩
end Go.Proofs.YtmmocnejacflmabDoor
