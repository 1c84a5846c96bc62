import Derived.Test.YtmmocnejacflmabDoorEp
namespace Go.Proofs.YtmmocnejacflmabDoor
open Go.RowKit
set_option linter.unusedVariables false
set_option linter.unusedSimpArgs false

theorem orN1 (b d ap bt : Int) (s g x : Bool) : bits .or .u32 (bits .or .u32 (bits .or .u32 1 (b % 4294967296 / 1024 * 1024)) (G (d % 4294967296) 5 4)) (G (b2 s) 3 1) = 1 + b % 4294967296 / 1024 * 1024 + G (d % 4294967296) 5 4 + G (b2 s) 3 1 := by
  have o1 := or32 (in_one 1) (in_base b 10 (by decide)) (by decide) (by decide) (by decide)
  have o2 := or32 o1.2 (in_G (d % 4294967296) 5 4) (by decide) (by decide) (by decide)
  have o3 := or32 o2.2 (in_G (b2 s) 3 1) (by decide) (by decide) (by decide)
  exact (congrArg (fun z => bits .or .u32 (bits .or .u32 z _) _) o1.1).trans ((congrArg (fun z => bits .or .u32 z _) o2.1).trans o3.1)
set_option maxRecDepth 100000 in
set_option maxHeartbeats 4000000 in
theorem encode_1 (b d ap bt : Int) (s g x : Bool) (w : World) (ht : TE w) (hb : 0 ≤ b ∧ b < 18446744073709551616) (hbt : 0 ≤ bt ∧ bt < 4294967296) :
    Calls Tryd.prog 41 #[.agg #[.int .i64 1, .int .u64 b, .int .i64 d, .bool s, .int .i64 ap, .int .u32 bt, .bool g, .bool x]] w fun e w' => e = .returned (.int .u32 (eT ⟨1, b, d, s, ap, bt, g, x⟩)) ∧ Below w.heap.size w w' := by
  have c0 := ht.base 1 10 rfl
  have c1 := ht.tags 1 1 rfl
  have HT : Hid (TE w) := ht
  clear ht
  have HB : Hid (0 ≤ bt ∧ bt < 4294967296) := hbt
  clear hbt
  have HBB : Hid (0 ≤ b ∧ b < 18446744073709551616) := hb
  clear hb
  have hq : ∀ b : Bool, (if b = true then (1 : Int) else 0) = b2 b := fun b => rfl
  have HO : Hid (_ = _) := orN1 b d ap bt s g x
  have HW : Hid (_ = _) := base_lt b 1024 (by decide)
  go_enter Tryd.func41, Tryd.ntmps41
  go_wp2
  go_region_held3 (fun w' => w'.cell? ⟨5, 1, none⟩ = some (.int .u8 10) ∧ w'.cell? ⟨8, 1, none⟩ = some (.int .u32 1) ∧ w'.cell? ⟨w.heap.size, 0, none⟩ = some (.int .i64 1) ∧ w'.cell? ⟨w.heap.size, 1, none⟩ = some (.int .u64 b)) (first | go_keep) ((first | fail))
  go_wp2
  go_region_held3 (fun w' => w'.cell? ⟨w.heap.size, 2, none⟩ = some (.int .i64 d) ∧ w'.cell? ⟨w.heap.size, 3, none⟩ = some (.bool s)) (first | go_keep)
    ((first
      | (go_at_call 49; refine (place_any _ _ _ _ ?_ (by decide) (by decide) (by decide)).mono ?_; (first | exact HB.out | (have := HB.out; have := HBB.out; (try simp only [IntKind.wrap_u32]); omega)); rintro e w' ⟨rfl, rfl⟩)
      | (go_at_call 50; refine (placeFlag_any _ _ _ (by decide)).mono ?_; rintro e w' ⟨rfl, rfl⟩)))
  go_wp2
  go_ret
  refine ⟨?_, (by (repeat (first | apply below_drew | refine Below.setCell ?_ (by simp) _ | refine Below.alloc ?_ (by simp; try omega) _)); exact Below.refl _ _)⟩
  have ho := HO.out
  have hw := HW.out
  simp only [IntKind.wrap_u32, hw, eT]
  rw [← ho]
  rfl
end Go.Proofs.YtmmocnejacflmabDoor
