import Derived.Test.YtmmocnejacflmabDoorEp
import Derived.Test.YtmmocnejacflmabDoorM5
namespace Go.Proofs.YtmmocnejacflmabDoor
open Go.RowKit
set_option linter.unusedVariables false
set_option linter.unusedSimpArgs false

theorem orN5 (b d ap bt : Int) (s g x : Bool) : bits .or .u32 (bits .or .u32 2 (b % 4294967296 / 4096 * 4096)) (EL 4 9 6 10 11 0 ap bt g x) = 2 + b % 4294967296 / 4096 * 4096 + EL 4 9 6 10 11 0 ap bt g x := by
  have o1 := or32 (in_one 2) (in_base b 12 (by decide)) (by decide) (by decide) (by decide)
  have o3 := or32 o1.2 (elC ap bt g x).2 (by decide) (by decide) (by decide)
  exact (congrArg (fun z => bits .or .u32 z _) o1.1).trans o3.1
set_option maxRecDepth 100000 in
set_option maxHeartbeats 4000000 in
theorem encode_5 (b d ap bt : Int) (s g x : Bool) (w : World) (ht : TE w) (hb : 0 ≤ b ∧ b < 18446744073709551616) (hbt : 0 ≤ bt ∧ bt < 4294967296) :
    Calls Tryd.prog 41 #[.agg #[.int .i64 5, .int .u64 b, .int .i64 d, .bool s, .int .i64 ap, .int .u32 bt, .bool g, .bool x]] w fun e w' => e = .returned (.int .u32 (eM ⟨5, b, d, s, ap, bt, g, x⟩)) ∧ Below w.heap.size w w' := by
  have c0 := ht.base 5 12 rfl
  have c1 := ht.tags 5 2 rfl
  have HT : Hid (TE w) := ht
  clear ht
  have HB : Hid (0 ≤ bt ∧ bt < 4294967296) := hbt
  clear hbt
  have HBB : Hid (0 ≤ b ∧ b < 18446744073709551616) := hb
  clear hb
  have hq : ∀ b : Bool, (if b = true then (1 : Int) else 0) = b2 b := fun b => rfl
  have HO : Hid (_ = _) := orN5 b d ap bt s g x
  have HW : Hid (_ = _) := base_lt b 4096 (by decide)
  go_enter Tryd.func41, Tryd.ntmps41
  go_wp2
  go_region_held3 (fun w' => w'.cell? ⟨5, 5, none⟩ = some (.int .u8 12) ∧ w'.cell? ⟨8, 5, none⟩ = some (.int .u32 2) ∧ w'.cell? ⟨w.heap.size, 0, none⟩ = some (.int .i64 5) ∧ w'.cell? ⟨w.heap.size, 1, none⟩ = some (.int .u64 b)) (first | go_keep) ((first | fail))
  go_wp2_with (first | (go_at_call 51; refine (encodeLeaf_5 ap bt g x _ (HT.out.toTD.below (by (repeat (first | apply below_drew | refine Below.setCell ?_ (by simp) _ | refine Below.alloc ?_ (by simp; try omega) _)); exact Below.refl _ _)) HB.out).mono ?_; rintro e w2 ⟨rfl, o, rfl⟩) | go_in)
  go_ret
  refine ⟨?_, (by (repeat (first | apply below_drew | refine Below.setCell ?_ (by simp) _ | refine Below.alloc ?_ (by simp; try omega) _)); exact Below.refl _ _)⟩
  have ho := HO.out
  have hw := HW.out
  simp only [IntKind.wrap_u32, hw, eM]
  rw [← ho]
  rfl
end Go.Proofs.YtmmocnejacflmabDoor
