import Derived.Test.YtdinmhjdnnhhjaaDoorPa
namespace Go.Proofs.YtdinmhjdnnhhjaaDoor
open Go.RowKit
set_option linter.unusedVariables false
set_option linter.unusedSimpArgs false
set_option maxRecDepth 100000 in
theorem act0_any (x : Nat) (w : World) (hx : x < 4294967296) : Calls Tryd.prog 40 #[.int .u32 (x : Int)] w fun e w' => e = .returned (.agg #[.int .i64 ((actD 0 x)).k, .int .i64 ((actD 0 x)).tk, .int .u32 (((actD 0 x)).tva : Nat), .int .i64 (((actD 0 x)).tas : Nat), .int .u32 (((actD 0 x)).va : Nat), .bool ((actD 0 x)).us, .bool ((actD 0 x)).st]) ∧ Below w.heap.size w w' := by
  go_enter Tryd.func40, Tryd.ntmps40
  go_wp2
  refine bodyPost_ret (v := .agg #[.int .i64 ((actD 0 x)).k, .int .i64 ((actD 0 x)).tk, .int .u32 (((actD 0 x)).tva : Nat), .int .i64 (((actD 0 x)).tas : Nat), .int .u32 (((actD 0 x)).va : Nat), .bool ((actD 0 x)).us, .bool ((actD 0 x)).st]) (by simp [results, Tryd.results40, go_sem, actD]) rfl ⟨rfl, ?_⟩
  (repeat (with_reducible refine Below.setCell ?_ (by simp) _)); exact below_new _ _
set_option maxRecDepth 100000 in
theorem act1_any (x : Nat) (w : World) (hx : x < 4294967296) : Calls Tryd.prog 41 #[.int .u32 (x : Int)] w fun e w' => e = .returned (.agg #[.int .i64 ((actD 1 x)).k, .int .i64 ((actD 1 x)).tk, .int .u32 (((actD 1 x)).tva : Nat), .int .i64 (((actD 1 x)).tas : Nat), .int .u32 (((actD 1 x)).va : Nat), .bool ((actD 1 x)).us, .bool ((actD 1 x)).st]) ∧ Below w.heap.size w w' := by
  have h1 := and_page_u x hx
  have h2 := and_255_u x hx
  have h3 : ((x % 256 : Nat) : Int) < 256 := by omega
  have HD : Hid (actD 1 x = ⟨2, 2, pg x, x % 256, 0, false, false⟩) := rfl
  rw [HD.out]
  generalize x % 256 = z at *
  generalize pg x = y at *
  go_enter Tryd.func41, Tryd.ntmps41
  go_wp2
  refine bodyPost_ret (v := .agg #[.int .i64 ((Ac.mk 2 2 y z 0 false false)).k, .int .i64 ((Ac.mk 2 2 y z 0 false false)).tk, .int .u32 (((Ac.mk 2 2 y z 0 false false)).tva : Nat), .int .i64 (((Ac.mk 2 2 y z 0 false false)).tas : Nat), .int .u32 (((Ac.mk 2 2 y z 0 false false)).va : Nat), .bool ((Ac.mk 2 2 y z 0 false false)).us, .bool ((Ac.mk 2 2 y z 0 false false)).st]) (by simp [results, Tryd.results41, go_sem]) rfl ⟨rfl, ?_⟩
  (repeat (with_reducible refine Below.setCell ?_ (by simp) _)); exact below_new _ _
set_option maxRecDepth 100000 in
theorem act2_any (x : Nat) (w : World) (hx : x < 4294967296) : Calls Tryd.prog 42 #[.int .u32 (x : Int)] w fun e w' => e = .returned (.agg #[.int .i64 ((actD 2 x)).k, .int .i64 ((actD 2 x)).tk, .int .u32 (((actD 2 x)).tva : Nat), .int .i64 (((actD 2 x)).tas : Nat), .int .u32 (((actD 2 x)).va : Nat), .bool ((actD 2 x)).us, .bool ((actD 2 x)).st]) ∧ Below w.heap.size w w' := by
  have h2 := and_255_u x hx
  have h3 : ((x % 256 : Nat) : Int) < 256 := by omega
  have HD : Hid (actD 2 x = ⟨2, 3, 0, x % 256, 0, false, false⟩) := rfl
  rw [HD.out]
  generalize x % 256 = z at *
  go_enter Tryd.func42, Tryd.ntmps42
  go_wp2
  refine bodyPost_ret (v := .agg #[.int .i64 ((Ac.mk 2 3 0 z 0 false false)).k, .int .i64 ((Ac.mk 2 3 0 z 0 false false)).tk, .int .u32 (((Ac.mk 2 3 0 z 0 false false)).tva : Nat), .int .i64 (((Ac.mk 2 3 0 z 0 false false)).tas : Nat), .int .u32 (((Ac.mk 2 3 0 z 0 false false)).va : Nat), .bool ((Ac.mk 2 3 0 z 0 false false)).us, .bool ((Ac.mk 2 3 0 z 0 false false)).st]) (by simp [results, Tryd.results42, go_sem]) rfl ⟨rfl, ?_⟩
  (repeat (with_reducible refine Below.setCell ?_ (by simp) _)); exact below_new _ _
set_option maxRecDepth 100000 in
theorem act3_any (x : Nat) (w : World) (hx : x < 4294967296) : Calls Tryd.prog 43 #[.int .u32 (x : Int)] w fun e w' => e = .returned (.agg #[.int .i64 ((actD 3 x)).k, .int .i64 ((actD 3 x)).tk, .int .u32 (((actD 3 x)).tva : Nat), .int .i64 (((actD 3 x)).tas : Nat), .int .u32 (((actD 3 x)).va : Nat), .bool ((actD 3 x)).us, .bool ((actD 3 x)).st]) ∧ Below w.heap.size w w' := by
  have h1 := and_page_u x hx
  have HD : Hid (actD 3 x = ⟨2, 4, pg x, 0, 0, false, false⟩) := rfl
  rw [HD.out]
  generalize pg x = y at *
  go_enter Tryd.func43, Tryd.ntmps43
  go_wp2
  refine bodyPost_ret (v := .agg #[.int .i64 ((Ac.mk 2 4 y 0 0 false false)).k, .int .i64 ((Ac.mk 2 4 y 0 0 false false)).tk, .int .u32 (((Ac.mk 2 4 y 0 0 false false)).tva : Nat), .int .i64 (((Ac.mk 2 4 y 0 0 false false)).tas : Nat), .int .u32 (((Ac.mk 2 4 y 0 0 false false)).va : Nat), .bool ((Ac.mk 2 4 y 0 0 false false)).us, .bool ((Ac.mk 2 4 y 0 0 false false)).st]) (by simp [results, Tryd.results43, go_sem]) rfl ⟨rfl, ?_⟩
  (repeat (with_reducible refine Below.setCell ?_ (by simp) _)); exact below_new _ _
set_option maxRecDepth 100000 in
theorem act8_any (x : Nat) (w : World) : Calls Tryd.prog 45 #[.int .u32 (x : Int)] w fun e w' => e = .returned (.agg #[.int .i64 ((actD 8 x)).k, .int .i64 ((actD 8 x)).tk, .int .u32 (((actD 8 x)).tva : Nat), .int .i64 (((actD 8 x)).tas : Nat), .int .u32 (((actD 8 x)).va : Nat), .bool ((actD 8 x)).us, .bool ((actD 8 x)).st]) ∧ Below w.heap.size w w' := by
  go_enter Tryd.func45, Tryd.ntmps45
  go_wp2
  refine bodyPost_ret (v := .agg #[.int .i64 ((actD 8 x)).k, .int .i64 ((actD 8 x)).tk, .int .u32 (((actD 8 x)).tva : Nat), .int .i64 (((actD 8 x)).tas : Nat), .int .u32 (((actD 8 x)).va : Nat), .bool ((actD 8 x)).us, .bool ((actD 8 x)).st]) (by simp [results, Tryd.results45, go_sem, actD, aZ]) rfl ⟨rfl, ?_⟩
  (repeat (with_reducible refine Below.setCell ?_ (by simp) _)); exact below_new _ _
set_option maxRecDepth 100000 in
theorem actA_any (x p q : Nat) (u s : Bool) (w : World) (hx : x < 4294967296) (hp : w.cell? ⟨p, 0, none⟩ = some (.bool u)) (hq : w.cell? ⟨q, 0, none⟩ = some (.bool s)) :
    Calls Tryd.prog 48 #[.int .u32 (x : Int), .pointer (some ⟨p, 0, none⟩), .pointer (some ⟨q, 0, none⟩)] w fun e w' => e = .returned (.agg #[.int .i64 ((Ac.mk 3 0 0 0 (pg x) u s)).k, .int .i64 ((Ac.mk 3 0 0 0 (pg x) u s)).tk, .int .u32 (((Ac.mk 3 0 0 0 (pg x) u s)).tva : Nat), .int .i64 (((Ac.mk 3 0 0 0 (pg x) u s)).tas : Nat), .int .u32 (((Ac.mk 3 0 0 0 (pg x) u s)).va : Nat), .bool ((Ac.mk 3 0 0 0 (pg x) u s)).us, .bool ((Ac.mk 3 0 0 0 (pg x) u s)).st]) ∧ Below w.heap.size w w' := by
  have h1 := and_page_u x hx
  have hp1 := cell_lt hp
  have hq1 := cell_lt hq
  have hp2 : ¬ p = w.heap.size := Nat.ne_of_lt hp1
  have hq2 : ¬ q = w.heap.size := Nat.ne_of_lt hq1
  generalize pg x = y at *
  go_enter Tryd.func48, Tryd.ntmps48
  go_wp2
  refine bodyPost_ret (v := .agg #[.int .i64 ((Ac.mk 3 0 0 0 y u s)).k, .int .i64 ((Ac.mk 3 0 0 0 y u s)).tk, .int .u32 (((Ac.mk 3 0 0 0 y u s)).tva : Nat), .int .i64 (((Ac.mk 3 0 0 0 y u s)).tas : Nat), .int .u32 (((Ac.mk 3 0 0 0 y u s)).va : Nat), .bool ((Ac.mk 3 0 0 0 y u s)).us, .bool ((Ac.mk 3 0 0 0 y u s)).st]) (by simp [results, Tryd.results48, go_sem]) rfl ⟨rfl, ?_⟩
  (repeat (with_reducible refine Below.setCell ?_ (by simp) _)); exact below_new _ _
set_option maxRecDepth 100000 in
theorem ask_any (u s : Bool) (w : World) : Calls Tryd.prog 44 #[.bool u, .bool s] w fun e w' => e = .returned (.func (.func 48) #[] #[.pointer (some ⟨w.heap.size, 0, none⟩), .pointer (some ⟨w.heap.size + 1, 0, none⟩)]) ∧ w' = (w.alloc (.cells #[.bool u] 4)).alloc (.cells #[.bool s] 4) := by
  have hmf : ∀ (fn : Fn) (first cap : Array Value) (w : World), (Instr.makeFunc fn first cap).run Tryd.prog w = .ok (.func fn first cap) w := fun _ _ _ _ => rfl
  go_enter Tryd.func44, Tryd.ntmps44
  go_wp2
  go_ret
  exact ⟨rfl, rfl⟩
end Go.Proofs.YtdinmhjdnnhhjaaDoor
