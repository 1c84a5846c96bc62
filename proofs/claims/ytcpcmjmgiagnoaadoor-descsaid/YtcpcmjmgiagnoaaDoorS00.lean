import Derived.Test.YtcpcmjmgiagnoaaDoorAl
namespace Go.Proofs.YtcpcmjmgiagnoaaDoor
open Go.RowKit
set_option linter.unusedVariables false
set_option linter.unusedSimpArgs false

set_option maxRecDepth 100000 in
set_option maxHeartbeats 8000000 in
theorem said_00 (k1 k2 k3 : Int) (k4 : Bool) (k5 k6 : Int) (k7 k8 : Bool) (d1 d2 : Ent) (v : Int) (w : World) (ht : TE w)
    (heq1 : ∀ w, (Op.equalIn 10000 30 (.agg #[.int .i64 d1.kind, .int .u64 d1.base, .int .i64 d1.dom, .bool d1.ns, .int .i64 d1.ap, .int .u32 d1.bits, .bool d1.ng, .bool d1.xn]) (.agg #[.int .i64 k1, .int .u64 k2, .int .i64 k3, .bool k4, .int .i64 k5, .int .u32 k6, .bool k7, .bool k8])).run Tryd.prog w = .ok false w)
    (heq2 : ∀ w, (Op.equalIn 10000 30 (.agg #[.int .i64 d2.kind, .int .u64 d2.base, .int .i64 d2.dom, .bool d2.ns, .int .i64 d2.ap, .int .u32 d2.bits, .bool d2.ng, .bool d2.xn]) (.agg #[.int .i64 k1, .int .u64 k2, .int .i64 k3, .bool k4, .int .i64 k5, .int .u32 k6, .bool k7, .bool k8])).run Tryd.prog w = .ok false w)
    (HE1 : ∀ ww, TE ww → Calls Tryd.prog 24 #[.agg #[.int .i64 k1, .int .u64 k2, .int .i64 k3, .bool k4, .int .i64 k5, .int .u32 k6, .bool k7, .bool k8]] ww fun r w' => r = .returned (.tuple #[.int .u32 0, .int .i64 50]) ∧ Below ww.heap.size ww w')
    (HE2 : ∀ ww, TE ww → Calls Tryd.prog 25 #[.agg #[.int .i64 k1, .int .u64 k2, .int .i64 k3, .bool k4, .int .i64 k5, .int .u32 k6, .bool k7, .bool k8]] ww fun r w' => r = .returned (.tuple #[.int .u32 0, .int .i64 50]) ∧ Below ww.heap.size ww w')
    (HD1 : ∀ ww, TE ww → Calls Tryd.prog 13 #[.int .u32 v] ww fun r w' => r = .returned (.agg #[.int .i64 d1.kind, .int .u64 d1.base, .int .i64 d1.dom, .bool d1.ns, .int .i64 d1.ap, .int .u32 d1.bits, .bool d1.ng, .bool d1.xn]) ∧ Below ww.heap.size ww w')
    (HD2 : ∀ ww, TE ww → Calls Tryd.prog 15 #[.int .u32 v] ww fun r w' => r = .returned (.agg #[.int .i64 d2.kind, .int .u64 d2.base, .int .i64 d2.dom, .bool d2.ns, .int .i64 d2.ap, .int .u32 d2.bits, .bool d2.ng, .bool d2.xn]) ∧ Below ww.heap.size ww w') :
    Calls Tryd.prog 7 #[.agg #[.int .i64 k1, .int .u64 k2, .int .i64 k3, .bool k4, .int .i64 k5, .int .u32 k6, .bool k7, .bool k8]] w fun r w' => r = .returned (.bool true) ∧ Below w.heap.size w w' := by
  have hN := Bl.new w 30 [.int .i64 k1, .int .u64 k2, .int .i64 k3, .bool k4, .int .i64 k5, .int .u32 k6, .bool k7, .bool k8]
  have HT : Hid (TE w) := ht
  clear ht
  have HF0 : Hid (∀ o w', Below (w.alloc o).heap.size (w.alloc o) w' → Below w.heap.size w w') := fun o w' h => Below.one h
  go_enter Tryd.func7, Tryd.ntmps7
  go_wp2_with (first
    | (go_at_call 21; refine (alive_any _ (HT.out.below ((Below.refl _ _).alloc (Nat.le_refl _) _))).mono ?_; rintro e w1 ⟨rfl, hb1⟩; have hx1 := hN.below hb1; have HB : Hid (Below w.heap.size w w1) := HF0.out _ _ hb1; clear hN hb1 HF0; have hc1 := hx1.cell)
    | (go_at_call 24; refine (HE1 _ (HT.out.below HB.out)).mono ?_; rintro e w2 ⟨rfl, hb2⟩; have hx2 := hx1.below hb2; have HB2 : Hid (Below w.heap.size w w2) := Below.step HB.out hb2; clear hb2 hc1; have hc2 := hx2.cell)
    | (go_at_call 25; refine (HE2 _ (HT.out.below HB2.out)).mono ?_; rintro e w3 ⟨rfl, hb3⟩; have hx3 := hx2.below hb3; have HB3 : Hid (Below w.heap.size w w3) := Below.step HB2.out hb3; clear hb3 hc2; have hc3 := hx3.cell)
    | go_in)
  go_quiet (fail)
  all_goals
    have hx5 : Bl (w3.drewN nq) w.heap.size 30 _ := hx3
    have HB5 : Hid (Below w.heap.size w (w3.drewN nq)) := below_drewN HB3.out nq
    generalize w3.drewN nq = w5 at *
    have hc5 := hx5.cell
    go_wp2
    go_quiet (fail)
    all_goals
      go_wp2
      go_ret
      exact ⟨rfl, below_drewN HB5.out _⟩
end Go.Proofs.YtcpcmjmgiagnoaaDoor
