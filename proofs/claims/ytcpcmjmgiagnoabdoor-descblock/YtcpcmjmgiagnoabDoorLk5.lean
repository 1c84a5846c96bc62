import Derived.Test.YtcpcmjmgiagnoabDoorLk0
namespace Go.Proofs.YtcpcmjmgiagnoabDoor
open Go.RowKit
set_option linter.unusedVariables false
set_option linter.unusedSimpArgs false

set_option maxRecDepth 100000 in
set_option maxHeartbeats 16000000 in
theorem block_zf0 (x dom d va other : Int) (e d1 : Ent) (W : World) (ht : TR W)
    (hk0 : (e.kind == 0) = true) (hd : bits .and .i64 dom 15 = d)
    (HD1 : ∀ ww, TR ww → Calls Tryd.prog 7 #[.int .u32 x] ww fun r w' => r = .returned (.agg #[.int .i64 e.kind, .int .u64 e.base, .int .i64 e.dom, .bool e.ns, .int .i64 e.ap, .int .u32 e.bits, .bool e.ng, .bool e.xn]) ∧ Below ww.heap.size ww w')
    (HT1 : ∀ ww, TR ww → Calls Tryd.prog 13 #[.agg #[.int .i64 e.kind, .int .u64 e.base, .int .i64 e.dom, .bool e.ns, .int .i64 e.ap, .int .u32 e.bits, .bool e.ng, .bool e.xn], .int .i64 d, .int .u32 va] ww fun r w' => r = .returned (.agg #[.int .i64 0, .int .u32 0, .int .u64 0, .int .i64 0, .int .i64 0, .int .u32 0, .bool false, .bool false]) ∧ Below ww.heap.size ww w')
    (q1 : ∀ w, (Op.equalIn 10000 36 (.agg #[.int .i64 0, .int .u32 0, .int .u64 0, .int .i64 0, .int .i64 0, .int .u32 0, .bool false, .bool false]) (.agg #[.int .i64 0, .int .u32 0, .int .u64 0, .int .i64 0, .int .i64 0, .int .u32 0, .bool false, .bool false])).run Tryd.prog w = .ok true w) :
    Calls Tryd.prog 4 #[.int .u32 x, .bool false, .int .i64 dom, .int .u32 va, .int .u32 other] W fun r w' => r = .returned (.bool true) ∧ Below W.heap.size W w' := by
  have HT : Hid (TR W) := ht
  clear ht
  go_enter Tryd.func4, Tryd.ntmps4
  go_wp2_with (first
    | (go_at_call 6; refine (alive_any _ HT.out.toTE).mono ?_; rintro e w1 ⟨rfl, hb⟩; have HB : Hid (Below W.heap.size W w1) := hb; clear hb)
    | (go_at_call 7; refine (HD1 _ (HT.out.below HB.out)).mono ?_; rintro e w2 ⟨rfl, hb⟩; have HB2 : Hid (Below W.heap.size W w2) := Below.step HB.out hb; clear hb)
    | (go_at_call 13; refine (HT1 _ (HT.out.below (Below.alloc HB2.out HB2.out.size _))).mono ?_; rintro e w3 ⟨rfl, hb⟩; have hx3 := (Bl.new w2 28 [.int .i64 e.kind, .int .u64 e.base, .int .i64 e.dom, .bool e.ns, .int .i64 e.ap, .int .u32 e.bits, .bool e.ng, .bool e.xn]).below hb; have HB3 : Hid (Below W.heap.size W w3) := Below.step HB2.out (Below.one hb); clear hb; have hc3 := hx3.cell; have hl3 : w2.heap.size < w3.heap.size := hx3.lt; have hn3 : ¬ (w2.heap.size = w3.heap.size) := (by omega))
    | go_in)
  go_ret
  exact ⟨rfl, Below.alloc HB3.out HB3.out.size _⟩
set_option maxRecDepth 100000 in
set_option maxHeartbeats 16000000 in
theorem block_zf1 (x dom d va other : Int) (e d1 : Ent) (W : World) (ht : TR W)
    (hk0 : (e.kind == 0) = false) (hk1 : (e.kind == 1) = true) (hd : bits .and .i64 dom 15 = d)
    (HD1 : ∀ ww, TR ww → Calls Tryd.prog 7 #[.int .u32 x] ww fun r w' => r = .returned (.agg #[.int .i64 e.kind, .int .u64 e.base, .int .i64 e.dom, .bool e.ns, .int .i64 e.ap, .int .u32 e.bits, .bool e.ng, .bool e.xn]) ∧ Below ww.heap.size ww w')
    (HT1 : ∀ ww, TR ww → Calls Tryd.prog 13 #[.agg #[.int .i64 e.kind, .int .u64 e.base, .int .i64 e.dom, .bool e.ns, .int .i64 e.ap, .int .u32 e.bits, .bool e.ng, .bool e.xn], .int .i64 d, .int .u32 va] ww fun r w' => r = .returned (.agg #[.int .i64 0, .int .u32 0, .int .u64 0, .int .i64 0, .int .i64 0, .int .u32 0, .bool false, .bool false]) ∧ Below ww.heap.size ww w')
    (q1 : ∀ w, (Op.equalIn 10000 36 (.agg #[.int .i64 0, .int .u32 0, .int .u64 0, .int .i64 0, .int .i64 0, .int .u32 0, .bool false, .bool false]) (.agg #[.int .i64 0, .int .u32 0, .int .u64 0, .int .i64 0, .int .i64 0, .int .u32 0, .bool false, .bool false])).run Tryd.prog w = .ok true w) :
    Calls Tryd.prog 4 #[.int .u32 x, .bool false, .int .i64 dom, .int .u32 va, .int .u32 other] W fun r w' => r = .returned (.bool true) ∧ Below W.heap.size W w' := by
  have HT : Hid (TR W) := ht
  clear ht
  go_enter Tryd.func4, Tryd.ntmps4
  go_wp2_with (first
    | (go_at_call 6; refine (alive_any _ HT.out.toTE).mono ?_; rintro e w1 ⟨rfl, hb⟩; have HB : Hid (Below W.heap.size W w1) := hb; clear hb)
    | (go_at_call 7; refine (HD1 _ (HT.out.below HB.out)).mono ?_; rintro e w2 ⟨rfl, hb⟩; have HB2 : Hid (Below W.heap.size W w2) := Below.step HB.out hb; clear hb)
    | (go_at_call 13; refine (HT1 _ (HT.out.below (Below.alloc HB2.out HB2.out.size _))).mono ?_; rintro e w3 ⟨rfl, hb⟩; have hx3 := (Bl.new w2 28 [.int .i64 e.kind, .int .u64 e.base, .int .i64 e.dom, .bool e.ns, .int .i64 e.ap, .int .u32 e.bits, .bool e.ng, .bool e.xn]).below hb; have HB3 : Hid (Below W.heap.size W w3) := Below.step HB2.out (Below.one hb); clear hb; have hc3 := hx3.cell; have hl3 : w2.heap.size < w3.heap.size := hx3.lt; have hn3 : ¬ (w2.heap.size = w3.heap.size) := (by omega))
    | go_in)
  go_ret
  exact ⟨rfl, Below.alloc HB3.out HB3.out.size _⟩
set_option maxRecDepth 100000 in
set_option maxHeartbeats 16000000 in
theorem block_zs0 (x dom d va other : Int) (e d1 : Ent) (W : World) (ht : TR W)
    (hk0 : (e.kind == 0) = true) (hd : bits .and .i64 dom 15 = d)
    (HD1 : ∀ ww, TR ww → Calls Tryd.prog 7 #[.int .u32 x] ww fun r w' => r = .returned (.agg #[.int .i64 d1.kind, .int .u64 d1.base, .int .i64 d1.dom, .bool d1.ns, .int .i64 d1.ap, .int .u32 d1.bits, .bool d1.ng, .bool d1.xn]) ∧ Below ww.heap.size ww w')
    (HD2 : ∀ ww, TR ww → Calls Tryd.prog 9 #[.int .u32 x] ww fun r w' => r = .returned (.agg #[.int .i64 e.kind, .int .u64 e.base, .int .i64 e.dom, .bool e.ns, .int .i64 e.ap, .int .u32 e.bits, .bool e.ng, .bool e.xn]) ∧ Below ww.heap.size ww w')
    (HT1 : ∀ ww, TR ww → Calls Tryd.prog 13 #[.agg #[.int .i64 e.kind, .int .u64 e.base, .int .i64 e.dom, .bool e.ns, .int .i64 e.ap, .int .u32 e.bits, .bool e.ng, .bool e.xn], .int .i64 d, .int .u32 va] ww fun r w' => r = .returned (.agg #[.int .i64 0, .int .u32 0, .int .u64 0, .int .i64 0, .int .i64 0, .int .u32 0, .bool false, .bool false]) ∧ Below ww.heap.size ww w')
    (q1 : ∀ w, (Op.equalIn 10000 36 (.agg #[.int .i64 0, .int .u32 0, .int .u64 0, .int .i64 0, .int .i64 0, .int .u32 0, .bool false, .bool false]) (.agg #[.int .i64 0, .int .u32 0, .int .u64 0, .int .i64 0, .int .i64 0, .int .u32 0, .bool false, .bool false])).run Tryd.prog w = .ok true w) :
    Calls Tryd.prog 4 #[.int .u32 x, .bool true, .int .i64 dom, .int .u32 va, .int .u32 other] W fun r w' => r = .returned (.bool true) ∧ Below W.heap.size W w' := by
  have HT : Hid (TR W) := ht
  clear ht
  go_enter Tryd.func4, Tryd.ntmps4
  go_wp2_with (first
    | (go_at_call 6; refine (alive_any _ HT.out.toTE).mono ?_; rintro e w1 ⟨rfl, hb⟩; have HB : Hid (Below W.heap.size W w1) := hb; clear hb)
    | (go_at_call 7; refine (HD1 _ (HT.out.below HB.out)).mono ?_; rintro e w2 ⟨rfl, hb⟩; have HB2 : Hid (Below W.heap.size W w2) := Below.step HB.out hb; clear hb)
    | (go_at_call 9; refine (HD2 _ (HT.out.below (Below.alloc HB2.out HB2.out.size _))).mono ?_; rintro e wb ⟨rfl, hb⟩; have hxb := (Bl.new w2 28 [.int .i64 d1.kind, .int .u64 d1.base, .int .i64 d1.dom, .bool d1.ns, .int .i64 d1.ap, .int .u32 d1.bits, .bool d1.ng, .bool d1.xn]).below hb; have HBb : Hid (Below W.heap.size W wb) := Below.step HB2.out (Below.one hb); have hs2 : W.heap.size ≤ w2.heap.size := HB2.out.size; clear hb; have hcb := hxb.cell; have hfb := hxb.frozen)
    | (go_at_call 13; refine (HT1 _ (HT.out.below (by (repeat (refine Below.setCell ?_ HB2.out.size _)); exact HBb.out))).mono ?_; rintro e w3 ⟨rfl, hb⟩; have hx3 := (wr8 hxb (.int .i64 e.kind) (.int .u64 e.base) (.int .i64 e.dom) (.bool e.ns) (.int .i64 e.ap) (.int .u32 e.bits) (.bool e.ng) (.bool e.xn)).below hb; have HB3 : Hid (Below W.heap.size W w3) := Below.step (by (repeat (refine Below.setCell ?_ HB2.out.size _)); exact HBb.out) hb; clear hcb hfb; clear hb; have hc3 := hx3.cell; have hl3 : w2.heap.size < w3.heap.size := hx3.lt; have hn3 : ¬ (w2.heap.size = w3.heap.size) := (by omega))
    | go_in)
  go_ret
  exact ⟨rfl, Below.alloc HB3.out HB3.out.size _⟩
set_option maxRecDepth 100000 in
set_option maxHeartbeats 16000000 in
theorem block_zs1 (x dom d va other : Int) (e d1 : Ent) (W : World) (ht : TR W)
    (hk0 : (e.kind == 0) = false) (hk1 : (e.kind == 1) = true) (hd : bits .and .i64 dom 15 = d)
    (HD1 : ∀ ww, TR ww → Calls Tryd.prog 7 #[.int .u32 x] ww fun r w' => r = .returned (.agg #[.int .i64 d1.kind, .int .u64 d1.base, .int .i64 d1.dom, .bool d1.ns, .int .i64 d1.ap, .int .u32 d1.bits, .bool d1.ng, .bool d1.xn]) ∧ Below ww.heap.size ww w')
    (HD2 : ∀ ww, TR ww → Calls Tryd.prog 9 #[.int .u32 x] ww fun r w' => r = .returned (.agg #[.int .i64 e.kind, .int .u64 e.base, .int .i64 e.dom, .bool e.ns, .int .i64 e.ap, .int .u32 e.bits, .bool e.ng, .bool e.xn]) ∧ Below ww.heap.size ww w')
    (HT1 : ∀ ww, TR ww → Calls Tryd.prog 13 #[.agg #[.int .i64 e.kind, .int .u64 e.base, .int .i64 e.dom, .bool e.ns, .int .i64 e.ap, .int .u32 e.bits, .bool e.ng, .bool e.xn], .int .i64 d, .int .u32 va] ww fun r w' => r = .returned (.agg #[.int .i64 0, .int .u32 0, .int .u64 0, .int .i64 0, .int .i64 0, .int .u32 0, .bool false, .bool false]) ∧ Below ww.heap.size ww w')
    (q1 : ∀ w, (Op.equalIn 10000 36 (.agg #[.int .i64 0, .int .u32 0, .int .u64 0, .int .i64 0, .int .i64 0, .int .u32 0, .bool false, .bool false]) (.agg #[.int .i64 0, .int .u32 0, .int .u64 0, .int .i64 0, .int .i64 0, .int .u32 0, .bool false, .bool false])).run Tryd.prog w = .ok true w) :
    Calls Tryd.prog 4 #[.int .u32 x, .bool true, .int .i64 dom, .int .u32 va, .int .u32 other] W fun r w' => r = .returned (.bool true) ∧ Below W.heap.size W w' := by
  have HT : Hid (TR W) := ht
  clear ht
  go_enter Tryd.func4, Tryd.ntmps4
  go_wp2_with (first
    | (go_at_call 6; refine (alive_any _ HT.out.toTE).mono ?_; rintro e w1 ⟨rfl, hb⟩; have HB : Hid (Below W.heap.size W w1) := hb; clear hb)
    | (go_at_call 7; refine (HD1 _ (HT.out.below HB.out)).mono ?_; rintro e w2 ⟨rfl, hb⟩; have HB2 : Hid (Below W.heap.size W w2) := Below.step HB.out hb; clear hb)
    | (go_at_call 9; refine (HD2 _ (HT.out.below (Below.alloc HB2.out HB2.out.size _))).mono ?_; rintro e wb ⟨rfl, hb⟩; have hxb := (Bl.new w2 28 [.int .i64 d1.kind, .int .u64 d1.base, .int .i64 d1.dom, .bool d1.ns, .int .i64 d1.ap, .int .u32 d1.bits, .bool d1.ng, .bool d1.xn]).below hb; have HBb : Hid (Below W.heap.size W wb) := Below.step HB2.out (Below.one hb); have hs2 : W.heap.size ≤ w2.heap.size := HB2.out.size; clear hb; have hcb := hxb.cell; have hfb := hxb.frozen)
    | (go_at_call 13; refine (HT1 _ (HT.out.below (by (repeat (refine Below.setCell ?_ HB2.out.size _)); exact HBb.out))).mono ?_; rintro e w3 ⟨rfl, hb⟩; have hx3 := (wr8 hxb (.int .i64 e.kind) (.int .u64 e.base) (.int .i64 e.dom) (.bool e.ns) (.int .i64 e.ap) (.int .u32 e.bits) (.bool e.ng) (.bool e.xn)).below hb; have HB3 : Hid (Below W.heap.size W w3) := Below.step (by (repeat (refine Below.setCell ?_ HB2.out.size _)); exact HBb.out) hb; clear hcb hfb; clear hb; have hc3 := hx3.cell; have hl3 : w2.heap.size < w3.heap.size := hx3.lt; have hn3 : ¬ (w2.heap.size = w3.heap.size) := (by omega))
    | go_in)
  go_ret
  exact ⟨rfl, Below.alloc HB3.out HB3.out.size _⟩
end Go.Proofs.YtcpcmjmgiagnoabDoor
