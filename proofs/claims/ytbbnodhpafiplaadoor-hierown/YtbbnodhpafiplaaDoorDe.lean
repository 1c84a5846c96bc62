import Derived.Test.YtbbnodhpafiplaaDoorMK
namespace Go.Proofs.YtbbnodhpafiplaaDoor
open Go.RowKit
set_option linter.unusedVariables false

/-- A block of cells. -/
def Bl (w : World) (b : Nat) (t : TypeId) (l : List Value) : Prop := w.heap[b]? = some (.cells l.toArray t (0, 0))
theorem Bl.new (w : World) (t : TypeId) (l : List Value) : Bl (w.alloc (.cells l.toArray t)) w.heap.size t l := heap_alloc_new w (.cells l.toArray t)
theorem Bl.lt {w : World} {b : Nat} {t : TypeId} {l : List Value} (h : Bl w b t l) : b < w.heap.size := (Array.getElem?_eq_some_iff.1 h).1
theorem Bl.below {w w' : World} {b : Nat} {t : TypeId} {l : List Value} (h : Bl w b t l) (hb : Below w.heap.size w w') : Bl w' b t l := (hb.block b h.lt).trans h
theorem Bl.drew {w : World} {b : Nat} {t : TypeId} {l : List Value} (h : Bl w b t l) : Bl w.drew b t l := h
theorem Bl.cell {w : World} {b : Nat} {t : TypeId} {l : List Value} (h : Bl w b t l) (j : Nat) : w.cell? ⟨b, j, none⟩ = l[j]? := by
  rw [World.cell?, show w.heap[b]? = _ from h]
  simp
theorem Bl.frozen {w : World} {b : Nat} {t : TypeId} {l : List Value} (h : Bl w b t l) (j : Nat) : w.frozen? ⟨b, j, none⟩ = false := by
  simp [World.frozen?, show w.heap[b]? = _ from h]
theorem Below.one {w w' : World} {o : Obj} (h : Below (w.alloc o).heap.size (w.alloc o) w') : Below w.heap.size w w' :=
  ((Below.refl _ _).alloc (Nat.le_refl _) o).trans (h.mono (by simp))
theorem and3 (x : Int) (h : 0 ≤ x ∧ x < 4294967296) : bits BinOp.and IntKind.u32 x 3 = x % 4 := and_low x 2 h (by decide)

set_option maxRecDepth 100000 in
set_option maxHeartbeats 4000000 in
theorem decode_0 (x : Int) (w : World) : Calls Tryd.prog 73 #[.int .i64 0, .int .u32 x] w fun e w' => e = .returned (.agg #[.int .i64 dZ.kind, .int .u64 dZ.base, .int .i64 dZ.dom, .bool dZ.ns, .int .i64 dZ.ap, .int .u32 dZ.bits, .bool dZ.ng, .bool dZ.xn]) ∧ Below w.heap.size w w' := by
  go_enter Tryd.func73, Tryd.ntmps73
  go_wp2
  refine bodyPost_ret (v := .agg #[.int .i64 dZ.kind, .int .u64 dZ.base, .int .i64 dZ.dom, .bool dZ.ns, .int .i64 dZ.ap, .int .u32 dZ.bits, .bool dZ.ng, .bool dZ.xn]) (by simp [results, Tryd.results73, go_sem, dZ]) rfl ⟨rfl, (by (repeat (first | apply below_drew | refine Below.setCell ?_ (by simp) _ | refine Below.alloc ?_ (by simp) _)); exact Below.refl _ _)⟩

set_option maxRecDepth 100000 in
set_option maxHeartbeats 4000000 in
theorem Decode1_0 (x : Int) (w : World) (ht : TD w) (hx : 0 ≤ x ∧ x < 4294967296) (h3 : bits BinOp.and IntKind.u32 x 3 = 0) : Calls Tryd.prog 61 #[.int .u32 x] w fun e w' => e = .returned (.agg #[.int .i64 dZ.kind, .int .u64 dZ.base, .int .i64 dZ.dom, .bool dZ.ns, .int .i64 dZ.ap, .int .u32 dZ.bits, .bool dZ.ng, .bool dZ.xn]) ∧ Below w.heap.size w w' := by
  have c0 := ht.first 0 0 rfl
  have l0 : 3 < w.heap.size := cell_lt c0
  have n0 : ¬ (3 = w.heap.size) := by omega
  have hN := Bl.new w 82 [.int .i64 0, .int .u64 0, .int .i64 0, .bool false, .int .i64 0, .int .u32 0, .bool false, .bool false]
  have HT : Hid (TD w) := ht
  clear ht
  have Hx : Hid (0 ≤ x ∧ x < 4294967296) := hx
  clear hx
  go_enter Tryd.func61, Tryd.ntmps61
  go_wp2_with (first
    | (go_at_call 72; refine (flag_any x _ _ Hx.out (by decide)).mono ?_; rintro e w' ⟨rfl, rfl⟩)
    | (go_at_call 73; refine (decode_0 x _).mono ?_; rintro e w2 ⟨rfl, hb⟩; have hc := (hN.below hb).cell; have hf := (hN.below hb).frozen)
    | go_in)
  refine bodyPost_ret (v := .agg #[.int .i64 dZ.kind, .int .u64 dZ.base, .int .i64 dZ.dom, .bool dZ.ns, .int .i64 dZ.ap, .int .u32 dZ.bits, .bool dZ.ng, .bool dZ.xn]) (by simp [results, Tryd.results61, go_sem, hc]) rfl ⟨rfl, (by (repeat (refine Below.setCell ?_ (by simp) _)); exact Below.one hb)⟩
set_option maxRecDepth 100000 in
set_option maxHeartbeats 4000000 in
theorem Decode1_1 (x : Int) (w : World) (ht : TD w) (hx : 0 ≤ x ∧ x < 4294967296) (h3 : bits BinOp.and IntKind.u32 x 3 = 1) : Calls Tryd.prog 61 #[.int .u32 x] w fun e w' => e = .returned (.agg #[.int .i64 (dT x).kind, .int .u64 (dT x).base, .int .i64 (dT x).dom, .bool (dT x).ns, .int .i64 (dT x).ap, .int .u32 (dT x).bits, .bool (dT x).ng, .bool (dT x).xn]) ∧ Below w.heap.size w w' := by
  have c0 := ht.first 1 1 rfl
  have l0 : 3 < w.heap.size := cell_lt c0
  have n0 : ¬ (3 = w.heap.size) := by omega
  have hN := Bl.new w 82 [.int .i64 0, .int .u64 0, .int .i64 0, .bool false, .int .i64 0, .int .u32 0, .bool false, .bool false]
  have HT : Hid (TD w) := ht
  clear ht
  have Hx : Hid (0 ≤ x ∧ x < 4294967296) := hx
  clear hx
  go_enter Tryd.func61, Tryd.ntmps61
  go_wp2_with (first
    | (go_at_call 72; refine (flag_any x _ _ Hx.out (by decide)).mono ?_; rintro e w' ⟨rfl, rfl⟩)
    | (go_at_call 73; refine (decode_1 x _ (HT.out.below ((Below.refl _ _).alloc (Nat.le_refl _) _)) Hx.out).mono ?_; rintro e w2 ⟨rfl, hb⟩; have hc := (hN.below hb).cell; have hf := (hN.below hb).frozen)
    | go_in)
  refine bodyPost_ret (v := .agg #[.int .i64 (dT x).kind, .int .u64 (dT x).base, .int .i64 (dT x).dom, .bool (dT x).ns, .int .i64 (dT x).ap, .int .u32 (dT x).bits, .bool (dT x).ng, .bool (dT x).xn]) (by simp [results, Tryd.results61, go_sem, hc]) rfl ⟨rfl, (by (repeat (refine Below.setCell ?_ (by simp) _)); exact Below.one hb)⟩
set_option maxRecDepth 100000 in
set_option maxHeartbeats 4000000 in
theorem Decode1_2n (x : Int) (w : World) (ht : TD w) (hx : 0 ≤ x ∧ x < 4294967296) (h3 : bits BinOp.and IntKind.u32 x 3 = 2) (h18 : (F x 18 1 == 1) = false) : Calls Tryd.prog 61 #[.int .u32 x] w fun e w' => e = .returned (.agg #[.int .i64 (dS x).kind, .int .u64 (dS x).base, .int .i64 (dS x).dom, .bool (dS x).ns, .int .i64 (dS x).ap, .int .u32 (dS x).bits, .bool (dS x).ng, .bool (dS x).xn]) ∧ Below w.heap.size w w' := by
  have c0 := ht.first 2 2 rfl
  have l0 : 3 < w.heap.size := cell_lt c0
  have n0 : ¬ (3 = w.heap.size) := by omega
  have hN := Bl.new w 82 [.int .i64 0, .int .u64 0, .int .i64 0, .bool false, .int .i64 0, .int .u32 0, .bool false, .bool false]
  have HT : Hid (TD w) := ht
  clear ht
  have Hx : Hid (0 ≤ x ∧ x < 4294967296) := hx
  clear hx
  go_enter Tryd.func61, Tryd.ntmps61
  go_wp2_with (first
    | (go_at_call 72; refine (flag_any x _ _ Hx.out (by decide)).mono ?_; rintro e w' ⟨rfl, rfl⟩)
    | (go_at_call 73; refine (decode_2 x _ (HT.out.below ((Below.refl _ _).alloc (Nat.le_refl _) _)) Hx.out).mono ?_; rintro e w2 ⟨rfl, hb⟩; have hc := (hN.below hb).cell; have hf := (hN.below hb).frozen)
    | go_in)
  refine bodyPost_ret (v := .agg #[.int .i64 (dS x).kind, .int .u64 (dS x).base, .int .i64 (dS x).dom, .bool (dS x).ns, .int .i64 (dS x).ap, .int .u32 (dS x).bits, .bool (dS x).ng, .bool (dS x).xn]) (by simp [results, Tryd.results61, go_sem, hc]) rfl ⟨rfl, (by (repeat (refine Below.setCell ?_ (by simp) _)); exact Below.one hb)⟩
set_option maxRecDepth 100000 in
set_option maxHeartbeats 4000000 in
theorem Decode1_2y (x : Int) (w : World) (ht : TD w) (hx : 0 ≤ x ∧ x < 4294967296) (h3 : bits BinOp.and IntKind.u32 x 3 = 2) (h18 : (F x 18 1 == 1) = true) : Calls Tryd.prog 61 #[.int .u32 x] w fun e w' => e = .returned (.agg #[.int .i64 (dU x).kind, .int .u64 (dU x).base, .int .i64 (dU x).dom, .bool (dU x).ns, .int .i64 (dU x).ap, .int .u32 (dU x).bits, .bool (dU x).ng, .bool (dU x).xn]) ∧ Below w.heap.size w w' := by
  have c0 := ht.first 2 2 rfl
  have l0 : 3 < w.heap.size := cell_lt c0
  have n0 : ¬ (3 = w.heap.size) := by omega
  have hN := Bl.new w 82 [.int .i64 0, .int .u64 0, .int .i64 0, .bool false, .int .i64 0, .int .u32 0, .bool false, .bool false]
  have HT : Hid (TD w) := ht
  clear ht
  have Hx : Hid (0 ≤ x ∧ x < 4294967296) := hx
  clear hx
  go_enter Tryd.func61, Tryd.ntmps61
  go_wp2_with (first
    | (go_at_call 72; refine (flag_any x _ _ Hx.out (by decide)).mono ?_; rintro e w' ⟨rfl, rfl⟩)
    | (go_at_call 73; refine (decode_3 x _ (HT.out.below ((Below.refl _ _).alloc (Nat.le_refl _) _)) Hx.out).mono ?_; rintro e w2 ⟨rfl, hb⟩; have hc := (hN.below hb).cell; have hf := (hN.below hb).frozen)
    | go_in)
  refine bodyPost_ret (v := .agg #[.int .i64 (dU x).kind, .int .u64 (dU x).base, .int .i64 (dU x).dom, .bool (dU x).ns, .int .i64 (dU x).ap, .int .u32 (dU x).bits, .bool (dU x).ng, .bool (dU x).xn]) (by simp [results, Tryd.results61, go_sem, hc]) rfl ⟨rfl, (by (repeat (refine Below.setCell ?_ (by simp) _)); exact Below.one hb)⟩
set_option maxRecDepth 100000 in
set_option maxHeartbeats 4000000 in
theorem Decode1_3 (x : Int) (w : World) (ht : TD w) (hx : 0 ≤ x ∧ x < 4294967296) (h3 : bits BinOp.and IntKind.u32 x 3 = 3) : Calls Tryd.prog 61 #[.int .u32 x] w fun e w' => e = .returned (.agg #[.int .i64 dZ.kind, .int .u64 dZ.base, .int .i64 dZ.dom, .bool dZ.ns, .int .i64 dZ.ap, .int .u32 dZ.bits, .bool dZ.ng, .bool dZ.xn]) ∧ Below w.heap.size w w' := by
  have c0 := ht.first 3 0 rfl
  have l0 : 3 < w.heap.size := cell_lt c0
  have n0 : ¬ (3 = w.heap.size) := by omega
  have hN := Bl.new w 82 [.int .i64 0, .int .u64 0, .int .i64 0, .bool false, .int .i64 0, .int .u32 0, .bool false, .bool false]
  have HT : Hid (TD w) := ht
  clear ht
  have Hx : Hid (0 ≤ x ∧ x < 4294967296) := hx
  clear hx
  go_enter Tryd.func61, Tryd.ntmps61
  go_wp2_with (first
    | (go_at_call 72; refine (flag_any x _ _ Hx.out (by decide)).mono ?_; rintro e w' ⟨rfl, rfl⟩)
    | (go_at_call 73; refine (decode_0 x _).mono ?_; rintro e w2 ⟨rfl, hb⟩; have hc := (hN.below hb).cell; have hf := (hN.below hb).frozen)
    | go_in)
  refine bodyPost_ret (v := .agg #[.int .i64 dZ.kind, .int .u64 dZ.base, .int .i64 dZ.dom, .bool dZ.ns, .int .i64 dZ.ap, .int .u32 dZ.bits, .bool dZ.ng, .bool dZ.xn]) (by simp [results, Tryd.results61, go_sem, hc]) rfl ⟨rfl, (by (repeat (refine Below.setCell ?_ (by simp) _)); exact Below.one hb)⟩
set_option maxRecDepth 100000 in
set_option maxHeartbeats 4000000 in
theorem Decode2_0 (x : Int) (w : World) (ht : TD w) (hx : 0 ≤ x ∧ x < 4294967296) (h3 : bits BinOp.and IntKind.u32 x 3 = 0) : Calls Tryd.prog 63 #[.int .u32 x] w fun e w' => e = .returned (.agg #[.int .i64 dZ.kind, .int .u64 dZ.base, .int .i64 dZ.dom, .bool dZ.ns, .int .i64 dZ.ap, .int .u32 dZ.bits, .bool dZ.ng, .bool dZ.xn]) ∧ Below w.heap.size w w' := by
  have c0 := ht.second 0 0 rfl
  have l0 : 5 < w.heap.size := cell_lt c0
  have n0 : ¬ (5 = w.heap.size) := by omega
  have hN := Bl.new w 82 [.int .i64 0, .int .u64 0, .int .i64 0, .bool false, .int .i64 0, .int .u32 0, .bool false, .bool false]
  have HT : Hid (TD w) := ht
  clear ht
  have Hx : Hid (0 ≤ x ∧ x < 4294967296) := hx
  clear hx
  go_enter Tryd.func63, Tryd.ntmps63
  go_wp2_with (first
    | (go_at_call 72; refine (flag_any x _ _ Hx.out (by decide)).mono ?_; rintro e w' ⟨rfl, rfl⟩)
    | (go_at_call 73; refine (decode_0 x _).mono ?_; rintro e w2 ⟨rfl, hb⟩; have hc := (hN.below hb).cell; have hf := (hN.below hb).frozen)
    | go_in)
  refine bodyPost_ret (v := .agg #[.int .i64 dZ.kind, .int .u64 dZ.base, .int .i64 dZ.dom, .bool dZ.ns, .int .i64 dZ.ap, .int .u32 dZ.bits, .bool dZ.ng, .bool dZ.xn]) (by simp [results, Tryd.results63, go_sem, hc]) rfl ⟨rfl, (by (repeat (refine Below.setCell ?_ (by simp) _)); exact Below.one hb)⟩
set_option maxRecDepth 100000 in
set_option maxHeartbeats 4000000 in
theorem Decode2_1 (x : Int) (w : World) (ht : TD w) (hx : 0 ≤ x ∧ x < 4294967296) (h3 : bits BinOp.and IntKind.u32 x 3 = 1) : Calls Tryd.prog 63 #[.int .u32 x] w fun e w' => e = .returned (.agg #[.int .i64 (dL x).kind, .int .u64 (dL x).base, .int .i64 (dL x).dom, .bool (dL x).ns, .int .i64 (dL x).ap, .int .u32 (dL x).bits, .bool (dL x).ng, .bool (dL x).xn]) ∧ Below w.heap.size w w' := by
  have c0 := ht.second 1 4 rfl
  have l0 : 5 < w.heap.size := cell_lt c0
  have n0 : ¬ (5 = w.heap.size) := by omega
  have hN := Bl.new w 82 [.int .i64 0, .int .u64 0, .int .i64 0, .bool false, .int .i64 0, .int .u32 0, .bool false, .bool false]
  have HT : Hid (TD w) := ht
  clear ht
  have Hx : Hid (0 ≤ x ∧ x < 4294967296) := hx
  clear hx
  go_enter Tryd.func63, Tryd.ntmps63
  go_wp2_with (first
    | (go_at_call 72; refine (flag_any x _ _ Hx.out (by decide)).mono ?_; rintro e w' ⟨rfl, rfl⟩)
    | (go_at_call 73; refine (decode_4 x _ (HT.out.below ((Below.refl _ _).alloc (Nat.le_refl _) _)) Hx.out).mono ?_; rintro e w2 ⟨rfl, hb⟩; have hc := (hN.below hb).cell; have hf := (hN.below hb).frozen)
    | go_in)
  refine bodyPost_ret (v := .agg #[.int .i64 (dL x).kind, .int .u64 (dL x).base, .int .i64 (dL x).dom, .bool (dL x).ns, .int .i64 (dL x).ap, .int .u32 (dL x).bits, .bool (dL x).ng, .bool (dL x).xn]) (by simp [results, Tryd.results63, go_sem, hc]) rfl ⟨rfl, (by (repeat (refine Below.setCell ?_ (by simp) _)); exact Below.one hb)⟩
set_option maxRecDepth 100000 in
set_option maxHeartbeats 4000000 in
theorem Decode2_2 (x : Int) (w : World) (ht : TD w) (hx : 0 ≤ x ∧ x < 4294967296) (h3 : bits BinOp.and IntKind.u32 x 3 = 2) : Calls Tryd.prog 63 #[.int .u32 x] w fun e w' => e = .returned (.agg #[.int .i64 (dM x).kind, .int .u64 (dM x).base, .int .i64 (dM x).dom, .bool (dM x).ns, .int .i64 (dM x).ap, .int .u32 (dM x).bits, .bool (dM x).ng, .bool (dM x).xn]) ∧ Below w.heap.size w w' := by
  have c0 := ht.second 2 5 rfl
  have l0 : 5 < w.heap.size := cell_lt c0
  have n0 : ¬ (5 = w.heap.size) := by omega
  have hN := Bl.new w 82 [.int .i64 0, .int .u64 0, .int .i64 0, .bool false, .int .i64 0, .int .u32 0, .bool false, .bool false]
  have HT : Hid (TD w) := ht
  clear ht
  have Hx : Hid (0 ≤ x ∧ x < 4294967296) := hx
  clear hx
  go_enter Tryd.func63, Tryd.ntmps63
  go_wp2_with (first
    | (go_at_call 72; refine (flag_any x _ _ Hx.out (by decide)).mono ?_; rintro e w' ⟨rfl, rfl⟩)
    | (go_at_call 73; refine (decode_5 x _ (HT.out.below ((Below.refl _ _).alloc (Nat.le_refl _) _)) Hx.out).mono ?_; rintro e w2 ⟨rfl, hb⟩; have hc := (hN.below hb).cell; have hf := (hN.below hb).frozen)
    | go_in)
  refine bodyPost_ret (v := .agg #[.int .i64 (dM x).kind, .int .u64 (dM x).base, .int .i64 (dM x).dom, .bool (dM x).ns, .int .i64 (dM x).ap, .int .u32 (dM x).bits, .bool (dM x).ng, .bool (dM x).xn]) (by simp [results, Tryd.results63, go_sem, hc]) rfl ⟨rfl, (by (repeat (refine Below.setCell ?_ (by simp) _)); exact Below.one hb)⟩
set_option maxRecDepth 100000 in
set_option maxHeartbeats 4000000 in
theorem Decode2_3 (x : Int) (w : World) (ht : TD w) (hx : 0 ≤ x ∧ x < 4294967296) (h3 : bits BinOp.and IntKind.u32 x 3 = 3) : Calls Tryd.prog 63 #[.int .u32 x] w fun e w' => e = .returned (.agg #[.int .i64 (dM x).kind, .int .u64 (dM x).base, .int .i64 (dM x).dom, .bool (dM x).ns, .int .i64 (dM x).ap, .int .u32 (dM x).bits, .bool (dM x).ng, .bool (dM x).xn]) ∧ Below w.heap.size w w' := by
  have c0 := ht.second 3 5 rfl
  have l0 : 5 < w.heap.size := cell_lt c0
  have n0 : ¬ (5 = w.heap.size) := by omega
  have hN := Bl.new w 82 [.int .i64 0, .int .u64 0, .int .i64 0, .bool false, .int .i64 0, .int .u32 0, .bool false, .bool false]
  have HT : Hid (TD w) := ht
  clear ht
  have Hx : Hid (0 ≤ x ∧ x < 4294967296) := hx
  clear hx
  go_enter Tryd.func63, Tryd.ntmps63
  go_wp2_with (first
    | (go_at_call 72; refine (flag_any x _ _ Hx.out (by decide)).mono ?_; rintro e w' ⟨rfl, rfl⟩)
    | (go_at_call 73; refine (decode_5 x _ (HT.out.below ((Below.refl _ _).alloc (Nat.le_refl _) _)) Hx.out).mono ?_; rintro e w2 ⟨rfl, hb⟩; have hc := (hN.below hb).cell; have hf := (hN.below hb).frozen)
    | go_in)
  refine bodyPost_ret (v := .agg #[.int .i64 (dM x).kind, .int .u64 (dM x).base, .int .i64 (dM x).dom, .bool (dM x).ns, .int .i64 (dM x).ap, .int .u32 (dM x).bits, .bool (dM x).ng, .bool (dM x).xn]) (by simp [results, Tryd.results63, go_sem, hc]) rfl ⟨rfl, (by (repeat (refine Below.setCell ?_ (by simp) _)); exact Below.one hb)⟩
theorem Decode1_any (x : Int) (w : World) (ht : TD w) (hx : 0 ≤ x ∧ x < 4294967296) : Calls Tryd.prog 61 #[.int .u32 x] w fun e w' => e = .returned (.agg #[.int .i64 (D1 x).kind, .int .u64 (D1 x).base, .int .i64 (D1 x).dom, .bool (D1 x).ns, .int .i64 (D1 x).ap, .int .u32 (D1 x).bits, .bool (D1 x).ng, .bool (D1 x).xn]) ∧ Below w.heap.size w w' := by
  have h3 := and3 x hx
  rcases (show x % 4 = 0 ∨ x % 4 = 1 ∨ x % 4 = 2 ∨ x % 4 = 3 by omega) with h | h | h | h
  · rw [show D1 x = dZ by unfold D1; rw [if_neg (by omega), if_neg (by omega)]]
    exact Decode1_0 x w ht hx (by rw [h3, h])
  · rw [show D1 x = dT x by unfold D1; rw [if_pos h]]
    exact Decode1_1 x w ht hx (by rw [h3, h])
  · by_cases h18 : F x 18 1 = 1
    · rw [show D1 x = dU x by unfold D1; rw [if_neg (by omega), if_pos h, if_pos h18]]
      exact Decode1_2y x w ht hx (by rw [h3, h]) (by simp [h18])
    · rw [show D1 x = dS x by unfold D1; rw [if_neg (by omega), if_pos h, if_neg h18]]
      exact Decode1_2n x w ht hx (by rw [h3, h]) (by simp [h18])
  · rw [show D1 x = dZ by unfold D1; rw [if_neg (by omega), if_neg (by omega)]]
    exact Decode1_3 x w ht hx (by rw [h3, h])
theorem Decode2_any (x : Int) (w : World) (ht : TD w) (hx : 0 ≤ x ∧ x < 4294967296) : Calls Tryd.prog 63 #[.int .u32 x] w fun e w' => e = .returned (.agg #[.int .i64 (D2 x).kind, .int .u64 (D2 x).base, .int .i64 (D2 x).dom, .bool (D2 x).ns, .int .i64 (D2 x).ap, .int .u32 (D2 x).bits, .bool (D2 x).ng, .bool (D2 x).xn]) ∧ Below w.heap.size w w' := by
  have h3 := and3 x hx
  rcases (show x % 4 = 0 ∨ x % 4 = 1 ∨ x % 4 = 2 ∨ x % 4 = 3 by omega) with h | h | h | h
  · rw [show D2 x = dZ by unfold D2; rw [if_pos h]]
    exact Decode2_0 x w ht hx (by rw [h3, h])
  · rw [show D2 x = dL x by unfold D2; rw [if_neg (by omega), if_pos h]]
    exact Decode2_1 x w ht hx (by rw [h3, h])
  · rw [show D2 x = dM x by unfold D2; rw [if_neg (by omega), if_neg (by omega)]]
    exact Decode2_2 x w ht hx (by rw [h3, h])
  · rw [show D2 x = dM x by unfold D2; rw [if_neg (by omega), if_neg (by omega)]]
    exact Decode2_3 x w ht hx (by rw [h3, h])
end Go.Proofs.YtbbnodhpafiplaaDoor
