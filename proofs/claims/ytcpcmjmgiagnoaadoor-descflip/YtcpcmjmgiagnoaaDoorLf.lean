import Derived.Test.YtcpcmjmgiagnoaaDoorNa
import Derived.Test.YtcpcmjmgiagnoaaDoorFlE
namespace Go.Proofs.YtcpcmjmgiagnoaaDoor
open Go.RowKit
set_option linter.unusedVariables false
set_option linter.unusedSimpArgs false

theorem bit_of (bt : Int) : ∃ k : Nat, (IntKind.u64.wrap bt).tmod 32 = (k : Int) ∧ k < 32 := by
  rw [IntKind.wrap_u64]
  have h0 : 0 ≤ bt % 18446744073709551616 := by omega
  refine ⟨(bt % 18446744073709551616 % 32).toNat, ?_, by omega⟩
  rw [Int.tmod_eq_emod_of_nonneg h0]
  omega
set_option maxRecDepth 100000 in
set_option maxHeartbeats 8000000 in
theorem flip_nn (x y bt : Int) (k : Nat) (d1x d1y d2x d2y : Ent) (M1 M2 : Int) (S1 S2 : Bool) (hm1 : (M1 == 0) = false) (hm2 : (M2 == 0) = false) (hm1n : (M1 != 0) = true) (hm2n : (M2 != 0) = true) (W : World) (ht : TE W) (hk : (IntKind.u64.wrap bt).tmod 32 = (k : Int)) (hk2 : k < 32)
    (hxor : bits .xor .u32 x (2 ^ k) = y) (hxy : bits .xor .u32 x y = 2 ^ k)
    (N1 : ∀ w, Calls Tryd.prog 22 #[.int .u32 x] w fun e w' => e = .returned (.int .u32 M1) ∧ w = w') (N2 : ∀ w, Calls Tryd.prog 23 #[.int .u32 x] w fun e w' => e = .returned (.int .u32 M2) ∧ w = w')
    (HX1 : ∀ ww, TE ww → Calls Tryd.prog 13 #[.int .u32 x] ww fun r w' => r = .returned (.agg #[.int .i64 d1x.kind, .int .u64 d1x.base, .int .i64 d1x.dom, .bool d1x.ns, .int .i64 d1x.ap, .int .u32 d1x.bits, .bool d1x.ng, .bool d1x.xn]) ∧ Below ww.heap.size ww w')
    (HY1 : ∀ ww, TE ww → Calls Tryd.prog 13 #[.int .u32 y] ww fun r w' => r = .returned (.agg #[.int .i64 d1y.kind, .int .u64 d1y.base, .int .i64 d1y.dom, .bool d1y.ns, .int .i64 d1y.ap, .int .u32 d1y.bits, .bool d1y.ng, .bool d1y.xn]) ∧ Below ww.heap.size ww w')
    (HX2 : ∀ ww, TE ww → Calls Tryd.prog 15 #[.int .u32 x] ww fun r w' => r = .returned (.agg #[.int .i64 d2x.kind, .int .u64 d2x.base, .int .i64 d2x.dom, .bool d2x.ns, .int .i64 d2x.ap, .int .u32 d2x.bits, .bool d2x.ng, .bool d2x.xn]) ∧ Below ww.heap.size ww w')
    (HY2 : ∀ ww, TE ww → Calls Tryd.prog 15 #[.int .u32 y] ww fun r w' => r = .returned (.agg #[.int .i64 d2y.kind, .int .u64 d2y.base, .int .i64 d2y.dom, .bool d2y.ns, .int .i64 d2y.ap, .int .u32 d2y.bits, .bool d2y.ng, .bool d2y.xn]) ∧ Below ww.heap.size ww w')
    (e1 : ∀ w, (Op.equalIn 10000 30 (.agg #[.int .i64 d1x.kind, .int .u64 d1x.base, .int .i64 d1x.dom, .bool d1x.ns, .int .i64 d1x.ap, .int .u32 d1x.bits, .bool d1x.ng, .bool d1x.xn]) (.agg #[.int .i64 d1y.kind, .int .u64 d1y.base, .int .i64 d1y.dom, .bool d1y.ns, .int .i64 d1y.ap, .int .u32 d1y.bits, .bool d1y.ng, .bool d1y.xn])).run Tryd.prog w = .ok S1 w) (t1 : (bits .and .u32 M1 (2 ^ k) == 0) = S1)
    (e2 : ∀ w, (Op.equalIn 10000 30 (.agg #[.int .i64 d2x.kind, .int .u64 d2x.base, .int .i64 d2x.dom, .bool d2x.ns, .int .i64 d2x.ap, .int .u32 d2x.bits, .bool d2x.ng, .bool d2x.xn]) (.agg #[.int .i64 d2y.kind, .int .u64 d2y.base, .int .i64 d2y.dom, .bool d2y.ns, .int .i64 d2y.ap, .int .u32 d2y.bits, .bool d2y.ng, .bool d2y.xn])).run Tryd.prog w = .ok S2 w) (t2 : (bits .and .u32 M2 (2 ^ k) == 0) = S2)
    : Calls Tryd.prog 6 #[.int .u32 x, .int .i64 bt] W fun r w' => r = .returned (.bool true) ∧ Below W.heap.size W w' := by
  have HT : Hid (TE W) := ht
  clear ht
  have HB : Hid (Below W.heap.size W W) := Below.refl _ _
  have hki : (0 : Int) ≤ (k : Int) ∧ (k : Int) < 32 := by omega
  have hs : (2 : Int) ^ k % 4294967296 = 2 ^ k := by
    have h1 : 2 ^ k ≤ 2 ^ 31 := Nat.pow_le_pow_right (by omega) (by omega)
    have h2 := pow_nat k
    have h3 := pow_pos k
    omega
  go_enter Tryd.func6, Tryd.ntmps6
  go_wp2_with (first
    | (go_at_call 21; refine (alive_any _ (HT.out.below HB.out)).mono ?_; rintro e w1 ⟨rfl, hb⟩; have HB : Hid (Below W.heap.size W w1) := Below.step HB.out hb; clear hb)
    | (go_at_call 22; refine (N1 _).mono ?_; rintro e w' ⟨rfl, rfl⟩)
    | (go_at_call 23; refine (N2 _).mono ?_; rintro e w' ⟨rfl, rfl⟩)
    | (go_at_call_of 13 (Value.int IntKind.u32 x); refine (HX1 _ (HT.out.below HB.out)).mono ?_; rintro e wn ⟨rfl, hb⟩; have HB : Hid (Below W.heap.size W wn) := Below.step HB.out hb; clear hb)
    | (go_at_call_of 13 (Value.int IntKind.u32 y); refine (HY1 _ (HT.out.below HB.out)).mono ?_; rintro e wn ⟨rfl, hb⟩; have HB : Hid (Below W.heap.size W wn) := Below.step HB.out hb; clear hb)
    | (go_at_call_of 15 (Value.int IntKind.u32 x); refine (HX2 _ (HT.out.below HB.out)).mono ?_; rintro e wn ⟨rfl, hb⟩; have HB : Hid (Below W.heap.size W wn) := Below.step HB.out hb; clear hb)
    | (go_at_call_of 15 (Value.int IntKind.u32 y); refine (HY2 _ (HT.out.below HB.out)).mono ?_; rintro e wn ⟨rfl, hb⟩; have HB : Hid (Below W.heap.size W wn) := Below.step HB.out hb; clear hb)
    | go_in)
  all_goals
    go_ret
    exact ⟨rfl, HB.out⟩
set_option maxRecDepth 100000 in
set_option maxHeartbeats 8000000 in
theorem flip_zn_e (x y bt : Int) (k : Nat) (d1x d1y d2x d2y : Ent) (M2 : Int) (S2 : Bool) (hm2 : (M2 == 0) = false) (hm2n : (M2 != 0) = true) (W : World) (ht : TE W) (hk : (IntKind.u64.wrap bt).tmod 32 = (k : Int)) (hk2 : k < 32)
    (hxor : bits .xor .u32 x (2 ^ k) = y) (hxy : bits .xor .u32 x y = 2 ^ k)
    (N1 : ∀ w, Calls Tryd.prog 22 #[.int .u32 x] w fun e w' => e = .returned (.int .u32 0) ∧ w = w') (N2 : ∀ w, Calls Tryd.prog 23 #[.int .u32 x] w fun e w' => e = .returned (.int .u32 M2) ∧ w = w')
    (HX1 : ∀ ww, TE ww → Calls Tryd.prog 13 #[.int .u32 x] ww fun r w' => r = .returned (.agg #[.int .i64 d1x.kind, .int .u64 d1x.base, .int .i64 d1x.dom, .bool d1x.ns, .int .i64 d1x.ap, .int .u32 d1x.bits, .bool d1x.ng, .bool d1x.xn]) ∧ Below ww.heap.size ww w')
    (HY1 : ∀ ww, TE ww → Calls Tryd.prog 13 #[.int .u32 y] ww fun r w' => r = .returned (.agg #[.int .i64 d1y.kind, .int .u64 d1y.base, .int .i64 d1y.dom, .bool d1y.ns, .int .i64 d1y.ap, .int .u32 d1y.bits, .bool d1y.ng, .bool d1y.xn]) ∧ Below ww.heap.size ww w')
    (HX2 : ∀ ww, TE ww → Calls Tryd.prog 15 #[.int .u32 x] ww fun r w' => r = .returned (.agg #[.int .i64 d2x.kind, .int .u64 d2x.base, .int .i64 d2x.dom, .bool d2x.ns, .int .i64 d2x.ap, .int .u32 d2x.bits, .bool d2x.ng, .bool d2x.xn]) ∧ Below ww.heap.size ww w')
    (HY2 : ∀ ww, TE ww → Calls Tryd.prog 15 #[.int .u32 y] ww fun r w' => r = .returned (.agg #[.int .i64 d2y.kind, .int .u64 d2y.base, .int .i64 d2y.dom, .bool d2y.ns, .int .i64 d2y.ap, .int .u32 d2y.bits, .bool d2y.ng, .bool d2y.xn]) ∧ Below ww.heap.size ww w')
    (e2 : ∀ w, (Op.equalIn 10000 30 (.agg #[.int .i64 d2x.kind, .int .u64 d2x.base, .int .i64 d2x.dom, .bool d2x.ns, .int .i64 d2x.ap, .int .u32 d2x.bits, .bool d2x.ng, .bool d2x.xn]) (.agg #[.int .i64 d2y.kind, .int .u64 d2y.base, .int .i64 d2y.dom, .bool d2y.ns, .int .i64 d2y.ap, .int .u32 d2y.bits, .bool d2y.ng, .bool d2y.xn])).run Tryd.prog w = .ok S2 w) (t2 : (bits .and .u32 M2 (2 ^ k) == 0) = S2)
    (z1 : ∀ w, (Op.equalIn 10000 30 (.agg #[.int .i64 d1y.kind, .int .u64 d1y.base, .int .i64 d1y.dom, .bool d1y.ns, .int .i64 d1y.ap, .int .u32 d1y.bits, .bool d1y.ng, .bool d1y.xn]) (.agg #[.int .i64 0, .int .u64 0, .int .i64 0, .bool false, .int .i64 0, .int .u32 0, .bool false, .bool false])).run Tryd.prog w = .ok true w)
    (x3 : bits .and .u32 x 3 = 3) (y3 : bits .and .u32 y 3 = 3)
    : Calls Tryd.prog 6 #[.int .u32 x, .int .i64 bt] W fun r w' => r = .returned (.bool true) ∧ Below W.heap.size W w' := by
  have HT : Hid (TE W) := ht
  clear ht
  have HB : Hid (Below W.heap.size W W) := Below.refl _ _
  have hki : (0 : Int) ≤ (k : Int) ∧ (k : Int) < 32 := by omega
  have hs : (2 : Int) ^ k % 4294967296 = 2 ^ k := by
    have h1 : 2 ^ k ≤ 2 ^ 31 := Nat.pow_le_pow_right (by omega) (by omega)
    have h2 := pow_nat k
    have h3 := pow_pos k
    omega
  go_enter Tryd.func6, Tryd.ntmps6
  go_wp2_with (first
    | (go_at_call 21; refine (alive_any _ (HT.out.below HB.out)).mono ?_; rintro e w1 ⟨rfl, hb⟩; have HB : Hid (Below W.heap.size W w1) := Below.step HB.out hb; clear hb)
    | (go_at_call 22; refine (N1 _).mono ?_; rintro e w' ⟨rfl, rfl⟩)
    | (go_at_call 23; refine (N2 _).mono ?_; rintro e w' ⟨rfl, rfl⟩)
    | (go_at_call_of 13 (Value.int IntKind.u32 x); refine (HX1 _ (HT.out.below HB.out)).mono ?_; rintro e wn ⟨rfl, hb⟩; have HB : Hid (Below W.heap.size W wn) := Below.step HB.out hb; clear hb)
    | (go_at_call_of 13 (Value.int IntKind.u32 y); refine (HY1 _ (HT.out.below HB.out)).mono ?_; rintro e wn ⟨rfl, hb⟩; have HB : Hid (Below W.heap.size W wn) := Below.step HB.out hb; clear hb)
    | (go_at_call_of 15 (Value.int IntKind.u32 x); refine (HX2 _ (HT.out.below HB.out)).mono ?_; rintro e wn ⟨rfl, hb⟩; have HB : Hid (Below W.heap.size W wn) := Below.step HB.out hb; clear hb)
    | (go_at_call_of 15 (Value.int IntKind.u32 y); refine (HY2 _ (HT.out.below HB.out)).mono ?_; rintro e wn ⟨rfl, hb⟩; have HB : Hid (Below W.heap.size W wn) := Below.step HB.out hb; clear hb)
    | go_in)
  all_goals
    go_ret
    exact ⟨rfl, HB.out⟩
set_option maxRecDepth 100000 in
set_option maxHeartbeats 8000000 in
theorem flip_zn_n (x y bt : Int) (k : Nat) (d1x d1y d2x d2y : Ent) (M2 : Int) (S2 : Bool) (hm2 : (M2 == 0) = false) (hm2n : (M2 != 0) = true) (r : Int) (W : World) (ht : TE W) (hk : (IntKind.u64.wrap bt).tmod 32 = (k : Int)) (hk2 : k < 32)
    (hxor : bits .xor .u32 x (2 ^ k) = y) (hxy : bits .xor .u32 x y = 2 ^ k)
    (N1 : ∀ w, Calls Tryd.prog 22 #[.int .u32 x] w fun e w' => e = .returned (.int .u32 0) ∧ w = w') (N2 : ∀ w, Calls Tryd.prog 23 #[.int .u32 x] w fun e w' => e = .returned (.int .u32 M2) ∧ w = w')
    (HX1 : ∀ ww, TE ww → Calls Tryd.prog 13 #[.int .u32 x] ww fun r w' => r = .returned (.agg #[.int .i64 d1x.kind, .int .u64 d1x.base, .int .i64 d1x.dom, .bool d1x.ns, .int .i64 d1x.ap, .int .u32 d1x.bits, .bool d1x.ng, .bool d1x.xn]) ∧ Below ww.heap.size ww w')
    (HY1 : ∀ ww, TE ww → Calls Tryd.prog 13 #[.int .u32 y] ww fun r w' => r = .returned (.agg #[.int .i64 d1y.kind, .int .u64 d1y.base, .int .i64 d1y.dom, .bool d1y.ns, .int .i64 d1y.ap, .int .u32 d1y.bits, .bool d1y.ng, .bool d1y.xn]) ∧ Below ww.heap.size ww w')
    (HX2 : ∀ ww, TE ww → Calls Tryd.prog 15 #[.int .u32 x] ww fun r w' => r = .returned (.agg #[.int .i64 d2x.kind, .int .u64 d2x.base, .int .i64 d2x.dom, .bool d2x.ns, .int .i64 d2x.ap, .int .u32 d2x.bits, .bool d2x.ng, .bool d2x.xn]) ∧ Below ww.heap.size ww w')
    (HY2 : ∀ ww, TE ww → Calls Tryd.prog 15 #[.int .u32 y] ww fun r w' => r = .returned (.agg #[.int .i64 d2y.kind, .int .u64 d2y.base, .int .i64 d2y.dom, .bool d2y.ns, .int .i64 d2y.ap, .int .u32 d2y.bits, .bool d2y.ng, .bool d2y.xn]) ∧ Below ww.heap.size ww w')
    (e2 : ∀ w, (Op.equalIn 10000 30 (.agg #[.int .i64 d2x.kind, .int .u64 d2x.base, .int .i64 d2x.dom, .bool d2x.ns, .int .i64 d2x.ap, .int .u32 d2x.bits, .bool d2x.ng, .bool d2x.xn]) (.agg #[.int .i64 d2y.kind, .int .u64 d2y.base, .int .i64 d2y.dom, .bool d2y.ns, .int .i64 d2y.ap, .int .u32 d2y.bits, .bool d2y.ng, .bool d2y.xn])).run Tryd.prog w = .ok S2 w) (t2 : (bits .and .u32 M2 (2 ^ k) == 0) = S2)
    (x3 : bits .and .u32 x 3 = 3) (y3 : bits .and .u32 y 3 = r) (hr : (r == 3) = false)
    : Calls Tryd.prog 6 #[.int .u32 x, .int .i64 bt] W fun r w' => r = .returned (.bool true) ∧ Below W.heap.size W w' := by
  have HT : Hid (TE W) := ht
  clear ht
  have HB : Hid (Below W.heap.size W W) := Below.refl _ _
  have hki : (0 : Int) ≤ (k : Int) ∧ (k : Int) < 32 := by omega
  have hs : (2 : Int) ^ k % 4294967296 = 2 ^ k := by
    have h1 : 2 ^ k ≤ 2 ^ 31 := Nat.pow_le_pow_right (by omega) (by omega)
    have h2 := pow_nat k
    have h3 := pow_pos k
    omega
  go_enter Tryd.func6, Tryd.ntmps6
  go_wp2_with (first
    | (go_at_call 21; refine (alive_any _ (HT.out.below HB.out)).mono ?_; rintro e w1 ⟨rfl, hb⟩; have HB : Hid (Below W.heap.size W w1) := Below.step HB.out hb; clear hb)
    | (go_at_call 22; refine (N1 _).mono ?_; rintro e w' ⟨rfl, rfl⟩)
    | (go_at_call 23; refine (N2 _).mono ?_; rintro e w' ⟨rfl, rfl⟩)
    | (go_at_call_of 13 (Value.int IntKind.u32 x); refine (HX1 _ (HT.out.below HB.out)).mono ?_; rintro e wn ⟨rfl, hb⟩; have HB : Hid (Below W.heap.size W wn) := Below.step HB.out hb; clear hb)
    | (go_at_call_of 13 (Value.int IntKind.u32 y); refine (HY1 _ (HT.out.below HB.out)).mono ?_; rintro e wn ⟨rfl, hb⟩; have HB : Hid (Below W.heap.size W wn) := Below.step HB.out hb; clear hb)
    | (go_at_call_of 15 (Value.int IntKind.u32 x); refine (HX2 _ (HT.out.below HB.out)).mono ?_; rintro e wn ⟨rfl, hb⟩; have HB : Hid (Below W.heap.size W wn) := Below.step HB.out hb; clear hb)
    | (go_at_call_of 15 (Value.int IntKind.u32 y); refine (HY2 _ (HT.out.below HB.out)).mono ?_; rintro e wn ⟨rfl, hb⟩; have HB : Hid (Below W.heap.size W wn) := Below.step HB.out hb; clear hb)
    | go_in)
  all_goals
    go_ret
    exact ⟨rfl, HB.out⟩
set_option maxRecDepth 100000 in
set_option maxHeartbeats 8000000 in
theorem flip_zz_e (x y bt : Int) (k : Nat) (d1x d1y d2x d2y : Ent)  (W : World) (ht : TE W) (hk : (IntKind.u64.wrap bt).tmod 32 = (k : Int)) (hk2 : k < 32)
    (hxor : bits .xor .u32 x (2 ^ k) = y) (hxy : bits .xor .u32 x y = 2 ^ k)
    (N1 : ∀ w, Calls Tryd.prog 22 #[.int .u32 x] w fun e w' => e = .returned (.int .u32 0) ∧ w = w') (N2 : ∀ w, Calls Tryd.prog 23 #[.int .u32 x] w fun e w' => e = .returned (.int .u32 0) ∧ w = w')
    (HX1 : ∀ ww, TE ww → Calls Tryd.prog 13 #[.int .u32 x] ww fun r w' => r = .returned (.agg #[.int .i64 d1x.kind, .int .u64 d1x.base, .int .i64 d1x.dom, .bool d1x.ns, .int .i64 d1x.ap, .int .u32 d1x.bits, .bool d1x.ng, .bool d1x.xn]) ∧ Below ww.heap.size ww w')
    (HY1 : ∀ ww, TE ww → Calls Tryd.prog 13 #[.int .u32 y] ww fun r w' => r = .returned (.agg #[.int .i64 d1y.kind, .int .u64 d1y.base, .int .i64 d1y.dom, .bool d1y.ns, .int .i64 d1y.ap, .int .u32 d1y.bits, .bool d1y.ng, .bool d1y.xn]) ∧ Below ww.heap.size ww w')
    (HX2 : ∀ ww, TE ww → Calls Tryd.prog 15 #[.int .u32 x] ww fun r w' => r = .returned (.agg #[.int .i64 d2x.kind, .int .u64 d2x.base, .int .i64 d2x.dom, .bool d2x.ns, .int .i64 d2x.ap, .int .u32 d2x.bits, .bool d2x.ng, .bool d2x.xn]) ∧ Below ww.heap.size ww w')
    (HY2 : ∀ ww, TE ww → Calls Tryd.prog 15 #[.int .u32 y] ww fun r w' => r = .returned (.agg #[.int .i64 d2y.kind, .int .u64 d2y.base, .int .i64 d2y.dom, .bool d2y.ns, .int .i64 d2y.ap, .int .u32 d2y.bits, .bool d2y.ng, .bool d2y.xn]) ∧ Below ww.heap.size ww w')
    (z1 : ∀ w, (Op.equalIn 10000 30 (.agg #[.int .i64 d1y.kind, .int .u64 d1y.base, .int .i64 d1y.dom, .bool d1y.ns, .int .i64 d1y.ap, .int .u32 d1y.bits, .bool d1y.ng, .bool d1y.xn]) (.agg #[.int .i64 0, .int .u64 0, .int .i64 0, .bool false, .int .i64 0, .int .u32 0, .bool false, .bool false])).run Tryd.prog w = .ok true w)
    (z2 : ∀ w, (Op.equalIn 10000 30 (.agg #[.int .i64 d2y.kind, .int .u64 d2y.base, .int .i64 d2y.dom, .bool d2y.ns, .int .i64 d2y.ap, .int .u32 d2y.bits, .bool d2y.ng, .bool d2y.xn]) (.agg #[.int .i64 0, .int .u64 0, .int .i64 0, .bool false, .int .i64 0, .int .u32 0, .bool false, .bool false])).run Tryd.prog w = .ok true w)
    (x3 : bits .and .u32 x 3 = 0) (y3 : bits .and .u32 y 3 = 0)
    : Calls Tryd.prog 6 #[.int .u32 x, .int .i64 bt] W fun r w' => r = .returned (.bool true) ∧ Below W.heap.size W w' := by
  have HT : Hid (TE W) := ht
  clear ht
  have HB : Hid (Below W.heap.size W W) := Below.refl _ _
  have hki : (0 : Int) ≤ (k : Int) ∧ (k : Int) < 32 := by omega
  have hs : (2 : Int) ^ k % 4294967296 = 2 ^ k := by
    have h1 : 2 ^ k ≤ 2 ^ 31 := Nat.pow_le_pow_right (by omega) (by omega)
    have h2 := pow_nat k
    have h3 := pow_pos k
    omega
  go_enter Tryd.func6, Tryd.ntmps6
  go_wp2_with (first
    | (go_at_call 21; refine (alive_any _ (HT.out.below HB.out)).mono ?_; rintro e w1 ⟨rfl, hb⟩; have HB : Hid (Below W.heap.size W w1) := Below.step HB.out hb; clear hb)
    | (go_at_call 22; refine (N1 _).mono ?_; rintro e w' ⟨rfl, rfl⟩)
    | (go_at_call 23; refine (N2 _).mono ?_; rintro e w' ⟨rfl, rfl⟩)
    | (go_at_call_of 13 (Value.int IntKind.u32 x); refine (HX1 _ (HT.out.below HB.out)).mono ?_; rintro e wn ⟨rfl, hb⟩; have HB : Hid (Below W.heap.size W wn) := Below.step HB.out hb; clear hb)
    | (go_at_call_of 13 (Value.int IntKind.u32 y); refine (HY1 _ (HT.out.below HB.out)).mono ?_; rintro e wn ⟨rfl, hb⟩; have HB : Hid (Below W.heap.size W wn) := Below.step HB.out hb; clear hb)
    | (go_at_call_of 15 (Value.int IntKind.u32 x); refine (HX2 _ (HT.out.below HB.out)).mono ?_; rintro e wn ⟨rfl, hb⟩; have HB : Hid (Below W.heap.size W wn) := Below.step HB.out hb; clear hb)
    | (go_at_call_of 15 (Value.int IntKind.u32 y); refine (HY2 _ (HT.out.below HB.out)).mono ?_; rintro e wn ⟨rfl, hb⟩; have HB : Hid (Below W.heap.size W wn) := Below.step HB.out hb; clear hb)
    | go_in)
  all_goals
    go_ret
    exact ⟨rfl, HB.out⟩
set_option maxRecDepth 100000 in
set_option maxHeartbeats 8000000 in
theorem flip_zz_n (x y bt : Int) (k : Nat) (d1x d1y d2x d2y : Ent) (r : Int) (W : World) (ht : TE W) (hk : (IntKind.u64.wrap bt).tmod 32 = (k : Int)) (hk2 : k < 32)
    (hxor : bits .xor .u32 x (2 ^ k) = y) (hxy : bits .xor .u32 x y = 2 ^ k)
    (N1 : ∀ w, Calls Tryd.prog 22 #[.int .u32 x] w fun e w' => e = .returned (.int .u32 0) ∧ w = w') (N2 : ∀ w, Calls Tryd.prog 23 #[.int .u32 x] w fun e w' => e = .returned (.int .u32 0) ∧ w = w')
    (HX1 : ∀ ww, TE ww → Calls Tryd.prog 13 #[.int .u32 x] ww fun r w' => r = .returned (.agg #[.int .i64 d1x.kind, .int .u64 d1x.base, .int .i64 d1x.dom, .bool d1x.ns, .int .i64 d1x.ap, .int .u32 d1x.bits, .bool d1x.ng, .bool d1x.xn]) ∧ Below ww.heap.size ww w')
    (HY1 : ∀ ww, TE ww → Calls Tryd.prog 13 #[.int .u32 y] ww fun r w' => r = .returned (.agg #[.int .i64 d1y.kind, .int .u64 d1y.base, .int .i64 d1y.dom, .bool d1y.ns, .int .i64 d1y.ap, .int .u32 d1y.bits, .bool d1y.ng, .bool d1y.xn]) ∧ Below ww.heap.size ww w')
    (HX2 : ∀ ww, TE ww → Calls Tryd.prog 15 #[.int .u32 x] ww fun r w' => r = .returned (.agg #[.int .i64 d2x.kind, .int .u64 d2x.base, .int .i64 d2x.dom, .bool d2x.ns, .int .i64 d2x.ap, .int .u32 d2x.bits, .bool d2x.ng, .bool d2x.xn]) ∧ Below ww.heap.size ww w')
    (HY2 : ∀ ww, TE ww → Calls Tryd.prog 15 #[.int .u32 y] ww fun r w' => r = .returned (.agg #[.int .i64 d2y.kind, .int .u64 d2y.base, .int .i64 d2y.dom, .bool d2y.ns, .int .i64 d2y.ap, .int .u32 d2y.bits, .bool d2y.ng, .bool d2y.xn]) ∧ Below ww.heap.size ww w')
    (x3 : bits .and .u32 x 3 = 0) (y3 : bits .and .u32 y 3 = r) (hr : (r == 0) = false) (hrn : (r != 0) = true)
    : Calls Tryd.prog 6 #[.int .u32 x, .int .i64 bt] W fun r w' => r = .returned (.bool true) ∧ Below W.heap.size W w' := by
  have HT : Hid (TE W) := ht
  clear ht
  have HB : Hid (Below W.heap.size W W) := Below.refl _ _
  have hki : (0 : Int) ≤ (k : Int) ∧ (k : Int) < 32 := by omega
  have hs : (2 : Int) ^ k % 4294967296 = 2 ^ k := by
    have h1 : 2 ^ k ≤ 2 ^ 31 := Nat.pow_le_pow_right (by omega) (by omega)
    have h2 := pow_nat k
    have h3 := pow_pos k
    omega
  go_enter Tryd.func6, Tryd.ntmps6
  go_wp2_with (first
    | (go_at_call 21; refine (alive_any _ (HT.out.below HB.out)).mono ?_; rintro e w1 ⟨rfl, hb⟩; have HB : Hid (Below W.heap.size W w1) := Below.step HB.out hb; clear hb)
    | (go_at_call 22; refine (N1 _).mono ?_; rintro e w' ⟨rfl, rfl⟩)
    | (go_at_call 23; refine (N2 _).mono ?_; rintro e w' ⟨rfl, rfl⟩)
    | (go_at_call_of 13 (Value.int IntKind.u32 x); refine (HX1 _ (HT.out.below HB.out)).mono ?_; rintro e wn ⟨rfl, hb⟩; have HB : Hid (Below W.heap.size W wn) := Below.step HB.out hb; clear hb)
    | (go_at_call_of 13 (Value.int IntKind.u32 y); refine (HY1 _ (HT.out.below HB.out)).mono ?_; rintro e wn ⟨rfl, hb⟩; have HB : Hid (Below W.heap.size W wn) := Below.step HB.out hb; clear hb)
    | (go_at_call_of 15 (Value.int IntKind.u32 x); refine (HX2 _ (HT.out.below HB.out)).mono ?_; rintro e wn ⟨rfl, hb⟩; have HB : Hid (Below W.heap.size W wn) := Below.step HB.out hb; clear hb)
    | (go_at_call_of 15 (Value.int IntKind.u32 y); refine (HY2 _ (HT.out.below HB.out)).mono ?_; rintro e wn ⟨rfl, hb⟩; have HB : Hid (Below W.heap.size W wn) := Below.step HB.out hb; clear hb)
    | go_in)
  all_goals
    go_ret
    exact ⟨rfl, HB.out⟩
theorem law_flip (x bt : Int) (W : World) (ht : TE W) (hx : 0 ≤ x ∧ x < 4294967296) (hbt : (Lit.int .i64 bt).wf = true) : Calls Tryd.prog 6 #[.int .u32 x, .int .i64 bt] W fun r w' => r = .returned (.bool true) ∧ Below W.heap.size W w' := by
  obtain ⟨k, hk, hk2⟩ := bit_of bt
  obtain ⟨f1, f2, f3⟩ := fl_xor x k hx hk2
  have N1 := fun w => named1_any x w hx
  have N2 := fun w => named2_any x w hx
  have H1 := fun ww (hh : TE ww) => Decode1_any x ww hh.toTD hx
  have H2 := fun ww (hh : TE ww) => Decode1_any (fl x k) ww hh.toTD f2
  have H3 := fun ww (hh : TE ww) => Decode2_any x ww hh.toTD hx
  have H4 := fun ww (hh : TE ww) => Decode2_any (fl x k) ww hh.toTD f2
  have x3 := and3 x hx
  have y3 := and3 (fl x k) f2
  rcases (show x % 4 = 1 ∨ x % 4 = 2 ∨ x % 4 = 3 ∨ x % 4 = 0 by omega) with h | h | h | h
  · rw [show n1 x = 4294966763 by unfold n1; rw [if_pos h]] at N1
    rw [show n2 x = 4294966847 by unfold n2; rw [if_neg (by omega), if_pos h]] at N2
    exact flip_nn x (fl x k) bt k _ _ _ _ _ _ _ _ (by decide) (by decide) (by decide) (by decide) W ht hk hk2 f1 f3 N1 N2 H1 H2 H3 H4 (eqE _ _) (flT_same x k hk2 hx h) (eqE _ _) (flL_same x k hk2 hx h)
  · rw [show n1 x = 4294966783 by unfold n1; rw [if_neg (by omega), if_pos h]] at N1
    rw [show n2 x = 4294967295 by unfold n2; rw [if_neg (by omega), if_neg (by omega)]] at N2
    exact flip_nn x (fl x k) bt k _ _ _ _ _ _ _ _ (by decide) (by decide) (by decide) (by decide) W ht hk hk2 f1 f3 N1 N2 H1 H2 H3 H4 (eqE _ _) (flS_same x k hk2 hx h) (eqE _ _) (flM_same x k hk2 hx (.inl h))
  · rw [show n1 x = 0 by unfold n1; rw [if_neg (by omega), if_neg (by omega)]] at N1
    rw [show n2 x = 4294967295 by unfold n2; rw [if_neg (by omega), if_neg (by omega)]] at N2
    rw [h] at x3
    by_cases hy : fl x k % 4 = 3
    · rw [hy] at y3
      have hz : D1 (fl x k) = dZ := by unfold D1; rw [if_neg (by omega), if_neg (by omega)]
      have z := eqE (D1 (fl x k)) dZ
      rw [hz, Ent.same_self] at z
      rw [hz] at H2
      exact flip_zn_e x (fl x k) bt k _ _ _ _ _ _ (by decide) (by decide) W ht hk hk2 f1 f3 N1 N2 H1 H2 H3 H4 (eqE _ _) (flM_same x k hk2 hx (.inr h)) z x3 y3
    · exact flip_zn_n x (fl x k) bt k _ _ _ _ _ _ (by decide) (by decide) _ W ht hk hk2 f1 f3 N1 N2 H1 H2 H3 H4 (eqE _ _) (flM_same x k hk2 hx (.inr h)) x3 y3 (by simpa using hy)
  · rw [show n1 x = 0 by unfold n1; rw [if_neg (by omega), if_neg (by omega)]] at N1
    rw [show n2 x = 0 by unfold n2; rw [if_pos h]] at N2
    rw [h] at x3
    by_cases hy : fl x k % 4 = 0
    · rw [hy] at y3
      have hz : D1 (fl x k) = dZ := by unfold D1; rw [if_neg (by omega), if_neg (by omega)]
      have hz2 : D2 (fl x k) = dZ := by unfold D2; rw [if_pos hy]
      have z := eqE (D1 (fl x k)) dZ
      rw [hz, Ent.same_self] at z
      rw [hz] at H2
      rw [hz2] at H4
      exact flip_zz_e x (fl x k) bt k _ _ _ _ W ht hk hk2 f1 f3 N1 N2 H1 H2 H3 H4 z z x3 y3
    · exact flip_zz_n x (fl x k) bt k _ _ _ _ _ W ht hk hk2 f1 f3 N1 N2 H1 H2 H3 H4 x3 y3 (by simpa using hy) (by simpa using hy)
end Go.Proofs.YtcpcmjmgiagnoaaDoor
