import Derived.Test.YtmmocnejacflmaaDoorLa
import Derived.Test.YtmmocnejacflmaaDoorLf
namespace Go.Proofs.YtmmocnejacflmaaDoor
open Go.RowKit
set_option linter.unusedVariables false
set_option linter.unusedSimpArgs false
/-- The word of a fault with one bit turned. -/
theorem turned {f : Fa} {b : Bool} (h : rtF f = true) (n : Nat) (hn : n < 32) :
    ∃ y, bits .xor .u32 (stW f b) (2 ^ n) = y ∧ (0 ≤ y ∧ y < 4294967296) ∧ y ≠ stW f b := by
  obtain ⟨_, _, _, h1, h2, _⟩ := st_fa b h
  obtain ⟨v, hv⟩ := Int.eq_ofNat_of_zero_le h1
  rw [hv] at h2 ⊢
  have hp : (2 : Int) ^ n = ((2 ^ n : Nat) : Int) := (pow_nat n).symm
  have hl : 2 ^ n < 2 ^ 32 := Nat.pow_lt_pow_right (by omega) hn
  rw [hp, u32_xor_nat v (2 ^ n) (by omega) (by omega)]
  have hx : v ^^^ 2 ^ n < 2 ^ 32 := Nat.xor_lt_two_pow (by omega) hl
  refine ⟨_, rfl, ⟨by omega, by omega⟩, fun he => ?_⟩
  have he2 : v ^^^ 2 ^ n = v := by omega
  have h3 := congrArg (fun z => v ^^^ z) he2
  simp only [← Nat.xor_assoc, Nat.xor_self, Nat.zero_xor] at h3
  have := Nat.two_pow_pos n
  omega
set_option maxRecDepth 100000 in
set_option maxHeartbeats 2000000 in
theorem words_11_0 (x : Int) (f A : Fa) (a b : Bool) (t V Y : Int) (R : Fa) (r : Bool) (w : World) (hT : TA w)
    (H1 : ∀ w, TF w → Calls Tryd.prog 13 #[.int .u32 x] w fun r w' => r = .returned (.tuple #[.agg #[.int .i64 A.k, .int .i64 A.l, .int .i64 A.d], .bool a, .int .i64 0]) ∧ Below w.heap.size w w')
    (H2 : ∀ w, TF w → Calls Tryd.prog 10 #[.agg #[.int .i64 A.k, .int .i64 A.l, .int .i64 A.d], .bool a] w fun r w' => r = .returned (.tuple #[.int .u32 x, .int .i64 0]) ∧ Below w.heap.size w w') (hA : (A.k == 0) = false)
    (H3 : ∀ w, TF w → Calls Tryd.prog 10 #[.agg #[.int .i64 f.k, .int .i64 f.l, .int .i64 f.d], .bool b] w fun r w' => r = .returned (.tuple #[.int .u32 V, .int .i64 0]) ∧ Below w.heap.size w w')
    (H4 : ∀ w, TF w → Calls Tryd.prog 13 #[.int .u32 V] w fun r w' => r = .returned (.tuple #[.agg #[.int .i64 f.k, .int .i64 f.l, .int .i64 f.d], .bool b, .int .i64 0]) ∧ Below w.heap.size w w')
    (n : Int) (hn : (IntKind.u64.wrap t).tmod 32 = n) (hn0 : 0 ≤ n ∧ n < 32) (hY : bits .xor .u32 V (2 ^ n.toNat) = Y) (hm : 2 ^ n.toNat % 4294967296 = (2 : Int) ^ n.toNat)
    (H5 : ∀ w, TF w → Calls Tryd.prog 13 #[.int .u32 Y] w fun q w' => q = .returned (.tuple #[.agg #[.int .i64 R.k, .int .i64 R.l, .int .i64 R.d], .bool r, .int .i64 70]) ∧ Below w.heap.size w w')
    : Calls Tryd.prog 5 #[.int .u32 x, .agg #[.int .i64 f.k, .int .i64 f.l, .int .i64 f.d], .bool b, .int .i64 t] w fun e w' => e = .returned (.bool true) ∧ Below w.heap.size w w' := by
  have GH1 : Hid _ := H1
  have GH2 : Hid _ := H2
  have GH3 : Hid _ := H3
  have GH4 : Hid _ := H4
  have GH5 : Hid _ := H5
  clear H1 H2 H3 H4 H5
  have eF := eqF f f
  rw [Fa.same_self] at eF
  have HT : Hid (TA w) := hT
  have HW0 : Hid (Below w.heap.size w w) := Below.refl _ _
  clear hT
  go_enter Tryd.func5, Tryd.ntmps5
  have HWaa : Hid (Below w.heap.size w (w.alloc (.cells #[.int .i64 f.k, .int .i64 f.l, .int .i64 f.d] 28))) := Below.alloc HW0.out HW0.out.size _
  have HBa_0 : Hid (Bl (w.alloc (.cells #[.int .i64 f.k, .int .i64 f.l, .int .i64 f.d] 28)) w.heap.size 28 [.int .i64 f.k, .int .i64 f.l, .int .i64 f.d]) := Bl.new _ _ _
  clear HW0
  go_wp2_with (fail)
  go_at_call 12
  refine (alive_any _ (HT.out.below HWaa.out)).mono ?_
  rintro e w1 ⟨rfl, hb⟩
  have HW1 : Hid (Below w.heap.size w w1) := Below.step HWaa.out hb
  have HBa_1 : Hid (Bl w1 w.heap.size 28 [.int .i64 f.k, .int .i64 f.l, .int .i64 f.d]) := HBa_0.out.below hb
  clear hb HWaa HBa_0
  have c0 := HBa_1.out.cell
  have f0 := HBa_1.out.frozen
  have l0 := HBa_1.out.lt
  go_wp2_with (fail)
  go_at_call 13
  refine (GH1.out _ (HT.out.below HW1.out).f).mono ?_
  rintro e w2 ⟨rfl, hb⟩
  clear c0 f0 l0
  have HW2 : Hid (Below w.heap.size w w2) := Below.step HW1.out hb
  have HBa_2 : Hid (Bl w2 w.heap.size 28 [.int .i64 f.k, .int .i64 f.l, .int .i64 f.d]) := HBa_1.out.below hb
  clear hb HW1 HBa_1
  have c0 := HBa_2.out.cell
  have f0 := HBa_2.out.frozen
  have l0 := HBa_2.out.lt
  have Geb : Hid (w.heap.size ≤ w2.heap.size) := HW2.out.size
  have Nab : Hid (w.heap.size ≠ w2.heap.size) := by have : w.heap.size < w2.heap.size := l0; exact Nat.ne_of_lt this
  have n0b : ¬ (w.heap.size = w2.heap.size) := by omega
  have HWab : Hid (Below w.heap.size w (w2.alloc (.cells #[.int .i64 A.k, .int .i64 A.l, .int .i64 A.d] 28))) := Below.alloc HW2.out HW2.out.size _
  have HBa_b : Hid (Bl (w2.alloc (.cells #[.int .i64 A.k, .int .i64 A.l, .int .i64 A.d] 28)) w.heap.size 28 [.int .i64 f.k, .int .i64 f.l, .int .i64 f.d]) := HBa_2.out.below (below_new _ _)
  have HBb_0 : Hid (Bl (w2.alloc (.cells #[.int .i64 A.k, .int .i64 A.l, .int .i64 A.d] 28)) w2.heap.size 28 [.int .i64 A.k, .int .i64 A.l, .int .i64 A.d]) := Bl.new _ _ _
  clear HW2 HBa_2
  go_wp2_with (fail)
  go_at_call 10
  refine (GH2.out _ (HT.out.below HWab.out).f).mono ?_
  rintro e w3 ⟨rfl, hb⟩
  clear c0 f0 l0
  have HW3 : Hid (Below w.heap.size w w3) := Below.step HWab.out hb
  have HBa_3 : Hid (Bl w3 w.heap.size 28 [.int .i64 f.k, .int .i64 f.l, .int .i64 f.d]) := HBa_b.out.below hb
  have HBb_3 : Hid (Bl w3 w2.heap.size 28 [.int .i64 A.k, .int .i64 A.l, .int .i64 A.d]) := HBb_0.out.below hb
  clear hb HWab HBa_b HBb_0
  have c0 := HBa_3.out.cell
  have f0 := HBa_3.out.frozen
  have l0 := HBa_3.out.lt
  have c1 := HBb_3.out.cell
  have f1 := HBb_3.out.frozen
  have l1 := HBb_3.out.lt
  go_wp2_with (fail)
  go_at_call 10
  refine (GH3.out _ (HT.out.below HW3.out).f).mono ?_
  rintro e w4 ⟨rfl, hb⟩
  clear c0 f0 l0 c1 f1 l1
  have HW4 : Hid (Below w.heap.size w w4) := Below.step HW3.out hb
  have HBa_4 : Hid (Bl w4 w.heap.size 28 [.int .i64 f.k, .int .i64 f.l, .int .i64 f.d]) := HBa_3.out.below hb
  have HBb_4 : Hid (Bl w4 w2.heap.size 28 [.int .i64 A.k, .int .i64 A.l, .int .i64 A.d]) := HBb_3.out.below hb
  clear hb HW3 HBa_3 HBb_3
  have c0 := HBa_4.out.cell
  have f0 := HBa_4.out.frozen
  have l0 := HBa_4.out.lt
  have c1 := HBb_4.out.cell
  have f1 := HBb_4.out.frozen
  have l1 := HBb_4.out.lt
  go_wp2_with (fail)
  go_at_call 13
  refine (GH4.out _ (HT.out.below HW4.out).f).mono ?_
  rintro e w5 ⟨rfl, hb⟩
  clear c0 f0 l0 c1 f1 l1
  have HW5 : Hid (Below w.heap.size w w5) := Below.step HW4.out hb
  have HBa_5 : Hid (Bl w5 w.heap.size 28 [.int .i64 f.k, .int .i64 f.l, .int .i64 f.d]) := HBa_4.out.below hb
  have HBb_5 : Hid (Bl w5 w2.heap.size 28 [.int .i64 A.k, .int .i64 A.l, .int .i64 A.d]) := HBb_4.out.below hb
  clear hb HW4 HBa_4 HBb_4
  have c0 := HBa_5.out.cell
  have f0 := HBa_5.out.frozen
  have l0 := HBa_5.out.lt
  have c1 := HBb_5.out.cell
  have f1 := HBb_5.out.frozen
  have l1 := HBb_5.out.lt
  have HWsx : Hid (Below w.heap.size w (((w5.setCell ⟨w2.heap.size, 0, none⟩ (.int .i64 f.k)).setCell ⟨w2.heap.size, 1, none⟩ (.int .i64 f.l)).setCell ⟨w2.heap.size, 2, none⟩ (.int .i64 f.d))) := (Below.setCell (Below.setCell (Below.setCell HW5.out Geb.out _) Geb.out _) Geb.out _)
  have HBa_sx : Hid (Bl (((w5.setCell ⟨w2.heap.size, 0, none⟩ (.int .i64 f.k)).setCell ⟨w2.heap.size, 1, none⟩ (.int .i64 f.l)).setCell ⟨w2.heap.size, 2, none⟩ (.int .i64 f.d)) w.heap.size 28 [.int .i64 f.k, .int .i64 f.l, .int .i64 f.d]) := (Bl.set_ne (Bl.set_ne (Bl.set_ne HBa_5.out Nab.out 0 _) Nab.out 1 _) Nab.out 2 _)
  have HBb_sx : Hid (Bl (((w5.setCell ⟨w2.heap.size, 0, none⟩ (.int .i64 f.k)).setCell ⟨w2.heap.size, 1, none⟩ (.int .i64 f.l)).setCell ⟨w2.heap.size, 2, none⟩ (.int .i64 f.d)) w2.heap.size 28 [.int .i64 f.k, .int .i64 f.l, .int .i64 f.d]) := (Bl.set (Bl.set (Bl.set HBb_5.out 0 _) 1 _) 2 _)
  clear HW5 HBa_5 HBb_5
  have nab := Nab.out
  go_wp2_with (fail)
  go_at_call 13
  refine (GH5.out _ (HT.out.below HWsx.out).f).mono ?_
  rintro e w6 ⟨rfl, hb⟩
  clear c0 f0 l0 c1 f1 l1
  have HW6 : Hid (Below w.heap.size w w6) := Below.step HWsx.out hb
  have HBa_6 : Hid (Bl w6 w.heap.size 28 [.int .i64 f.k, .int .i64 f.l, .int .i64 f.d]) := HBa_sx.out.below hb
  have HBb_6 : Hid (Bl w6 w2.heap.size 28 [.int .i64 f.k, .int .i64 f.l, .int .i64 f.d]) := HBb_sx.out.below hb
  clear hb HWsx HBa_sx HBb_sx
  have c0 := HBa_6.out.cell
  have f0 := HBa_6.out.frozen
  have l0 := HBa_6.out.lt
  have c1 := HBb_6.out.cell
  have f1 := HBb_6.out.frozen
  have l1 := HBb_6.out.lt
  have n0c : ¬ (w.heap.size = w6.heap.size) := by omega
  have n1c : ¬ (w2.heap.size = w6.heap.size) := by omega
  have HWac : Hid (Below w.heap.size w (w6.alloc (.cells #[.int .i64 R.k, .int .i64 R.l, .int .i64 R.d] 28))) := Below.alloc HW6.out HW6.out.size _
  have HBa_c : Hid (Bl (w6.alloc (.cells #[.int .i64 R.k, .int .i64 R.l, .int .i64 R.d] 28)) w.heap.size 28 [.int .i64 f.k, .int .i64 f.l, .int .i64 f.d]) := HBa_6.out.below (below_new _ _)
  have HBb_c : Hid (Bl (w6.alloc (.cells #[.int .i64 R.k, .int .i64 R.l, .int .i64 R.d] 28)) w2.heap.size 28 [.int .i64 f.k, .int .i64 f.l, .int .i64 f.d]) := HBb_6.out.below (below_new _ _)
  have HBc_0 : Hid (Bl (w6.alloc (.cells #[.int .i64 R.k, .int .i64 R.l, .int .i64 R.d] 28)) w6.heap.size 28 [.int .i64 R.k, .int .i64 R.l, .int .i64 R.d]) := Bl.new _ _ _
  clear HW6 HBa_6 HBb_6
  go_wp2
  go_ret
  exact ⟨rfl, HWac.out⟩
set_option maxRecDepth 100000 in
set_option maxHeartbeats 2000000 in
theorem words_11_1 (x : Int) (f A : Fa) (a b : Bool) (t V Y : Int) (R : Fa) (r : Bool) (w : World) (hT : TA w)
    (H1 : ∀ w, TF w → Calls Tryd.prog 13 #[.int .u32 x] w fun r w' => r = .returned (.tuple #[.agg #[.int .i64 A.k, .int .i64 A.l, .int .i64 A.d], .bool a, .int .i64 0]) ∧ Below w.heap.size w w')
    (H2 : ∀ w, TF w → Calls Tryd.prog 10 #[.agg #[.int .i64 A.k, .int .i64 A.l, .int .i64 A.d], .bool a] w fun r w' => r = .returned (.tuple #[.int .u32 x, .int .i64 0]) ∧ Below w.heap.size w w') (hA : (A.k == 0) = false)
    (H3 : ∀ w, TF w → Calls Tryd.prog 10 #[.agg #[.int .i64 f.k, .int .i64 f.l, .int .i64 f.d], .bool b] w fun r w' => r = .returned (.tuple #[.int .u32 V, .int .i64 0]) ∧ Below w.heap.size w w')
    (H4 : ∀ w, TF w → Calls Tryd.prog 13 #[.int .u32 V] w fun r w' => r = .returned (.tuple #[.agg #[.int .i64 f.k, .int .i64 f.l, .int .i64 f.d], .bool b, .int .i64 0]) ∧ Below w.heap.size w w')
    (n : Int) (hn : (IntKind.u64.wrap t).tmod 32 = n) (hn0 : 0 ≤ n ∧ n < 32) (hY : bits .xor .u32 V (2 ^ n.toNat) = Y) (hm : 2 ^ n.toNat % 4294967296 = (2 : Int) ^ n.toNat)
    (H5 : ∀ w, TF w → Calls Tryd.prog 13 #[.int .u32 Y] w fun q w' => q = .returned (.tuple #[.agg #[.int .i64 R.k, .int .i64 R.l, .int .i64 R.d], .bool r, .int .i64 0]) ∧ Below w.heap.size w w')
    (hR : R.same f = false)
    : Calls Tryd.prog 5 #[.int .u32 x, .agg #[.int .i64 f.k, .int .i64 f.l, .int .i64 f.d], .bool b, .int .i64 t] w fun e w' => e = .returned (.bool true) ∧ Below w.heap.size w w' := by
  have GH1 : Hid _ := H1
  have GH2 : Hid _ := H2
  have GH3 : Hid _ := H3
  have GH4 : Hid _ := H4
  have GH5 : Hid _ := H5
  clear H1 H2 H3 H4 H5
  have eF := eqF f f
  rw [Fa.same_self] at eF
  have eR := eqF R f
  rw [hR] at eR
  clear hR
  have HT : Hid (TA w) := hT
  have HW0 : Hid (Below w.heap.size w w) := Below.refl _ _
  clear hT
  go_enter Tryd.func5, Tryd.ntmps5
  have HWaa : Hid (Below w.heap.size w (w.alloc (.cells #[.int .i64 f.k, .int .i64 f.l, .int .i64 f.d] 28))) := Below.alloc HW0.out HW0.out.size _
  have HBa_0 : Hid (Bl (w.alloc (.cells #[.int .i64 f.k, .int .i64 f.l, .int .i64 f.d] 28)) w.heap.size 28 [.int .i64 f.k, .int .i64 f.l, .int .i64 f.d]) := Bl.new _ _ _
  clear HW0
  go_wp2_with (fail)
  go_at_call 12
  refine (alive_any _ (HT.out.below HWaa.out)).mono ?_
  rintro e w1 ⟨rfl, hb⟩
  have HW1 : Hid (Below w.heap.size w w1) := Below.step HWaa.out hb
  have HBa_1 : Hid (Bl w1 w.heap.size 28 [.int .i64 f.k, .int .i64 f.l, .int .i64 f.d]) := HBa_0.out.below hb
  clear hb HWaa HBa_0
  have c0 := HBa_1.out.cell
  have f0 := HBa_1.out.frozen
  have l0 := HBa_1.out.lt
  go_wp2_with (fail)
  go_at_call 13
  refine (GH1.out _ (HT.out.below HW1.out).f).mono ?_
  rintro e w2 ⟨rfl, hb⟩
  clear c0 f0 l0
  have HW2 : Hid (Below w.heap.size w w2) := Below.step HW1.out hb
  have HBa_2 : Hid (Bl w2 w.heap.size 28 [.int .i64 f.k, .int .i64 f.l, .int .i64 f.d]) := HBa_1.out.below hb
  clear hb HW1 HBa_1
  have c0 := HBa_2.out.cell
  have f0 := HBa_2.out.frozen
  have l0 := HBa_2.out.lt
  have Geb : Hid (w.heap.size ≤ w2.heap.size) := HW2.out.size
  have Nab : Hid (w.heap.size ≠ w2.heap.size) := by have : w.heap.size < w2.heap.size := l0; exact Nat.ne_of_lt this
  have n0b : ¬ (w.heap.size = w2.heap.size) := by omega
  have HWab : Hid (Below w.heap.size w (w2.alloc (.cells #[.int .i64 A.k, .int .i64 A.l, .int .i64 A.d] 28))) := Below.alloc HW2.out HW2.out.size _
  have HBa_b : Hid (Bl (w2.alloc (.cells #[.int .i64 A.k, .int .i64 A.l, .int .i64 A.d] 28)) w.heap.size 28 [.int .i64 f.k, .int .i64 f.l, .int .i64 f.d]) := HBa_2.out.below (below_new _ _)
  have HBb_0 : Hid (Bl (w2.alloc (.cells #[.int .i64 A.k, .int .i64 A.l, .int .i64 A.d] 28)) w2.heap.size 28 [.int .i64 A.k, .int .i64 A.l, .int .i64 A.d]) := Bl.new _ _ _
  clear HW2 HBa_2
  go_wp2_with (fail)
  go_at_call 10
  refine (GH2.out _ (HT.out.below HWab.out).f).mono ?_
  rintro e w3 ⟨rfl, hb⟩
  clear c0 f0 l0
  have HW3 : Hid (Below w.heap.size w w3) := Below.step HWab.out hb
  have HBa_3 : Hid (Bl w3 w.heap.size 28 [.int .i64 f.k, .int .i64 f.l, .int .i64 f.d]) := HBa_b.out.below hb
  have HBb_3 : Hid (Bl w3 w2.heap.size 28 [.int .i64 A.k, .int .i64 A.l, .int .i64 A.d]) := HBb_0.out.below hb
  clear hb HWab HBa_b HBb_0
  have c0 := HBa_3.out.cell
  have f0 := HBa_3.out.frozen
  have l0 := HBa_3.out.lt
  have c1 := HBb_3.out.cell
  have f1 := HBb_3.out.frozen
  have l1 := HBb_3.out.lt
  go_wp2_with (fail)
  go_at_call 10
  refine (GH3.out _ (HT.out.below HW3.out).f).mono ?_
  rintro e w4 ⟨rfl, hb⟩
  clear c0 f0 l0 c1 f1 l1
  have HW4 : Hid (Below w.heap.size w w4) := Below.step HW3.out hb
  have HBa_4 : Hid (Bl w4 w.heap.size 28 [.int .i64 f.k, .int .i64 f.l, .int .i64 f.d]) := HBa_3.out.below hb
  have HBb_4 : Hid (Bl w4 w2.heap.size 28 [.int .i64 A.k, .int .i64 A.l, .int .i64 A.d]) := HBb_3.out.below hb
  clear hb HW3 HBa_3 HBb_3
  have c0 := HBa_4.out.cell
  have f0 := HBa_4.out.frozen
  have l0 := HBa_4.out.lt
  have c1 := HBb_4.out.cell
  have f1 := HBb_4.out.frozen
  have l1 := HBb_4.out.lt
  go_wp2_with (fail)
  go_at_call 13
  refine (GH4.out _ (HT.out.below HW4.out).f).mono ?_
  rintro e w5 ⟨rfl, hb⟩
  clear c0 f0 l0 c1 f1 l1
  have HW5 : Hid (Below w.heap.size w w5) := Below.step HW4.out hb
  have HBa_5 : Hid (Bl w5 w.heap.size 28 [.int .i64 f.k, .int .i64 f.l, .int .i64 f.d]) := HBa_4.out.below hb
  have HBb_5 : Hid (Bl w5 w2.heap.size 28 [.int .i64 A.k, .int .i64 A.l, .int .i64 A.d]) := HBb_4.out.below hb
  clear hb HW4 HBa_4 HBb_4
  have c0 := HBa_5.out.cell
  have f0 := HBa_5.out.frozen
  have l0 := HBa_5.out.lt
  have c1 := HBb_5.out.cell
  have f1 := HBb_5.out.frozen
  have l1 := HBb_5.out.lt
  have HWsx : Hid (Below w.heap.size w (((w5.setCell ⟨w2.heap.size, 0, none⟩ (.int .i64 f.k)).setCell ⟨w2.heap.size, 1, none⟩ (.int .i64 f.l)).setCell ⟨w2.heap.size, 2, none⟩ (.int .i64 f.d))) := (Below.setCell (Below.setCell (Below.setCell HW5.out Geb.out _) Geb.out _) Geb.out _)
  have HBa_sx : Hid (Bl (((w5.setCell ⟨w2.heap.size, 0, none⟩ (.int .i64 f.k)).setCell ⟨w2.heap.size, 1, none⟩ (.int .i64 f.l)).setCell ⟨w2.heap.size, 2, none⟩ (.int .i64 f.d)) w.heap.size 28 [.int .i64 f.k, .int .i64 f.l, .int .i64 f.d]) := (Bl.set_ne (Bl.set_ne (Bl.set_ne HBa_5.out Nab.out 0 _) Nab.out 1 _) Nab.out 2 _)
  have HBb_sx : Hid (Bl (((w5.setCell ⟨w2.heap.size, 0, none⟩ (.int .i64 f.k)).setCell ⟨w2.heap.size, 1, none⟩ (.int .i64 f.l)).setCell ⟨w2.heap.size, 2, none⟩ (.int .i64 f.d)) w2.heap.size 28 [.int .i64 f.k, .int .i64 f.l, .int .i64 f.d]) := (Bl.set (Bl.set (Bl.set HBb_5.out 0 _) 1 _) 2 _)
  clear HW5 HBa_5 HBb_5
  have nab := Nab.out
  go_wp2_with (fail)
  go_at_call 13
  refine (GH5.out _ (HT.out.below HWsx.out).f).mono ?_
  rintro e w6 ⟨rfl, hb⟩
  clear c0 f0 l0 c1 f1 l1
  have HW6 : Hid (Below w.heap.size w w6) := Below.step HWsx.out hb
  have HBa_6 : Hid (Bl w6 w.heap.size 28 [.int .i64 f.k, .int .i64 f.l, .int .i64 f.d]) := HBa_sx.out.below hb
  have HBb_6 : Hid (Bl w6 w2.heap.size 28 [.int .i64 f.k, .int .i64 f.l, .int .i64 f.d]) := HBb_sx.out.below hb
  clear hb HWsx HBa_sx HBb_sx
  have c0 := HBa_6.out.cell
  have f0 := HBa_6.out.frozen
  have l0 := HBa_6.out.lt
  have c1 := HBb_6.out.cell
  have f1 := HBb_6.out.frozen
  have l1 := HBb_6.out.lt
  have n0c : ¬ (w.heap.size = w6.heap.size) := by omega
  have n1c : ¬ (w2.heap.size = w6.heap.size) := by omega
  have HWac : Hid (Below w.heap.size w (w6.alloc (.cells #[.int .i64 R.k, .int .i64 R.l, .int .i64 R.d] 28))) := Below.alloc HW6.out HW6.out.size _
  have HBa_c : Hid (Bl (w6.alloc (.cells #[.int .i64 R.k, .int .i64 R.l, .int .i64 R.d] 28)) w.heap.size 28 [.int .i64 f.k, .int .i64 f.l, .int .i64 f.d]) := HBa_6.out.below (below_new _ _)
  have HBb_c : Hid (Bl (w6.alloc (.cells #[.int .i64 R.k, .int .i64 R.l, .int .i64 R.d] 28)) w2.heap.size 28 [.int .i64 f.k, .int .i64 f.l, .int .i64 f.d]) := HBb_6.out.below (below_new _ _)
  have HBc_0 : Hid (Bl (w6.alloc (.cells #[.int .i64 R.k, .int .i64 R.l, .int .i64 R.d] 28)) w6.heap.size 28 [.int .i64 R.k, .int .i64 R.l, .int .i64 R.d]) := Bl.new _ _ _
  clear HW6 HBa_6 HBb_6
  go_wp2
  go_ret
  exact ⟨rfl, HWac.out⟩
set_option maxRecDepth 100000 in
set_option maxHeartbeats 2000000 in
theorem words_11_2 (x : Int) (f A : Fa) (a b : Bool) (t V Y : Int) (R : Fa) (r : Bool) (w : World) (hT : TA w)
    (H1 : ∀ w, TF w → Calls Tryd.prog 13 #[.int .u32 x] w fun r w' => r = .returned (.tuple #[.agg #[.int .i64 A.k, .int .i64 A.l, .int .i64 A.d], .bool a, .int .i64 0]) ∧ Below w.heap.size w w')
    (H2 : ∀ w, TF w → Calls Tryd.prog 10 #[.agg #[.int .i64 A.k, .int .i64 A.l, .int .i64 A.d], .bool a] w fun r w' => r = .returned (.tuple #[.int .u32 x, .int .i64 0]) ∧ Below w.heap.size w w') (hA : (A.k == 0) = false)
    (H3 : ∀ w, TF w → Calls Tryd.prog 10 #[.agg #[.int .i64 f.k, .int .i64 f.l, .int .i64 f.d], .bool b] w fun r w' => r = .returned (.tuple #[.int .u32 V, .int .i64 0]) ∧ Below w.heap.size w w')
    (H4 : ∀ w, TF w → Calls Tryd.prog 13 #[.int .u32 V] w fun r w' => r = .returned (.tuple #[.agg #[.int .i64 f.k, .int .i64 f.l, .int .i64 f.d], .bool b, .int .i64 0]) ∧ Below w.heap.size w w')
    (n : Int) (hn : (IntKind.u64.wrap t).tmod 32 = n) (hn0 : 0 ≤ n ∧ n < 32) (hY : bits .xor .u32 V (2 ^ n.toNat) = Y) (hm : 2 ^ n.toNat % 4294967296 = (2 : Int) ^ n.toNat)
    (H5 : ∀ w, TF w → Calls Tryd.prog 13 #[.int .u32 Y] w fun q w' => q = .returned (.tuple #[.agg #[.int .i64 R.k, .int .i64 R.l, .int .i64 R.d], .bool r, .int .i64 0]) ∧ Below w.heap.size w w')
    (hR : R.same f = true) (hr : (r == b) = false)
    : Calls Tryd.prog 5 #[.int .u32 x, .agg #[.int .i64 f.k, .int .i64 f.l, .int .i64 f.d], .bool b, .int .i64 t] w fun e w' => e = .returned (.bool true) ∧ Below w.heap.size w w' := by
  have GH1 : Hid _ := H1
  have GH2 : Hid _ := H2
  have GH3 : Hid _ := H3
  have GH4 : Hid _ := H4
  have GH5 : Hid _ := H5
  clear H1 H2 H3 H4 H5
  have eF := eqF f f
  rw [Fa.same_self] at eF
  have eR := eqF R f
  rw [hR] at eR
  clear hR
  have HT : Hid (TA w) := hT
  have HW0 : Hid (Below w.heap.size w w) := Below.refl _ _
  clear hT
  go_enter Tryd.func5, Tryd.ntmps5
  have HWaa : Hid (Below w.heap.size w (w.alloc (.cells #[.int .i64 f.k, .int .i64 f.l, .int .i64 f.d] 28))) := Below.alloc HW0.out HW0.out.size _
  have HBa_0 : Hid (Bl (w.alloc (.cells #[.int .i64 f.k, .int .i64 f.l, .int .i64 f.d] 28)) w.heap.size 28 [.int .i64 f.k, .int .i64 f.l, .int .i64 f.d]) := Bl.new _ _ _
  clear HW0
  go_wp2_with (fail)
  go_at_call 12
  refine (alive_any _ (HT.out.below HWaa.out)).mono ?_
  rintro e w1 ⟨rfl, hb⟩
  have HW1 : Hid (Below w.heap.size w w1) := Below.step HWaa.out hb
  have HBa_1 : Hid (Bl w1 w.heap.size 28 [.int .i64 f.k, .int .i64 f.l, .int .i64 f.d]) := HBa_0.out.below hb
  clear hb HWaa HBa_0
  have c0 := HBa_1.out.cell
  have f0 := HBa_1.out.frozen
  have l0 := HBa_1.out.lt
  go_wp2_with (fail)
  go_at_call 13
  refine (GH1.out _ (HT.out.below HW1.out).f).mono ?_
  rintro e w2 ⟨rfl, hb⟩
  clear c0 f0 l0
  have HW2 : Hid (Below w.heap.size w w2) := Below.step HW1.out hb
  have HBa_2 : Hid (Bl w2 w.heap.size 28 [.int .i64 f.k, .int .i64 f.l, .int .i64 f.d]) := HBa_1.out.below hb
  clear hb HW1 HBa_1
  have c0 := HBa_2.out.cell
  have f0 := HBa_2.out.frozen
  have l0 := HBa_2.out.lt
  have Geb : Hid (w.heap.size ≤ w2.heap.size) := HW2.out.size
  have Nab : Hid (w.heap.size ≠ w2.heap.size) := by have : w.heap.size < w2.heap.size := l0; exact Nat.ne_of_lt this
  have n0b : ¬ (w.heap.size = w2.heap.size) := by omega
  have HWab : Hid (Below w.heap.size w (w2.alloc (.cells #[.int .i64 A.k, .int .i64 A.l, .int .i64 A.d] 28))) := Below.alloc HW2.out HW2.out.size _
  have HBa_b : Hid (Bl (w2.alloc (.cells #[.int .i64 A.k, .int .i64 A.l, .int .i64 A.d] 28)) w.heap.size 28 [.int .i64 f.k, .int .i64 f.l, .int .i64 f.d]) := HBa_2.out.below (below_new _ _)
  have HBb_0 : Hid (Bl (w2.alloc (.cells #[.int .i64 A.k, .int .i64 A.l, .int .i64 A.d] 28)) w2.heap.size 28 [.int .i64 A.k, .int .i64 A.l, .int .i64 A.d]) := Bl.new _ _ _
  clear HW2 HBa_2
  go_wp2_with (fail)
  go_at_call 10
  refine (GH2.out _ (HT.out.below HWab.out).f).mono ?_
  rintro e w3 ⟨rfl, hb⟩
  clear c0 f0 l0
  have HW3 : Hid (Below w.heap.size w w3) := Below.step HWab.out hb
  have HBa_3 : Hid (Bl w3 w.heap.size 28 [.int .i64 f.k, .int .i64 f.l, .int .i64 f.d]) := HBa_b.out.below hb
  have HBb_3 : Hid (Bl w3 w2.heap.size 28 [.int .i64 A.k, .int .i64 A.l, .int .i64 A.d]) := HBb_0.out.below hb
  clear hb HWab HBa_b HBb_0
  have c0 := HBa_3.out.cell
  have f0 := HBa_3.out.frozen
  have l0 := HBa_3.out.lt
  have c1 := HBb_3.out.cell
  have f1 := HBb_3.out.frozen
  have l1 := HBb_3.out.lt
  go_wp2_with (fail)
  go_at_call 10
  refine (GH3.out _ (HT.out.below HW3.out).f).mono ?_
  rintro e w4 ⟨rfl, hb⟩
  clear c0 f0 l0 c1 f1 l1
  have HW4 : Hid (Below w.heap.size w w4) := Below.step HW3.out hb
  have HBa_4 : Hid (Bl w4 w.heap.size 28 [.int .i64 f.k, .int .i64 f.l, .int .i64 f.d]) := HBa_3.out.below hb
  have HBb_4 : Hid (Bl w4 w2.heap.size 28 [.int .i64 A.k, .int .i64 A.l, .int .i64 A.d]) := HBb_3.out.below hb
  clear hb HW3 HBa_3 HBb_3
  have c0 := HBa_4.out.cell
  have f0 := HBa_4.out.frozen
  have l0 := HBa_4.out.lt
  have c1 := HBb_4.out.cell
  have f1 := HBb_4.out.frozen
  have l1 := HBb_4.out.lt
  go_wp2_with (fail)
  go_at_call 13
  refine (GH4.out _ (HT.out.below HW4.out).f).mono ?_
  rintro e w5 ⟨rfl, hb⟩
  clear c0 f0 l0 c1 f1 l1
  have HW5 : Hid (Below w.heap.size w w5) := Below.step HW4.out hb
  have HBa_5 : Hid (Bl w5 w.heap.size 28 [.int .i64 f.k, .int .i64 f.l, .int .i64 f.d]) := HBa_4.out.below hb
  have HBb_5 : Hid (Bl w5 w2.heap.size 28 [.int .i64 A.k, .int .i64 A.l, .int .i64 A.d]) := HBb_4.out.below hb
  clear hb HW4 HBa_4 HBb_4
  have c0 := HBa_5.out.cell
  have f0 := HBa_5.out.frozen
  have l0 := HBa_5.out.lt
  have c1 := HBb_5.out.cell
  have f1 := HBb_5.out.frozen
  have l1 := HBb_5.out.lt
  have HWsx : Hid (Below w.heap.size w (((w5.setCell ⟨w2.heap.size, 0, none⟩ (.int .i64 f.k)).setCell ⟨w2.heap.size, 1, none⟩ (.int .i64 f.l)).setCell ⟨w2.heap.size, 2, none⟩ (.int .i64 f.d))) := (Below.setCell (Below.setCell (Below.setCell HW5.out Geb.out _) Geb.out _) Geb.out _)
  have HBa_sx : Hid (Bl (((w5.setCell ⟨w2.heap.size, 0, none⟩ (.int .i64 f.k)).setCell ⟨w2.heap.size, 1, none⟩ (.int .i64 f.l)).setCell ⟨w2.heap.size, 2, none⟩ (.int .i64 f.d)) w.heap.size 28 [.int .i64 f.k, .int .i64 f.l, .int .i64 f.d]) := (Bl.set_ne (Bl.set_ne (Bl.set_ne HBa_5.out Nab.out 0 _) Nab.out 1 _) Nab.out 2 _)
  have HBb_sx : Hid (Bl (((w5.setCell ⟨w2.heap.size, 0, none⟩ (.int .i64 f.k)).setCell ⟨w2.heap.size, 1, none⟩ (.int .i64 f.l)).setCell ⟨w2.heap.size, 2, none⟩ (.int .i64 f.d)) w2.heap.size 28 [.int .i64 f.k, .int .i64 f.l, .int .i64 f.d]) := (Bl.set (Bl.set (Bl.set HBb_5.out 0 _) 1 _) 2 _)
  clear HW5 HBa_5 HBb_5
  have nab := Nab.out
  go_wp2_with (fail)
  go_at_call 13
  refine (GH5.out _ (HT.out.below HWsx.out).f).mono ?_
  rintro e w6 ⟨rfl, hb⟩
  clear c0 f0 l0 c1 f1 l1
  have HW6 : Hid (Below w.heap.size w w6) := Below.step HWsx.out hb
  have HBa_6 : Hid (Bl w6 w.heap.size 28 [.int .i64 f.k, .int .i64 f.l, .int .i64 f.d]) := HBa_sx.out.below hb
  have HBb_6 : Hid (Bl w6 w2.heap.size 28 [.int .i64 f.k, .int .i64 f.l, .int .i64 f.d]) := HBb_sx.out.below hb
  clear hb HWsx HBa_sx HBb_sx
  have c0 := HBa_6.out.cell
  have f0 := HBa_6.out.frozen
  have l0 := HBa_6.out.lt
  have c1 := HBb_6.out.cell
  have f1 := HBb_6.out.frozen
  have l1 := HBb_6.out.lt
  have n0c : ¬ (w.heap.size = w6.heap.size) := by omega
  have n1c : ¬ (w2.heap.size = w6.heap.size) := by omega
  have HWac : Hid (Below w.heap.size w (w6.alloc (.cells #[.int .i64 R.k, .int .i64 R.l, .int .i64 R.d] 28))) := Below.alloc HW6.out HW6.out.size _
  have HBa_c : Hid (Bl (w6.alloc (.cells #[.int .i64 R.k, .int .i64 R.l, .int .i64 R.d] 28)) w.heap.size 28 [.int .i64 f.k, .int .i64 f.l, .int .i64 f.d]) := HBa_6.out.below (below_new _ _)
  have HBb_c : Hid (Bl (w6.alloc (.cells #[.int .i64 R.k, .int .i64 R.l, .int .i64 R.d] 28)) w2.heap.size 28 [.int .i64 f.k, .int .i64 f.l, .int .i64 f.d]) := HBb_6.out.below (below_new _ _)
  have HBc_0 : Hid (Bl (w6.alloc (.cells #[.int .i64 R.k, .int .i64 R.l, .int .i64 R.d] 28)) w6.heap.size 28 [.int .i64 R.k, .int .i64 R.l, .int .i64 R.d]) := Bl.new _ _ _
  clear HW6 HBa_6 HBb_6
  go_wp2
  go_ret
  exact ⟨by simp [hr], HWac.out⟩
set_option maxRecDepth 100000 in
set_option maxHeartbeats 2000000 in
theorem words_10 (x : Int) (f A : Fa) (a b : Bool) (t V Y : Int) (R : Fa) (r : Bool) (w : World) (hT : TA w)
    (H1 : ∀ w, TF w → Calls Tryd.prog 13 #[.int .u32 x] w fun r w' => r = .returned (.tuple #[.agg #[.int .i64 A.k, .int .i64 A.l, .int .i64 A.d], .bool a, .int .i64 0]) ∧ Below w.heap.size w w')
    (H2 : ∀ w, TF w → Calls Tryd.prog 10 #[.agg #[.int .i64 A.k, .int .i64 A.l, .int .i64 A.d], .bool a] w fun r w' => r = .returned (.tuple #[.int .u32 x, .int .i64 0]) ∧ Below w.heap.size w w') (hA : (A.k == 0) = false)
    (H3 : ∀ w, TF w → Calls Tryd.prog 10 #[.agg #[.int .i64 f.k, .int .i64 f.l, .int .i64 f.d], .bool b] w fun r w' => r = .returned (.tuple #[.int .u32 0, .int .i64 70]) ∧ Below w.heap.size w w')
    : Calls Tryd.prog 5 #[.int .u32 x, .agg #[.int .i64 f.k, .int .i64 f.l, .int .i64 f.d], .bool b, .int .i64 t] w fun e w' => e = .returned (.bool true) ∧ Below w.heap.size w w' := by
  have GH1 : Hid _ := H1
  have GH2 : Hid _ := H2
  have GH3 : Hid _ := H3
  clear H1 H2 H3
  have eF := eqF f f
  rw [Fa.same_self] at eF
  have HT : Hid (TA w) := hT
  have HW0 : Hid (Below w.heap.size w w) := Below.refl _ _
  clear hT
  go_enter Tryd.func5, Tryd.ntmps5
  have HWaa : Hid (Below w.heap.size w (w.alloc (.cells #[.int .i64 f.k, .int .i64 f.l, .int .i64 f.d] 28))) := Below.alloc HW0.out HW0.out.size _
  have HBa_0 : Hid (Bl (w.alloc (.cells #[.int .i64 f.k, .int .i64 f.l, .int .i64 f.d] 28)) w.heap.size 28 [.int .i64 f.k, .int .i64 f.l, .int .i64 f.d]) := Bl.new _ _ _
  clear HW0
  go_wp2_with (fail)
  go_at_call 12
  refine (alive_any _ (HT.out.below HWaa.out)).mono ?_
  rintro e w1 ⟨rfl, hb⟩
  have HW1 : Hid (Below w.heap.size w w1) := Below.step HWaa.out hb
  have HBa_1 : Hid (Bl w1 w.heap.size 28 [.int .i64 f.k, .int .i64 f.l, .int .i64 f.d]) := HBa_0.out.below hb
  clear hb HWaa HBa_0
  have c0 := HBa_1.out.cell
  have f0 := HBa_1.out.frozen
  have l0 := HBa_1.out.lt
  go_wp2_with (fail)
  go_at_call 13
  refine (GH1.out _ (HT.out.below HW1.out).f).mono ?_
  rintro e w2 ⟨rfl, hb⟩
  clear c0 f0 l0
  have HW2 : Hid (Below w.heap.size w w2) := Below.step HW1.out hb
  have HBa_2 : Hid (Bl w2 w.heap.size 28 [.int .i64 f.k, .int .i64 f.l, .int .i64 f.d]) := HBa_1.out.below hb
  clear hb HW1 HBa_1
  have c0 := HBa_2.out.cell
  have f0 := HBa_2.out.frozen
  have l0 := HBa_2.out.lt
  have Geb : Hid (w.heap.size ≤ w2.heap.size) := HW2.out.size
  have Nab : Hid (w.heap.size ≠ w2.heap.size) := by have : w.heap.size < w2.heap.size := l0; exact Nat.ne_of_lt this
  have n0b : ¬ (w.heap.size = w2.heap.size) := by omega
  have HWab : Hid (Below w.heap.size w (w2.alloc (.cells #[.int .i64 A.k, .int .i64 A.l, .int .i64 A.d] 28))) := Below.alloc HW2.out HW2.out.size _
  have HBa_b : Hid (Bl (w2.alloc (.cells #[.int .i64 A.k, .int .i64 A.l, .int .i64 A.d] 28)) w.heap.size 28 [.int .i64 f.k, .int .i64 f.l, .int .i64 f.d]) := HBa_2.out.below (below_new _ _)
  have HBb_0 : Hid (Bl (w2.alloc (.cells #[.int .i64 A.k, .int .i64 A.l, .int .i64 A.d] 28)) w2.heap.size 28 [.int .i64 A.k, .int .i64 A.l, .int .i64 A.d]) := Bl.new _ _ _
  clear HW2 HBa_2
  go_wp2_with (fail)
  go_at_call 10
  refine (GH2.out _ (HT.out.below HWab.out).f).mono ?_
  rintro e w3 ⟨rfl, hb⟩
  clear c0 f0 l0
  have HW3 : Hid (Below w.heap.size w w3) := Below.step HWab.out hb
  have HBa_3 : Hid (Bl w3 w.heap.size 28 [.int .i64 f.k, .int .i64 f.l, .int .i64 f.d]) := HBa_b.out.below hb
  have HBb_3 : Hid (Bl w3 w2.heap.size 28 [.int .i64 A.k, .int .i64 A.l, .int .i64 A.d]) := HBb_0.out.below hb
  clear hb HWab HBa_b HBb_0
  have c0 := HBa_3.out.cell
  have f0 := HBa_3.out.frozen
  have l0 := HBa_3.out.lt
  have c1 := HBb_3.out.cell
  have f1 := HBb_3.out.frozen
  have l1 := HBb_3.out.lt
  go_wp2_with (fail)
  go_at_call 10
  refine (GH3.out _ (HT.out.below HW3.out).f).mono ?_
  rintro e w4 ⟨rfl, hb⟩
  clear c0 f0 l0 c1 f1 l1
  have HW4 : Hid (Below w.heap.size w w4) := Below.step HW3.out hb
  have HBa_4 : Hid (Bl w4 w.heap.size 28 [.int .i64 f.k, .int .i64 f.l, .int .i64 f.d]) := HBa_3.out.below hb
  have HBb_4 : Hid (Bl w4 w2.heap.size 28 [.int .i64 A.k, .int .i64 A.l, .int .i64 A.d]) := HBb_3.out.below hb
  clear hb HW3 HBa_3 HBb_3
  have c0 := HBa_4.out.cell
  have f0 := HBa_4.out.frozen
  have l0 := HBa_4.out.lt
  have c1 := HBb_4.out.cell
  have f1 := HBb_4.out.frozen
  have l1 := HBb_4.out.lt
  go_wp2
  go_ret
  exact ⟨rfl, HW4.out⟩
set_option maxRecDepth 100000 in
set_option maxHeartbeats 2000000 in
theorem words_01_0 (x : Int) (f A : Fa) (a b : Bool) (t V Y : Int) (R : Fa) (r : Bool) (w : World) (hT : TA w)
    (H1 : ∀ w, TF w → Calls Tryd.prog 13 #[.int .u32 x] w fun r w' => r = .returned (.tuple #[.agg #[.int .i64 0, .int .i64 0, .int .i64 0], .bool false, .int .i64 70]) ∧ Below w.heap.size w w')
    (H3 : ∀ w, TF w → Calls Tryd.prog 10 #[.agg #[.int .i64 f.k, .int .i64 f.l, .int .i64 f.d], .bool b] w fun r w' => r = .returned (.tuple #[.int .u32 V, .int .i64 0]) ∧ Below w.heap.size w w')
    (H4 : ∀ w, TF w → Calls Tryd.prog 13 #[.int .u32 V] w fun r w' => r = .returned (.tuple #[.agg #[.int .i64 f.k, .int .i64 f.l, .int .i64 f.d], .bool b, .int .i64 0]) ∧ Below w.heap.size w w')
    (n : Int) (hn : (IntKind.u64.wrap t).tmod 32 = n) (hn0 : 0 ≤ n ∧ n < 32) (hY : bits .xor .u32 V (2 ^ n.toNat) = Y) (hm : 2 ^ n.toNat % 4294967296 = (2 : Int) ^ n.toNat)
    (H5 : ∀ w, TF w → Calls Tryd.prog 13 #[.int .u32 Y] w fun q w' => q = .returned (.tuple #[.agg #[.int .i64 R.k, .int .i64 R.l, .int .i64 R.d], .bool r, .int .i64 70]) ∧ Below w.heap.size w w')
    : Calls Tryd.prog 5 #[.int .u32 x, .agg #[.int .i64 f.k, .int .i64 f.l, .int .i64 f.d], .bool b, .int .i64 t] w fun e w' => e = .returned (.bool true) ∧ Below w.heap.size w w' := by
  have GH1 : Hid _ := H1
  have GH3 : Hid _ := H3
  have GH4 : Hid _ := H4
  have GH5 : Hid _ := H5
  clear H1 H3 H4 H5
  have eF := eqF f f
  rw [Fa.same_self] at eF
  have eZ := eqF fZ fZ
  rw [Fa.same_self] at eZ
  simp only [fZ] at eZ
  have HT : Hid (TA w) := hT
  have HW0 : Hid (Below w.heap.size w w) := Below.refl _ _
  clear hT
  go_enter Tryd.func5, Tryd.ntmps5
  have HWaa : Hid (Below w.heap.size w (w.alloc (.cells #[.int .i64 f.k, .int .i64 f.l, .int .i64 f.d] 28))) := Below.alloc HW0.out HW0.out.size _
  have HBa_0 : Hid (Bl (w.alloc (.cells #[.int .i64 f.k, .int .i64 f.l, .int .i64 f.d] 28)) w.heap.size 28 [.int .i64 f.k, .int .i64 f.l, .int .i64 f.d]) := Bl.new _ _ _
  clear HW0
  go_wp2_with (fail)
  go_at_call 12
  refine (alive_any _ (HT.out.below HWaa.out)).mono ?_
  rintro e w1 ⟨rfl, hb⟩
  have HW1 : Hid (Below w.heap.size w w1) := Below.step HWaa.out hb
  have HBa_1 : Hid (Bl w1 w.heap.size 28 [.int .i64 f.k, .int .i64 f.l, .int .i64 f.d]) := HBa_0.out.below hb
  clear hb HWaa HBa_0
  have c0 := HBa_1.out.cell
  have f0 := HBa_1.out.frozen
  have l0 := HBa_1.out.lt
  go_wp2_with (fail)
  go_at_call 13
  refine (GH1.out _ (HT.out.below HW1.out).f).mono ?_
  rintro e w2 ⟨rfl, hb⟩
  clear c0 f0 l0
  have HW2 : Hid (Below w.heap.size w w2) := Below.step HW1.out hb
  have HBa_2 : Hid (Bl w2 w.heap.size 28 [.int .i64 f.k, .int .i64 f.l, .int .i64 f.d]) := HBa_1.out.below hb
  clear hb HW1 HBa_1
  have c0 := HBa_2.out.cell
  have f0 := HBa_2.out.frozen
  have l0 := HBa_2.out.lt
  have Geb : Hid (w.heap.size ≤ w2.heap.size) := HW2.out.size
  have Nab : Hid (w.heap.size ≠ w2.heap.size) := by have : w.heap.size < w2.heap.size := l0; exact Nat.ne_of_lt this
  have n0b : ¬ (w.heap.size = w2.heap.size) := by omega
  have HWab : Hid (Below w.heap.size w (w2.alloc (.cells #[.int .i64 0, .int .i64 0, .int .i64 0] 28))) := Below.alloc HW2.out HW2.out.size _
  have HBa_b : Hid (Bl (w2.alloc (.cells #[.int .i64 0, .int .i64 0, .int .i64 0] 28)) w.heap.size 28 [.int .i64 f.k, .int .i64 f.l, .int .i64 f.d]) := HBa_2.out.below (below_new _ _)
  have HBb_0 : Hid (Bl (w2.alloc (.cells #[.int .i64 0, .int .i64 0, .int .i64 0] 28)) w2.heap.size 28 [.int .i64 0, .int .i64 0, .int .i64 0]) := Bl.new _ _ _
  clear HW2 HBa_2
  go_wp2_with (fail)
  go_at_call 10
  refine (GH3.out _ (HT.out.below HWab.out).f).mono ?_
  rintro e w3 ⟨rfl, hb⟩
  clear c0 f0 l0
  have HW3 : Hid (Below w.heap.size w w3) := Below.step HWab.out hb
  have HBa_3 : Hid (Bl w3 w.heap.size 28 [.int .i64 f.k, .int .i64 f.l, .int .i64 f.d]) := HBa_b.out.below hb
  have HBb_3 : Hid (Bl w3 w2.heap.size 28 [.int .i64 0, .int .i64 0, .int .i64 0]) := HBb_0.out.below hb
  clear hb HWab HBa_b HBb_0
  have c0 := HBa_3.out.cell
  have f0 := HBa_3.out.frozen
  have l0 := HBa_3.out.lt
  have c1 := HBb_3.out.cell
  have f1 := HBb_3.out.frozen
  have l1 := HBb_3.out.lt
  go_wp2_with (fail)
  go_at_call 13
  refine (GH4.out _ (HT.out.below HW3.out).f).mono ?_
  rintro e w4 ⟨rfl, hb⟩
  clear c0 f0 l0 c1 f1 l1
  have HW4 : Hid (Below w.heap.size w w4) := Below.step HW3.out hb
  have HBa_4 : Hid (Bl w4 w.heap.size 28 [.int .i64 f.k, .int .i64 f.l, .int .i64 f.d]) := HBa_3.out.below hb
  have HBb_4 : Hid (Bl w4 w2.heap.size 28 [.int .i64 0, .int .i64 0, .int .i64 0]) := HBb_3.out.below hb
  clear hb HW3 HBa_3 HBb_3
  have c0 := HBa_4.out.cell
  have f0 := HBa_4.out.frozen
  have l0 := HBa_4.out.lt
  have c1 := HBb_4.out.cell
  have f1 := HBb_4.out.frozen
  have l1 := HBb_4.out.lt
  have HWsx : Hid (Below w.heap.size w (((w4.setCell ⟨w2.heap.size, 0, none⟩ (.int .i64 f.k)).setCell ⟨w2.heap.size, 1, none⟩ (.int .i64 f.l)).setCell ⟨w2.heap.size, 2, none⟩ (.int .i64 f.d))) := (Below.setCell (Below.setCell (Below.setCell HW4.out Geb.out _) Geb.out _) Geb.out _)
  have HBa_sx : Hid (Bl (((w4.setCell ⟨w2.heap.size, 0, none⟩ (.int .i64 f.k)).setCell ⟨w2.heap.size, 1, none⟩ (.int .i64 f.l)).setCell ⟨w2.heap.size, 2, none⟩ (.int .i64 f.d)) w.heap.size 28 [.int .i64 f.k, .int .i64 f.l, .int .i64 f.d]) := (Bl.set_ne (Bl.set_ne (Bl.set_ne HBa_4.out Nab.out 0 _) Nab.out 1 _) Nab.out 2 _)
  have HBb_sx : Hid (Bl (((w4.setCell ⟨w2.heap.size, 0, none⟩ (.int .i64 f.k)).setCell ⟨w2.heap.size, 1, none⟩ (.int .i64 f.l)).setCell ⟨w2.heap.size, 2, none⟩ (.int .i64 f.d)) w2.heap.size 28 [.int .i64 f.k, .int .i64 f.l, .int .i64 f.d]) := (Bl.set (Bl.set (Bl.set HBb_4.out 0 _) 1 _) 2 _)
  clear HW4 HBa_4 HBb_4
  have nab := Nab.out
  go_wp2_with (fail)
  go_at_call 13
  refine (GH5.out _ (HT.out.below HWsx.out).f).mono ?_
  rintro e w5 ⟨rfl, hb⟩
  clear c0 f0 l0 c1 f1 l1
  have HW5 : Hid (Below w.heap.size w w5) := Below.step HWsx.out hb
  have HBa_5 : Hid (Bl w5 w.heap.size 28 [.int .i64 f.k, .int .i64 f.l, .int .i64 f.d]) := HBa_sx.out.below hb
  have HBb_5 : Hid (Bl w5 w2.heap.size 28 [.int .i64 f.k, .int .i64 f.l, .int .i64 f.d]) := HBb_sx.out.below hb
  clear hb HWsx HBa_sx HBb_sx
  have c0 := HBa_5.out.cell
  have f0 := HBa_5.out.frozen
  have l0 := HBa_5.out.lt
  have c1 := HBb_5.out.cell
  have f1 := HBb_5.out.frozen
  have l1 := HBb_5.out.lt
  have n0c : ¬ (w.heap.size = w5.heap.size) := by omega
  have n1c : ¬ (w2.heap.size = w5.heap.size) := by omega
  have HWac : Hid (Below w.heap.size w (w5.alloc (.cells #[.int .i64 R.k, .int .i64 R.l, .int .i64 R.d] 28))) := Below.alloc HW5.out HW5.out.size _
  have HBa_c : Hid (Bl (w5.alloc (.cells #[.int .i64 R.k, .int .i64 R.l, .int .i64 R.d] 28)) w.heap.size 28 [.int .i64 f.k, .int .i64 f.l, .int .i64 f.d]) := HBa_5.out.below (below_new _ _)
  have HBb_c : Hid (Bl (w5.alloc (.cells #[.int .i64 R.k, .int .i64 R.l, .int .i64 R.d] 28)) w2.heap.size 28 [.int .i64 f.k, .int .i64 f.l, .int .i64 f.d]) := HBb_5.out.below (below_new _ _)
  have HBc_0 : Hid (Bl (w5.alloc (.cells #[.int .i64 R.k, .int .i64 R.l, .int .i64 R.d] 28)) w5.heap.size 28 [.int .i64 R.k, .int .i64 R.l, .int .i64 R.d]) := Bl.new _ _ _
  clear HW5 HBa_5 HBb_5
  go_wp2
  go_ret
  exact ⟨rfl, HWac.out⟩
set_option maxRecDepth 100000 in
set_option maxHeartbeats 2000000 in
theorem words_01_1 (x : Int) (f A : Fa) (a b : Bool) (t V Y : Int) (R : Fa) (r : Bool) (w : World) (hT : TA w)
    (H1 : ∀ w, TF w → Calls Tryd.prog 13 #[.int .u32 x] w fun r w' => r = .returned (.tuple #[.agg #[.int .i64 0, .int .i64 0, .int .i64 0], .bool false, .int .i64 70]) ∧ Below w.heap.size w w')
    (H3 : ∀ w, TF w → Calls Tryd.prog 10 #[.agg #[.int .i64 f.k, .int .i64 f.l, .int .i64 f.d], .bool b] w fun r w' => r = .returned (.tuple #[.int .u32 V, .int .i64 0]) ∧ Below w.heap.size w w')
    (H4 : ∀ w, TF w → Calls Tryd.prog 13 #[.int .u32 V] w fun r w' => r = .returned (.tuple #[.agg #[.int .i64 f.k, .int .i64 f.l, .int .i64 f.d], .bool b, .int .i64 0]) ∧ Below w.heap.size w w')
    (n : Int) (hn : (IntKind.u64.wrap t).tmod 32 = n) (hn0 : 0 ≤ n ∧ n < 32) (hY : bits .xor .u32 V (2 ^ n.toNat) = Y) (hm : 2 ^ n.toNat % 4294967296 = (2 : Int) ^ n.toNat)
    (H5 : ∀ w, TF w → Calls Tryd.prog 13 #[.int .u32 Y] w fun q w' => q = .returned (.tuple #[.agg #[.int .i64 R.k, .int .i64 R.l, .int .i64 R.d], .bool r, .int .i64 0]) ∧ Below w.heap.size w w')
    (hR : R.same f = false)
    : Calls Tryd.prog 5 #[.int .u32 x, .agg #[.int .i64 f.k, .int .i64 f.l, .int .i64 f.d], .bool b, .int .i64 t] w fun e w' => e = .returned (.bool true) ∧ Below w.heap.size w w' := by
  have GH1 : Hid _ := H1
  have GH3 : Hid _ := H3
  have GH4 : Hid _ := H4
  have GH5 : Hid _ := H5
  clear H1 H3 H4 H5
  have eF := eqF f f
  rw [Fa.same_self] at eF
  have eZ := eqF fZ fZ
  rw [Fa.same_self] at eZ
  simp only [fZ] at eZ
  have eR := eqF R f
  rw [hR] at eR
  clear hR
  have HT : Hid (TA w) := hT
  have HW0 : Hid (Below w.heap.size w w) := Below.refl _ _
  clear hT
  go_enter Tryd.func5, Tryd.ntmps5
  have HWaa : Hid (Below w.heap.size w (w.alloc (.cells #[.int .i64 f.k, .int .i64 f.l, .int .i64 f.d] 28))) := Below.alloc HW0.out HW0.out.size _
  have HBa_0 : Hid (Bl (w.alloc (.cells #[.int .i64 f.k, .int .i64 f.l, .int .i64 f.d] 28)) w.heap.size 28 [.int .i64 f.k, .int .i64 f.l, .int .i64 f.d]) := Bl.new _ _ _
  clear HW0
  go_wp2_with (fail)
  go_at_call 12
  refine (alive_any _ (HT.out.below HWaa.out)).mono ?_
  rintro e w1 ⟨rfl, hb⟩
  have HW1 : Hid (Below w.heap.size w w1) := Below.step HWaa.out hb
  have HBa_1 : Hid (Bl w1 w.heap.size 28 [.int .i64 f.k, .int .i64 f.l, .int .i64 f.d]) := HBa_0.out.below hb
  clear hb HWaa HBa_0
  have c0 := HBa_1.out.cell
  have f0 := HBa_1.out.frozen
  have l0 := HBa_1.out.lt
  go_wp2_with (fail)
  go_at_call 13
  refine (GH1.out _ (HT.out.below HW1.out).f).mono ?_
  rintro e w2 ⟨rfl, hb⟩
  clear c0 f0 l0
  have HW2 : Hid (Below w.heap.size w w2) := Below.step HW1.out hb
  have HBa_2 : Hid (Bl w2 w.heap.size 28 [.int .i64 f.k, .int .i64 f.l, .int .i64 f.d]) := HBa_1.out.below hb
  clear hb HW1 HBa_1
  have c0 := HBa_2.out.cell
  have f0 := HBa_2.out.frozen
  have l0 := HBa_2.out.lt
  have Geb : Hid (w.heap.size ≤ w2.heap.size) := HW2.out.size
  have Nab : Hid (w.heap.size ≠ w2.heap.size) := by have : w.heap.size < w2.heap.size := l0; exact Nat.ne_of_lt this
  have n0b : ¬ (w.heap.size = w2.heap.size) := by omega
  have HWab : Hid (Below w.heap.size w (w2.alloc (.cells #[.int .i64 0, .int .i64 0, .int .i64 0] 28))) := Below.alloc HW2.out HW2.out.size _
  have HBa_b : Hid (Bl (w2.alloc (.cells #[.int .i64 0, .int .i64 0, .int .i64 0] 28)) w.heap.size 28 [.int .i64 f.k, .int .i64 f.l, .int .i64 f.d]) := HBa_2.out.below (below_new _ _)
  have HBb_0 : Hid (Bl (w2.alloc (.cells #[.int .i64 0, .int .i64 0, .int .i64 0] 28)) w2.heap.size 28 [.int .i64 0, .int .i64 0, .int .i64 0]) := Bl.new _ _ _
  clear HW2 HBa_2
  go_wp2_with (fail)
  go_at_call 10
  refine (GH3.out _ (HT.out.below HWab.out).f).mono ?_
  rintro e w3 ⟨rfl, hb⟩
  clear c0 f0 l0
  have HW3 : Hid (Below w.heap.size w w3) := Below.step HWab.out hb
  have HBa_3 : Hid (Bl w3 w.heap.size 28 [.int .i64 f.k, .int .i64 f.l, .int .i64 f.d]) := HBa_b.out.below hb
  have HBb_3 : Hid (Bl w3 w2.heap.size 28 [.int .i64 0, .int .i64 0, .int .i64 0]) := HBb_0.out.below hb
  clear hb HWab HBa_b HBb_0
  have c0 := HBa_3.out.cell
  have f0 := HBa_3.out.frozen
  have l0 := HBa_3.out.lt
  have c1 := HBb_3.out.cell
  have f1 := HBb_3.out.frozen
  have l1 := HBb_3.out.lt
  go_wp2_with (fail)
  go_at_call 13
  refine (GH4.out _ (HT.out.below HW3.out).f).mono ?_
  rintro e w4 ⟨rfl, hb⟩
  clear c0 f0 l0 c1 f1 l1
  have HW4 : Hid (Below w.heap.size w w4) := Below.step HW3.out hb
  have HBa_4 : Hid (Bl w4 w.heap.size 28 [.int .i64 f.k, .int .i64 f.l, .int .i64 f.d]) := HBa_3.out.below hb
  have HBb_4 : Hid (Bl w4 w2.heap.size 28 [.int .i64 0, .int .i64 0, .int .i64 0]) := HBb_3.out.below hb
  clear hb HW3 HBa_3 HBb_3
  have c0 := HBa_4.out.cell
  have f0 := HBa_4.out.frozen
  have l0 := HBa_4.out.lt
  have c1 := HBb_4.out.cell
  have f1 := HBb_4.out.frozen
  have l1 := HBb_4.out.lt
  have HWsx : Hid (Below w.heap.size w (((w4.setCell ⟨w2.heap.size, 0, none⟩ (.int .i64 f.k)).setCell ⟨w2.heap.size, 1, none⟩ (.int .i64 f.l)).setCell ⟨w2.heap.size, 2, none⟩ (.int .i64 f.d))) := (Below.setCell (Below.setCell (Below.setCell HW4.out Geb.out _) Geb.out _) Geb.out _)
  have HBa_sx : Hid (Bl (((w4.setCell ⟨w2.heap.size, 0, none⟩ (.int .i64 f.k)).setCell ⟨w2.heap.size, 1, none⟩ (.int .i64 f.l)).setCell ⟨w2.heap.size, 2, none⟩ (.int .i64 f.d)) w.heap.size 28 [.int .i64 f.k, .int .i64 f.l, .int .i64 f.d]) := (Bl.set_ne (Bl.set_ne (Bl.set_ne HBa_4.out Nab.out 0 _) Nab.out 1 _) Nab.out 2 _)
  have HBb_sx : Hid (Bl (((w4.setCell ⟨w2.heap.size, 0, none⟩ (.int .i64 f.k)).setCell ⟨w2.heap.size, 1, none⟩ (.int .i64 f.l)).setCell ⟨w2.heap.size, 2, none⟩ (.int .i64 f.d)) w2.heap.size 28 [.int .i64 f.k, .int .i64 f.l, .int .i64 f.d]) := (Bl.set (Bl.set (Bl.set HBb_4.out 0 _) 1 _) 2 _)
  clear HW4 HBa_4 HBb_4
  have nab := Nab.out
  go_wp2_with (fail)
  go_at_call 13
  refine (GH5.out _ (HT.out.below HWsx.out).f).mono ?_
  rintro e w5 ⟨rfl, hb⟩
  clear c0 f0 l0 c1 f1 l1
  have HW5 : Hid (Below w.heap.size w w5) := Below.step HWsx.out hb
  have HBa_5 : Hid (Bl w5 w.heap.size 28 [.int .i64 f.k, .int .i64 f.l, .int .i64 f.d]) := HBa_sx.out.below hb
  have HBb_5 : Hid (Bl w5 w2.heap.size 28 [.int .i64 f.k, .int .i64 f.l, .int .i64 f.d]) := HBb_sx.out.below hb
  clear hb HWsx HBa_sx HBb_sx
  have c0 := HBa_5.out.cell
  have f0 := HBa_5.out.frozen
  have l0 := HBa_5.out.lt
  have c1 := HBb_5.out.cell
  have f1 := HBb_5.out.frozen
  have l1 := HBb_5.out.lt
  have n0c : ¬ (w.heap.size = w5.heap.size) := by omega
  have n1c : ¬ (w2.heap.size = w5.heap.size) := by omega
  have HWac : Hid (Below w.heap.size w (w5.alloc (.cells #[.int .i64 R.k, .int .i64 R.l, .int .i64 R.d] 28))) := Below.alloc HW5.out HW5.out.size _
  have HBa_c : Hid (Bl (w5.alloc (.cells #[.int .i64 R.k, .int .i64 R.l, .int .i64 R.d] 28)) w.heap.size 28 [.int .i64 f.k, .int .i64 f.l, .int .i64 f.d]) := HBa_5.out.below (below_new _ _)
  have HBb_c : Hid (Bl (w5.alloc (.cells #[.int .i64 R.k, .int .i64 R.l, .int .i64 R.d] 28)) w2.heap.size 28 [.int .i64 f.k, .int .i64 f.l, .int .i64 f.d]) := HBb_5.out.below (below_new _ _)
  have HBc_0 : Hid (Bl (w5.alloc (.cells #[.int .i64 R.k, .int .i64 R.l, .int .i64 R.d] 28)) w5.heap.size 28 [.int .i64 R.k, .int .i64 R.l, .int .i64 R.d]) := Bl.new _ _ _
  clear HW5 HBa_5 HBb_5
  go_wp2
  go_ret
  exact ⟨rfl, HWac.out⟩
set_option maxRecDepth 100000 in
set_option maxHeartbeats 2000000 in
theorem words_01_2 (x : Int) (f A : Fa) (a b : Bool) (t V Y : Int) (R : Fa) (r : Bool) (w : World) (hT : TA w)
    (H1 : ∀ w, TF w → Calls Tryd.prog 13 #[.int .u32 x] w fun r w' => r = .returned (.tuple #[.agg #[.int .i64 0, .int .i64 0, .int .i64 0], .bool false, .int .i64 70]) ∧ Below w.heap.size w w')
    (H3 : ∀ w, TF w → Calls Tryd.prog 10 #[.agg #[.int .i64 f.k, .int .i64 f.l, .int .i64 f.d], .bool b] w fun r w' => r = .returned (.tuple #[.int .u32 V, .int .i64 0]) ∧ Below w.heap.size w w')
    (H4 : ∀ w, TF w → Calls Tryd.prog 13 #[.int .u32 V] w fun r w' => r = .returned (.tuple #[.agg #[.int .i64 f.k, .int .i64 f.l, .int .i64 f.d], .bool b, .int .i64 0]) ∧ Below w.heap.size w w')
    (n : Int) (hn : (IntKind.u64.wrap t).tmod 32 = n) (hn0 : 0 ≤ n ∧ n < 32) (hY : bits .xor .u32 V (2 ^ n.toNat) = Y) (hm : 2 ^ n.toNat % 4294967296 = (2 : Int) ^ n.toNat)
    (H5 : ∀ w, TF w → Calls Tryd.prog 13 #[.int .u32 Y] w fun q w' => q = .returned (.tuple #[.agg #[.int .i64 R.k, .int .i64 R.l, .int .i64 R.d], .bool r, .int .i64 0]) ∧ Below w.heap.size w w')
    (hR : R.same f = true) (hr : (r == b) = false)
    : Calls Tryd.prog 5 #[.int .u32 x, .agg #[.int .i64 f.k, .int .i64 f.l, .int .i64 f.d], .bool b, .int .i64 t] w fun e w' => e = .returned (.bool true) ∧ Below w.heap.size w w' := by
  have GH1 : Hid _ := H1
  have GH3 : Hid _ := H3
  have GH4 : Hid _ := H4
  have GH5 : Hid _ := H5
  clear H1 H3 H4 H5
  have eF := eqF f f
  rw [Fa.same_self] at eF
  have eZ := eqF fZ fZ
  rw [Fa.same_self] at eZ
  simp only [fZ] at eZ
  have eR := eqF R f
  rw [hR] at eR
  clear hR
  have HT : Hid (TA w) := hT
  have HW0 : Hid (Below w.heap.size w w) := Below.refl _ _
  clear hT
  go_enter Tryd.func5, Tryd.ntmps5
  have HWaa : Hid (Below w.heap.size w (w.alloc (.cells #[.int .i64 f.k, .int .i64 f.l, .int .i64 f.d] 28))) := Below.alloc HW0.out HW0.out.size _
  have HBa_0 : Hid (Bl (w.alloc (.cells #[.int .i64 f.k, .int .i64 f.l, .int .i64 f.d] 28)) w.heap.size 28 [.int .i64 f.k, .int .i64 f.l, .int .i64 f.d]) := Bl.new _ _ _
  clear HW0
  go_wp2_with (fail)
  go_at_call 12
  refine (alive_any _ (HT.out.below HWaa.out)).mono ?_
  rintro e w1 ⟨rfl, hb⟩
  have HW1 : Hid (Below w.heap.size w w1) := Below.step HWaa.out hb
  have HBa_1 : Hid (Bl w1 w.heap.size 28 [.int .i64 f.k, .int .i64 f.l, .int .i64 f.d]) := HBa_0.out.below hb
  clear hb HWaa HBa_0
  have c0 := HBa_1.out.cell
  have f0 := HBa_1.out.frozen
  have l0 := HBa_1.out.lt
  go_wp2_with (fail)
  go_at_call 13
  refine (GH1.out _ (HT.out.below HW1.out).f).mono ?_
  rintro e w2 ⟨rfl, hb⟩
  clear c0 f0 l0
  have HW2 : Hid (Below w.heap.size w w2) := Below.step HW1.out hb
  have HBa_2 : Hid (Bl w2 w.heap.size 28 [.int .i64 f.k, .int .i64 f.l, .int .i64 f.d]) := HBa_1.out.below hb
  clear hb HW1 HBa_1
  have c0 := HBa_2.out.cell
  have f0 := HBa_2.out.frozen
  have l0 := HBa_2.out.lt
  have Geb : Hid (w.heap.size ≤ w2.heap.size) := HW2.out.size
  have Nab : Hid (w.heap.size ≠ w2.heap.size) := by have : w.heap.size < w2.heap.size := l0; exact Nat.ne_of_lt this
  have n0b : ¬ (w.heap.size = w2.heap.size) := by omega
  have HWab : Hid (Below w.heap.size w (w2.alloc (.cells #[.int .i64 0, .int .i64 0, .int .i64 0] 28))) := Below.alloc HW2.out HW2.out.size _
  have HBa_b : Hid (Bl (w2.alloc (.cells #[.int .i64 0, .int .i64 0, .int .i64 0] 28)) w.heap.size 28 [.int .i64 f.k, .int .i64 f.l, .int .i64 f.d]) := HBa_2.out.below (below_new _ _)
  have HBb_0 : Hid (Bl (w2.alloc (.cells #[.int .i64 0, .int .i64 0, .int .i64 0] 28)) w2.heap.size 28 [.int .i64 0, .int .i64 0, .int .i64 0]) := Bl.new _ _ _
  clear HW2 HBa_2
  go_wp2_with (fail)
  go_at_call 10
  refine (GH3.out _ (HT.out.below HWab.out).f).mono ?_
  rintro e w3 ⟨rfl, hb⟩
  clear c0 f0 l0
  have HW3 : Hid (Below w.heap.size w w3) := Below.step HWab.out hb
  have HBa_3 : Hid (Bl w3 w.heap.size 28 [.int .i64 f.k, .int .i64 f.l, .int .i64 f.d]) := HBa_b.out.below hb
  have HBb_3 : Hid (Bl w3 w2.heap.size 28 [.int .i64 0, .int .i64 0, .int .i64 0]) := HBb_0.out.below hb
  clear hb HWab HBa_b HBb_0
  have c0 := HBa_3.out.cell
  have f0 := HBa_3.out.frozen
  have l0 := HBa_3.out.lt
  have c1 := HBb_3.out.cell
  have f1 := HBb_3.out.frozen
  have l1 := HBb_3.out.lt
  go_wp2_with (fail)
  go_at_call 13
  refine (GH4.out _ (HT.out.below HW3.out).f).mono ?_
  rintro e w4 ⟨rfl, hb⟩
  clear c0 f0 l0 c1 f1 l1
  have HW4 : Hid (Below w.heap.size w w4) := Below.step HW3.out hb
  have HBa_4 : Hid (Bl w4 w.heap.size 28 [.int .i64 f.k, .int .i64 f.l, .int .i64 f.d]) := HBa_3.out.below hb
  have HBb_4 : Hid (Bl w4 w2.heap.size 28 [.int .i64 0, .int .i64 0, .int .i64 0]) := HBb_3.out.below hb
  clear hb HW3 HBa_3 HBb_3
  have c0 := HBa_4.out.cell
  have f0 := HBa_4.out.frozen
  have l0 := HBa_4.out.lt
  have c1 := HBb_4.out.cell
  have f1 := HBb_4.out.frozen
  have l1 := HBb_4.out.lt
  have HWsx : Hid (Below w.heap.size w (((w4.setCell ⟨w2.heap.size, 0, none⟩ (.int .i64 f.k)).setCell ⟨w2.heap.size, 1, none⟩ (.int .i64 f.l)).setCell ⟨w2.heap.size, 2, none⟩ (.int .i64 f.d))) := (Below.setCell (Below.setCell (Below.setCell HW4.out Geb.out _) Geb.out _) Geb.out _)
  have HBa_sx : Hid (Bl (((w4.setCell ⟨w2.heap.size, 0, none⟩ (.int .i64 f.k)).setCell ⟨w2.heap.size, 1, none⟩ (.int .i64 f.l)).setCell ⟨w2.heap.size, 2, none⟩ (.int .i64 f.d)) w.heap.size 28 [.int .i64 f.k, .int .i64 f.l, .int .i64 f.d]) := (Bl.set_ne (Bl.set_ne (Bl.set_ne HBa_4.out Nab.out 0 _) Nab.out 1 _) Nab.out 2 _)
  have HBb_sx : Hid (Bl (((w4.setCell ⟨w2.heap.size, 0, none⟩ (.int .i64 f.k)).setCell ⟨w2.heap.size, 1, none⟩ (.int .i64 f.l)).setCell ⟨w2.heap.size, 2, none⟩ (.int .i64 f.d)) w2.heap.size 28 [.int .i64 f.k, .int .i64 f.l, .int .i64 f.d]) := (Bl.set (Bl.set (Bl.set HBb_4.out 0 _) 1 _) 2 _)
  clear HW4 HBa_4 HBb_4
  have nab := Nab.out
  go_wp2_with (fail)
  go_at_call 13
  refine (GH5.out _ (HT.out.below HWsx.out).f).mono ?_
  rintro e w5 ⟨rfl, hb⟩
  clear c0 f0 l0 c1 f1 l1
  have HW5 : Hid (Below w.heap.size w w5) := Below.step HWsx.out hb
  have HBa_5 : Hid (Bl w5 w.heap.size 28 [.int .i64 f.k, .int .i64 f.l, .int .i64 f.d]) := HBa_sx.out.below hb
  have HBb_5 : Hid (Bl w5 w2.heap.size 28 [.int .i64 f.k, .int .i64 f.l, .int .i64 f.d]) := HBb_sx.out.below hb
  clear hb HWsx HBa_sx HBb_sx
  have c0 := HBa_5.out.cell
  have f0 := HBa_5.out.frozen
  have l0 := HBa_5.out.lt
  have c1 := HBb_5.out.cell
  have f1 := HBb_5.out.frozen
  have l1 := HBb_5.out.lt
  have n0c : ¬ (w.heap.size = w5.heap.size) := by omega
  have n1c : ¬ (w2.heap.size = w5.heap.size) := by omega
  have HWac : Hid (Below w.heap.size w (w5.alloc (.cells #[.int .i64 R.k, .int .i64 R.l, .int .i64 R.d] 28))) := Below.alloc HW5.out HW5.out.size _
  have HBa_c : Hid (Bl (w5.alloc (.cells #[.int .i64 R.k, .int .i64 R.l, .int .i64 R.d] 28)) w.heap.size 28 [.int .i64 f.k, .int .i64 f.l, .int .i64 f.d]) := HBa_5.out.below (below_new _ _)
  have HBb_c : Hid (Bl (w5.alloc (.cells #[.int .i64 R.k, .int .i64 R.l, .int .i64 R.d] 28)) w2.heap.size 28 [.int .i64 f.k, .int .i64 f.l, .int .i64 f.d]) := HBb_5.out.below (below_new _ _)
  have HBc_0 : Hid (Bl (w5.alloc (.cells #[.int .i64 R.k, .int .i64 R.l, .int .i64 R.d] 28)) w5.heap.size 28 [.int .i64 R.k, .int .i64 R.l, .int .i64 R.d]) := Bl.new _ _ _
  clear HW5 HBa_5 HBb_5
  go_wp2
  go_ret
  exact ⟨by simp [hr], HWac.out⟩
set_option maxRecDepth 100000 in
set_option maxHeartbeats 2000000 in
theorem words_00 (x : Int) (f A : Fa) (a b : Bool) (t V Y : Int) (R : Fa) (r : Bool) (w : World) (hT : TA w)
    (H1 : ∀ w, TF w → Calls Tryd.prog 13 #[.int .u32 x] w fun r w' => r = .returned (.tuple #[.agg #[.int .i64 0, .int .i64 0, .int .i64 0], .bool false, .int .i64 70]) ∧ Below w.heap.size w w')
    (H3 : ∀ w, TF w → Calls Tryd.prog 10 #[.agg #[.int .i64 f.k, .int .i64 f.l, .int .i64 f.d], .bool b] w fun r w' => r = .returned (.tuple #[.int .u32 0, .int .i64 70]) ∧ Below w.heap.size w w')
    : Calls Tryd.prog 5 #[.int .u32 x, .agg #[.int .i64 f.k, .int .i64 f.l, .int .i64 f.d], .bool b, .int .i64 t] w fun e w' => e = .returned (.bool true) ∧ Below w.heap.size w w' := by
  have GH1 : Hid _ := H1
  have GH3 : Hid _ := H3
  clear H1 H3
  have eF := eqF f f
  rw [Fa.same_self] at eF
  have eZ := eqF fZ fZ
  rw [Fa.same_self] at eZ
  simp only [fZ] at eZ
  have HT : Hid (TA w) := hT
  have HW0 : Hid (Below w.heap.size w w) := Below.refl _ _
  clear hT
  go_enter Tryd.func5, Tryd.ntmps5
  have HWaa : Hid (Below w.heap.size w (w.alloc (.cells #[.int .i64 f.k, .int .i64 f.l, .int .i64 f.d] 28))) := Below.alloc HW0.out HW0.out.size _
  have HBa_0 : Hid (Bl (w.alloc (.cells #[.int .i64 f.k, .int .i64 f.l, .int .i64 f.d] 28)) w.heap.size 28 [.int .i64 f.k, .int .i64 f.l, .int .i64 f.d]) := Bl.new _ _ _
  clear HW0
  go_wp2_with (fail)
  go_at_call 12
  refine (alive_any _ (HT.out.below HWaa.out)).mono ?_
  rintro e w1 ⟨rfl, hb⟩
  have HW1 : Hid (Below w.heap.size w w1) := Below.step HWaa.out hb
  have HBa_1 : Hid (Bl w1 w.heap.size 28 [.int .i64 f.k, .int .i64 f.l, .int .i64 f.d]) := HBa_0.out.below hb
  clear hb HWaa HBa_0
  have c0 := HBa_1.out.cell
  have f0 := HBa_1.out.frozen
  have l0 := HBa_1.out.lt
  go_wp2_with (fail)
  go_at_call 13
  refine (GH1.out _ (HT.out.below HW1.out).f).mono ?_
  rintro e w2 ⟨rfl, hb⟩
  clear c0 f0 l0
  have HW2 : Hid (Below w.heap.size w w2) := Below.step HW1.out hb
  have HBa_2 : Hid (Bl w2 w.heap.size 28 [.int .i64 f.k, .int .i64 f.l, .int .i64 f.d]) := HBa_1.out.below hb
  clear hb HW1 HBa_1
  have c0 := HBa_2.out.cell
  have f0 := HBa_2.out.frozen
  have l0 := HBa_2.out.lt
  have Geb : Hid (w.heap.size ≤ w2.heap.size) := HW2.out.size
  have Nab : Hid (w.heap.size ≠ w2.heap.size) := by have : w.heap.size < w2.heap.size := l0; exact Nat.ne_of_lt this
  have n0b : ¬ (w.heap.size = w2.heap.size) := by omega
  have HWab : Hid (Below w.heap.size w (w2.alloc (.cells #[.int .i64 0, .int .i64 0, .int .i64 0] 28))) := Below.alloc HW2.out HW2.out.size _
  have HBa_b : Hid (Bl (w2.alloc (.cells #[.int .i64 0, .int .i64 0, .int .i64 0] 28)) w.heap.size 28 [.int .i64 f.k, .int .i64 f.l, .int .i64 f.d]) := HBa_2.out.below (below_new _ _)
  have HBb_0 : Hid (Bl (w2.alloc (.cells #[.int .i64 0, .int .i64 0, .int .i64 0] 28)) w2.heap.size 28 [.int .i64 0, .int .i64 0, .int .i64 0]) := Bl.new _ _ _
  clear HW2 HBa_2
  go_wp2_with (fail)
  go_at_call 10
  refine (GH3.out _ (HT.out.below HWab.out).f).mono ?_
  rintro e w3 ⟨rfl, hb⟩
  clear c0 f0 l0
  have HW3 : Hid (Below w.heap.size w w3) := Below.step HWab.out hb
  have HBa_3 : Hid (Bl w3 w.heap.size 28 [.int .i64 f.k, .int .i64 f.l, .int .i64 f.d]) := HBa_b.out.below hb
  have HBb_3 : Hid (Bl w3 w2.heap.size 28 [.int .i64 0, .int .i64 0, .int .i64 0]) := HBb_0.out.below hb
  clear hb HWab HBa_b HBb_0
  have c0 := HBa_3.out.cell
  have f0 := HBa_3.out.frozen
  have l0 := HBa_3.out.lt
  have c1 := HBb_3.out.cell
  have f1 := HBb_3.out.frozen
  have l1 := HBb_3.out.lt
  go_wp2
  go_ret
  exact ⟨rfl, HW3.out⟩
theorem law_words (x : Int) (f : Fa) (b : Bool) (t : Int) (w : World) (hT : TA w) (hx : 0 ≤ x ∧ x < 4294967296) (ht : -9223372036854775808 ≤ t ∧ t < 9223372036854775808) : Calls Tryd.prog 5 #[.int .u32 x, .agg #[.int .i64 f.k, .int .i64 f.l, .int .i64 f.d], .bool b, .int .i64 t] w fun e w' => e = .returned (.bool true) ∧ Below w.heap.size w w' := by
  have hu : 0 ≤ IntKind.u64.wrap t := by rw [IntKind.wrap_u64]; omega
  obtain ⟨n, hn⟩ : ∃ n, (IntKind.u64.wrap t).tmod 32 = n := ⟨_, rfl⟩
  have hn0 : 0 ≤ n ∧ n < 32 := by
    rw [← hn, Int.tmod_eq_emod_of_nonneg hu]
    omega
  have hm : 2 ^ n.toNat % 4294967296 = (2 : Int) ^ n.toNat := by
    have h1 : 2 ^ n.toNat < 2 ^ 32 := Nat.pow_lt_pow_right (by omega) (by omega)
    have h2 : ((2 ^ n.toNat : Nat) : Int) < 4294967296 := by omega
    rw [pow_nat] at h2
    exact Int.emod_eq_of_lt (Int.le_of_lt (pow_pos _)) h2
  have H1 := fun w hw => faultP_any x w hw hx
  have H3 := fun w hw => status_any f b w hw
  have key : rtF f = true → ∃ (V Y : Int) (R : Fa) (r : Bool), (∀ w, TF w → Calls Tryd.prog 10 #[.agg #[.int .i64 f.k, .int .i64 f.l, .int .i64 f.d], .bool b] w fun r w' => r = .returned (.tuple #[.int .u32 V, .int .i64 0]) ∧ Below w.heap.size w w')
      ∧ (∀ w, TF w → Calls Tryd.prog 13 #[.int .u32 V] w fun r w' => r = .returned (.tuple #[.agg #[.int .i64 f.k, .int .i64 f.l, .int .i64 f.d], .bool b, .int .i64 0]) ∧ Below w.heap.size w w')
      ∧ bits .xor .u32 V (2 ^ n.toNat) = Y
      ∧ (((∀ w, TF w → Calls Tryd.prog 13 #[.int .u32 Y] w fun q w' => q = .returned (.tuple #[.agg #[.int .i64 R.k, .int .i64 R.l, .int .i64 R.d], .bool r, .int .i64 70]) ∧ Below w.heap.size w w'))
        ∨ ((∀ w, TF w → Calls Tryd.prog 13 #[.int .u32 Y] w fun q w' => q = .returned (.tuple #[.agg #[.int .i64 R.k, .int .i64 R.l, .int .i64 R.d], .bool r, .int .i64 0]) ∧ Below w.heap.size w w') ∧ (R.same f = false ∨ (R.same f = true ∧ (r == b) = false)))) := by
    intro hr
    obtain ⟨Y, hY, hy, hne⟩ := turned (b := b) hr n.toNat (by omega)
    obtain ⟨e1, e2, e3⟩ := fault_of b hr
    obtain ⟨_, _, _, h1, h2, _⟩ := st_fa b hr
    refine ⟨stW f b, Y, fF Y, fB Y, fun w hw => ?_, fun w hw => ?_, hY, ?_⟩
    · have := H3 w hw
      simpa [stF, hr] using this
    · have := faultP_any (stW f b) w hw (by omega)
      rwa [e1, e2, e3] at this
    · have H5 := fun w hw => faultP_any Y w hw hy
      rcases fE_cases Y with ⟨q1, q2, q3, q4⟩ | ⟨q1, q2, q3, q4⟩
      · right
        rw [q1] at H5
        refine ⟨H5, ?_⟩
        cases hs : (fF Y).same f with
        | false => exact Or.inl rfl
        | true =>
          right
          refine ⟨rfl, ?_⟩
          have hs2 := (Fa.same_iff _ _).1 hs
          cases hb : (fB Y == b) with
          | false => rfl
          | true =>
            exfalso
            have hb2 : fB Y = b := by simpa using hb
            rw [hs2, hb2] at q3
            exact hne q3.symm
      · left
        rw [q1] at H5
        exact H5
  have HN : rtF f = false → (∀ w, TF w → Calls Tryd.prog 10 #[.agg #[.int .i64 f.k, .int .i64 f.l, .int .i64 f.d], .bool b] w fun r w' => r = .returned (.tuple #[.int .u32 0, .int .i64 70]) ∧ Below w.heap.size w w') := fun hr w hw => by
    have := H3 w hw
    simpa [stF, hr] using this
  rcases fE_cases x with ⟨q1, q2, q3, q4⟩ | ⟨q1, q2, q3, q4⟩
  · rw [q1] at H1
    have H2 : ∀ w, TF w → Calls Tryd.prog 10 #[.agg #[.int .i64 (fF x).k, .int .i64 (fF x).l, .int .i64 (fF x).d], .bool (fB x)] w fun r w' => r = .returned (.tuple #[.int .u32 x, .int .i64 0]) ∧ Below w.heap.size w w' := fun w hw => by
      have := status_any (fF x) (fB x) w hw
      simpa [stF, q2, q3] using this
    have hA : ((fF x).k == 0) = false := by simp; omega
    cases hr : rtF f with
    | true =>
      obtain ⟨V, Y, R, r, g1, g2, g3, g4 | ⟨g4, g5 | ⟨g5, g6⟩⟩⟩ := key hr
      · exact words_11_0 x f _ _ b t V Y R r w hT H1 H2 hA g1 g2 n hn hn0 g3 hm g4
      · exact words_11_1 x f _ _ b t V Y R r w hT H1 H2 hA g1 g2 n hn hn0 g3 hm g4 g5
      · exact words_11_2 x f _ _ b t V Y R r w hT H1 H2 hA g1 g2 n hn hn0 g3 hm g4 g5 g6
    | false => exact words_10 x f _ _ b t 0 0 fZ false w hT H1 H2 hA (HN hr)
  · rw [q1, q2, q3] at H1
    cases hr : rtF f with
    | true =>
      obtain ⟨V, Y, R, r, g1, g2, g3, g4 | ⟨g4, g5 | ⟨g5, g6⟩⟩⟩ := key hr
      · exact words_01_0 x f fZ false b t V Y R r w hT H1 g1 g2 n hn hn0 g3 hm g4
      · exact words_01_1 x f fZ false b t V Y R r w hT H1 g1 g2 n hn hn0 g3 hm g4 g5
      · exact words_01_2 x f fZ false b t V Y R r w hT H1 g1 g2 n hn hn0 g3 hm g4 g5 g6
    | false => exact words_00 x f fZ false b t 0 0 fZ false w hT H1 (HN hr)
end Go.Proofs.YtmmocnejacflmaaDoor
