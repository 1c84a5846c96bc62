import Derived.Test.YtdelcknpaldngaaLx
namespace Go.Proofs.Ytdelcknpaldngaa
open Go.RowKit
set_option linter.unusedVariables false
set_option linter.unusedSimpArgs false
set_option maxRecDepth 100000 in
set_option maxHeartbeats 8000000 in
theorem law_bysums (a b : Int) (sh : Bool) (f : Fl) (w : World) (a0 : 0 ≤ a) (a1 : a < 4294967296) (b0 : 0 ≤ b) (b1 : b < 4294967296) :
    Calls Try.prog 6 #[.int .u32 a, .int .u32 b, .bool sh, .agg #[.bool f.n, .bool f.z, .bool f.c, .bool f.v]] w fun e w' => e = .returned (.bool true) ∧ Below w.heap.size w w' := by
  have na := nt_range a a0 a1
  have nb := nt_range b b0 b1
  have H4 : Hid (∀ w, Calls Try.prog 9 #[.int .i64 4, .int .u32 a, .int .u32 b, .bool sh, .agg #[.bool f.n, .bool f.z, .bool f.c, .bool f.v]] w fun e w' => e = .returned (.tuple #[.int .u32 (suW (nt a) b true), .bool true, .agg #[.bool (suF (nt a) b true).n, .bool (suF (nt a) b true).z, .bool (suF (nt a) b true).c, .bool (suF (nt a) b true).v]]) ∧ Below w.heap.size w w') := fun w => by
    have := gdo_any 4 a b sh f w (by omega) (by omega) (by omega) (by omega)
    exact this
  have H3 : Hid (∀ w, Calls Try.prog 9 #[.int .i64 3, .int .u32 b, .int .u32 a, .bool sh, .agg #[.bool f.n, .bool f.z, .bool f.c, .bool f.v]] w fun e w' => e = .returned (.tuple #[.int .u32 (suW (nt a) b true), .bool true, .agg #[.bool (suF (nt a) b true).n, .bool (suF (nt a) b true).z, .bool (suF (nt a) b true).c, .bool (suF (nt a) b true).v]]) ∧ Below w.heap.size w w') := fun w => by
    have := gdo_any 3 b a sh f w (by omega) (by omega) (by omega) (by omega)
    rwa [show dxW 3 b a f = suW (nt a) b true from suW_comm _ _ _, show dxF 3 b a sh f = suF (nt a) b true from suF_comm _ _ _] at this
  have H16 : Hid (∃ F : Fl, ∀ w, Calls Try.prog 9 #[.int .i64 16, .int .u32 a, .int .u32 b, .bool sh, .agg #[.bool f.n, .bool f.z, .bool f.c, .bool f.v]] w fun e w' => e = .returned (.tuple #[.int .u32 (nt b), .bool true, .agg #[.bool F.n, .bool F.z, .bool F.c, .bool F.v]]) ∧ Below w.heap.size w w') := ⟨dxF 16 a b sh f, fun w => by
    have := gdo_any 16 a b sh f w (by omega) (by omega) (by omega) (by omega)
    exact this⟩
  have H2 : Hid (∃ F : Fl, ∀ w, Calls Try.prog 9 #[.int .i64 2, .int .u32 b, .int .u32 4294967295, .bool sh, .agg #[.bool f.n, .bool f.z, .bool f.c, .bool f.v]] w fun e w' => e = .returned (.tuple #[.int .u32 (nt b), .bool true, .agg #[.bool F.n, .bool F.z, .bool F.c, .bool F.v]]) ∧ Below w.heap.size w w') := ⟨dxF 2 b 4294967295 sh f, fun w => by
    have := gdo_any 2 b 4294967295 sh f w (by omega) (by omega) (by omega) (by omega)
    rwa [show dxW 2 b 4294967295 f = nt b from xor_ones b b0 b1] at this⟩
  have H15 : Hid (∀ w, Calls Try.prog 9 #[.int .i64 15, .int .u32 a, .int .u32 b, .bool sh, .agg #[.bool f.n, .bool f.z, .bool f.c, .bool f.v]] w fun e w' => e = .returned (.tuple #[.int .u32 (bits .andNot .u32 a b), .bool true, .agg #[.bool ((⟨decide (2147483648 ≤ bits .andNot .u32 a b), bits .andNot .u32 a b == 0, sh, f.v⟩ : Fl)).n, .bool ((⟨decide (2147483648 ≤ bits .andNot .u32 a b), bits .andNot .u32 a b == 0, sh, f.v⟩ : Fl)).z, .bool ((⟨decide (2147483648 ≤ bits .andNot .u32 a b), bits .andNot .u32 a b == 0, sh, f.v⟩ : Fl)).c, .bool ((⟨decide (2147483648 ≤ bits .andNot .u32 a b), bits .andNot .u32 a b == 0, sh, f.v⟩ : Fl)).v]]) ∧ Below w.heap.size w w') := fun w => by
    have := gdo_any 15 a b sh f w (by omega) (by omega) (by omega) (by omega)
    exact this
  have H1 : Hid (∀ w, Calls Try.prog 9 #[.int .i64 1, .int .u32 a, .int .u32 (nt b), .bool sh, .agg #[.bool f.n, .bool f.z, .bool f.c, .bool f.v]] w fun e w' => e = .returned (.tuple #[.int .u32 (bits .andNot .u32 a b), .bool true, .agg #[.bool ((⟨decide (2147483648 ≤ bits .andNot .u32 a b), bits .andNot .u32 a b == 0, sh, f.v⟩ : Fl)).n, .bool ((⟨decide (2147483648 ≤ bits .andNot .u32 a b), bits .andNot .u32 a b == 0, sh, f.v⟩ : Fl)).z, .bool ((⟨decide (2147483648 ≤ bits .andNot .u32 a b), bits .andNot .u32 a b == 0, sh, f.v⟩ : Fl)).c, .bool ((⟨decide (2147483648 ≤ bits .andNot .u32 a b), bits .andNot .u32 a b == 0, sh, f.v⟩ : Fl)).v]]) ∧ Below w.heap.size w w') := fun w => by
    have := gdo_any 1 a (nt b) sh f w (by omega) (by omega) (by omega) (by omega)
    rwa [show dxW 1 a (nt b) f = bits .andNot .u32 a b from and_nt a b a0 a1 b0 b1, show dxF 1 a (nt b) sh f = (⟨decide (2147483648 ≤ bits .andNot .u32 a b), bits .andNot .u32 a b == 0, sh, f.v⟩ : Fl) from by show (⟨decide (2147483648 ≤ bits .and .u32 a (nt b)), bits .and .u32 a (nt b) == 0, sh, f.v⟩ : Fl) = _; rw [and_nt a b a0 a1 b0 b1]] at this
  have H9 : Hid (∀ w, Calls Try.prog 9 #[.int .i64 9, .int .u32 a, .int .u32 (nt b), .bool sh, .agg #[.bool f.n, .bool f.z, .bool f.c, .bool f.v]] w fun e w' => e = .returned (.tuple #[.int .u32 (bits .andNot .u32 a b), .bool false, .agg #[.bool ((⟨decide (2147483648 ≤ bits .andNot .u32 a b), bits .andNot .u32 a b == 0, sh, f.v⟩ : Fl)).n, .bool ((⟨decide (2147483648 ≤ bits .andNot .u32 a b), bits .andNot .u32 a b == 0, sh, f.v⟩ : Fl)).z, .bool ((⟨decide (2147483648 ≤ bits .andNot .u32 a b), bits .andNot .u32 a b == 0, sh, f.v⟩ : Fl)).c, .bool ((⟨decide (2147483648 ≤ bits .andNot .u32 a b), bits .andNot .u32 a b == 0, sh, f.v⟩ : Fl)).v]]) ∧ Below w.heap.size w w') := fun w => by
    have := gdo_any 9 a (nt b) sh f w (by omega) (by omega) (by omega) (by omega)
    rwa [show dxW 9 a (nt b) f = bits .andNot .u32 a b from and_nt a b a0 a1 b0 b1, show dxF 9 a (nt b) sh f = (⟨decide (2147483648 ≤ bits .andNot .u32 a b), bits .andNot .u32 a b == 0, sh, f.v⟩ : Fl) from by show (⟨decide (2147483648 ≤ bits .and .u32 a (nt b)), bits .and .u32 a (nt b) == 0, sh, f.v⟩ : Fl) = _; rw [and_nt a b a0 a1 b0 b1]] at this
  have H8 : Hid (∀ w, Calls Try.prog 9 #[.int .i64 8, .int .u32 a, .int .u32 b, .bool sh, .agg #[.bool f.n, .bool f.z, .bool f.c, .bool f.v]] w fun e w' => e = .returned (.tuple #[.int .u32 (suW (nt a) b f.c), .bool true, .agg #[.bool (suF (nt a) b f.c).n, .bool (suF (nt a) b f.c).z, .bool (suF (nt a) b f.c).c, .bool (suF (nt a) b f.c).v]]) ∧ Below w.heap.size w w') := fun w => by
    have := gdo_any 8 a b sh f w (by omega) (by omega) (by omega) (by omega)
    exact this
  have H7 : Hid (∀ w, Calls Try.prog 9 #[.int .i64 7, .int .u32 b, .int .u32 a, .bool sh, .agg #[.bool f.n, .bool f.z, .bool f.c, .bool f.v]] w fun e w' => e = .returned (.tuple #[.int .u32 (suW (nt a) b f.c), .bool true, .agg #[.bool (suF (nt a) b f.c).n, .bool (suF (nt a) b f.c).z, .bool (suF (nt a) b f.c).c, .bool (suF (nt a) b f.c).v]]) ∧ Below w.heap.size w w') := fun w => by
    have := gdo_any 7 b a sh f w (by omega) (by omega) (by omega) (by omega)
    rwa [show dxW 7 b a f = suW (nt a) b f.c from suW_comm _ _ _, show dxF 7 b a sh f = suF (nt a) b f.c from suF_comm _ _ _] at this
  have HL : Hid (∀ w, Calls Try.prog 10 #[] w fun e w' => e = .returned (.bool true) ∧ Below w.heap.size w w') := live_any
  have hnb := xor_nt b b0 b1
  have HEG : ∀ w, (Op.equalIn 10000 24 (.agg #[.bool (suF (nt a) b true).n, .bool (suF (nt a) b true).z, .bool (suF (nt a) b true).c, .bool (suF (nt a) b true).v]) (.agg #[.bool (suF (nt a) b true).n, .bool (suF (nt a) b true).z, .bool (suF (nt a) b true).c, .bool (suF (nt a) b true).v])).run Try.prog w = .ok true w := fun w => by rw [eqFl, Fl.same_self]
  have HEI : ∀ w, (Op.equalIn 10000 24 (.agg #[.bool ((⟨decide (2147483648 ≤ bits .andNot .u32 a b), bits .andNot .u32 a b == 0, sh, f.v⟩ : Fl)).n, .bool ((⟨decide (2147483648 ≤ bits .andNot .u32 a b), bits .andNot .u32 a b == 0, sh, f.v⟩ : Fl)).z, .bool ((⟨decide (2147483648 ≤ bits .andNot .u32 a b), bits .andNot .u32 a b == 0, sh, f.v⟩ : Fl)).c, .bool ((⟨decide (2147483648 ≤ bits .andNot .u32 a b), bits .andNot .u32 a b == 0, sh, f.v⟩ : Fl)).v]) (.agg #[.bool ((⟨decide (2147483648 ≤ bits .andNot .u32 a b), bits .andNot .u32 a b == 0, sh, f.v⟩ : Fl)).n, .bool ((⟨decide (2147483648 ≤ bits .andNot .u32 a b), bits .andNot .u32 a b == 0, sh, f.v⟩ : Fl)).z, .bool ((⟨decide (2147483648 ≤ bits .andNot .u32 a b), bits .andNot .u32 a b == 0, sh, f.v⟩ : Fl)).c, .bool ((⟨decide (2147483648 ≤ bits .andNot .u32 a b), bits .andNot .u32 a b == 0, sh, f.v⟩ : Fl)).v])).run Try.prog w = .ok true w := fun w => by rw [eqFl, Fl.same_self]
  have HEO : ∀ w, (Op.equalIn 10000 24 (.agg #[.bool (suF (nt a) b f.c).n, .bool (suF (nt a) b f.c).z, .bool (suF (nt a) b f.c).c, .bool (suF (nt a) b f.c).v]) (.agg #[.bool (suF (nt a) b f.c).n, .bool (suF (nt a) b f.c).z, .bool (suF (nt a) b f.c).c, .bool (suF (nt a) b f.c).v])).run Try.prog w = .ok true w := fun w => by rw [eqFl, Fl.same_self]
  have HK : Hid (∀ wn, Below (w.alloc (.cells #[.bool f.n, .bool f.z, .bool f.c, .bool f.v] 24)).heap.size (w.alloc (.cells #[.bool f.n, .bool f.z, .bool f.c, .bool f.v] 24)) wn → Bxs wn [(w.heap.size, f)] ∧ Below w.heap.size w wn) := fun wn hb => by
    have h0 : Bxs w [] := fun p hp => absurd hp (by simp)
    exact ⟨(h0.push f).below hb, Below.step (below_new _ _) hb⟩
  generalize suF (nt a) b true = G at *
  generalize (⟨decide (2147483648 ≤ bits .andNot .u32 a b), bits .andNot .u32 a b == 0, sh, f.v⟩ : Fl) = I at *
  generalize suF (nt a) b f.c = O at *
  generalize suW (nt a) b true = X at *
  generalize bits .andNot .u32 a b = Y at *
  generalize suW (nt a) b f.c = Z at *
  obtain ⟨F16, H16⟩ := H16
  obtain ⟨F2, H2⟩ := H2
  have H16 : Hid _ := H16
  have H2 : Hid _ := H2
  obtain ⟨fn, fz, fc, fv⟩ := f
  simp only at *
  clear a0 a1 b0 b1 na nb
  go_enter Try.func6, Try.ntmps6
  go_wp2_with (first
    | (go_at_call_of 9 (Value.int IntKind.i64 4); refine (H4.out _).mono ?_; rintro e w1 ⟨rfl, hb⟩; have KX := (HK.out _ hb).1; have HB : Hid (Below w.heap.size w w1) := (HK.out _ hb).2; have KX : Hid (Bxs w1 [(w.heap.size, ⟨fn, fz, fc, fv⟩)]) := KX; clear hb; obtain ⟨c0, c1, c2, c3⟩ := (KX.out.push G).at w.heap.size ⟨fn, fz, fc, fv⟩ (by simp))
    | (go_at_call_of 9 (Value.int IntKind.i64 3); refine (H3.out _).mono ?_; rintro e w2 ⟨rfl, hb⟩; have KX : Hid (Bxs w2 ((w1.heap.size, G) :: [(w.heap.size, ⟨fn, fz, fc, fv⟩)])) := (KX.out.push G).below hb; have HB : Hid (Below w.heap.size w w2) := Below.step (Below.step HB.out (below_new _ _)) hb; clear c0 c1 c2 c3; clear hb; obtain ⟨c0, c1, c2, c3⟩ := (KX.out.push G).at w.heap.size ⟨fn, fz, fc, fv⟩ (by simp))
    | (go_at_call_of 9 (Value.int IntKind.i64 16); refine (H16.out _).mono ?_; rintro e w3 ⟨rfl, hb⟩; have KX : Hid (Bxs w3 ((w2.heap.size, G) :: (w1.heap.size, G) :: [(w.heap.size, ⟨fn, fz, fc, fv⟩)])) := (KX.out.push G).below hb; have HB : Hid (Below w.heap.size w w3) := Below.step (Below.step HB.out (below_new _ _)) hb; clear c0 c1 c2 c3; clear hb; obtain ⟨c0, c1, c2, c3⟩ := (KX.out.push F16).at w.heap.size ⟨fn, fz, fc, fv⟩ (by simp))
    | (go_at_call_of 9 (Value.int IntKind.i64 2); refine (H2.out _).mono ?_; rintro e w4 ⟨rfl, hb⟩; have KX : Hid (Bxs w4 ((w3.heap.size, F16) :: (w2.heap.size, G) :: (w1.heap.size, G) :: [(w.heap.size, ⟨fn, fz, fc, fv⟩)])) := (KX.out.push F16).below hb; have HB : Hid (Below w.heap.size w w4) := Below.step (Below.step HB.out (below_new _ _)) hb; clear c0 c1 c2 c3; clear hb; obtain ⟨c0, c1, c2, c3⟩ := (KX.out.push F2).at w.heap.size ⟨fn, fz, fc, fv⟩ (by simp))
    | (go_at_call_of 9 (Value.int IntKind.i64 15); refine (H15.out _).mono ?_; rintro e w5 ⟨rfl, hb⟩; have KX : Hid (Bxs w5 ((w4.heap.size, F2) :: (w3.heap.size, F16) :: (w2.heap.size, G) :: (w1.heap.size, G) :: [(w.heap.size, ⟨fn, fz, fc, fv⟩)])) := (KX.out.push F2).below hb; have HB : Hid (Below w.heap.size w w5) := Below.step (Below.step HB.out (below_new _ _)) hb; clear c0 c1 c2 c3; clear hb; obtain ⟨c0, c1, c2, c3⟩ := (KX.out.push I).at w.heap.size ⟨fn, fz, fc, fv⟩ (by simp))
    | (go_at_call_of 9 (Value.int IntKind.i64 1); refine (H1.out _).mono ?_; rintro e w6 ⟨rfl, hb⟩; have KX : Hid (Bxs w6 ((w5.heap.size, I) :: (w4.heap.size, F2) :: (w3.heap.size, F16) :: (w2.heap.size, G) :: (w1.heap.size, G) :: [(w.heap.size, ⟨fn, fz, fc, fv⟩)])) := (KX.out.push I).below hb; have HB : Hid (Below w.heap.size w w6) := Below.step (Below.step HB.out (below_new _ _)) hb; clear c0 c1 c2 c3; clear hb; obtain ⟨c0, c1, c2, c3⟩ := (KX.out.push I).at w.heap.size ⟨fn, fz, fc, fv⟩ (by simp))
    | (go_at_call_of 9 (Value.int IntKind.i64 9); refine (H9.out _).mono ?_; rintro e w7 ⟨rfl, hb⟩; have KX : Hid (Bxs w7 ((w6.heap.size, I) :: (w5.heap.size, I) :: (w4.heap.size, F2) :: (w3.heap.size, F16) :: (w2.heap.size, G) :: (w1.heap.size, G) :: [(w.heap.size, ⟨fn, fz, fc, fv⟩)])) := (KX.out.push I).below hb; have HB : Hid (Below w.heap.size w w7) := Below.step (Below.step HB.out (below_new _ _)) hb; clear c0 c1 c2 c3; clear hb; obtain ⟨c0, c1, c2, c3⟩ := (KX.out.push I).at w.heap.size ⟨fn, fz, fc, fv⟩ (by simp))
    | (go_at_call_of 9 (Value.int IntKind.i64 8); refine (H8.out _).mono ?_; rintro e w8 ⟨rfl, hb⟩; have KX : Hid (Bxs w8 ((w7.heap.size, I) :: (w6.heap.size, I) :: (w5.heap.size, I) :: (w4.heap.size, F2) :: (w3.heap.size, F16) :: (w2.heap.size, G) :: (w1.heap.size, G) :: [(w.heap.size, ⟨fn, fz, fc, fv⟩)])) := (KX.out.push I).below hb; have HB : Hid (Below w.heap.size w w8) := Below.step (Below.step HB.out (below_new _ _)) hb; clear c0 c1 c2 c3; clear hb; obtain ⟨c0, c1, c2, c3⟩ := (KX.out.push O).at w.heap.size ⟨fn, fz, fc, fv⟩ (by simp))
    | (go_at_call_of 9 (Value.int IntKind.i64 7); refine (H7.out _).mono ?_; rintro e w9 ⟨rfl, hb⟩; have KX : Hid (Bxs w9 ((w8.heap.size, O) :: (w7.heap.size, I) :: (w6.heap.size, I) :: (w5.heap.size, I) :: (w4.heap.size, F2) :: (w3.heap.size, F16) :: (w2.heap.size, G) :: (w1.heap.size, G) :: [(w.heap.size, ⟨fn, fz, fc, fv⟩)])) := (KX.out.push O).below hb; have HB : Hid (Below w.heap.size w w9) := Below.step (Below.step HB.out (below_new _ _)) hb; clear c0 c1 c2 c3; clear hb)
    | (go_at_call 10; refine (HL.out _).mono ?_; rintro e wl ⟨rfl, hb⟩; have KX : Hid (Bxs wl ((w9.heap.size, O) :: (w8.heap.size, O) :: (w7.heap.size, I) :: (w6.heap.size, I) :: (w5.heap.size, I) :: (w4.heap.size, F2) :: (w3.heap.size, F16) :: (w2.heap.size, G) :: (w1.heap.size, G) :: [(w.heap.size, ⟨fn, fz, fc, fv⟩)])) := (KX.out.push O).below hb; have HB : Hid (Below w.heap.size w wl) := Below.step (Below.step HB.out (below_new _ _)) hb; clear hb; obtain ⟨k00, k01, k02, k03⟩ := KX.out.at w1.heap.size G (by simp); obtain ⟨k10, k11, k12, k13⟩ := KX.out.at w2.heap.size G (by simp); obtain ⟨k20, k21, k22, k23⟩ := KX.out.at w5.heap.size I (by simp); obtain ⟨k30, k31, k32, k33⟩ := KX.out.at w6.heap.size I (by simp); obtain ⟨k40, k41, k42, k43⟩ := KX.out.at w7.heap.size I (by simp); obtain ⟨k50, k51, k52, k53⟩ := KX.out.at w8.heap.size O (by simp); obtain ⟨k60, k61, k62, k63⟩ := KX.out.at w9.heap.size O (by simp)))
  go_ret
  exact ⟨by simp, HB.out⟩
end Go.Proofs.Ytdelcknpaldngaa
