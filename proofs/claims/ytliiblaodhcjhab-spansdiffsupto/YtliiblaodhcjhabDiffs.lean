import Derived.Test.YtliiblaodhcjhabDif
import Derived.Test.YtliiblaodhcjhabEq
import Derived.Test.YtliiblaodhcjhabClm
import Derived.Test.YtliiblaodhcjhabRDif
import Derived.Test.YtliiblaodhcjhabMade
import Derived.Test.YtliiblaodhcjhabAlike
import Derived.Test.YtliiblaodhcjhabRRun
namespace Go.Proofs.Ytliiblaodhcjhab
open Go.RowKit
set_option linter.unusedVariables false

theorem Script.keep {W W' : World} {a : Option Addr} {ops : List Op4} (h : Script W a ops) (hb : Below W.heap.size W W') : Script W' a ops := by
  refine ⟨fun i o ho => ?_, h.rng⟩
  obtain ⟨b, off, h1, h2, q0, q1, q2, q3⟩ := h.lies i o ho
  obtain ⟨hc, _⟩ := bcell hb
  exact ⟨b, off, h1, Nat.lt_of_lt_of_le h2 hb.size, by rw [hc _ _ h2]; exact q0, by rw [hc _ _ h2]; exact q1, by rw [hc _ _ h2]; exact q2, by rw [hc _ _ h2]; exact q3⟩

/-- What the reference's Diff tells is what Diff tells. -/
theorem diff_of_ref {A B : List (Sp Int)} {D1 D2 : List Dn} (h1 : Both A D1) (h2 : Both B D2) {R : List (Sp Unit)} (h : Good 0 none R ∧ ∀ k, 0 ≤ k → k ≤ 18446744073709551615 → get R k = partF (refG D1) (refG D2) k) : DiffIs A B R :=
  ⟨h.1, fun k h0 h9 => by rw [h.2 k h0 h9, partF, partF, h1 k h0 h9, h2 k h0 h9]⟩

/-- Two maps and what is kept beside them. -/
structure Pair (w : World) (p q r s z : Nat) (A B : List (Sp Int)) (D1 D2 : List Dn) : Prop where
  one : ∃ lo v, MapAt w lo p v A
  two : ∃ lo v, MapAt w lo q v B
  ref : ∃ lo v, RefAt w lo r v D1
  ref2 : ∃ lo v, RefAt w lo s v D2
  nought : ∃ lo v, RefAt w lo z v []

theorem Pair.keep {w w' : World} {p q r s z : Nat} {A B : List (Sp Int)} {D1 D2 : List Dn} (h : Pair w p q r s z A B D1 D2) (hb : Below w.heap.size w w') : Pair w' p q r s z A B D1 D2 := by
  obtain ⟨⟨l1, v1, h1⟩, ⟨l2, v2, h2⟩, ⟨l3, v3, h3⟩, ⟨l4, v4, h4⟩, ⟨l5, v5, h5⟩⟩ := h
  exact ⟨⟨l1, v1, h1.keep hb⟩, ⟨l2, v2, h2.keep hb⟩, ⟨l3, v3, h3.keep hb⟩, ⟨l4, v4, h4.keep hb⟩, ⟨l5, v5, h5.keep hb⟩⟩
theorem Pair.pm1 {w : World} {p q r s z : Nat} {A B : List (Sp Int)} {D1 D2 : List Dn} (h : Pair w p q r s z A B D1 D2) : PM w (some ⟨p, 0, none⟩) A := by
  obtain ⟨lo, v, h⟩ := h.one
  exact h.pm
theorem Pair.pm2 {w : World} {p q r s z : Nat} {A B : List (Sp Int)} {D1 D2 : List Dn} (h : Pair w p q r s z A B D1 D2) : PM w (some ⟨q, 0, none⟩) B := by
  obtain ⟨lo, v, h⟩ := h.two
  exact h.pm

theorem Pair.rdiff {w : World} {p q r s z : Nat} {A B : List (Sp Int)} {D1 D2 : List Dn} (h : Pair w p q r s z A B D1 D2) (hs : D1.length ≤ 1048576) (hs2 : D2.length ≤ 1048576) :
    Calls Try.prog 20 #[.pointer (some ⟨r, 0, none⟩), .pointer (some ⟨s, 0, none⟩)] w fun e W' => ∃ v', e = .returned v' ∧ (∃ R, Lm W' w.heap.size v' R ∧ (Good 0 none R ∧ ∀ k, 0 ≤ k → k ≤ 18446744073709551615 → get R k = partF (refG D1) (refG D2) k) ∧ R.length ≤ 4500000) ∧ Below w.heap.size w W' := by
  obtain ⟨lo3, v3, h3⟩ := h.ref
  obtain ⟨lo4, v4, h4⟩ := h.ref2
  exact rdiff_any w lo3 r lo4 s v3 v4 D1 D2 h3 h4 hs hs2
theorem Pair.rdiff0 {w : World} {p q r s z : Nat} {A B : List (Sp Int)} {D1 D2 : List Dn} (h : Pair w p q r s z A B D1 D2) (hs : D1.length ≤ 1048576) :
    Calls Try.prog 20 #[.pointer (some ⟨r, 0, none⟩), .pointer (some ⟨z, 0, none⟩)] w fun e W' => ∃ v', e = .returned v' ∧ (∃ R, Lm W' w.heap.size v' R ∧ (Good 0 none R ∧ ∀ k, 0 ≤ k → k ≤ 18446744073709551615 → get R k = partF (refG D1) (refG []) k) ∧ R.length ≤ 4500000) ∧ Below w.heap.size w W' := by
  obtain ⟨lo3, v3, h3⟩ := h.ref
  obtain ⟨lo4, v4, h4⟩ := h.nought
  exact rdiff_any w lo3 r lo4 z v3 v4 D1 [] h3 h4 hs (by simp)
theorem Pair.rsp {w : World} {p q r s z : Nat} {A B : List (Sp Int)} {D1 D2 : List Dn} (h : Pair w p q r s z A B D1 D2) (hs : D1.length ≤ 1048576) (hA : Good 0 none A) (hb : Both A D1) :
    Calls Try.prog 26 #[.pointer (some ⟨r, 0, none⟩)] w fun e W' => ∃ v', e = .returned v' ∧ (Lr W' w.heap.size v' A ∧ A.length ≤ 3000000) ∧ Below w.heap.size w W' := by
  obtain ⟨lo3, v3, h3⟩ := h.ref
  exact rsp_is w lo3 r v3 D1 h3 hs A hA hb

set_option maxHeartbeats 10000000 in
set_option maxRecDepth 100000 in
theorem law_diffs (W : World) (a1 a2 : Option Addr) (c0 c1 : Nat) (ops0 ops1 : List Op4) (S0 : Script W a1 ops0) (B0 : ops0.length ≤ 1048576) (S1 : Script W a2 ops1) (B1 : ops1.length ≤ 1048576) :
    Calls Try.prog 6 #[.slice a1 ops0.length c0, .slice a2 ops1.length c1] W fun e W' => e = .returned (.bool true) ∧ Below W.heap.size W W' := by
  have hC1 := made_any W a1 c0 ops0 S0 B0
  have HC2 : Hid (∀ w1, Below W.heap.size W w1 → Calls Try.prog 7 #[.slice a2 ops1.length c1] w1 fun e W' => e = .returned (.tuple #[.pointer (some ⟨w1.heap.size, 0, none⟩), .pointer (some ⟨w1.heap.size + 1, 0, none⟩)]) ∧ (∃ v u, MapAt W' w1.heap.size w1.heap.size v (layL ops1) ∧ RefAt W' w1.heap.size (w1.heap.size + 1) u (didL ops1) ∧ Both (layL ops1) (didL ops1) ∧ (layL ops1).length ≤ 2 * ops1.length ∧ (didL ops1).length ≤ ops1.length) ∧ Below w1.heap.size w1 W') := fun w1 hb => made_any w1 a2 c1 ops1 (S1.keep hb) B1
  clear S0 S1
  generalize layL ops0 = A at *
  generalize didL ops0 = D1 at *
  generalize layL ops1 = B at *
  generalize didL ops1 = D2 at *
  generalize ops0.length = m0 at *
  generalize ops1.length = m1 at *
  go_enter Try.func6, Try.ntmps6
  go_wp2_with (fail)
  refine hC1.mono ?_
  rintro e w1 ⟨rfl, ⟨v, u, hM, hR, hBo, hl, hd⟩, hB1⟩
  have hC2 := HC2.out w1 hB1
  clear hC1 HC2
  go_wp2_with (fail)
  refine hC2.mono ?_
  rintro e w2 ⟨rfl, ⟨v2, u2, hM2, hR2, hBo2, hl2, hd2⟩, hb2⟩
  have hM := hM.keep hb2
  have hR := hR.keep hb2
  have hB2 := below_go hB1 hb2
  clear hC2
  generalize hpq : w1.heap.size = q0 at *
  clear hpq hb2 hB1
  have hlA : A.length ≤ 2097152 := by omega
  have hlB : B.length ≤ 2097152 := by omega
  go_wp2_with (fail)
  refine (live_any _).mono ?_
  rintro e w3 ⟨rfl, hb3⟩
  have hb3a := below_alloc hb3 (.cells #[.slice none 0 0] 55)
  have hP : Pair (w3.alloc (.cells #[.slice none 0 0] 55)) W.heap.size q0 (W.heap.size + 1) (q0 + 1) w3.heap.size A B D1 D2 := ⟨⟨_, _, hM.keep hb3a⟩, ⟨_, _, hM2.keep hb3a⟩, ⟨_, _, hR.keep hb3a⟩, ⟨_, _, hR2.keep hb3a⟩, ⟨_, _, RefAt.new w3 0 (Nat.zero_le _)⟩⟩
  have hB3 := below_go hB2 hb3a
  have HGd : Hid (Good 0 none A ∧ Good 0 none B) := ⟨hM.good, hM2.good⟩
  clear hM hR hM2 hR2 hB2 hb3a hb3
  generalize hz : w3.heap.size = z at *
  have HBo : Hid (Both A D1 ∧ Both B D2) := ⟨hBo, hBo2⟩
  clear hBo hBo2
  have hC := hP.rdiff (by omega) (by omega)
  go_wp2_with (fail)
  refine hC.mono ?_
  rintro e w4 ⟨vd, rfl, ⟨R, hRd, hRi, hRl⟩, hb4⟩
  have hP4 := hP.keep hb4
  have hB4 := below_go hB3 hb4
  have HR : Hid (DiffIs A B R) := diff_of_ref HBo.out.1 HBo.out.2 hRi
  have HD4 : Hid (∃ lo, Lm w4 lo vd R) := ⟨_, hRd⟩
  obtain ⟨da, dc, rfl⟩ := slice_form hRd
  clear hC hP hB3 hb4 hRi hRd
  have hC := diff_any w4 (some ⟨W.heap.size, 0, none⟩) (some ⟨q0, 0, none⟩) A B hP4.pm1 hP4.pm2 (by omega)
  go_wp2_with (fail)
  refine hC.mono ?_
  rintro e w5 ⟨vx, rfl, ⟨R5, hR5, hi5, hl5⟩, hb5⟩
  obtain rfl : R5 = R := hi5.uniq HR.out
  have hP5 := hP4.keep hb5
  have hB5 := below_go hB4 hb5
  have HD5 : Hid (∃ lo, Lm w5 lo (.slice da R5.length dc) R5) := by
    obtain ⟨lo, h⟩ := HD4.out
    exact ⟨lo, row_keep h hb5⟩
  have hS : Calls Try.prog 21 #[vx, .slice da R5.length dc] w5 fun e W' => e = .returned (.bool true) ∧ Below w5.heap.size w5 W' := by
    obtain ⟨lo, h⟩ := HD5.out
    exact rooms_any w5 _ lo vx _ R5 hR5 h (by omega)
  obtain ⟨xa, xc, rfl⟩ := slice_form hR5
  clear hC hP4 hB4 hb5 HD4 hR5 hi5 hl5
  go_wp2_with (fail)
  refine hS.mono ?_
  rintro e w6 ⟨rfl, hb6⟩
  have hP6 := hP5.keep hb6
  have hB6 := below_go hB5 hb6
  have HD6 : Hid (∃ lo, Lm w6 lo (.slice da R5.length dc) R5) := by
    obtain ⟨lo, h⟩ := HD5.out
    exact ⟨lo, row_keep h hb6⟩
  clear hS hP5 hB5 hb6 HD5
  have hC := diff_any w6 (some ⟨q0, 0, none⟩) (some ⟨W.heap.size, 0, none⟩) B A hP6.pm2 hP6.pm1 (by omega)
  go_wp2_with (fail)
  refine hC.mono ?_
  rintro e w7 ⟨vx, rfl, ⟨R7, hR7, hi7, hl7⟩, hb7⟩
  obtain rfl : R7 = R5 := hi7.comm.uniq HR.out
  have hP7 := hP6.keep hb7
  have hB7 := below_go hB6 hb7
  have hS : Calls Try.prog 21 #[vx, .slice da R7.length dc] w7 fun e W' => e = .returned (.bool true) ∧ Below w7.heap.size w7 W' := by
    obtain ⟨lo, h⟩ := HD6.out
    exact rooms_any w7 _ lo vx _ R7 hR7 (row_keep h hb7) (by omega)
  obtain ⟨xa, xc, rfl⟩ := slice_form hR7
  clear hC hP6 hB6 hb7 HD6 hR7 hi7 hl7
  go_wp2_with (fail)
  refine hS.mono ?_
  rintro e w8 ⟨rfl, hb8⟩
  have hP8 := hP7.keep hb8
  have hB8 := below_go hB7 hb8
  clear hS hP7 hB7 hb8
  have hC := equal_any w8 (some ⟨W.heap.size, 0, none⟩) (some ⟨q0, 0, none⟩) A B hP8.pm1 hP8.pm2 (by omega) (by omega) (decide (R7.length = 0)) (by
    rw [decide_eq_true_eq, List.length_eq_zero_iff]
    exact HR.out.nil_iff HGd.out.1 HGd.out.2)
  go_wp2_with (fail)
  refine hC.mono ?_
  rintro e w9 ⟨rfl, hb9⟩
  have hP9 := hP8.keep hb9
  have hB9 := below_go hB8 hb9
  clear hC hP8 hB8 hb9 HR
  have hC : Calls Try.prog 24 #[.pointer (some ⟨W.heap.size, 0, none⟩)] w9 fun e W' => ∃ p', e = .returned (.pointer (some ⟨p', 0, none⟩)) ∧ (∃ v', MapAt W' w9.heap.size p' v' A) ∧ Below w9.heap.size w9 W' := by
    obtain ⟨lo, v, h⟩ := hP9.one
    exact clonem_any w9 lo _ v A h (by omega)
  have hrw : ((R7.length : Int) == 0) = decide (R7.length = 0) := by
    by_cases h : R7.length = 0 <;> simp [h]
  generalize decide (R7.length = 0) = bd at *
  generalize R7.length = n7 at *
  go_wp2_with (fail)
  refine hC.mono ?_
  rintro e wA ⟨pc, rfl, ⟨vC, hMC⟩, hbA⟩
  have hPA := hP9.keep hbA
  have hBA := below_go hB9 hbA
  clear hC hP9 hB9 hbA hrw
  have hC := equal_any wA (some ⟨W.heap.size, 0, none⟩) (some ⟨pc, 0, none⟩) A A hPA.pm1 hMC.pm (by omega) (by omega) true (by simp)
  go_wp2_with (fail)
  refine hC.mono ?_
  rintro e wB ⟨rfl, hbB⟩
  have hPB := hPA.keep hbB
  have hBB := below_go hBA hbB
  have hMCB := hMC.keep hbB
  clear hC hPA hBA hbB hMC
  have hC := diff_any wB (some ⟨pc, 0, none⟩) (some ⟨W.heap.size, 0, none⟩) A A hMCB.pm hPB.pm1 (by omega)
  go_wp2_with (fail)
  refine hC.mono ?_
  rintro e wC ⟨vx, rfl, ⟨RC, hRC, hiC, hlC⟩, hbC⟩
  obtain rfl : RC = [] := (hiC.nil_iff HGd.out.1 HGd.out.1).2 rfl
  have hPC := hPB.keep hbC
  have hBC := below_go hBB hbC
  have hMCC := hMCB.keep hbC
  obtain ⟨xa, xc, rfl⟩ := slice_form hRC
  simp only [List.length_nil]
  clear hC hPB hBB hbC hMCB hRC hiC hlC
  have hC := spans_any wC _ pc vC A hMCC (by omega)
  go_wp2_with (fail)
  refine hC.mono ?_
  rintro e wD ⟨vs, rfl, hLs, hbD⟩
  have hPD := hPC.keep hbD
  have hBD := below_go hBC hbD
  have hC := hPD.rsp (by omega) HGd.out.1 HBo.out.1
  have HLs : Hid (Ls wD wC.heap.size vs A) := hLs
  obtain ⟨sa, sc, rfl⟩ := slice_form hLs
  clear hPC hBC hbD hMCC hLs
  go_wp2_with (fail)
  refine hC.mono ?_
  rintro e wE ⟨vr, rfl, ⟨hLr, hlr⟩, hbE⟩
  have hPE := hPD.keep hbE
  have hBE := below_go hBD hbE
  have hC2 := alike_any wE _ _ _ vr A (HLs.out.keep hbE (fun g hg => (HLs.out.lt g hg).2)) hLr (by omega)
  obtain ⟨ra, rc, rfl⟩ := slice_form hLr
  clear hC hPD hBD hbE HLs hLr hlr
  go_wp2_with (fail)
  refine hC2.mono ?_
  rintro e wF ⟨rfl, hbF⟩
  have hPF := hPE.keep hbF
  have hBF := below_go hBE hbF
  clear hC2 hPE hBE hbF
  have hC := hPF.rdiff0 (by omega)
  go_wp2_with (fail)
  refine hC.mono ?_
  rintro e wG ⟨vd, rfl, ⟨R, hRd, hRi, hRl⟩, hbG⟩
  have hPG := hPF.keep hbG
  have hBG := below_go hBF hbG
  have HR : Hid (DiffIs A [] R) := diff_of_ref (B := []) HBo.out.1 (fun _ _ _ => rfl) hRi
  have HDG : Hid (∃ lo, Lm wG lo vd R) := ⟨_, hRd⟩
  obtain ⟨da, dc, rfl⟩ := slice_form hRd
  clear hC hPF hBF hbG hRi hRd
  have hC := diff_any wG (some ⟨W.heap.size, 0, none⟩) none A [] hPG.pm1 (PM.nil _) (by simp only [List.length_nil]; omega)
  go_wp2_with (fail)
  refine hC.mono ?_
  rintro e wH ⟨vx, rfl, ⟨R5, hR5, hi5, hl5⟩, hb5⟩
  obtain rfl : R5 = R := hi5.uniq HR.out
  have hPH := hPG.keep hb5
  have hBH := below_go hBG hb5
  have HDH : Hid (∃ lo, Lm wH lo (.slice da R5.length dc) R5) := by
    obtain ⟨lo, h⟩ := HDG.out
    exact ⟨lo, row_keep h hb5⟩
  have hS : Calls Try.prog 21 #[vx, .slice da R5.length dc] wH fun e W' => e = .returned (.bool true) ∧ Below wH.heap.size wH W' := by
    obtain ⟨lo, h⟩ := HDH.out
    exact rooms_any wH _ lo vx _ R5 hR5 h (by omega)
  obtain ⟨xa, xc, rfl⟩ := slice_form hR5
  clear hC hPG hBG hb5 HDG hR5 hi5 hl5
  go_wp2_with (fail)
  refine hS.mono ?_
  rintro e wI ⟨rfl, hb6⟩
  have hPI := hPH.keep hb6
  have hBI := below_go hBH hb6
  have HDI : Hid (∃ lo, Lm wI lo (.slice da R5.length dc) R5) := by
    obtain ⟨lo, h⟩ := HDH.out
    exact ⟨lo, row_keep h hb6⟩
  clear hS hPH hBH hb6 HDH
  have hC := diff_any wI none (some ⟨W.heap.size, 0, none⟩) [] A (PM.nil _) hPI.pm1 (by simp only [List.length_nil]; omega)
  go_wp2_with (fail)
  refine hC.mono ?_
  rintro e wJ ⟨vx, rfl, ⟨R7, hR7, hi7, hl7⟩, hb7⟩
  obtain rfl : R7 = R5 := hi7.comm.uniq HR.out
  have hPJ := hPI.keep hb7
  have hBJ := below_go hBI hb7
  have hS : Calls Try.prog 21 #[vx, .slice da R7.length dc] wJ fun e W' => e = .returned (.bool true) ∧ Below wJ.heap.size wJ W' := by
    obtain ⟨lo, h⟩ := HDI.out
    exact rooms_any wJ _ lo vx _ R7 hR7 (row_keep h hb7) (by omega)
  obtain ⟨xa, xc, rfl⟩ := slice_form hR7
  clear hC hPI hBI hb7 HDI hR7 hi7 hl7
  go_wp2_with (fail)
  refine hS.mono ?_
  rintro e wK ⟨rfl, hb8⟩
  have hPK := hPJ.keep hb8
  have hBK := below_go hBJ hb8
  clear hS hPJ hBJ hb8
  have hC := equal_any wK (some ⟨W.heap.size, 0, none⟩) none A [] hPK.pm1 (PM.nil _) (by omega) (by simp) (decide (R7.length = 0)) (by
    rw [decide_eq_true_eq, List.length_eq_zero_iff]
    exact HR.out.nil_iff HGd.out.1 (show Good 0 none ([] : List (Sp Int)) from trivial))
  go_wp2_with (fail)
  refine hC.mono ?_
  rintro e wL ⟨rfl, hb9⟩
  have hBL := below_go hBK hb9
  clear hC hPK hBK hb9 HR
  have hC := equal_any wL none none [] [] (PM.nil _) (PM.nil _) (by simp) (by simp) true (by simp)
  have hrw : ((R7.length : Int) == 0) = decide (R7.length = 0) := by
    by_cases h : R7.length = 0 <;> simp [h]
  generalize decide (R7.length = 0) = bd at *
  generalize R7.length = n7 at *
  go_wp2_with (fail)
  refine hC.mono ?_
  rintro e wM ⟨rfl, hbM⟩
  have hBM := below_go hBL hbM
  clear hC hBL hbM
  go_wp2
  go_ret
  exact ⟨rfl, hBM⟩
end Go.Proofs.Ytliiblaodhcjhab
