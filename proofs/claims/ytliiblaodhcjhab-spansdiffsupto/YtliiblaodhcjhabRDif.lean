import Derived.Test.YtliiblaodhcjhabJoin
import Derived.Test.YtliiblaodhcjhabRSpW
import Derived.Deep.RegionHeld3
namespace Go.Proofs.Ytliiblaodhcjhab
open Go.RowKit
set_option linter.unusedVariables false

theorem part_const {D1 D2 : List Dn} (hr : Rise 0 (cutsL D2 (cutsL D1 []))) {i : Nat} {c k : Int} (hc : (cutsL D2 (cutsL D1 []))[i]? = some c) (h1 : c ≤ k) (h2 : k ≤ endC (cutsL D2 (cutsL D1 [])) i) (hk : k ≤ 18446744073709551615) : partF (refG D1) (refG D2) k = partF (refG D1) (refG D2) c := by
  have hin : ∀ x ∈ cutsL D1 [], x ∈ cutsL D2 (cutsL D1 []) := fun x hx => fold_mem (insK_mem.2 (.inr hx))
  rw [partF, partF, ref_const2 (D := D1) hr (fun d hd => hin _ (cutsL_lo hd)) (fun d hd hh => hin _ (cutsL_hi hd hh)) hc h1 h2 hk,
    ref_const2 (D := D2) hr (fun d hd => cutsL_lo hd) (fun d hd hh => cutsL_hi hd hh) hc h1 h2 hk]

set_option maxHeartbeats 20000000 in
set_option maxRecDepth 100000 in
theorem rdiff_any (W : World) (lo p lo2 q : Nat) (v u : Value) (D1 D2 : List Dn) (h : RefAt W lo p v D1) (h2 : RefAt W lo2 q u D2) (hs : D1.length ≤ 1048576) (hs2 : D2.length ≤ 1048576) :
    Calls Try.prog 20 #[.pointer (some ⟨p, 0, none⟩), .pointer (some ⟨q, 0, none⟩)] W fun e W' => ∃ v', e = .returned v' ∧ (∃ R, Lm W' W.heap.size v' R ∧ (Good 0 none R ∧ ∀ k, 0 ≤ k → k ≤ 18446744073709551615 → get R k = partF (refG D1) (refG D2) k) ∧ R.length ≤ 4500000) ∧ Below W.heap.size W W' := by
  have hC := cuts_any W lo p W.heap.size v (.slice none 0 0) D1 [] h hs (World.ownsRow_nil _ _ _ _) (Nat.le_refl _) trivial (Nat.zero_le _)
  have hmx1 : ∀ x ∈ cutsL D1 [], x ≤ 18446744073709551615 := fold_le (fun x hx => by simp [insK] at hx; omega) (fun d hd => by have := h.rng d hd; omega)
  have hmx : ∀ x ∈ cutsL D2 (cutsL D1 []), x ≤ 18446744073709551615 := fold_le (fun x hx => by
    rcases insK_mem.1 hx with rfl | hx
    · omega
    · exact hmx1 x hx) (fun d hd => by have := h2.rng d hd; omega)
  have HH : Hid (RefAt W lo p v D1) := h
  have HH2 : Hid (RefAt W lo2 q u D2) := h2
  have HM : Hid (∀ x ∈ cutsL D2 (cutsL D1 []), x ≤ 18446744073709551615) := hmx
  clear h h2 hmx hmx1
  go_enter Try.func20, Try.ntmps20
  go_wp2_with (fail)
  refine hC.mono ?_
  rintro e w0 ⟨v0, rfl, hk0, hr0, hl0, hb0⟩
  have hCC := cuts_any w0 lo2 q W.heap.size u v0 D2 (cutsL D1 []) (HH2.out.keep hb0) hs2 hk0 hb0.size hr0 (by simp only [List.length_nil] at hl0; omega)
  obtain ⟨a0, c0, rfl⟩ := slice_form hk0
  clear hC hk0 hr0
  go_wp2_with (fail)
  refine hCC.mono ?_
  rintro e w1 ⟨v1, rfl, hk1, hr1, hl1, hb1'⟩
  have hb1 := below_go hb0 hb1'
  have HV : Hid (∀ i, i ≤ (cutsL D2 (cutsL D1 [])).length → Good 0 none (piecesL (partF (refG D1) (refG D2)) (cutsL D2 (cutsL D1 [])) i) ∧ (∀ c, (cutsL D2 (cutsL D1 []))[i]? = some c → (∀ s ∈ piecesL (partF (refG D1) (refG D2)) (cutsL D2 (cutsL D1 [])) i, s.hi < c) ∧ ∀ k, 0 ≤ k → k < c → get (piecesL (partF (refG D1) (refG D2)) (cutsL D2 (cutsL D1 [])) i) k = partF (refG D1) (refG D2) k) ∧ (i = (cutsL D2 (cutsL D1 [])).length → ∀ k, 0 ≤ k → k ≤ 18446744073709551615 → get (piecesL (partF (refG D1) (refG D2)) (cutsL D2 (cutsL D1 [])) i) k = partF (refG D1) (refG D2) k) ∧ (piecesL (partF (refG D1) (refG D2)) (cutsL D2 (cutsL D1 [])) i).length ≤ i) := fun i hi => pieces_inv hr1 cutsL_zero HM.out (fun j c k hc => part_const hr1 hc) i hi
  have HEr : Hid (∀ i c, (cutsL D2 (cutsL D1 []))[i]? = some c → c ≤ endC (cutsL D2 (cutsL D1 [])) i ∧ endC (cutsL D2 (cutsL D1 [])) i ≤ 18446744073709551615) := fun i c hc => endC_rng hr1 HM.out hc
  have HRi : Hid (∀ i c y, (cutsL D2 (cutsL D1 []))[i]? = some c → (cutsL D2 (cutsL D1 []))[i + 1]? = some y → 1 ≤ y) := fun i c y hc hy => by
    have h1 := rise_next hr1 hc hy
    have h2 := rise_low hr1 c (List.mem_of_getElem? hc)
    omega
  have HLo : Hid (∀ x ∈ cutsL D2 (cutsL D1 []), 0 ≤ x) := rise_low hr1
  simp only [List.length_nil, Nat.zero_add] at hl0
  clear hCC hr1 hb0 hb1'
  have hm8 : (cutsL D2 (cutsL D1 [])).length ≤ 4400000 := by omega
  clear hl1 hl0
  generalize cutsL D2 (cutsL D1 []) = cs at *
  have HP : Hid (∀ i c, cs[i]? = some c → piecesL (partF (refG D1) (refG D2)) cs (i + 1) = step (piecesL (partF (refG D1) (refG D2)) cs i) c (endC cs i) (partF (refG D1) (refG D2) c)) := fun i c hc => by rw [piecesL, hc]
  have HP0 : Hid (piecesL (partF (refG D1) (refG D2)) cs 0 = []) := rfl
  generalize piecesL (partF (refG D1) (refG D2)) cs = P at *
  obtain ⟨ca, cc, hv1, hcells⟩ := hk1.view
  subst hv1
  have HK : Hid (Ks w1 W.heap.size (.slice ca cs.length cc) cs) := hk1
  have HC : Hid (∀ i x, cs[i]? = some x → ∃ g, ca = some ⟨g, 0, none⟩ ∧ g < w1.heap.size ∧ w1.cell? ⟨g, i, none⟩ = some (.int .u64 x)) := hcells
  have HD : Hid (RefAt w1 lo p v D1 ∧ RefAt w1 lo2 q u D2) := ⟨HH.out.keep hb1, HH2.out.keep hb1⟩
  clear hk1 hcells HH HH2
  generalize hm : cs.length = m at *
  have HML : Hid (cs.length = m) := hm
  clear hm
  go_wp2
  go_loopw [6, 7] (fun sl si wr => ∃ (i : Nat) (va : Option Addr) (vc : Nat), sl = .slice va (P i).length vc ∧ si = .int .i64 i ∧ i ≤ m ∧ Hid (Lm wr w1.heap.size (.slice va (P i).length vc) (P i)) ∧ Hid (Below w1.heap.size w1 wr)) (fun _ si _ => m - (intOf si).toNat)
  case atStart => exact ⟨0, none, 0, by rw [HP0.out]; rfl, rfl, Nat.zero_le _, by rw [HP0.out]; exact World.ownsRow_nil _ _ _ _, Below.refl _ _⟩
  case round =>
    obtain ⟨i, va, vc, rfl, rfl, hi, HY, HB⟩ := hrel
    by_cases hlt : i < m
    · obtain ⟨c, hc⟩ : ∃ c, cs[i]? = some c := ⟨_, List.getElem?_eq_getElem (by rw [HML.out]; exact hlt)⟩
      obtain ⟨gc, rfl, hgl, hgc⟩ := HC.out i c hc
      obtain ⟨V1, V2, V3, V4⟩ := HV.out i (by omega)
      obtain ⟨B1, B2⟩ := V2 c hc
      obtain ⟨E1, E2⟩ := HEr.out i c hc
      have c0 := HLo.out c (List.mem_of_getElem? hc)
      have HS : Hid (P (i + 1) = step (P i) c (endC cs i) (partF (refG D1) (refG D2) c)) := HP.out i c hc
      have HCI : Hid (cs[i]? = some c) := hc
      clear V2 V3 B2 hc
      have hiz : (i : Int) < (m : Int) := by omega
      have hi0 : (0 : Int) ≤ (i : Int) := by omega
      have y0 : wr.cell? ⟨gc, i, none⟩ = some (.int .u64 c) := by rw [(bcell HB.out).1 gc i hgl]; exact hgc
      have hG1 := rget_any wr lo p v D1 c (HD.out.1.keep HB.out) hs
      have HG2 : Hid (∀ w, Below w1.heap.size w1 w → Calls Try.prog 34 #[.pointer (some ⟨q, 0, none⟩), .int .u64 c] w fun e W' => e = .returned (getV (refG D2 c)) ∧ Below w.heap.size w W') := fun w hw => rget_any w lo2 q u D2 c (HD.out.2.keep hw) hs2
      rw [partF] at HS
      have hEnd : ∀ w', Below w1.heap.size w1 w' → Calls Try.prog 44 #[.slice (some ⟨gc, 0, none⟩) m cc, .int .i64 i] w' fun e W' => e = .returned (.int .u64 (endC cs i)) ∧ W' = w' := by
        intro w' hw'
        have := end_any w' W.heap.size (.slice (some ⟨gc, 0, none⟩) cs.length cc) cs i (by rw [HML.out]; exact HK.out.keep hw') (fun x hx => ⟨HLo.out x hx, HM.out x hx⟩) (by rw [HML.out]; omega) (by rw [HML.out]; exact hlt) (fun y hy => HRi.out i c y HCI.out hy)
        rw [HML.out] at this
        exact this
      generalize endC cs i = ee at *
      cases hga : refG D1 c with
      | none =>
        cases hgb : refG D2 c with
        | none =>
          rw [hga] at hG1 HS
          rw [hgb] at HG2 HS
          simp only [getV] at hG1
          clear hga hgb
          rw [if_pos rfl] at HS
          have HS2 : Hid (P (i + 1) = P i) := by show _ = _; rw [HS.out]; rfl
          have HY2 : Hid (∀ w2, Below wr.heap.size wr w2 → Lm w2 w1.heap.size (.slice va (P (i + 1)).length vc) (P (i + 1))) := by
            intro w2 hb2
            rw [HS2.out]
            exact row_keep HY.out hb2
          have HSl : Hid ((P i).length = (P (i + 1)).length) := by show _ = _; rw [HS2.out]
          clear B1 V1 HS hEnd
          go_wp2_with (fail)
          refine hG1.mono ?_
          rintro e w2 ⟨rfl, hb2⟩
          have hG2 := HG2.out w2 (below_go HB.out hb2)
          have y2 : w2.cell? ⟨gc, i, none⟩ = some (.int .u64 c) := ((bcell (below_go HB.out hb2)).1 gc i hgl).trans hgc
          simp only [getV] at hG2
          clear hG1 HG2
          go_wp2_with (fail)
          refine hG2.mono ?_
          rintro e w3 ⟨rfl, hb3'⟩
          have hb3 := below_go hb2 hb3'
          clear hG2 hb2 hb3'
          go_wp2
          go_roundw
          case rel => exact ⟨i + 1, va, vc, by rw [HSl.out], by go_num, by omega, HY2.out _ hb3, below_go HB.out hb3⟩
          case measure => simp [intOf]; omega
        | some y =>
          rw [hga] at hG1 HS
          rw [hgb] at HG2 HS
          simp only [getV] at hG1
          clear hga hgb
          have hne : ¬ ((none : Option Int) = some y) := by simp
          rw [if_neg hne] at HS
          clear hne
          have hlb : (P i).length ≤ 9000000 := by omega
          generalize hll : P i = ll at *
          clear hll
          rcases List.eq_nil_or_concat ll with rfl | ⟨A, t, hA⟩
          · have HS2 : Hid (P (i + 1) = [] ++ [⟨c, ee, ()⟩]) := by show _ = _; rw [HS.out]; exact stepU_nil c ee
            clear HS B1 V1 V4
            simp only [List.length_nil] at HY
            go_wp2_with (fail)
            refine hG1.mono ?_
            rintro e w2 ⟨rfl, hb2⟩
            have hG2 := HG2.out w2 (below_go HB.out hb2)
            have y2 : w2.cell? ⟨gc, i, none⟩ = some (.int .u64 c) := ((bcell (below_go HB.out hb2)).1 gc i hgl).trans hgc
            simp only [getV] at hG2
            clear hG1 HG2
            go_wp2_with (fail)
            refine hG2.mono ?_
            rintro e w3 ⟨rfl, hb3'⟩
            have hb3 := below_go hb2 hb3'
            have hB3 := below_go HB.out hb3
            have y3 : w3.cell? ⟨gc, i, none⟩ = some (.int .u64 c) := ((bcell hB3).1 gc i hgl).trans hgc
            clear hG2 hb2 hb3' y2
            go_wp2
            go_quiet (fail)
            obtain ⟨w4, hw4⟩ : ∃ w4, w4 = w3.drewN nq := ⟨_, rfl⟩
            rw [← hw4]
            have hb4 : Below wr.heap.size wr w4 := by rw [hw4]; exact below_go hb3 (grown_below (grownBy_drewN w3 none nq))
            have hB4 := below_go HB.out hb4
            have y4 : w4.cell? ⟨gc, i, none⟩ = some (.int .u64 c) := ((bcell hB4).1 gc i hgl).trans hgc
            clear hw4 y3 hB3 hb3
            obtain ⟨t5, w5, hr5, hk5, hg5⟩ := lm_append w4 1 w1.heap.size (.slice va 0 vc) ([] : List (Sp Unit)) ⟨c, ee, ()⟩ (row_keep HY.out hb4) hB4.size hlb
            have hB5 : Below w1.heap.size w1 w5 := hB4.grown hg5 hB4.size (fun g hg => (World.ownsRow.lt HY.out g hg).1)
            have m0 : w5.cell? ⟨gc, i, none⟩ = some (.int .u64 c) := ((bcell hB5).1 gc i hgl).trans hgc
            have n0 := World.new_ne w4 _ y4
            have hE1 : Calls Try.prog 44 #[.slice (some ⟨gc, 0, none⟩) m cc, .int .i64 i] w4.drew fun e W' => e = .returned (.int .u64 ee) ∧ W' = w4.drew := hEnd w4.drew hB4.drew
            have hr6 : ∀ ty, (Builtin.append_ #[56, 56] ty #[.slice va 0 vc, .slice (some ⟨w4.heap.size, 0, none⟩) 1 1]).run Try.prog (w4.alloc (.cells #[.int .u64 c, .int .u64 ee] 82)).drew = .ok t5 w5 := hr5
            clear hr5
            rw [← HS2.out] at hk5
            obtain ⟨va3, vc3, rfl⟩ := slice_form hk5
            have HK3 : Hid (Lm w5 w1.heap.size (.slice va3 (P (i + 1)).length vc3) (P (i + 1))) := hk5
            clear hk5 hg5 hEnd
            go_wp2
            go_region_held3 (fun w' => w'.cell? ⟨gc, i, none⟩ = some (.int .u64 c)) (first | go_keep | exact m0)
              ((first | (go_at_call 44; refine hE1.mono ?_; rintro e wE ⟨rfl, rfl⟩) | (refine step_append (by rfl) _ _ 56 56 (by rfl) _ _ (by simp [Act.eval]) (by simp [Act.eval]) (hr6 _) ?_)))
            go_wp2
            go_roundw
            case rel => exact ⟨i + 1, va3, vc3, rfl, by go_num, by omega, HK3, hB5⟩
            case measure => simp [intOf]; omega
          · rw [List.concat_eq_append] at hA
            subst hA
            have hti : (A ++ [t])[A.length]? = some t := by simp
            obtain ⟨va', vc', hveq, hvc⟩ := Lm.view HY.out
            obtain ⟨g, rfl, hg1, hg2, z0, z1, z3⟩ := hvc A.length t hti
            cases hveq
            have htc := B1 t (by simp)
            have htg := good_lo V1 t (by simp)
            have hal : (A ++ [t]).length = A.length + 1 := by simp
            have hz1 : (0 : Int) ≤ (A.length : Int) := by omega
            have hz2 : (A.length : Int) < (A.length : Int) + 1 := by omega
            have hz4 : A.length ≤ 9000000 := by omega
            have hwt : IntKind.u64.wrap (t.hi + 1) = t.hi + 1 := by rw [IntKind.wrap_u64]; omega
            clear hvc hti z0 V1 V4 B1
            by_cases h2 : t.hi + 1 = c
            · have e2 : (t.hi + 1 == c) = true := by simp [h2]
              have HS2 : Hid (P (i + 1) = A ++ [⟨t.lo, ee, t.val⟩]) := by show _ = _; rw [HS.out]; exact stepU_join A t c ee h2
              clear HS h2
              go_wp2_with (fail)
              refine hG1.mono ?_
              rintro e w2 ⟨rfl, hb2⟩
              have hG2 := HG2.out w2 (below_go HB.out hb2)
              have y2 : w2.cell? ⟨gc, i, none⟩ = some (.int .u64 c) := ((bcell (below_go HB.out hb2)).1 gc i hgl).trans hgc
              simp only [getV] at hG2
              clear hG1 HG2
              go_wp2_with (fail)
              refine hG2.mono ?_
              rintro e w3 ⟨rfl, hb3'⟩
              have hb3 := below_go hb2 hb3'
              have hB3 := below_go HB.out hb3
              have y3 : w3.cell? ⟨gc, i, none⟩ = some (.int .u64 c) := ((bcell hB3).1 gc i hgl).trans hgc
              have p1 : w3.cell? ⟨g, A.length * 2 + 1, none⟩ = some (.int .u64 t.hi) := ((bcell hb3).1 g _ hg2).trans z1
              clear hG2 hb2 hb3' y2
              go_wp2
              go_quiet (fail)
              obtain ⟨w4, hw4⟩ : ∃ w4, w4 = w3.drewN nq := ⟨_, rfl⟩
              rw [← hw4]
              have hb4 : Below wr.heap.size wr w4 := by rw [hw4]; exact below_go hb3 (grown_below (grownBy_drewN w3 none nq))
              have hB4 := below_go HB.out hb4
              have y4 : w4.cell? ⟨gc, i, none⟩ = some (.int .u64 c) := ((bcell hB4).1 gc i hgl).trans hgc
              have p4 : w4.cell? ⟨g, A.length * 2 + 1, none⟩ = some (.int .u64 t.hi) := ((bcell hb4).1 g _ hg2).trans z1
              have p5 : w4.frozen? ⟨g, A.length * 2 + 1, none⟩ = false := ((bcell hb4).2 g _ hg2).trans z3
              clear hw4 y3 hB3 hb3 p1
              have hE1 : Calls Try.prog 44 #[.slice (some ⟨gc, 0, none⟩) m cc, .int .i64 i] w4 fun e W' => e = .returned (.int .u64 ee) ∧ W' = w4 := hEnd w4 hB4
              have HK3 : Hid (Lm (w4.setCell ⟨g, A.length * 2 + 1, none⟩ (.int .u64 ee)) w1.heap.size (.slice (some ⟨g, 0, none⟩) (P (i + 1)).length vc) (P (i + 1))) := by
                have hq := Lm.set (row_keep HY.out hb4) ee
                show Lm _ _ _ _
                rw [HS2.out]
                have hl : (A ++ [⟨t.lo, ee, t.val⟩] : List (Sp Unit)).length = (A ++ [t]).length := by simp
                rw [hl]
                exact hq
              have HLn : Hid ((P (i + 1)).length = A.length + 1) := by show _ = _; rw [HS2.out]; simp
              have hB5 : Below w1.heap.size w1 (w4.setCell ⟨g, A.length * 2 + 1, none⟩ (.int .u64 ee)) := hB4.setCell hg1 _
              clear hEnd
              go_wp2_with (go_at_call 44; refine hE1.mono ?_; rintro e wE ⟨rfl, rfl⟩)
              go_roundw
              case rel => exact ⟨i + 1, _, vc, by rw [HLn.out], by go_num, by omega, HK3, hB5⟩
              case measure => simp [intOf]; omega
            · have e2 : (t.hi + 1 == c) = false := by simp [h2]
              have HS2 : Hid (P (i + 1) = (A ++ [t]) ++ [⟨c, ee, ()⟩]) := by show _ = _; rw [HS.out]; exact stepU_more A t c ee h2
              clear HS h2
              go_wp2_with (fail)
              refine hG1.mono ?_
              rintro e w2 ⟨rfl, hb2⟩
              have hG2 := HG2.out w2 (below_go HB.out hb2)
              have y2 : w2.cell? ⟨gc, i, none⟩ = some (.int .u64 c) := ((bcell (below_go HB.out hb2)).1 gc i hgl).trans hgc
              simp only [getV] at hG2
              clear hG1 HG2
              go_wp2_with (fail)
              refine hG2.mono ?_
              rintro e w3 ⟨rfl, hb3'⟩
              have hb3 := below_go hb2 hb3'
              have hB3 := below_go HB.out hb3
              have y3 : w3.cell? ⟨gc, i, none⟩ = some (.int .u64 c) := ((bcell hB3).1 gc i hgl).trans hgc
              have p1 : w3.cell? ⟨g, A.length * 2 + 1, none⟩ = some (.int .u64 t.hi) := ((bcell hb3).1 g _ hg2).trans z1
              clear hG2 hb2 hb3' y2
              go_wp2
              go_quiet (fail)
              obtain ⟨w4, hw4⟩ : ∃ w4, w4 = w3.drewN nq := ⟨_, rfl⟩
              rw [← hw4]
              have hb4 : Below wr.heap.size wr w4 := by rw [hw4]; exact below_go hb3 (grown_below (grownBy_drewN w3 none nq))
              have hB4 := below_go HB.out hb4
              have y4 : w4.cell? ⟨gc, i, none⟩ = some (.int .u64 c) := ((bcell hB4).1 gc i hgl).trans hgc
              clear hw4 y3 hB3 hb3 p1
              obtain ⟨t5, w5, hr5, hk5, hg5⟩ := lm_append w4 1 w1.heap.size (.slice (some ⟨g, 0, none⟩) (A ++ [t]).length vc) (A ++ [t]) ⟨c, ee, ()⟩ (row_keep HY.out hb4) hB4.size hlb
              have hB5 : Below w1.heap.size w1 w5 := hB4.grown hg5 hB4.size (fun g hg => (World.ownsRow.lt HY.out g hg).1)
              have m0 : w5.cell? ⟨gc, i, none⟩ = some (.int .u64 c) := ((bcell hB5).1 gc i hgl).trans hgc
              have n0 := World.new_ne w4 _ y4
              have hE1 : Calls Try.prog 44 #[.slice (some ⟨gc, 0, none⟩) m cc, .int .i64 i] w4.drew fun e W' => e = .returned (.int .u64 ee) ∧ W' = w4.drew := hEnd w4.drew hB4.drew
              have hr6 : ∀ ty, (Builtin.append_ #[56, 56] ty #[.slice (some ⟨g, 0, none⟩) (A ++ [t]).length vc, .slice (some ⟨w4.heap.size, 0, none⟩) 1 1]).run Try.prog (w4.alloc (.cells #[.int .u64 c, .int .u64 ee] 82)).drew = .ok t5 w5 := hr5
              clear hr5
              rw [← HS2.out] at hk5
              obtain ⟨va3, vc3, rfl⟩ := slice_form hk5
              have HK3 : Hid (Lm w5 w1.heap.size (.slice va3 (P (i + 1)).length vc3) (P (i + 1))) := hk5
              clear hk5 hg5 hEnd
              go_wp2
              go_region_held3 (fun w' => w'.cell? ⟨gc, i, none⟩ = some (.int .u64 c)) (first | go_keep | exact m0)
                ((first | (go_at_call 44; refine hE1.mono ?_; rintro e wE ⟨rfl, rfl⟩) | (refine step_append (by rfl) _ _ 56 56 (by rfl) _ _ (by simp [Act.eval]) (by simp [Act.eval]) (hr6 _) ?_)))
              go_wp2
              go_roundw
              case rel => exact ⟨i + 1, va3, vc3, rfl, by go_num, by omega, HK3, hB5⟩
              case measure => simp [intOf]; omega
      | some x =>
        cases hgb : refG D2 c with
        | none =>
          rw [hga] at hG1 HS
          rw [hgb] at HG2 HS
          simp only [getV] at hG1
          clear hga hgb
          have hne : ¬ (some x = (none : Option Int)) := by simp
          rw [if_neg hne] at HS
          clear hne
          have hlb : (P i).length ≤ 9000000 := by omega
          generalize hll : P i = ll at *
          clear hll
          rcases List.eq_nil_or_concat ll with rfl | ⟨A, t, hA⟩
          · have HS2 : Hid (P (i + 1) = [] ++ [⟨c, ee, ()⟩]) := by show _ = _; rw [HS.out]; exact stepU_nil c ee
            clear HS B1 V1 V4
            simp only [List.length_nil] at HY
            go_wp2_with (fail)
            refine hG1.mono ?_
            rintro e w2 ⟨rfl, hb2⟩
            have hG2 := HG2.out w2 (below_go HB.out hb2)
            have y2 : w2.cell? ⟨gc, i, none⟩ = some (.int .u64 c) := ((bcell (below_go HB.out hb2)).1 gc i hgl).trans hgc
            simp only [getV] at hG2
            clear hG1 HG2
            go_wp2_with (fail)
            refine hG2.mono ?_
            rintro e w3 ⟨rfl, hb3'⟩
            have hb3 := below_go hb2 hb3'
            have hB3 := below_go HB.out hb3
            have y3 : w3.cell? ⟨gc, i, none⟩ = some (.int .u64 c) := ((bcell hB3).1 gc i hgl).trans hgc
            clear hG2 hb2 hb3' y2
            go_wp2
            go_quiet (fail)
            obtain ⟨w4, hw4⟩ : ∃ w4, w4 = w3.drewN nq := ⟨_, rfl⟩
            rw [← hw4]
            have hb4 : Below wr.heap.size wr w4 := by rw [hw4]; exact below_go hb3 (grown_below (grownBy_drewN w3 none nq))
            have hB4 := below_go HB.out hb4
            have y4 : w4.cell? ⟨gc, i, none⟩ = some (.int .u64 c) := ((bcell hB4).1 gc i hgl).trans hgc
            clear hw4 y3 hB3 hb3
            obtain ⟨t5, w5, hr5, hk5, hg5⟩ := lm_append w4 1 w1.heap.size (.slice va 0 vc) ([] : List (Sp Unit)) ⟨c, ee, ()⟩ (row_keep HY.out hb4) hB4.size hlb
            have hB5 : Below w1.heap.size w1 w5 := hB4.grown hg5 hB4.size (fun g hg => (World.ownsRow.lt HY.out g hg).1)
            have m0 : w5.cell? ⟨gc, i, none⟩ = some (.int .u64 c) := ((bcell hB5).1 gc i hgl).trans hgc
            have n0 := World.new_ne w4 _ y4
            have hE1 : Calls Try.prog 44 #[.slice (some ⟨gc, 0, none⟩) m cc, .int .i64 i] w4.drew fun e W' => e = .returned (.int .u64 ee) ∧ W' = w4.drew := hEnd w4.drew hB4.drew
            have hr6 : ∀ ty, (Builtin.append_ #[56, 56] ty #[.slice va 0 vc, .slice (some ⟨w4.heap.size, 0, none⟩) 1 1]).run Try.prog (w4.alloc (.cells #[.int .u64 c, .int .u64 ee] 82)).drew = .ok t5 w5 := hr5
            clear hr5
            rw [← HS2.out] at hk5
            obtain ⟨va3, vc3, rfl⟩ := slice_form hk5
            have HK3 : Hid (Lm w5 w1.heap.size (.slice va3 (P (i + 1)).length vc3) (P (i + 1))) := hk5
            clear hk5 hg5 hEnd
            go_wp2
            go_region_held3 (fun w' => w'.cell? ⟨gc, i, none⟩ = some (.int .u64 c)) (first | go_keep | exact m0)
              ((first | (go_at_call 44; refine hE1.mono ?_; rintro e wE ⟨rfl, rfl⟩) | (refine step_append (by rfl) _ _ 56 56 (by rfl) _ _ (by simp [Act.eval]) (by simp [Act.eval]) (hr6 _) ?_)))
            go_wp2
            go_roundw
            case rel => exact ⟨i + 1, va3, vc3, rfl, by go_num, by omega, HK3, hB5⟩
            case measure => simp [intOf]; omega
          · rw [List.concat_eq_append] at hA
            subst hA
            have hti : (A ++ [t])[A.length]? = some t := by simp
            obtain ⟨va', vc', hveq, hvc⟩ := Lm.view HY.out
            obtain ⟨g, rfl, hg1, hg2, z0, z1, z3⟩ := hvc A.length t hti
            cases hveq
            have htc := B1 t (by simp)
            have htg := good_lo V1 t (by simp)
            have hal : (A ++ [t]).length = A.length + 1 := by simp
            have hz1 : (0 : Int) ≤ (A.length : Int) := by omega
            have hz2 : (A.length : Int) < (A.length : Int) + 1 := by omega
            have hz4 : A.length ≤ 9000000 := by omega
            have hwt : IntKind.u64.wrap (t.hi + 1) = t.hi + 1 := by rw [IntKind.wrap_u64]; omega
            clear hvc hti z0 V1 V4 B1
            by_cases h2 : t.hi + 1 = c
            · have e2 : (t.hi + 1 == c) = true := by simp [h2]
              have HS2 : Hid (P (i + 1) = A ++ [⟨t.lo, ee, t.val⟩]) := by show _ = _; rw [HS.out]; exact stepU_join A t c ee h2
              clear HS h2
              go_wp2_with (fail)
              refine hG1.mono ?_
              rintro e w2 ⟨rfl, hb2⟩
              have hG2 := HG2.out w2 (below_go HB.out hb2)
              have y2 : w2.cell? ⟨gc, i, none⟩ = some (.int .u64 c) := ((bcell (below_go HB.out hb2)).1 gc i hgl).trans hgc
              simp only [getV] at hG2
              clear hG1 HG2
              go_wp2_with (fail)
              refine hG2.mono ?_
              rintro e w3 ⟨rfl, hb3'⟩
              have hb3 := below_go hb2 hb3'
              have hB3 := below_go HB.out hb3
              have y3 : w3.cell? ⟨gc, i, none⟩ = some (.int .u64 c) := ((bcell hB3).1 gc i hgl).trans hgc
              have p1 : w3.cell? ⟨g, A.length * 2 + 1, none⟩ = some (.int .u64 t.hi) := ((bcell hb3).1 g _ hg2).trans z1
              clear hG2 hb2 hb3' y2
              go_wp2
              go_quiet (fail)
              obtain ⟨w4, hw4⟩ : ∃ w4, w4 = w3.drewN nq := ⟨_, rfl⟩
              rw [← hw4]
              have hb4 : Below wr.heap.size wr w4 := by rw [hw4]; exact below_go hb3 (grown_below (grownBy_drewN w3 none nq))
              have hB4 := below_go HB.out hb4
              have y4 : w4.cell? ⟨gc, i, none⟩ = some (.int .u64 c) := ((bcell hB4).1 gc i hgl).trans hgc
              have p4 : w4.cell? ⟨g, A.length * 2 + 1, none⟩ = some (.int .u64 t.hi) := ((bcell hb4).1 g _ hg2).trans z1
              have p5 : w4.frozen? ⟨g, A.length * 2 + 1, none⟩ = false := ((bcell hb4).2 g _ hg2).trans z3
              clear hw4 y3 hB3 hb3 p1
              have hE1 : Calls Try.prog 44 #[.slice (some ⟨gc, 0, none⟩) m cc, .int .i64 i] w4 fun e W' => e = .returned (.int .u64 ee) ∧ W' = w4 := hEnd w4 hB4
              have HK3 : Hid (Lm (w4.setCell ⟨g, A.length * 2 + 1, none⟩ (.int .u64 ee)) w1.heap.size (.slice (some ⟨g, 0, none⟩) (P (i + 1)).length vc) (P (i + 1))) := by
                have hq := Lm.set (row_keep HY.out hb4) ee
                show Lm _ _ _ _
                rw [HS2.out]
                have hl : (A ++ [⟨t.lo, ee, t.val⟩] : List (Sp Unit)).length = (A ++ [t]).length := by simp
                rw [hl]
                exact hq
              have HLn : Hid ((P (i + 1)).length = A.length + 1) := by show _ = _; rw [HS2.out]; simp
              have hB5 : Below w1.heap.size w1 (w4.setCell ⟨g, A.length * 2 + 1, none⟩ (.int .u64 ee)) := hB4.setCell hg1 _
              clear hEnd
              go_wp2_with (go_at_call 44; refine hE1.mono ?_; rintro e wE ⟨rfl, rfl⟩)
              go_roundw
              case rel => exact ⟨i + 1, _, vc, by rw [HLn.out], by go_num, by omega, HK3, hB5⟩
              case measure => simp [intOf]; omega
            · have e2 : (t.hi + 1 == c) = false := by simp [h2]
              have HS2 : Hid (P (i + 1) = (A ++ [t]) ++ [⟨c, ee, ()⟩]) := by show _ = _; rw [HS.out]; exact stepU_more A t c ee h2
              clear HS h2
              go_wp2_with (fail)
              refine hG1.mono ?_
              rintro e w2 ⟨rfl, hb2⟩
              have hG2 := HG2.out w2 (below_go HB.out hb2)
              have y2 : w2.cell? ⟨gc, i, none⟩ = some (.int .u64 c) := ((bcell (below_go HB.out hb2)).1 gc i hgl).trans hgc
              simp only [getV] at hG2
              clear hG1 HG2
              go_wp2_with (fail)
              refine hG2.mono ?_
              rintro e w3 ⟨rfl, hb3'⟩
              have hb3 := below_go hb2 hb3'
              have hB3 := below_go HB.out hb3
              have y3 : w3.cell? ⟨gc, i, none⟩ = some (.int .u64 c) := ((bcell hB3).1 gc i hgl).trans hgc
              have p1 : w3.cell? ⟨g, A.length * 2 + 1, none⟩ = some (.int .u64 t.hi) := ((bcell hb3).1 g _ hg2).trans z1
              clear hG2 hb2 hb3' y2
              go_wp2
              go_quiet (fail)
              obtain ⟨w4, hw4⟩ : ∃ w4, w4 = w3.drewN nq := ⟨_, rfl⟩
              rw [← hw4]
              have hb4 : Below wr.heap.size wr w4 := by rw [hw4]; exact below_go hb3 (grown_below (grownBy_drewN w3 none nq))
              have hB4 := below_go HB.out hb4
              have y4 : w4.cell? ⟨gc, i, none⟩ = some (.int .u64 c) := ((bcell hB4).1 gc i hgl).trans hgc
              clear hw4 y3 hB3 hb3 p1
              obtain ⟨t5, w5, hr5, hk5, hg5⟩ := lm_append w4 1 w1.heap.size (.slice (some ⟨g, 0, none⟩) (A ++ [t]).length vc) (A ++ [t]) ⟨c, ee, ()⟩ (row_keep HY.out hb4) hB4.size hlb
              have hB5 : Below w1.heap.size w1 w5 := hB4.grown hg5 hB4.size (fun g hg => (World.ownsRow.lt HY.out g hg).1)
              have m0 : w5.cell? ⟨gc, i, none⟩ = some (.int .u64 c) := ((bcell hB5).1 gc i hgl).trans hgc
              have n0 := World.new_ne w4 _ y4
              have hE1 : Calls Try.prog 44 #[.slice (some ⟨gc, 0, none⟩) m cc, .int .i64 i] w4.drew fun e W' => e = .returned (.int .u64 ee) ∧ W' = w4.drew := hEnd w4.drew hB4.drew
              have hr6 : ∀ ty, (Builtin.append_ #[56, 56] ty #[.slice (some ⟨g, 0, none⟩) (A ++ [t]).length vc, .slice (some ⟨w4.heap.size, 0, none⟩) 1 1]).run Try.prog (w4.alloc (.cells #[.int .u64 c, .int .u64 ee] 82)).drew = .ok t5 w5 := hr5
              clear hr5
              rw [← HS2.out] at hk5
              obtain ⟨va3, vc3, rfl⟩ := slice_form hk5
              have HK3 : Hid (Lm w5 w1.heap.size (.slice va3 (P (i + 1)).length vc3) (P (i + 1))) := hk5
              clear hk5 hg5 hEnd
              go_wp2
              go_region_held3 (fun w' => w'.cell? ⟨gc, i, none⟩ = some (.int .u64 c)) (first | go_keep | exact m0)
                ((first | (go_at_call 44; refine hE1.mono ?_; rintro e wE ⟨rfl, rfl⟩) | (refine step_append (by rfl) _ _ 56 56 (by rfl) _ _ (by simp [Act.eval]) (by simp [Act.eval]) (hr6 _) ?_)))
              go_wp2
              go_roundw
              case rel => exact ⟨i + 1, va3, vc3, rfl, by go_num, by omega, HK3, hB5⟩
              case measure => simp [intOf]; omega
        | some y =>
          by_cases hxy : x = y
          · subst hxy
            rw [hga] at hG1 HS
            rw [hgb] at HG2 HS
            simp only [getV] at hG1
            clear hga hgb
            rw [if_pos rfl] at HS
            have HS2 : Hid (P (i + 1) = P i) := by show _ = _; rw [HS.out]; rfl
            have HY2 : Hid (∀ w2, Below wr.heap.size wr w2 → Lm w2 w1.heap.size (.slice va (P (i + 1)).length vc) (P (i + 1))) := by
              intro w2 hb2
              rw [HS2.out]
              exact row_keep HY.out hb2
            have HSl : Hid ((P i).length = (P (i + 1)).length) := by show _ = _; rw [HS2.out]
            clear B1 V1 HS hEnd
            go_wp2_with (fail)
            refine hG1.mono ?_
            rintro e w2 ⟨rfl, hb2⟩
            have hG2 := HG2.out w2 (below_go HB.out hb2)
            have y2 : w2.cell? ⟨gc, i, none⟩ = some (.int .u64 c) := ((bcell (below_go HB.out hb2)).1 gc i hgl).trans hgc
            simp only [getV] at hG2
            clear hG1 HG2
            go_wp2_with (fail)
            refine hG2.mono ?_
            rintro e w3 ⟨rfl, hb3'⟩
            have hb3 := below_go hb2 hb3'
            clear hG2 hb2 hb3'
            go_wp2
            go_roundw
            case rel => exact ⟨i + 1, va, vc, by rw [HSl.out], by go_num, by omega, HY2.out _ hb3, below_go HB.out hb3⟩
            case measure => simp [intOf]; omega
          · have exy : (x == y) = false := by simp [hxy]
            have hne : ¬ ((some x : Option Int) = some y) := by simpa using hxy
            clear hxy
            rw [hga] at hG1 HS
            rw [hgb] at HG2 HS
            simp only [getV] at hG1
            clear hga hgb
            rw [if_neg hne] at HS
            clear hne
            have hlb : (P i).length ≤ 9000000 := by omega
            generalize hll : P i = ll at *
            clear hll
            rcases List.eq_nil_or_concat ll with rfl | ⟨A, t, hA⟩
            · have HS2 : Hid (P (i + 1) = [] ++ [⟨c, ee, ()⟩]) := by show _ = _; rw [HS.out]; exact stepU_nil c ee
              clear HS B1 V1 V4
              simp only [List.length_nil] at HY
              go_wp2_with (fail)
              refine hG1.mono ?_
              rintro e w2 ⟨rfl, hb2⟩
              have hG2 := HG2.out w2 (below_go HB.out hb2)
              have y2 : w2.cell? ⟨gc, i, none⟩ = some (.int .u64 c) := ((bcell (below_go HB.out hb2)).1 gc i hgl).trans hgc
              simp only [getV] at hG2
              clear hG1 HG2
              go_wp2_with (fail)
              refine hG2.mono ?_
              rintro e w3 ⟨rfl, hb3'⟩
              have hb3 := below_go hb2 hb3'
              have hB3 := below_go HB.out hb3
              have y3 : w3.cell? ⟨gc, i, none⟩ = some (.int .u64 c) := ((bcell hB3).1 gc i hgl).trans hgc
              clear hG2 hb2 hb3' y2
              go_wp2
              go_quiet (fail)
              obtain ⟨w4, hw4⟩ : ∃ w4, w4 = w3.drewN nq := ⟨_, rfl⟩
              rw [← hw4]
              have hb4 : Below wr.heap.size wr w4 := by rw [hw4]; exact below_go hb3 (grown_below (grownBy_drewN w3 none nq))
              have hB4 := below_go HB.out hb4
              have y4 : w4.cell? ⟨gc, i, none⟩ = some (.int .u64 c) := ((bcell hB4).1 gc i hgl).trans hgc
              clear hw4 y3 hB3 hb3
              obtain ⟨t5, w5, hr5, hk5, hg5⟩ := lm_append w4 1 w1.heap.size (.slice va 0 vc) ([] : List (Sp Unit)) ⟨c, ee, ()⟩ (row_keep HY.out hb4) hB4.size hlb
              have hB5 : Below w1.heap.size w1 w5 := hB4.grown hg5 hB4.size (fun g hg => (World.ownsRow.lt HY.out g hg).1)
              have m0 : w5.cell? ⟨gc, i, none⟩ = some (.int .u64 c) := ((bcell hB5).1 gc i hgl).trans hgc
              have n0 := World.new_ne w4 _ y4
              have hE1 : Calls Try.prog 44 #[.slice (some ⟨gc, 0, none⟩) m cc, .int .i64 i] w4.drew fun e W' => e = .returned (.int .u64 ee) ∧ W' = w4.drew := hEnd w4.drew hB4.drew
              have hr6 : ∀ ty, (Builtin.append_ #[56, 56] ty #[.slice va 0 vc, .slice (some ⟨w4.heap.size, 0, none⟩) 1 1]).run Try.prog (w4.alloc (.cells #[.int .u64 c, .int .u64 ee] 82)).drew = .ok t5 w5 := hr5
              clear hr5
              rw [← HS2.out] at hk5
              obtain ⟨va3, vc3, rfl⟩ := slice_form hk5
              have HK3 : Hid (Lm w5 w1.heap.size (.slice va3 (P (i + 1)).length vc3) (P (i + 1))) := hk5
              clear hk5 hg5 hEnd
              go_wp2
              go_region_held3 (fun w' => w'.cell? ⟨gc, i, none⟩ = some (.int .u64 c)) (first | go_keep | exact m0)
                ((first | (go_at_call 44; refine hE1.mono ?_; rintro e wE ⟨rfl, rfl⟩) | (refine step_append (by rfl) _ _ 56 56 (by rfl) _ _ (by simp [Act.eval]) (by simp [Act.eval]) (hr6 _) ?_)))
              go_wp2
              go_roundw
              case rel => exact ⟨i + 1, va3, vc3, rfl, by go_num, by omega, HK3, hB5⟩
              case measure => simp [intOf]; omega
            · rw [List.concat_eq_append] at hA
              subst hA
              have hti : (A ++ [t])[A.length]? = some t := by simp
              obtain ⟨va', vc', hveq, hvc⟩ := Lm.view HY.out
              obtain ⟨g, rfl, hg1, hg2, z0, z1, z3⟩ := hvc A.length t hti
              cases hveq
              have htc := B1 t (by simp)
              have htg := good_lo V1 t (by simp)
              have hal : (A ++ [t]).length = A.length + 1 := by simp
              have hz1 : (0 : Int) ≤ (A.length : Int) := by omega
              have hz2 : (A.length : Int) < (A.length : Int) + 1 := by omega
              have hz4 : A.length ≤ 9000000 := by omega
              have hwt : IntKind.u64.wrap (t.hi + 1) = t.hi + 1 := by rw [IntKind.wrap_u64]; omega
              clear hvc hti z0 V1 V4 B1
              by_cases h2 : t.hi + 1 = c
              · have e2 : (t.hi + 1 == c) = true := by simp [h2]
                have HS2 : Hid (P (i + 1) = A ++ [⟨t.lo, ee, t.val⟩]) := by show _ = _; rw [HS.out]; exact stepU_join A t c ee h2
                clear HS h2
                go_wp2_with (fail)
                refine hG1.mono ?_
                rintro e w2 ⟨rfl, hb2⟩
                have hG2 := HG2.out w2 (below_go HB.out hb2)
                have y2 : w2.cell? ⟨gc, i, none⟩ = some (.int .u64 c) := ((bcell (below_go HB.out hb2)).1 gc i hgl).trans hgc
                simp only [getV] at hG2
                clear hG1 HG2
                go_wp2_with (fail)
                refine hG2.mono ?_
                rintro e w3 ⟨rfl, hb3'⟩
                have hb3 := below_go hb2 hb3'
                have hB3 := below_go HB.out hb3
                have y3 : w3.cell? ⟨gc, i, none⟩ = some (.int .u64 c) := ((bcell hB3).1 gc i hgl).trans hgc
                have p1 : w3.cell? ⟨g, A.length * 2 + 1, none⟩ = some (.int .u64 t.hi) := ((bcell hb3).1 g _ hg2).trans z1
                clear hG2 hb2 hb3' y2
                go_wp2
                go_quiet (fail)
                obtain ⟨w4, hw4⟩ : ∃ w4, w4 = w3.drewN nq := ⟨_, rfl⟩
                rw [← hw4]
                have hb4 : Below wr.heap.size wr w4 := by rw [hw4]; exact below_go hb3 (grown_below (grownBy_drewN w3 none nq))
                have hB4 := below_go HB.out hb4
                have y4 : w4.cell? ⟨gc, i, none⟩ = some (.int .u64 c) := ((bcell hB4).1 gc i hgl).trans hgc
                have p4 : w4.cell? ⟨g, A.length * 2 + 1, none⟩ = some (.int .u64 t.hi) := ((bcell hb4).1 g _ hg2).trans z1
                have p5 : w4.frozen? ⟨g, A.length * 2 + 1, none⟩ = false := ((bcell hb4).2 g _ hg2).trans z3
                clear hw4 y3 hB3 hb3 p1
                have hE1 : Calls Try.prog 44 #[.slice (some ⟨gc, 0, none⟩) m cc, .int .i64 i] w4 fun e W' => e = .returned (.int .u64 ee) ∧ W' = w4 := hEnd w4 hB4
                have HK3 : Hid (Lm (w4.setCell ⟨g, A.length * 2 + 1, none⟩ (.int .u64 ee)) w1.heap.size (.slice (some ⟨g, 0, none⟩) (P (i + 1)).length vc) (P (i + 1))) := by
                  have hq := Lm.set (row_keep HY.out hb4) ee
                  show Lm _ _ _ _
                  rw [HS2.out]
                  have hl : (A ++ [⟨t.lo, ee, t.val⟩] : List (Sp Unit)).length = (A ++ [t]).length := by simp
                  rw [hl]
                  exact hq
                have HLn : Hid ((P (i + 1)).length = A.length + 1) := by show _ = _; rw [HS2.out]; simp
                have hB5 : Below w1.heap.size w1 (w4.setCell ⟨g, A.length * 2 + 1, none⟩ (.int .u64 ee)) := hB4.setCell hg1 _
                clear hEnd
                go_wp2_with (go_at_call 44; refine hE1.mono ?_; rintro e wE ⟨rfl, rfl⟩)
                go_roundw
                case rel => exact ⟨i + 1, _, vc, by rw [HLn.out], by go_num, by omega, HK3, hB5⟩
                case measure => simp [intOf]; omega
              · have e2 : (t.hi + 1 == c) = false := by simp [h2]
                have HS2 : Hid (P (i + 1) = (A ++ [t]) ++ [⟨c, ee, ()⟩]) := by show _ = _; rw [HS.out]; exact stepU_more A t c ee h2
                clear HS h2
                go_wp2_with (fail)
                refine hG1.mono ?_
                rintro e w2 ⟨rfl, hb2⟩
                have hG2 := HG2.out w2 (below_go HB.out hb2)
                have y2 : w2.cell? ⟨gc, i, none⟩ = some (.int .u64 c) := ((bcell (below_go HB.out hb2)).1 gc i hgl).trans hgc
                simp only [getV] at hG2
                clear hG1 HG2
                go_wp2_with (fail)
                refine hG2.mono ?_
                rintro e w3 ⟨rfl, hb3'⟩
                have hb3 := below_go hb2 hb3'
                have hB3 := below_go HB.out hb3
                have y3 : w3.cell? ⟨gc, i, none⟩ = some (.int .u64 c) := ((bcell hB3).1 gc i hgl).trans hgc
                have p1 : w3.cell? ⟨g, A.length * 2 + 1, none⟩ = some (.int .u64 t.hi) := ((bcell hb3).1 g _ hg2).trans z1
                clear hG2 hb2 hb3' y2
                go_wp2
                go_quiet (fail)
                obtain ⟨w4, hw4⟩ : ∃ w4, w4 = w3.drewN nq := ⟨_, rfl⟩
                rw [← hw4]
                have hb4 : Below wr.heap.size wr w4 := by rw [hw4]; exact below_go hb3 (grown_below (grownBy_drewN w3 none nq))
                have hB4 := below_go HB.out hb4
                have y4 : w4.cell? ⟨gc, i, none⟩ = some (.int .u64 c) := ((bcell hB4).1 gc i hgl).trans hgc
                clear hw4 y3 hB3 hb3 p1
                obtain ⟨t5, w5, hr5, hk5, hg5⟩ := lm_append w4 1 w1.heap.size (.slice (some ⟨g, 0, none⟩) (A ++ [t]).length vc) (A ++ [t]) ⟨c, ee, ()⟩ (row_keep HY.out hb4) hB4.size hlb
                have hB5 : Below w1.heap.size w1 w5 := hB4.grown hg5 hB4.size (fun g hg => (World.ownsRow.lt HY.out g hg).1)
                have m0 : w5.cell? ⟨gc, i, none⟩ = some (.int .u64 c) := ((bcell hB5).1 gc i hgl).trans hgc
                have n0 := World.new_ne w4 _ y4
                have hE1 : Calls Try.prog 44 #[.slice (some ⟨gc, 0, none⟩) m cc, .int .i64 i] w4.drew fun e W' => e = .returned (.int .u64 ee) ∧ W' = w4.drew := hEnd w4.drew hB4.drew
                have hr6 : ∀ ty, (Builtin.append_ #[56, 56] ty #[.slice (some ⟨g, 0, none⟩) (A ++ [t]).length vc, .slice (some ⟨w4.heap.size, 0, none⟩) 1 1]).run Try.prog (w4.alloc (.cells #[.int .u64 c, .int .u64 ee] 82)).drew = .ok t5 w5 := hr5
                clear hr5
                rw [← HS2.out] at hk5
                obtain ⟨va3, vc3, rfl⟩ := slice_form hk5
                have HK3 : Hid (Lm w5 w1.heap.size (.slice va3 (P (i + 1)).length vc3) (P (i + 1))) := hk5
                clear hk5 hg5 hEnd
                go_wp2
                go_region_held3 (fun w' => w'.cell? ⟨gc, i, none⟩ = some (.int .u64 c)) (first | go_keep | exact m0)
                  ((first | (go_at_call 44; refine hE1.mono ?_; rintro e wE ⟨rfl, rfl⟩) | (refine step_append (by rfl) _ _ 56 56 (by rfl) _ _ (by simp [Act.eval]) (by simp [Act.eval]) (hr6 _) ?_)))
                go_wp2
                go_roundw
                case rel => exact ⟨i + 1, va3, vc3, rfl, by go_num, by omega, HK3, hB5⟩
                case measure => simp [intOf]; omega
    · obtain rfl : i = m := by omega
      have HF : Hid (∃ R, Lm wr W.heap.size (.slice va (P i).length vc) R ∧ (Good 0 none R ∧ ∀ k, 0 ≤ k → k ≤ 18446744073709551615 → get R k = partF (refG D1) (refG D2) k) ∧ R.length ≤ 4500000) := by
        obtain ⟨V1, V2, V3, V4⟩ := HV.out i (Nat.le_refl _)
        exact ⟨_, own_mono HY.out hb1.size, ⟨V1, V3 rfl⟩, by omega⟩
      go_wp2
      go_ret
      exact ⟨_, rfl, HF.out, below_go hb1 HB.out⟩
end Go.Proofs.Ytliiblaodhcjhab
