import Derived.Test.YtliiblaodhcjhabRSp
namespace Go.Proofs.Ytliiblaodhcjhab
open Go.RowKit
set_option linter.unusedVariables false

set_option maxHeartbeats 6000000 in
set_option maxRecDepth 100000 in
theorem rspans_any (W : World) (lo p : Nat) (v : Value) (D : List Dn) (h : RefAt W lo p v D) (hs : D.length ≤ 1048576) :
    Calls Try.prog 26 #[.pointer (some ⟨p, 0, none⟩)] W fun e W' => ∃ v', e = .returned v' ∧ (∃ R, Lr W' W.heap.size v' R ∧ Good 0 none R ∧ (∀ k, 0 ≤ k → k ≤ 18446744073709551615 → get R k = refG D k) ∧ R.length ≤ 1 + 2 * D.length) ∧ Below W.heap.size W W' := by
  have hC := cuts_any W lo p W.heap.size v (.slice none 0 0) D [] h hs (World.ownsRow_nil _ _ _ _) (Nat.le_refl _) trivial (Nat.zero_le _)
  have hmx : ∀ x ∈ cutsL D [], x ≤ 18446744073709551615 := fold_le (fun x hx => by simp [insK] at hx; omega) (fun d hd => by have := h.rng d hd; omega)
  have HH : Hid (RefAt W lo p v D) := h
  have HM : Hid (∀ x ∈ cutsL D [], x ≤ 18446744073709551615) := hmx
  clear h hmx
  go_enter Try.func26, Try.ntmps26
  go_wp2_with (fail)
  refine hC.mono ?_
  rintro e w1 ⟨v1, rfl, hk1, hr1, hl1, hb1⟩
  have hinv := fun i hi => refSp_inv hr1 HM.out i hi
  have HV : Hid (∀ i, i ≤ (cutsL D []).length → Good 0 none (refSp D (cutsL D []) i) ∧ (∀ c, (cutsL D [])[i]? = some c → (∀ s ∈ refSp D (cutsL D []) i, s.hi < c) ∧ ∀ k, 0 ≤ k → k < c → get (refSp D (cutsL D []) i) k = refG D k) ∧ (i = (cutsL D []).length → ∀ k, 0 ≤ k → k ≤ 18446744073709551615 → get (refSp D (cutsL D []) i) k = refG D k) ∧ (refSp D (cutsL D []) i).length ≤ i) := hinv
  have HEr : Hid (∀ i c, (cutsL D [])[i]? = some c → c ≤ endC (cutsL D []) i ∧ endC (cutsL D []) i ≤ 18446744073709551615) := fun i c hc => endC_rng hr1 HM.out hc
  have HRi : Hid (∀ i c y, (cutsL D [])[i]? = some c → (cutsL D [])[i + 1]? = some y → 1 ≤ y) := fun i c y hc hy => by
    have h1 := rise_next hr1 hc hy
    have h2 := rise_low hr1 c (List.mem_of_getElem? hc)
    omega
  have HLo : Hid (∀ x ∈ cutsL D [], 0 ≤ x) := rise_low hr1
  simp only [List.length_nil, Nat.zero_add] at hl1
  clear hC hinv hr1
  generalize hcs : cutsL D [] = cs at *
  clear hcs
  obtain ⟨ca, cc, hv1, hcells⟩ := hk1.view
  subst hv1
  have HK : Hid (Ks w1 W.heap.size (.slice ca cs.length cc) cs) := hk1
  have HC : Hid (∀ i x, cs[i]? = some x → ∃ g, ca = some ⟨g, 0, none⟩ ∧ g < w1.heap.size ∧ w1.cell? ⟨g, i, none⟩ = some (.int .u64 x)) := hcells
  have HD : Hid (RefAt w1 lo p v D) := HH.out.keep hb1
  clear hk1 hcells
  have hm8 : cs.length ≤ 3000000 := by omega
  generalize hm : cs.length = m at *
  have HML : Hid (cs.length = m) := hm
  clear hm
  go_wp2
  go_loopw [4, 5] (fun sl si wr => ∃ (i : Nat) (va : Option Addr) (vc : Nat), sl = .slice va (refSp D cs i).length vc ∧ si = .int .i64 i ∧ i ≤ m ∧ Hid (Lr wr w1.heap.size (.slice va (refSp D cs i).length vc) (refSp D cs i)) ∧ Hid (Below w1.heap.size w1 wr)) (fun _ si _ => m - (intOf si).toNat)
  case atStart => exact ⟨0, none, 0, rfl, rfl, Nat.zero_le _, World.ownsRow_nil _ _ _ _, Below.refl _ _⟩
  case round =>
    obtain ⟨i, va, vc, rfl, rfl, hi, HY, HB⟩ := hrel
    by_cases hlt : i < m
    · obtain ⟨c, hc⟩ : ∃ c, cs[i]? = some c := ⟨_, List.getElem?_eq_getElem (by rw [HML.out]; exact hlt)⟩
      obtain ⟨gc, rfl, hgl, hgc⟩ := HC.out i c hc
      obtain ⟨V1, V2, V3, V4⟩ := HV.out i (by omega)
      obtain ⟨B1, B2⟩ := V2 c hc
      obtain ⟨E1, E2⟩ := HEr.out i c hc
      have c0 := HLo.out c (List.mem_of_getElem? hc)
      have HS : Hid (refSp D cs (i + 1) = step (refSp D cs i) c (endC cs i) (refG D c)) := by show _ = _; rw [refSp, hc]
      have HCI : Hid (cs[i]? = some c) := hc
      clear V2 V3 B2 hc
      have hiz : (i : Int) < (m : Int) := by omega
      have hi0 : (0 : Int) ≤ (i : Int) := by omega
      have y0 : wr.cell? ⟨gc, i, none⟩ = some (.int .u64 c) := by rw [(bcell HB.out).1 gc i hgl]; exact hgc
      have hG := rget_any wr lo p v D c (HD.out.keep HB.out) hs
      cases hg : refG D c with
      | none =>
        rw [hg] at hG
        simp only [getV] at hG
        have HS2 : Hid (refSp D cs (i + 1) = refSp D cs i) := by show _ = _; rw [HS.out, hg]; rfl
        have HY2 : Hid (∀ w2, Below wr.heap.size wr w2 → Lr w2 w1.heap.size (.slice va (refSp D cs (i + 1)).length vc) (refSp D cs (i + 1))) := by
          intro w2 hb2
          rw [HS2.out]
          exact row_keep HY.out hb2
        have HSl : Hid ((refSp D cs i).length = (refSp D cs (i + 1)).length) := by show _ = _; rw [HS2.out]
        clear hg B1 V1 HS
        go_wp2_with (go_at_call 34; refine hG.mono ?_; rintro e w2 ⟨rfl, hb2⟩)
        go_roundw
        case rel => exact ⟨i + 1, va, vc, by rw [HSl.out], by go_num, by omega, HY2.out _ hb2, below_go HB.out hb2⟩
        case measure => simp [intOf]; omega
      | some x =>
        rw [hg] at hG
        simp only [getV] at hG
        have HS2 : Hid (refSp D cs (i + 1) = step (refSp D cs i) c (endC cs i) (some x)) := by show _ = _; rw [HS.out, hg]
        clear hg HS
        generalize hll : refSp D cs i = ll at *
        clear hll
        have hEnd : ∀ w', Below w1.heap.size w1 w' → Calls Try.prog 44 #[.slice (some ⟨gc, 0, none⟩) m cc, .int .i64 i] w' fun e W' => e = .returned (.int .u64 (endC cs i)) ∧ W' = w' := by
          intro w' hw'
          have := end_any w' W.heap.size (.slice (some ⟨gc, 0, none⟩) cs.length cc) cs i (by rw [HML.out]; exact HK.out.keep hw') (fun x hx => ⟨HLo.out x hx, HM.out x hx⟩) (by rw [HML.out]; omega) (by rw [HML.out]; exact hlt) (fun y hy => HRi.out i c y HCI.out hy)
          rw [HML.out] at this
          exact this
        generalize endC cs i = ee at *
        have hlb : ll.length ≤ 9000000 := by omega
        rcases List.eq_nil_or_concat ll with rfl | ⟨A, t, hA⟩
        · have HS3 : Hid (refSp D cs (i + 1) = [] ++ [⟨c, ee, x⟩]) := by show _ = _; rw [HS2.out]; rfl
          clear HS2
          have HS2 := HS3
          clear HS3 B1 V1 V4
          simp only [List.length_nil] at HY
          go_wp2_with (go_at_call 34; refine hG.mono ?_; rintro e w2 ⟨rfl, hb2⟩; have hB2 := below_go HB.out hb2; have y2 : w2.cell? ⟨gc, i, none⟩ = some (.int .u64 c) := ((bcell hB2).1 gc i hgl).trans hgc)
          go_quiet (fail)
          obtain ⟨w4, hw4⟩ : ∃ w4, w4 = w2.drewN nq := ⟨_, rfl⟩
          rw [← hw4]
          have hb4 : Below wr.heap.size wr w4 := by rw [hw4]; exact below_go hb2 (grown_below (grownBy_drewN w2 none nq))
          have hB4 := below_go HB.out hb4
          have y4 : w4.cell? ⟨gc, i, none⟩ = some (.int .u64 c) := ((bcell hB4).1 gc i hgl).trans hgc
          clear hw4 y2 hB2 hb2
          obtain ⟨t3, w3, hr3, hk3, hg3⟩ := lr_append w4 w1.heap.size (.slice va 0 vc) ([] : List (Sp Int)) ⟨c, ee, x⟩ (row_keep HY.out hb4) hB4.size hlb
          have hB3 : Below w1.heap.size w1 w3 := hB4.grown hg3 hB4.size (fun g hg => (World.ownsRow.lt HY.out g hg).1)
          have m0 : w3.cell? ⟨gc, i, none⟩ = some (.int .u64 c) := ((bcell hB3).1 gc i hgl).trans hgc
          have n0 := World.new_ne w4 _ y4
          have hE1 : Calls Try.prog 44 #[.slice (some ⟨gc, 0, none⟩) m cc, .int .i64 i] w4.drew fun e W' => e = .returned (.int .u64 ee) ∧ W' = w4.drew := hEnd w4.drew hB4.drew
          dsimp only at hr3
          rw [← HS2.out] at hk3
          obtain ⟨va3, vc3, rfl⟩ := slice_form hk3
          have HK3 : Hid (Lr w3 w1.heap.size (.slice va3 (refSp D cs (i + 1)).length vc3) (refSp D cs (i + 1))) := hk3
          clear hk3 hg3
          go_wp2
          go_region_held3 (fun w' => w'.cell? ⟨gc, i, none⟩ = some (.int .u64 c)) (first | go_keep | exact m0)
            ((first | (go_at_call 44; refine hE1.mono ?_; rintro e wE ⟨rfl, rfl⟩) | (refine step_append (by rfl) _ _ 36 36 (by rfl) _ _ (by simp [Act.eval]) (by simp [Act.eval]) (hr3 _) ?_)))
          go_wp2
          go_roundw
          case rel => exact ⟨i + 1, va3, vc3, rfl, by go_num, by omega, HK3, hB3⟩
          case measure => simp [intOf]; omega
        · rw [List.concat_eq_append] at hA
          subst hA
          have hti : (A ++ [t])[A.length]? = some t := by simp
          obtain ⟨va', vc', hveq, hvc⟩ := Lr.view HY.out
          obtain ⟨g, rfl, hg1, hg2, z0, z1, z2, z3⟩ := hvc A.length t hti
          cases hveq
          have htc := B1 t (by simp)
          have htg := good_lo V1 t (by simp)
          have hal : (A ++ [t]).length = A.length + 1 := by simp
          have hz1 : (0 : Int) ≤ (A.length : Int) := by omega
          have hz2 : (A.length : Int) < (A.length : Int) + 1 := by omega
          have hz4 : A.length ≤ 9000000 := by omega
          have hwt : IntKind.u64.wrap (t.hi + 1) = t.hi + 1 := by rw [IntKind.wrap_u64]; omega
          clear hvc hti z0 V1 V4 B1
          by_cases h1 : t.val = x
          · have e1 : (t.val == x) = true := by simp [h1]
            by_cases h2 : t.hi + 1 = c
            · have e2 : (t.hi + 1 == c) = true := by simp [h2]
              have HS3 : Hid (refSp D cs (i + 1) = A ++ [⟨t.lo, ee, t.val⟩]) := by show _ = _; rw [HS2.out, step, List.getLast?_concat]; simp only [if_pos (show t.val = x ∧ t.hi + 1 = c from ⟨h1, h2⟩), List.dropLast_concat]; rw [h1]
              clear HS2 h1 h2
              go_wp2_with (go_at_call 34; refine hG.mono ?_; rintro e w2 ⟨rfl, hb2⟩; have hB2 := below_go HB.out hb2; have y2 : w2.cell? ⟨gc, i, none⟩ = some (.int .u64 c) := ((bcell hB2).1 gc i hgl).trans hgc; have p1 : w2.cell? ⟨g, A.length * 3 + 1, none⟩ = some (.int .u64 t.hi) := ((bcell hb2).1 g _ hg2).trans z1; have p2 : w2.cell? ⟨g, A.length * 3 + 2, none⟩ = some (.int .i64 t.val) := ((bcell hb2).1 g _ hg2).trans z2)
              go_quiet (fail)
              obtain ⟨w4, hw4⟩ : ∃ w4, w4 = w2.drewN nq := ⟨_, rfl⟩
              rw [← hw4]
              have hb4 : Below wr.heap.size wr w4 := by rw [hw4]; exact below_go hb2 (grown_below (grownBy_drewN w2 none nq))
              have hB4 := below_go HB.out hb4
              have y4 : w4.cell? ⟨gc, i, none⟩ = some (.int .u64 c) := ((bcell hB4).1 gc i hgl).trans hgc
              have p4 : w4.cell? ⟨g, A.length * 3 + 1, none⟩ = some (.int .u64 t.hi) := ((bcell hb4).1 g _ hg2).trans z1
              have p5 : w4.frozen? ⟨g, A.length * 3 + 1, none⟩ = false := ((bcell hb4).2 g _ hg2).trans z3
              clear hw4 y2 hB2 hb2 p1 p2
              have HK3 : Hid (Lr (w4.setCell ⟨g, A.length * 3 + 1, none⟩ (.int .u64 ee)) w1.heap.size (.slice (some ⟨g, 0, none⟩) (refSp D cs (i + 1)).length vc) (refSp D cs (i + 1))) := by
                have hq := Lr.set (row_keep HY.out hb4) ee
                show Lr _ _ _ _
                rw [HS3.out]
                rw [show (A ++ [t]).length = (A ++ [⟨t.lo, ee, t.val⟩] : List (Sp Int)).length by simp] at hq
                exact hq
              have HSl : Hid ((refSp D cs (i + 1)).length = A.length + 1) := by show _ = _; rw [HS3.out]; simp
              have hE1 := hEnd w4 hB4
              go_wp2_with (go_at_call 44; refine hE1.mono ?_; rintro e wE ⟨rfl, rfl⟩)
              go_roundw
              case rel => exact ⟨i + 1, some ⟨g, 0, none⟩, vc, by rw [HSl.out], by go_num, by omega, HK3, hB4.setCell hg1 _⟩
              case measure => simp [intOf]; omega
            · have e2 : (t.hi + 1 == c) = false := by simp [h2]
              have HS3 : Hid (refSp D cs (i + 1) = (A ++ [t]) ++ [⟨c, ee, x⟩]) := by show _ = _; rw [HS2.out, step, List.getLast?_concat]; simp only [if_neg (show ¬ (t.val = x ∧ t.hi + 1 = c) from fun h => h2 h.2)]
              clear HS2
              have HS2 := HS3
              clear HS3
              clear h1 h2
              go_wp2_with (go_at_call 34; refine hG.mono ?_; rintro e w2 ⟨rfl, hb2⟩; have hB2 := below_go HB.out hb2; have y2 : w2.cell? ⟨gc, i, none⟩ = some (.int .u64 c) := ((bcell hB2).1 gc i hgl).trans hgc; have p1 : w2.cell? ⟨g, A.length * 3 + 1, none⟩ = some (.int .u64 t.hi) := ((bcell hb2).1 g _ hg2).trans z1; have p2 : w2.cell? ⟨g, A.length * 3 + 2, none⟩ = some (.int .i64 t.val) := ((bcell hb2).1 g _ hg2).trans z2)
              go_quiet (fail)
              obtain ⟨w4, hw4⟩ : ∃ w4, w4 = w2.drewN nq := ⟨_, rfl⟩
              rw [← hw4]
              have hb4 : Below wr.heap.size wr w4 := by rw [hw4]; exact below_go hb2 (grown_below (grownBy_drewN w2 none nq))
              have hB4 := below_go HB.out hb4
              have y4 : w4.cell? ⟨gc, i, none⟩ = some (.int .u64 c) := ((bcell hB4).1 gc i hgl).trans hgc
              clear hw4 y2 hB2 hb2 p1 p2
              obtain ⟨t3, w3, hr3, hk3, hg3⟩ := lr_append w4 w1.heap.size (.slice (some ⟨g, 0, none⟩) (A ++ [t]).length vc) (A ++ [t]) ⟨c, ee, x⟩ (row_keep HY.out hb4) hB4.size hlb
              have hB3 : Below w1.heap.size w1 w3 := hB4.grown hg3 hB4.size (fun g hg => (World.ownsRow.lt HY.out g hg).1)
              have m0 : w3.cell? ⟨gc, i, none⟩ = some (.int .u64 c) := ((bcell hB3).1 gc i hgl).trans hgc
              have n0 := World.new_ne w4 _ y4
              have hE1 : Calls Try.prog 44 #[.slice (some ⟨gc, 0, none⟩) m cc, .int .i64 i] w4.drew fun e W' => e = .returned (.int .u64 ee) ∧ W' = w4.drew := hEnd w4.drew hB4.drew
              dsimp only at hr3
              rw [← HS2.out] at hk3
              obtain ⟨va3, vc3, rfl⟩ := slice_form hk3
              have HK3 : Hid (Lr w3 w1.heap.size (.slice va3 (refSp D cs (i + 1)).length vc3) (refSp D cs (i + 1))) := hk3
              clear hk3 hg3
              go_wp2
              go_region_held3 (fun w' => w'.cell? ⟨gc, i, none⟩ = some (.int .u64 c)) (first | go_keep | exact m0)
                ((first | (go_at_call 44; refine hE1.mono ?_; rintro e wE ⟨rfl, rfl⟩) | (refine step_append (by rfl) _ _ 36 36 (by rfl) _ _ (by simp [Act.eval]) (by simp [Act.eval]) (hr3 _) ?_)))
              go_wp2
              go_roundw
              case rel => exact ⟨i + 1, va3, vc3, rfl, by go_num, by omega, HK3, hB3⟩
              case measure => simp [intOf]; omega
          · have e1 : (t.val == x) = false := by simp [h1]
            have HS3 : Hid (refSp D cs (i + 1) = (A ++ [t]) ++ [⟨c, ee, x⟩]) := by show _ = _; rw [HS2.out, step, List.getLast?_concat]; simp only [if_neg (show ¬ (t.val = x ∧ t.hi + 1 = c) from fun h => h1 h.1)]
            clear HS2
            have HS2 := HS3
            clear HS3
            clear h1
            go_wp2_with (go_at_call 34; refine hG.mono ?_; rintro e w2 ⟨rfl, hb2⟩; have hB2 := below_go HB.out hb2; have y2 : w2.cell? ⟨gc, i, none⟩ = some (.int .u64 c) := ((bcell hB2).1 gc i hgl).trans hgc; have p1 : w2.cell? ⟨g, A.length * 3 + 1, none⟩ = some (.int .u64 t.hi) := ((bcell hb2).1 g _ hg2).trans z1; have p2 : w2.cell? ⟨g, A.length * 3 + 2, none⟩ = some (.int .i64 t.val) := ((bcell hb2).1 g _ hg2).trans z2)
            go_quiet (fail)
            obtain ⟨w4, hw4⟩ : ∃ w4, w4 = w2.drewN nq := ⟨_, rfl⟩
            rw [← hw4]
            have hb4 : Below wr.heap.size wr w4 := by rw [hw4]; exact below_go hb2 (grown_below (grownBy_drewN w2 none nq))
            have hB4 := below_go HB.out hb4
            have y4 : w4.cell? ⟨gc, i, none⟩ = some (.int .u64 c) := ((bcell hB4).1 gc i hgl).trans hgc
            clear hw4 y2 hB2 hb2 p1 p2
            obtain ⟨t3, w3, hr3, hk3, hg3⟩ := lr_append w4 w1.heap.size (.slice (some ⟨g, 0, none⟩) (A ++ [t]).length vc) (A ++ [t]) ⟨c, ee, x⟩ (row_keep HY.out hb4) hB4.size hlb
            have hB3 : Below w1.heap.size w1 w3 := hB4.grown hg3 hB4.size (fun g hg => (World.ownsRow.lt HY.out g hg).1)
            have m0 : w3.cell? ⟨gc, i, none⟩ = some (.int .u64 c) := ((bcell hB3).1 gc i hgl).trans hgc
            have n0 := World.new_ne w4 _ y4
            have hE1 : Calls Try.prog 44 #[.slice (some ⟨gc, 0, none⟩) m cc, .int .i64 i] w4.drew fun e W' => e = .returned (.int .u64 ee) ∧ W' = w4.drew := hEnd w4.drew hB4.drew
            dsimp only at hr3
            rw [← HS2.out] at hk3
            obtain ⟨va3, vc3, rfl⟩ := slice_form hk3
            have HK3 : Hid (Lr w3 w1.heap.size (.slice va3 (refSp D cs (i + 1)).length vc3) (refSp D cs (i + 1))) := hk3
            clear hk3 hg3
            go_wp2
            go_region_held3 (fun w' => w'.cell? ⟨gc, i, none⟩ = some (.int .u64 c)) (first | go_keep | exact m0)
              ((first | (go_at_call 44; refine hE1.mono ?_; rintro e wE ⟨rfl, rfl⟩) | (refine step_append (by rfl) _ _ 36 36 (by rfl) _ _ (by simp [Act.eval]) (by simp [Act.eval]) (hr3 _) ?_)))
            go_wp2
            go_roundw
            case rel => exact ⟨i + 1, va3, vc3, rfl, by go_num, by omega, HK3, hB3⟩
            case measure => simp [intOf]; omega
    · obtain rfl : i = m := by omega
      have HF : Hid (∃ R, Lr wr W.heap.size (.slice va (refSp D cs i).length vc) R ∧ Good 0 none R ∧ (∀ k, 0 ≤ k → k ≤ 18446744073709551615 → get R k = refG D k) ∧ R.length ≤ 1 + 2 * D.length) := by
        obtain ⟨V1, V2, V3, V4⟩ := HV.out i (Nat.le_refl _)
        exact ⟨_, own_mono HY.out hb1.size, V1, V3 rfl, by omega⟩
      go_wp2
      go_ret
      exact ⟨_, rfl, HF.out, below_go hb1 HB.out⟩
end Go.Proofs.Ytliiblaodhcjhab
