import Derived.Test.YtliiblaodhcjhabWithE
namespace Go.Proofs.Ytliiblaodhcjhab
open Go.RowKit Go.Shelf
set_option linter.unusedVariables false
attribute [local go_sem] Oper.semAt_some

theorem cellsI_take (G : List (Sp Int)) : ∀ k, (cellsI G).take (k * 3) = cellsI (G.take k) := by
  induction G with
  | nil => intro k; simp [cellsI]
  | cons s G ih =>
    intro k
    cases k with
    | zero => simp [cellsI]
    | succ k =>
      have := ih k
      simp only [cellsI, List.flatMap_cons, List.take_succ_cons] at this ⊢
      rw [← this, show (k + 1) * 3 = k * 3 + 3 by omega]
      rfl

theorem lr_take {W : World} {lo wc k : Nat} {wa : Option Addr} {G : List (Sp Int)} (h : Lr W lo (.slice wa G.length wc) G) (hk : k < G.length) : Lr W lo (.slice wa k wc) (G.take k) := by
  rcases row_of_own h with ⟨h0, h1, h2⟩ | ⟨g, cap, cur, e, a, b, c, d, e1, f⟩
  · omega
  · cases e
    have hl : (G.take k).length = k := by rw [List.length_take]; omega
    rw [Lr, hl]
    refine own_of_row b a (by omega) d e1 ?_
    rw [← cellsI_take, ← f, List.take_take, Nat.min_eq_left (by omega)]

set_option maxRecDepth 100000 in
set_option maxHeartbeats 8000000 in
theorem law_within (W : World) (a : Option Addr) (cap : Nat) (ops : List Op4) (S : Script W a ops) (hs : ops.length ≤ 1048576) (lo hi stop : Int) (bl : 0 ≤ lo ∧ lo ≤ 18446744073709551615) (bh : 0 ≤ hi ∧ hi ≤ 18446744073709551615) (bs : -9223372036854775808 ≤ stop ∧ stop ≤ 9223372036854775807) :
    Calls Try.prog 5 #[.slice a ops.length cap, .int .u64 lo, .int .u64 hi, .int .i64 stop] W fun e W' => e = .returned (.bool true) ∧ Below W.heap.size W W' := by
  have hb0 := below_alloc (Below.refl W.heap.size W) (.cells #[.bool false] 4)
  have hC := made_any (W.alloc (.cells #[.bool false] 4)) a cap ops (S.keepW hb0) hs
  rw [World.size_alloc] at hC
  have bR := Boxed.new W 4 (.bool false)
  clear S
  generalize layL ops = L at *
  generalize didL ops = D at *
  generalize ops.length = m0 at *
  refine (callsIn_wide (n := 3)).1 ?_
  refine callsIn_of_wp_marks Try.func5 rfl trivial ?_ rfl
  simp only [Try.ntmps5, List.size_toArray, List.length_cons, List.length_nil, Nat.reduceAdd, Nat.reduceSub, Array.replicate_succ, Array.replicate_zero, List.push_toArray, List.append_toArray, List.nil_append, List.cons_append]
  refine wpIn_wide.2 ?_
  go_wp2_with (fail)
  refine hC.mono ?_
  rintro e w1 ⟨rfl, ⟨v, u, hM, hR, hBo, hl, hd⟩, hb1⟩
  have hB1 : Below W.heap.size W w1 := hb0.trans (hb1.mono (by simp))
  clear hC
  have hba := below_alloc (Below.refl w1.heap.size w1) (.cells #[.pointer (some ⟨W.heap.size + 1, 0, none⟩)] 24)
  have bM := Boxed.new w1 24 (.pointer (some ⟨W.heap.size + 1, 0, none⟩))
  go_wp2_with (fail)
  refine (live_any _).mono ?_
  rintro e w2 ⟨rfl, hb2⟩
  have hB2 : Below w1.heap.size w1 w2 := below_go hba hb2
  have hM2 := hM.keep hB2
  have hR2 := hR.keep hB2
  have bM2 : Boxed w2 w1.heap.size 24 (.pointer (some ⟨W.heap.size + 1, 0, none⟩)) := by
    show w2.heap[w1.heap.size]? = _
    rw [hb2.block _ bM.lt]
    exact bM
  have hBW2 := below_go hB1 hB2
  have hg := hM.good
  have bR1 : Boxed w1 W.heap.size 4 (.bool false) := by
    show w1.heap[W.heap.size]? = _
    rw [hb1.block _ (Nat.lt_succ_self _)]
    exact bR
  have hB12 := hB2
  clear hM hR hba bM hb2 hB2
  have hC := rwithin_any w2 _ _ u D hR2 (by omega) L hg hBo lo hi
  go_wp2_with (fail)
  refine hC.mono ?_
  rintro e w3 ⟨vw, rfl, ⟨hW3, hl3⟩, hb3⟩
  have hba := below_alloc hb3 (.cells #[vw] 36)
  have bW4 := Boxed.new w3 36 vw
  have hGl : (goesL lo hi L).length ≤ L.length := by
    rw [goesL]
    split
    · exact within_len lo hi L
    · simp
  have hM4 := hM2.keep hba
  have bM4 : Boxed (w3.alloc (.cells #[vw] 36)) w1.heap.size 24 (.pointer (some ⟨W.heap.size + 1, 0, none⟩)) := by
    show (w3.alloc (.cells #[vw] 36)).heap[w1.heap.size]? = _
    rw [hba.block _ bM2.lt]
    exact bM2
  have hW4 : Lr (w3.alloc (.cells #[vw] 36)) w2.heap.size vw (goesL lo hi L) := row_keep hW3 (below_alloc (Below.refl _ w3) _)
  have hBW4 := below_go hBW2 hba
  have hB14 := below_go hB12 hba
  have bR4 : Boxed (w3.alloc (.cells #[vw] 36)) W.heap.size 4 (.bool false) := by
    show (w3.alloc (.cells #[vw] 36)).heap[W.heap.size]? = _
    rw [hB14.block _ bR1.lt]
    exact bR1
  obtain ⟨wa, wc, hvw⟩ := slice_form hW3
  subst hvw
  clear hC hW3 hM2 hR2 hb3 bM2 hba hBo hB14 hB12 bR1
  obtain ⟨w4, hw4⟩ : ∃ w4, w4 = w3.alloc (.cells #[.slice wa (goesL lo hi L).length wc] 36) := ⟨_, rfl⟩
  go_wp2_with (fail)
  rw [← hw4] at bW4 hM4 bM4 hW4 hBW4 bR4 ⊢
  generalize hBw : w3.heap.size = Bw at *
  clear hw4 hBw
  generalize hBm : w1.heap.size = Bm at *
  generalize hlw : w2.heap.size = lw at *
  have hP := pieces_any w4.drew _ _ v L lo hi (-1) (hM4.keep (Below.refl _ _).drew) (by omega)
  rw [show takeM (goesL lo hi L) (-1) = goesL lo hi L from rfl] at hP
  have kM := bM4.lt
  have kW := bW4.lt
  have cM := bM4.cell
  have cW := bW4.cell
  have hAl : ∀ w5 v5, Below w4.heap.size w4 w5 → Ls w5 w4.heap.size v5 (goesL lo hi L) → Calls Try.prog 13 #[v5, .slice wa (goesL lo hi L).length wc] w5 fun e W' => e = .returned (.bool true) ∧ Below w5.heap.size w5 W' := fun w5 v5 hb h5 => alike_any w5 _ _ v5 _ _ h5 (row_keep hW4 hb) (by omega)
  have hd0 : Below w4.heap.size w4 w4.drew := (Below.refl _ _).drew
  go_region_held3 (fun w' => w'.cell? ⟨Bm, 0, none⟩ = some (.pointer (some ⟨W.heap.size + 1, 0, none⟩)) ∧ w'.cell? ⟨Bw, 0, none⟩ = some (.slice wa (goesL lo hi L).length wc)) (first | go_keep | exact hcs)
    ((first
      | (go_at_call 14; refine hP.mono ?_; rintro e w5 ⟨v5, rfl, hL5, hb5⟩; clear hP; have hB5 := below_go hd0 hb5; have hcs := (⟨((bcell hB5).1 _ _ kM).trans cM, ((bcell hB5).1 _ _ kW).trans cW⟩ : w5.cell? ⟨Bm, 0, none⟩ = some (.pointer (some ⟨W.heap.size + 1, 0, none⟩)) ∧ w5.cell? ⟨Bw, 0, none⟩ = some (.slice wa (goesL lo hi L).length wc)))
      | (go_at_call 13; refine (hAl _ _ hB5 hL5).mono ?_; rintro e w6 ⟨rfl, hb6⟩; clear hAl; have hB6 := below_go hB5 hb6; have hcs := (⟨((bcell hB6).1 _ _ kM).trans cM, ((bcell hB6).1 _ _ kW).trans cW⟩ : w6.cell? ⟨Bm, 0, none⟩ = some (.pointer (some ⟨W.heap.size + 1, 0, none⟩)) ∧ w6.cell? ⟨Bw, 0, none⟩ = some (.slice wa (goesL lo hi L).length wc)))))
  have hM6 := hM4.keep hB6
  have bM6 : Boxed w6 Bm 24 (.pointer (some ⟨W.heap.size + 1, 0, none⟩)) := by
    show w6.heap[Bm]? = _
    rw [hB6.block _ bM4.lt]
    exact bM4
  have bW6 : Boxed w6 Bw 36 (.slice wa (goesL lo hi L).length wc) := by
    show w6.heap[Bw]? = _
    rw [hB6.block _ bW4.lt]
    exact bW4
  have bR6 : Boxed w6 W.heap.size 4 (.bool false) := by
    show w6.heap[W.heap.size]? = _
    rw [hB6.block _ bR4.lt]
    exact bR4
  have hW6 := row_keep hW4 hB6
  have hBW6 := below_go hBW4 hB6
  have cM6 := bM6.cell
  have cW6 := bW6.cell
  have HWI : Hid (goesL lo hi L = goesL lo hi L) := rfl
  clear hcs hL5 hb5 hB5 hb6 hB6 hd0 cM cW kM kW hW4 bW4 bM4 bR4 hM4 hBW4
  generalize hGG : goesL lo hi L = G at *
  have HG : Hid (goesL lo hi L = G) := hGG
  clear hGG HWI
  generalize hgl : G.length = gl at *
  have HGL : Hid (G.length = gl) := hgl
  clear hgl
  rename_i K1 hK1 K2 hK2 hHd
  have HK1 := Hid.mk2 hK1
  clear hK1
  go_wp2_with (fail)
  refine HK1.out _ _ ?_
  clear HK1
  refine wp_seq_k (fun K3 hK3 => ?_)
  have HK3 := Hid.mk2 hK3
  clear hK3
  go_wp2_with (fail)
  refine HK3.out _ _ ?_
  clear HK3
  refine wp_seq_k (fun K4 hK4 => ?_)
  have HK4 := Hid.mk2 hK4
  clear hK4
  have n2 : Bw ≠ W.heap.size + 1 := block_ne bW6 hM6.box (by decide)
  have n3 : Bm ≠ W.heap.size + 1 := block_ne bM6 hM6.box (by decide)
  have hgl0 : gl ≤ 3000000 := by have := HGL.out; omega
  have hLr : Lr w6 lw (.slice wa gl wc) G := by rw [Lr, HGL.out]; exact hW6
  have HLr := Hid.mk2 hLr
  clear hLr
  by_cases hs0 : 0 ≤ stop
  · by_cases hst : stop < (gl : Int)
    · obtain ⟨k, rfl⟩ := Int.eq_ofNat_of_zero_le hs0
      have hk : k < gl := by omega
      obtain ⟨gw, rfl, hkw⟩ : ∃ gw, wa = some ⟨gw, 0, none⟩ ∧ gl ≤ wc := by
        rcases row_of_own hW6 with ⟨h0, h1, h2⟩ | ⟨g, cap', cur, e, _, _, c, _⟩
        · omega
        · cases e
          exact ⟨g, rfl, c⟩
      have z1 : (k : Int) ≤ (wc : Int) := by omega
      have z2 : (0 : Int) ≤ (k : Int) := by omega
      have z3 : ¬ (wc : Int) < (k : Int) := by omega
      have HZ : Hid (k < gl ∧ gl ≤ wc) := ⟨hk, hkw⟩
      clear hk hkw bs
      go_wp2_with (fail)
      refine HK4.out _ _ ?_
      have hG := HG.out
      subst hG
      refine wpIn_wide.1 (from10_any W w6 Bm Bw lw (some ⟨gw, 0, none⟩) (some ⟨gw, 0, none⟩) wc gl k wc L lo hi (k : Int) v hM6 hl3 HGL.out hgl0 bM6 bW6 bR6 hW6 ?_ hBW6 n2 n3)
      rw [takeM, if_neg (by omega), Int.toNat_natCast]
      exact lr_take (by rw [HGL.out]; exact HLr.out) (by rw [HGL.out]; exact HZ.out.1)
    · have HTM : Hid (takeM G stop = G) := by
        show _ = _
        rw [takeM, if_neg (by omega)]
        exact List.take_of_length_le (by rw [HGL.out]; omega)
      go_wp2_with (fail)
      refine HK4.out _ _ ?_
      have hG := HG.out
      subst hG
      exact wpIn_wide.1 (from10_any W w6 Bm Bw lw wa wa wc gl gl wc L lo hi stop v hM6 hl3 HGL.out hgl0 bM6 bW6 bR6 hW6 (by rw [HTM.out]; exact HLr.out) hBW6 n2 n3)
  · have HTM : Hid (takeM G stop = G) := by
      show _ = _
      rw [takeM, if_pos (by omega)]
    go_wp2_with (fail)
    refine HK4.out _ _ ?_
    have hG := HG.out
    subst hG
    exact wpIn_wide.1 (from10_any W w6 Bm Bw lw wa wa wc gl gl wc L lo hi stop v hM6 hl3 HGL.out hgl0 bM6 bW6 bR6 hW6 (by rw [HTM.out]; exact HLr.out) hBW6 n2 n3)
end Go.Proofs.Ytliiblaodhcjhab
