import Derived.Test.YtliiblaodhcjhabWithK
namespace Go.Proofs.Ytliiblaodhcjhab
open Go.RowKit Go.Shelf
set_option linter.unusedVariables false
attribute [local go_sem] Oper.semAt_some

theorem wplIn_append_run {F : Fence} {n : Nat} {P : Program} {w : World} {ops : Array Oper} {rest : List Oper} {o : Oper} {a : Act} {Q : Exit → Act → World → Prop}
    (hg : o.guard = none) (s x : Operand) (t : TypeId) (hop : o.op = Op.call { callee := Callee.builtin Builtin.append, args := #[s, x], argTypes := #[t, t] })
    (v u : Value) (hs : a.eval s = v) (hx : a.eval x = u) {v' : Value} {w' : World} (hrun : ∀ ty, (Builtin.append_ #[t, t] ty #[v, u]).run P w = .ok v' w') (hK : wpListIn F n P ops Q rest (a.put o.dst v') w') :
    wpListIn F n P ops Q (o :: rest) a w := by
  refine wpListIn_plain hg fun K hK' => ?_
  unfold Oper.wpIn
  refine ⟨?_, ?_⟩
  · simp [Oper.about, hop, resolve, Target.leads, Sem.run_pure]
  · rw [Oper.semAt_plain F _ _ (by rw [hop]; intro c hc'; cases hc')]
    simp [execOp, hop, resolve, invoke, builtin, hs, hx, hrun, Result.andThen]
    exact hK' _ _ hK

theorem ls_append1 (w : World) (B : Nat) (pv : Value) (A : List (Sp Int)) (t : Sp Int) (h : Ls w B pv A) (hB : B ≤ w.heap.size) (hby : A.length ≤ 8000000) :
    ∃ v' w', (∀ ty, (Builtin.append_ #[39, 39] ty #[pv, .slice (some ⟨w.heap.size, 0, none⟩) 1 1]).run Try.prog (w.alloc (.cells #[.int .u64 t.lo, .int .u64 t.hi, .int .i64 t.val] 45)) = .ok v' w') ∧ Ls w' B v' (A ++ [t]) ∧ (w.alloc (.cells #[.int .u64 t.lo, .int .u64 t.hi, .int .i64 t.val] 45)).grownBy w' pv.ownBlock ∧ (∀ g, v'.ownBlock = some g → pv.ownBlock = some g ∨ w.heap.size ≤ g) := by
  obtain ⟨inf, hi0, hz0, hzs, hzb⟩ := info_parts infoEL
  have h1 : Below w.heap.size w (w.alloc (.cells #[.int .u64 t.lo, .int .u64 t.hi, .int .i64 t.val] 45)) := below_alloc (Below.refl _ w) _
  have ho1 := one_list w t 0 (Nat.zero_le _)
  obtain ⟨v', w', hr, ho, hg, hb⟩ := append_any (P := Try.prog) (w.alloc (.cells #[.int .u64 t.lo, .int .u64 t.hi, .int .i64 t.val] 45)) 39 45 inf _ Try.underlying39 hi0 hz0 (by rw [hzs]; rfl) B A.length 1 pv (.slice (some ⟨w.heap.size, 0, none⟩) 1 1) (cellsL A) (cellsL [t])
    (by rw [hzs]; exact row_keep h h1) (by rw [hzs]; exact src_of_own Try.underlying39 ho1 (cellsL_one _)) (Nat.le_trans hB h1.size) (by unfold maxLen; omega) (by rw [hzb]; omega)
  refine ⟨v', w', hr, ?_, hg, fun g hgg => ?_⟩
  · rw [hzs] at ho
    rw [Ls, List.length_append, cellsL_append]
    exact ho
  · rcases hb g hgg with e | e
    · exact .inl e
    · exact .inr (Nat.le_trans h1.size e)

theorem piece_kps {W w1 : World} {Bl : Nat} {t : TypeId} {v v' : Value} {tmp : Obj} (hv : Boxed W Bl t v) (hg : (W.alloc tmp).grownBy w1 v.ownBlock) (hv2 : Boxed (w1.setCell ⟨Bl, 0, none⟩ v') Bl t v') (ho : ∀ g, v'.ownBlock = some g → v.ownBlock = some g ∨ W.heap.size ≤ g) : KpS Bl Bl W (w1.setCell ⟨Bl, 0, none⟩ v') := by
  have e1 : blkAt W Bl = v.ownBlock := by rw [blkAt, hv.cell]
  have e2 : blkAt (w1.setCell ⟨Bl, 0, none⟩ v') Bl = v'.ownBlock := by rw [blkAt, hv2.cell]
  have hsz : W.heap.size ≤ w1.heap.size := Nat.le_trans (by rw [World.size_alloc]; exact Nat.le_succ _) hg.size
  refine ⟨by simpa using hsz, ?_, fun g o hgo hc h1 h2 h3 => ?_⟩
  · rw [e1, e2]
    cases hv' : v'.ownBlock with
    | none => exact .inr (fun g e => by cases e)
    | some g =>
      rcases ho g hv' with e | e
      · exact .inl e.symm
      · exact .inr (fun g' e' => by cases e'; exact e)
  · rw [e1] at h3
    have hlt := (Array.getElem?_eq_some_iff.1 hgo).1
    rw [heap_setCell_other w1 ⟨Bl, 0, none⟩ g v' h1, hg.block g (by rw [World.size_alloc]; omega) (fun e => h3 e.symm)]
    exact (Below.heap_alloc W _ g hlt).trans hgo

theorem KpS.of_below {B q : Nat} {W W' : World} (hq : q < W.heap.size) (hb : Below W.heap.size W W') : KpS B q W W' :=
  ⟨hb.size, .inl (blk_below hq hb), fun g o hg _ _ _ _ => by rw [hb.block g (Array.getElem?_eq_some_iff.1 hg).1]; exact hg⟩

/-- What pieces hands out. -/
def takeM (G : List (Sp Int)) (most : Int) : List (Sp Int) := if most < 0 then G else G.take most.toNat

theorem takeM_all {G : List (Sp Int)} {most : Int} (hm : ¬ most = 0) (h : 0 < most → (G.length : Int) < most) : takeM G most = G := by
  rw [takeM]
  split
  · rfl
  · rename_i h1
    have := h (by omega)
    exact List.take_of_length_le (by omega)
theorem takeM_part {G pre : List (Sp Int)} {most : Int} (hp : pre <+: G) (h0 : 0 < most) (h : (pre.length : Int) = most) : takeM G most = pre := by
  rw [takeM, if_neg (by omega), show most.toNat = pre.length by omega]
  exact (List.prefix_iff_eq_take.1 hp).symm

set_option maxRecDepth 100000 in
set_option maxHeartbeats 4000000 in
theorem pieces_any (w : World) (lo0 p : Nat) (v : Value) (L : List (Sp Int)) (lo hi most : Int) (hM : MapAt w lo0 p v L) (hl : L.length ≤ 3000000) :
    Calls Try.prog 14 #[.pointer (some ⟨p, 0, none⟩), .int .u64 lo, .int .u64 hi, .int .i64 most] w fun e W' => ∃ v', e = .returned v' ∧ Ls W' w.heap.size v' (takeM (goesL lo hi L) most) ∧ Below w.heap.size w W' := by
  by_cases hm0 : most = 0
  · subst hm0
    refine (callsIn_wide (n := 3)).1 ?_
    refine callsIn_of_wp_marks Try.func14 rfl trivial ?_ rfl
    simp only [Try.ntmps14, List.size_toArray, List.length_cons, List.length_nil, Nat.reduceAdd, Nat.reduceSub, Array.replicate_succ, Array.replicate_zero, List.push_toArray, List.append_toArray, List.nil_append, List.cons_append]
    gi_wp2
    refine ⟨_, results_tmp rfl _ _ _, _, rfl, ?_, below_alloc (below_alloc (Below.refl _ w) _) _⟩
    rw [show takeM (goesL lo hi L) 0 = [] from rfl]
    exact World.ownsRow_nil _ _ _ _
  · have hGl : (goesL lo hi L).length ≤ 3000000 := by
      rw [goesL]
      split
      · exact Nat.le_trans (within_len lo hi L) hl
      · simp
    refine (callsIn_wide (n := 3)).1 ?_
    refine callsIn_of_wp_marks Try.func14 rfl trivial ?_ rfl
    simp only [Try.ntmps14, List.size_toArray, List.length_cons, List.length_nil, Nat.reduceAdd, Nat.reduceSub, Array.replicate_succ, Array.replicate_zero, List.push_toArray, List.append_toArray, List.nil_append, List.cons_append]
    have hm1 : (most == 0) = false := by simp [hm0]
    gi_wp2
    obtain ⟨W1, hW1⟩ : ∃ W1, W1 = (w.alloc (.cells #[.int .i64 most] 3)).alloc (.cells #[.slice none 0 0] 39) := ⟨_, rfl⟩
    have bMost1 : Boxed W1 w.heap.size 3 (.int .i64 most) := by rw [hW1]; exact (Boxed.new w 3 _).alloc _
    have bL1 : Boxed W1 (w.heap.size + 1) 39 (.slice none 0 0) := by
      rw [hW1]
      have := Boxed.new (w.alloc (.cells #[.int .i64 most] 3)) 39 (.slice none 0 0)
      rw [World.size_alloc] at this
      exact this
    have hB1 : Below w.heap.size w W1 := by rw [hW1]; exact below_alloc (below_alloc (Below.refl _ w) _) _
    have hs1 : W1.heap.size = w.heap.size + 2 := by rw [hW1]; simp
    rw [← hW1]
    clear hW1
    refine ⟨trivial, (callsIn_wide.2 (within_any p lo hi _)).mono ?_⟩
    rintro e w' ⟨rfl, rfl⟩
    have bM := ((Boxed.new W1 24 (.pointer (some ⟨p, 0, none⟩))).alloc (.cells #[.int .u64 lo] 23)).alloc (.cells #[.int .u64 hi] 23)
    have bLo := (Boxed.new (W1.alloc (.cells #[.pointer (some ⟨p, 0, none⟩)] 24)) 23 (.int .u64 lo)).alloc (.cells #[.int .u64 hi] 23)
    have bHi := Boxed.new ((W1.alloc (.cells #[.pointer (some ⟨p, 0, none⟩)] 24)).alloc (.cells #[.int .u64 lo] 23)) 23 (.int .u64 hi)
    simp only [World.size_alloc] at bLo bHi
    have hB2 := below_alloc (below_alloc (below_alloc (Below.refl W1.heap.size W1) (.cells #[.pointer (some ⟨p, 0, none⟩)] 24)) (.cells #[.int .u64 lo] 23)) (.cells #[.int .u64 hi] 23)
    have bMost := ((bMost1.alloc (.cells #[.pointer (some ⟨p, 0, none⟩)] 24)).alloc (.cells #[.int .u64 lo] 23)).alloc (.cells #[.int .u64 hi] 23)
    have bL := ((bL1.alloc (.cells #[.pointer (some ⟨p, 0, none⟩)] 24)).alloc (.cells #[.int .u64 lo] 23)).alloc (.cells #[.int .u64 hi] 23)
    have hs2 : (((W1.alloc (.cells #[.pointer (some ⟨p, 0, none⟩)] 24)).alloc (.cells #[.int .u64 lo] 23)).alloc (.cells #[.int .u64 hi] 23)).heap.size = w.heap.size + 5 := by simp; omega
    gi_wp2
    obtain ⟨W2, hW2⟩ : ∃ W2, W2 = ((W1.alloc (.cells #[.pointer (some ⟨p, 0, none⟩)] 24)).alloc (.cells #[.int .u64 lo] 23)).alloc (.cells #[.int .u64 hi] 23) := ⟨_, rfl⟩
    rw [← hW2] at bM bLo bHi hB2 bMost bL hs2 ⊢
    have hBW2 := below_go hB1 hB2
    clear hW2
    rw [hs1] at bM bLo bHi
    have bHi' : Boxed W2 (w.heap.size + 2 + 2) 23 (.int .u64 hi) := bHi
    have hM2 := hM.keep hBW2
    have eb : blkAt W2 (w.heap.size + 1) = none := by rw [blkAt, bL.cell]; rfl
    refine wpIn_rangeFunc_ownH rfl (by decide) (gf := 38) (lb := #[.pointer (some ⟨w.heap.size + 2 + 1, 0, none⟩), .pointer (some ⟨w.heap.size + 2 + 2, 0, none⟩), .pointer (some ⟨w.heap.size + 2, 0, none⟩)]) rfl trivial (enters_of Try.func38 (by kernel_rfl) rfl)
      (with_stops 2 (w.heap.size + 2 + 1) (w.heap.size + 2 + 2) (w.heap.size + 2) lo0 p (w.heap.size + 1) (w.heap.size + 1) v L lo hi W2 hM2 hl (by omega) (by omega) (fun g hg => by rw [eb] at hg; cases hg) ⟨⟨_, bLo, rfl⟩, by omega, by omega, by rw [eb]; simp⟩ ⟨⟨_, bHi', rfl⟩, by omega, by omega, by rw [eb]; simp⟩ bLo.cell bHi'.cell bM.cell)
      (fun h k => h.trans k) (KpS.put (by omega)) (Below.refl _ _) (fun _ => rfl)
      (fun pre W => ((∃ u, Boxed W (w.heap.size + 1) 39 u ∧ W.ownsRow w.heap.size 45 3 u pre.length (cellsL pre) ∧ (0 < most → (pre.length : Int) < most)) ∧ Boxed W w.heap.size 3 (.int .i64 most)) ∧ Below w.heap.size w W)
      (fun c pre W => c = .exit 0 ∧ ((∃ u, Boxed W (w.heap.size + 1) 39 u ∧ W.ownsRow w.heap.size 45 3 u pre.length (cellsL pre) ∧ (0 < most ∧ (pre.length : Int) = most)) ∧ Below w.heap.size w W))
      (OwnFrom.and (OwnFrom.and (Own.from (holdsRow_own w.heap.size (w.heap.size + 1) 39 45 3 (fun pre => pre.length) (fun pre => cellsL pre) (fun pre _ => 0 < most → (pre.length : Int) < most)) _) (Own.from (boxed_own _ _ _) _)) (ownFrom_below (Nat.le_refl _) (by omega)))
      (fun c => OwnFrom.and (ownFrom_pure _ (fun _ => c = .exit 0)) (OwnFrom.and (Own.from (holdsRow_own w.heap.size (w.heap.size + 1) 39 45 3 (fun pre => pre.length) (fun pre => cellsL pre) (fun pre _ => 0 < most ∧ (pre.length : Int) = most)) _) (ownFrom_below (Nat.le_refl _) (by omega))))
      ⟨⟨⟨_, bL, World.ownsRow_nil _ _ _ _, fun h => by simpa using h⟩, bMost⟩, hBW2⟩
      (fun x a' W => ∃ Bx, w.heap.size + 2 ≤ Bx ∧ W.heap[Bx]? = some (.cells #[.int .u64 x.lo, .int .u64 x.hi, .int .i64 x.val] 45 (0, 0)) ∧ a' = { tmps := #[.pointer (some ⟨p, 0, none⟩), .int .u64 lo, .int .u64 hi, .int .i64 most, undef, undef, undef, .pointer (some ⟨w.heap.size, 0, none⟩), .slice none 0 0, .pointer (some ⟨w.heap.size + 1, 0, none⟩), .pointer (some ⟨Bx, 0, none⟩), .int .i64 most, .bool false, undef, .pointer (some ⟨p, 0, none⟩), .int .u64 lo, .int .u64 hi, .func (.func 38) #[] #[.pointer (some ⟨w.heap.size + 2 + 1, 0, none⟩), .pointer (some ⟨w.heap.size + 2 + 2, 0, none⟩), .pointer (some ⟨w.heap.size + 2, 0, none⟩)], .agg #[.int .u64 x.lo, .int .u64 x.hi, .int .i64 x.val], undef, undef, undef, undef, undef, undef, undef, undef, undef, undef, undef, undef, undef], defers := [] })
      (fun x a' _ X Y row hs hg hr => by
        obtain ⟨Bx, h1, h2, h3⟩ := hs
        refine ⟨Bx, h1, ?_, h3⟩
        rw [hg.block Bx (Array.getElem?_eq_some_iff.1 h2).1 (fun e => by obtain ⟨o, ho, hc⟩ := (hr Bx e.symm).2; rw [h2] at ho; cases ho; cases hc)]
        exact h2)
      ?assign ?body ?done ?stop
    case assign =>
      rintro l pre x W K ⟨⟨⟨u, hu, hrow, hG⟩, bMo⟩, hB⟩ hK
      gi_wp2
      have hba := below_alloc (Below.refl W.heap.size W) (.cells #[.int .u64 x.lo, .int .u64 x.hi, .int .i64 x.val] 45)
      exact hK _ _ ((KeepsOthers.alloc _ _).from _) (KpS.of_below hu.lt hba) ⟨⟨⟨u, hu.alloc _, row_keep hrow hba, hG⟩, bMo.alloc _⟩, below_go hB hba⟩ ⟨W.heap.size, hu.lt, heap_alloc_new W _, rfl⟩
    case body =>
      rintro l pre x a' W hl' ⟨r, hr⟩ ⟨⟨⟨u, hu, hrow, hG⟩, bMo⟩, hB⟩ ⟨Bx, hBx, hx, rfl⟩ hlt
      have c9 := hu.cell
      have f9 := hu.frozen
      have c7 := bMo.cell
      have x0 : W.cell? ⟨Bx, 0, none⟩ = some (.int .u64 x.lo) := by simp [World.cell?, hx]
      have x1 : W.cell? ⟨Bx, 1, none⟩ = some (.int .u64 x.hi) := by simp [World.cell?, hx]
      have x2 : W.cell? ⟨Bx, 2, none⟩ = some (.int .i64 x.val) := by simp [World.cell?, hx]
      have hBs := hB.size
      obtain ⟨v1, w1, hr1, hL1, hg1, ho1⟩ := ls_append1 W w.heap.size u pre x hrow hBs (by omega)
      obtain ⟨hv1, hv2, hr2, hk2, hb2⟩ := hu.appended (by decide) hrow hBs (by omega) hL1 hg1
      have hkp := piece_kps hu hg1 hv2 ho1
      have bMo1 : Boxed w1 w.heap.size 3 (.int .i64 most) := (bMo.alloc _).kept hg1 (bMo.not_row (by decide) hrow)
      have c71 := bMo1.cell
      have bMo2 : Boxed (w1.setCell ⟨w.heap.size + 1, 0, none⟩ v1) w.heap.size 3 (.int .i64 most) := ((bMo.alloc _).kept hg1 (bMo.not_row (by decide) hrow)).other (by omega) _
      have c1 := hv1.cell
      have d1 := hv1.frozen
      have c72 := bMo2.cell
      have c92 := hv2.cell
      obtain ⟨ua, uc, rfl⟩ := slice_form hrow
      obtain ⟨va, vc, rfl⟩ := slice_form hL1
      have HI : Hid ((w1.setCell ⟨w.heap.size + 1, 0, none⟩ (.slice va (pre ++ [x]).length vc)).ownsRow w.heap.size 45 3 (.slice va (pre ++ [x]).length vc) (pre ++ [x]).length (cellsL (pre ++ [x]))) := hr2
      have HV := Hid.mk2 hv2
      have HM := Hid.mk2 bMo2
      have HK := Hid.mk2 hk2
      have HKp := Hid.mk2 hkp
      have HBb := Hid.mk2 (hB.trans hb2)
      have hpl : (pre ++ [x]).length = pre.length + 1 := by simp
      rw [hpl] at hr1 c92 c72 HI HV HM HK HKp HBb
      clear bMo1 hr2 hv1 hv2 hk2 hkp hb2 hL1 hg1 ho1 hu hrow bMo bMo2 hB hx
      by_cases hneg : most < 0
      · have hge : most ≤ (pre.length : Int) + 1 := by omega
        have hgt : ¬ 0 < most := by omega
        gi_wp2_with (gi_at_builtin; refine wplIn_append_run rfl _ _ 39 rfl _ _ (by rfl) (by rfl) hr1 ?_)
        exact ⟨HK.out.from _, HKp.out, ⟨⟨⟨_, HV.out, by rw [hpl]; exact HI.out, fun h => absurd h (by omega)⟩, HM.out⟩, HBb.out⟩⟩
      · have hgt : 0 < most := by omega
        have hG' := hG hgt
        by_cases hst : (pre.length : Int) + 1 < most
        · have hge : ¬ most ≤ (pre.length : Int) + 1 := by omega
          gi_wp2_with (gi_at_builtin; refine wplIn_append_run rfl _ _ 39 rfl _ _ (by rfl) (by rfl) hr1 ?_)
          exact ⟨HK.out.from _, HKp.out, ⟨⟨⟨_, HV.out, by rw [hpl]; exact HI.out, by rw [hpl]; omega⟩, HM.out⟩, HBb.out⟩⟩
        · have hge : most ≤ (pre.length : Int) + 1 := by omega
          gi_wp2_with (gi_at_builtin; refine wplIn_append_run rfl _ _ 39 rfl _ _ (by rfl) (by rfl) hr1 ?_)
          exact ⟨HK.out.from _, rfl, ⟨⟨_, HV.out, by rw [hpl]; exact HI.out, by rw [hpl]; omega⟩, HBb.out⟩⟩
    case done =>
      rintro D ys W hD rfl ⟨⟨⟨u, hu, hrow, hG⟩, bMo⟩, hB⟩ hK
      have c9 := hu.cell
      obtain ⟨ua, uc, rfl⟩ := slice_form hrow
      gi_wp2
      refine ⟨by simp, .inl ⟨_, _, rfl, run_takeDeferred hK, ?_⟩⟩
      refine ⟨_, results_tmp rfl _ _ _, _, rfl, ?_, hB.trans (belowK_b (w := w) (Nat.le_refl _) W D _ _ (by omega) hK rfl rfl)⟩
      rw [takeM_all hm0 hG]
      exact ownsRow_putObj hrow _ hK rfl
    case stop =>
      rintro D c pre W hD hpre ⟨rfl, ⟨u, hu, hrow, h0', he⟩, hB⟩ hK
      have c9 := hu.cell
      obtain ⟨ua, uc, rfl⟩ := slice_form hrow
      gi_wp2
      refine ⟨by simp, .inl ⟨_, _, rfl, run_takeDeferred hK, ?_⟩⟩
      refine ⟨_, results_tmp rfl _ _ _, _, rfl, ?_, hB.trans (belowK_b (w := w) (Nat.le_refl _) W D _ _ (by omega) hK rfl rfl)⟩
      rw [takeM_part hpre h0' he]
      exact ownsRow_putObj hrow _ hK rfl
end Go.Proofs.Ytliiblaodhcjhab
