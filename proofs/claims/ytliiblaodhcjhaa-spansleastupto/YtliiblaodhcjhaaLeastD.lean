import Derived.Test.YtliiblaodhcjhaaLeast
namespace Go.Proofs.Ytliiblaodhcjhaa
open Go.RowKit
set_option linter.unusedVariables false

set_option maxHeartbeats 8000000 in
set_option maxRecDepth 100000 in
theorem least_D (W : World) (a : Option Addr) (cap : Nat) (ops : List Op4) (S : Script W a ops) (hs : ops.length ≤ 1048576) (lo hi n al k : Int) (l1 : 0 ≤ lo) (l2 : lo ≤ 18446744073709551615) (b1 : 0 ≤ hi) (b2 : hi ≤ 18446744073709551615) (n1 : 0 ≤ n) (n2 : n ≤ 18446744073709551615) (a1 : 0 ≤ al) (a2 : al ≤ 18446744073709551615) (k1 : 0 ≤ k) (k2 : k ≤ 18446744073709551615) (n3 : 0 < n) (a3 : 0 < al) (c0 : lo ≤ hi) (c1 : lo % al = 0) :
    Calls Try.prog 5 #[.slice a ops.length cap, .int .u64 lo, .int .u64 hi, .int .u64 n, .int .u64 al, .int .u64 k] W fun e W' => e = .returned (.bool true) ∧ Below W.heap.size W W' := by
  have hC1 := laid_any W a cap ops S (by omega)
  clear S
  generalize hn : ops.length = nn at *
  generalize hL : layL ops = L at *
  clear hn hL
  have d1 : (n == 0) = false := by simp; omega
  have d2 : (al == 0) = false := by simp; omega
  have d3 : ¬ (hi < lo) := by omega
  have r0 := Int.emod_nonneg lo (show al ≠ 0 by omega)
  have r1 := Int.emod_lt_of_pos lo a3
  have s0 := Int.emod_nonneg k (show al ≠ 0 by omega)
  have s1 := Int.emod_lt_of_pos k a3
  have s2 : k % al ≤ k := by have := Int.mul_ediv_add_emod k al; have := Int.mul_nonneg a1 (Int.ediv_nonneg k1 a1); omega
  have kk1 : 0 ≤ k - k % al := by omega
  have kk2 : k - k % al ≤ 18446744073709551615 := by omega
  have al0 : ¬ (al = 0) := by omega
  go_enter Try.func5, Try.ntmps5
  go_wp2_with (fail)
  refine hC1.mono ?_
  rintro e w1 ⟨rfl, ⟨v, hM1, hl1⟩, hB1⟩
  go_wp2_with (fail)
  refine (live_any _).mono ?_
  rintro e w2 ⟨rfl, hb2⟩
  have hM2 := hM1.keep hb2
  have hB2 := below_go hB1 hb2
  have HLn : Hid (L.length ≤ 2 * nn) := hl1
  clear hM1 hB1 hb2 hC1 hl1
  go_wp2_with (fail)
  have hsz : L.length < 4611686018427387904 := by have := HLn.out; omega
  refine (gap_any w2 _ _ v L lo hi n al hM2 hsz l1 l2 b1 b2 n3 n2 a3 a2).mono ?_
  rintro e w3 ⟨r, rfl, hG, hb3⟩
  have hM3 := hM2.keep hb3
  have hB3 := below_go hB2 hb3
  clear hb3 hM2 hB2
  cases r with
  | none =>
    have HG : Hid (∀ x, ¬ okG L lo hi n al x) := hG.2 rfl
    clear hG
    simp only [gapV]
    go_wp2_with (at_builtin; refine Hid.out ?_)
    obtain ⟨t5, w5x, hr5, hk5, hg5⟩ := one_append w3 w3.heap.size (.slice none 0 0) [] (lo) (World.ownsRow_nil _ _ _ _) (Below.refl w3.heap.size w3).size (by simp)
    have hB5 : Below w3.heap.size w3 w5x := (Below.refl w3.heap.size w3).grown hg5 (Below.refl w3.heap.size w3).size (fun g hg => by cases hg)
    obtain ⟨va5, vc5, rfl⟩ := slice_form hk5
    refine Lib.wpList_append_run _ rfl _ _ 38 38 rfl _ _ (by rfl) (by rfl) _ _ (hr5 _) ?_
    go_wp2_with (at_builtin; refine Hid.out ?_)
    obtain ⟨t6, w6x, hr6, hk6, hg6⟩ := one_append w5x w3.heap.size (.slice va5 ([] ++ [lo]).length vc5) ([] ++ [lo]) (k - k % al) hk5 hB5.size (by simp)
    have hB6 : Below w3.heap.size w3 w6x := hB5.grown hg6 hB5.size (fun g hg => (World.ownsRow.lt hk5 g hg).1)
    obtain ⟨va6, vc6, rfl⟩ := slice_form hk6
    refine Lib.wpList_append_run _ rfl _ _ 38 38 rfl _ _ (by rfl) (by rfl) _ _ (hr6 _) ?_
    obtain ⟨w6, hw6⟩ : ∃ w6, w6 = w6x := ⟨_, rfl⟩
    subst hw6
    have HM : Hid (MapAt w6 W.heap.size W.heap.size v L) := hM3.keep hB6
    have HBW : Hid (Below W.heap.size W w6) := below_go hB3 hB6
    have HX2 : Hid (Mults al (([] ++ [lo]) ++ [k - k % al])) := (Mults.snoc (y := k - k % al) (Mults.snoc (y := lo) (fun x hx => by cases hx) l1 l2 c1) kk1 kk2 mult_down)
    have hXl : (([] ++ [lo]) ++ [k - k % al]).length ≤ 8 := by simp
    have HV := Ks.view hk6
    generalize (([] ++ [lo]) ++ [k - k % al]) = xs at *
    obtain ⟨va', vc', hveq, hcells⟩ := HV
    cases hveq
    have HC : Hid (∀ i x, xs[i]? = some x → ∃ g, va6 = some ⟨g, 0, none⟩ ∧ g < w6.heap.size ∧ w6.cell? ⟨g, i, none⟩ = some (.int .u64 x)) := hcells
    clear hcells
    generalize hxl : xs.length = m at *
    have HXL : Hid (xs.length = m) := hxl
    clear hxl
    go_wp2
    go_loopw [17] (fun i wr => ∃ (q : Nat), q ≤ m ∧ i = .int .i64 q ∧ Hid (Below w6.heap.size w6 wr)) (fun i _ => m - (intOf i).toNat)
    case atStart => exact ⟨0, Nat.zero_le _, rfl, Below.refl _ _⟩
    case round =>
      obtain ⟨q, hq, rfl, HQ⟩ := hrel
      by_cases hlt2 : q < m
      · obtain ⟨x, hx⟩ : ∃ x, xs[q]? = some x := ⟨_, List.getElem?_eq_getElem (by rw [HXL.out]; exact hlt2)⟩
        obtain ⟨g6, rfl, hgl, hgc⟩ := HC.out q x hx
        obtain ⟨⟨hx1, hx2⟩, hx3⟩ := HX2.out x (List.mem_of_getElem? hx)
        clear hx
        have hqz : (q : Int) < (m : Int) := by omega
        have hq0 : (0 : Int) ≤ (q : Int) := by omega
        have y0 : wr.cell? ⟨g6, q, none⟩ = some (.int .u64 x) := by rw [(bcell HQ.out).1 g6 q hgl]; exact hgc
        by_cases e1 : x < lo
        · have e2 : decide (lo ≤ x) = false := by simp; omega
          clear hx3 e1
          go_wp2
          go_roundw
          case rel => exact ⟨q + 1, by omega, by go_num, HQ⟩
          case measure => simp [intOf]; omega
        · have e2 : decide (lo ≤ x) = true := by simp; omega
          have hno : ¬ fitsP L x n hi := fun hf => HG.out x ⟨hx3, by omega, hf⟩
          have hF := fits_no wr _ _ v L x n hi (HM.out.keep HQ.out) hsz hx1 hx2 b1 b2 n3 n2 hno
          clear hx3 hno e1
          go_wp2_with (go_at_call 23; refine hF.mono ?_; rintro e w8 ⟨rfl, hb8⟩)
          go_roundw
          case rel => exact ⟨q + 1, by omega, by go_num, below_go HQ.out hb8⟩
          case measure => simp [intOf]; omega
      · go_wp2
        go_ret
        exact ⟨rfl, below_go HBW.out HQ.out⟩
  | some g =>
    obtain ⟨hok, ⟨g1, g2⟩, hmin⟩ := hG.1 g rfl
    have HG : Hid (okG L lo hi n al g ∧ ∀ x, okG L lo hi n al x → g ≤ x) := ⟨hok, hmin⟩
    have HGm : Hid (g % al = 0) := hok.1
    have hgm : (g % al == 0) = true := by simp [hok.1]
    have hgl0 : ¬ (g < lo) := by have := hok.2.1; omega
    have hF0 := fits_yes w3 _ _ v L g n hi hM3 hsz g1 g2 b1 b2 n3 n2 hok.2.2
    clear hG hok hmin
    simp only [gapV]
    by_cases cg : al ≤ g
    · have ga1 : 0 ≤ g - al := by omega
      have ga2 : g - al ≤ 18446744073709551615 := by omega
      go_wp2_with (first | (go_at_call 23; refine hF0.mono ?_; rintro e w4 ⟨rfl, hb4⟩; have hM4 := hM3.keep hb4; have hB4 := below_go hB3 hb4) | (at_builtin; refine Hid.out ?_))
      obtain ⟨t5, w5x, hr5, hk5, hg5⟩ := one_append w4 w4.heap.size (.slice none 0 0) [] (lo) (World.ownsRow_nil _ _ _ _) (Below.refl w4.heap.size w4).size (by simp)
      have hB5 : Below w4.heap.size w4 w5x := (Below.refl w4.heap.size w4).grown hg5 (Below.refl w4.heap.size w4).size (fun g hg => by cases hg)
      obtain ⟨va5, vc5, rfl⟩ := slice_form hk5
      refine Lib.wpList_append_run _ rfl _ _ 38 38 rfl _ _ (by rfl) (by rfl) _ _ (hr5 _) ?_
      go_wp2_with (at_builtin; refine Hid.out ?_)
      obtain ⟨t6, w6x, hr6, hk6, hg6⟩ := one_append w5x w4.heap.size (.slice va5 ([] ++ [lo]).length vc5) ([] ++ [lo]) (k - k % al) hk5 hB5.size (by simp)
      have hB6 : Below w4.heap.size w4 w6x := hB5.grown hg6 hB5.size (fun g hg => (World.ownsRow.lt hk5 g hg).1)
      obtain ⟨va6, vc6, rfl⟩ := slice_form hk6
      refine Lib.wpList_append_run _ rfl _ _ 38 38 rfl _ _ (by rfl) (by rfl) _ _ (hr6 _) ?_
      go_wp2_with (at_builtin; refine Hid.out ?_)
      obtain ⟨t7, w7x, hr7, hk7, hg7⟩ := one_append w6x w4.heap.size (.slice va6 (([] ++ [lo]) ++ [k - k % al]).length vc6) (([] ++ [lo]) ++ [k - k % al]) (g - al) hk6 hB6.size (by simp)
      have hB7 : Below w4.heap.size w4 w7x := hB6.grown hg7 hB6.size (fun g hg => (World.ownsRow.lt hk6 g hg).1)
      obtain ⟨va7, vc7, rfl⟩ := slice_form hk7
      refine Lib.wpList_append_run _ rfl _ _ 38 38 rfl _ _ (by rfl) (by rfl) _ _ (hr7 _) ?_
      obtain ⟨w6, hw6⟩ : ∃ w6, w6 = w7x := ⟨_, rfl⟩
      subst hw6
      have HM : Hid (MapAt w6 W.heap.size W.heap.size v L) := hM4.keep hB7
      have HBW : Hid (Below W.heap.size W w6) := below_go hB4 hB7
      have HX2 : Hid (Mults al ((([] ++ [lo]) ++ [k - k % al]) ++ [g - al])) := (Mults.snoc (y := g - al) (Mults.snoc (y := k - k % al) (Mults.snoc (y := lo) (fun x hx => by cases hx) l1 l2 c1) kk1 kk2 mult_down) ga1 ga2 (mult_less HGm.out))
      have hXl : ((([] ++ [lo]) ++ [k - k % al]) ++ [g - al]).length ≤ 8 := by simp
      have HV := Ks.view hk7
      generalize ((([] ++ [lo]) ++ [k - k % al]) ++ [g - al]) = xs at *
      obtain ⟨va', vc', hveq, hcells⟩ := HV
      cases hveq
      have HC : Hid (∀ i x, xs[i]? = some x → ∃ g, va7 = some ⟨g, 0, none⟩ ∧ g < w6.heap.size ∧ w6.cell? ⟨g, i, none⟩ = some (.int .u64 x)) := hcells
      clear hcells
      generalize hxl : xs.length = m at *
      have HXL : Hid (xs.length = m) := hxl
      clear hxl
      go_wp2
      go_loopw [17] (fun i wr => ∃ (q : Nat), q ≤ m ∧ i = .int .i64 q ∧ Hid (Below w6.heap.size w6 wr)) (fun i _ => m - (intOf i).toNat)
      case atStart => exact ⟨0, Nat.zero_le _, rfl, Below.refl _ _⟩
      case round =>
        obtain ⟨q, hq, rfl, HQ⟩ := hrel
        by_cases hlt2 : q < m
        · obtain ⟨x, hx⟩ : ∃ x, xs[q]? = some x := ⟨_, List.getElem?_eq_getElem (by rw [HXL.out]; exact hlt2)⟩
          obtain ⟨g6, rfl, hgl, hgc⟩ := HC.out q x hx
          obtain ⟨⟨hx1, hx2⟩, hx3⟩ := HX2.out x (List.mem_of_getElem? hx)
          clear hx
          have hqz : (q : Int) < (m : Int) := by omega
          have hq0 : (0 : Int) ≤ (q : Int) := by omega
          have y0 : wr.cell? ⟨g6, q, none⟩ = some (.int .u64 x) := by rw [(bcell HQ.out).1 g6 q hgl]; exact hgc
          by_cases e1 : x < lo
          · have e2 : decide (lo ≤ x) = false := by simp; omega
            clear hx3 e1
            go_wp2
            go_roundw
            case rel => exact ⟨q + 1, by omega, by go_num, HQ⟩
            case measure => simp [intOf]; omega
          · have e2 : decide (lo ≤ x) = true := by simp; omega
            by_cases e3 : x < g
            · have e4 : decide (x < g) = true := by simp [e3]
              have hno : ¬ fitsP L x n hi := fun hf => by have := HG.out.2 x ⟨hx3, by omega, hf⟩; omega
              have hF := fits_no wr _ _ v L x n hi (HM.out.keep HQ.out) hsz hx1 hx2 b1 b2 n3 n2 hno
              clear hx3 hno e1 e3
              go_wp2_with (go_at_call 23; refine hF.mono ?_; rintro e w8 ⟨rfl, hb8⟩)
              go_roundw
              case rel => exact ⟨q + 1, by omega, by go_num, below_go HQ.out hb8⟩
              case measure => simp [intOf]; omega
            · have e4 : decide (x < g) = false := by simp [e3]
              clear hx3 e1 e3
              go_wp2
              go_roundw
              case rel => exact ⟨q + 1, by omega, by go_num, HQ⟩
              case measure => simp [intOf]; omega
        · go_wp2
          go_ret
          exact ⟨rfl, below_go HBW.out HQ.out⟩
    · go_wp2_with (first | (go_at_call 23; refine hF0.mono ?_; rintro e w4 ⟨rfl, hb4⟩; have hM4 := hM3.keep hb4; have hB4 := below_go hB3 hb4) | (at_builtin; refine Hid.out ?_))
      obtain ⟨t5, w5x, hr5, hk5, hg5⟩ := one_append w4 w4.heap.size (.slice none 0 0) [] (lo) (World.ownsRow_nil _ _ _ _) (Below.refl w4.heap.size w4).size (by simp)
      have hB5 : Below w4.heap.size w4 w5x := (Below.refl w4.heap.size w4).grown hg5 (Below.refl w4.heap.size w4).size (fun g hg => by cases hg)
      obtain ⟨va5, vc5, rfl⟩ := slice_form hk5
      refine Lib.wpList_append_run _ rfl _ _ 38 38 rfl _ _ (by rfl) (by rfl) _ _ (hr5 _) ?_
      go_wp2_with (at_builtin; refine Hid.out ?_)
      obtain ⟨t6, w6x, hr6, hk6, hg6⟩ := one_append w5x w4.heap.size (.slice va5 ([] ++ [lo]).length vc5) ([] ++ [lo]) (k - k % al) hk5 hB5.size (by simp)
      have hB6 : Below w4.heap.size w4 w6x := hB5.grown hg6 hB5.size (fun g hg => (World.ownsRow.lt hk5 g hg).1)
      obtain ⟨va6, vc6, rfl⟩ := slice_form hk6
      refine Lib.wpList_append_run _ rfl _ _ 38 38 rfl _ _ (by rfl) (by rfl) _ _ (hr6 _) ?_
      obtain ⟨w6, hw6⟩ : ∃ w6, w6 = w6x := ⟨_, rfl⟩
      subst hw6
      have HM : Hid (MapAt w6 W.heap.size W.heap.size v L) := hM4.keep hB6
      have HBW : Hid (Below W.heap.size W w6) := below_go hB4 hB6
      have HX2 : Hid (Mults al (([] ++ [lo]) ++ [k - k % al])) := (Mults.snoc (y := k - k % al) (Mults.snoc (y := lo) (fun x hx => by cases hx) l1 l2 c1) kk1 kk2 mult_down)
      have hXl : (([] ++ [lo]) ++ [k - k % al]).length ≤ 8 := by simp
      have HV := Ks.view hk6
      generalize (([] ++ [lo]) ++ [k - k % al]) = xs at *
      obtain ⟨va', vc', hveq, hcells⟩ := HV
      cases hveq
      have HC : Hid (∀ i x, xs[i]? = some x → ∃ g, va6 = some ⟨g, 0, none⟩ ∧ g < w6.heap.size ∧ w6.cell? ⟨g, i, none⟩ = some (.int .u64 x)) := hcells
      clear hcells
      generalize hxl : xs.length = m at *
      have HXL : Hid (xs.length = m) := hxl
      clear hxl
      go_wp2
      go_loopw [17] (fun i wr => ∃ (q : Nat), q ≤ m ∧ i = .int .i64 q ∧ Hid (Below w6.heap.size w6 wr)) (fun i _ => m - (intOf i).toNat)
      case atStart => exact ⟨0, Nat.zero_le _, rfl, Below.refl _ _⟩
      case round =>
        obtain ⟨q, hq, rfl, HQ⟩ := hrel
        by_cases hlt2 : q < m
        · obtain ⟨x, hx⟩ : ∃ x, xs[q]? = some x := ⟨_, List.getElem?_eq_getElem (by rw [HXL.out]; exact hlt2)⟩
          obtain ⟨g6, rfl, hgl, hgc⟩ := HC.out q x hx
          obtain ⟨⟨hx1, hx2⟩, hx3⟩ := HX2.out x (List.mem_of_getElem? hx)
          clear hx
          have hqz : (q : Int) < (m : Int) := by omega
          have hq0 : (0 : Int) ≤ (q : Int) := by omega
          have y0 : wr.cell? ⟨g6, q, none⟩ = some (.int .u64 x) := by rw [(bcell HQ.out).1 g6 q hgl]; exact hgc
          by_cases e1 : x < lo
          · have e2 : decide (lo ≤ x) = false := by simp; omega
            clear hx3 e1
            go_wp2
            go_roundw
            case rel => exact ⟨q + 1, by omega, by go_num, HQ⟩
            case measure => simp [intOf]; omega
          · have e2 : decide (lo ≤ x) = true := by simp; omega
            by_cases e3 : x < g
            · have e4 : decide (x < g) = true := by simp [e3]
              have hno : ¬ fitsP L x n hi := fun hf => by have := HG.out.2 x ⟨hx3, by omega, hf⟩; omega
              have hF := fits_no wr _ _ v L x n hi (HM.out.keep HQ.out) hsz hx1 hx2 b1 b2 n3 n2 hno
              clear hx3 hno e1 e3
              go_wp2_with (go_at_call 23; refine hF.mono ?_; rintro e w8 ⟨rfl, hb8⟩)
              go_roundw
              case rel => exact ⟨q + 1, by omega, by go_num, below_go HQ.out hb8⟩
              case measure => simp [intOf]; omega
            · have e4 : decide (x < g) = false := by simp [e3]
              clear hx3 e1 e3
              go_wp2
              go_roundw
              case rel => exact ⟨q + 1, by omega, by go_num, HQ⟩
              case measure => simp [intOf]; omega
        · go_wp2
          go_ret
          exact ⟨rfl, below_go HBW.out HQ.out⟩

end Go.Proofs.Ytliiblaodhcjhaa
