import Derived.Test.YtliiblaodhcjhabTwo
import Derived.Test.YtliiblaodhcjhabGap
namespace Go.Proofs.Ytliiblaodhcjhab
open Go.RowKit
set_option linter.unusedVariables false

set_option maxHeartbeats 1000000 in
theorem rup_any (k al : Int) (w : World) (hk : 0 ≤ k) (hk2 : k ≤ 18446744073709551615) (ha : 0 < al) (ha2 : al ≤ 18446744073709551615) :
    Calls Try.prog 33 #[.int .u64 k, .int .u64 al] w fun e w' => e = .returned (gapV (upO k al)) ∧ w = w' := by
  have hr0 := Int.emod_nonneg k (show al ≠ 0 by omega)
  have hr1 := Int.emod_lt_of_pos k ha
  have ha0 : ¬ (al = 0) := by omega
  by_cases h0 : k % al = 0
  · rw [upO, if_pos h0]
    simp only [gapV]
    go_enter Try.func33, Try.ntmps33
    go_wp2
    go_ret2
    exact ⟨rfl, rfl⟩
  · rw [upO, if_neg h0]
    by_cases h1 : 18446744073709551615 - k < al - k % al
    · rw [if_pos h1]
      have h2 : 18446744073709551615 - (al - k % al) < k := by omega
      simp only [gapV]
      go_enter Try.func33, Try.ntmps33
      go_wp2
      go_ret2
      exact ⟨rfl, rfl⟩
    · rw [if_neg h1]
      have h2 : ¬ (18446744073709551615 - (al - k % al) < k) := by omega
      simp only [gapV]
      go_enter Try.func33, Try.ntmps33
      go_wp2
      go_ret2
      exact ⟨rfl, rfl⟩

/-- Where the reference's Gap stands at the i-th span. -/
def RgInv (R : List (Sp Int)) (lo hi n al : Int) (i : Nat) : Option Int → Prop
  | none => ∀ x, ¬ okG R lo hi n al x
  | some g => (0 ≤ g ∧ g ≤ 18446744073709551615) ∧ lo ≤ g ∧ g % al = 0 ∧ (∀ x, okG R lo hi n al x → g ≤ x) ∧ ∀ j s, j < i → R[j]? = some s → s.hi < g ∨ g + (n - 1) < s.lo

theorem rg_past {R : List (Sp Int)} (h : Good 0 none R) {lo hi n al g : Int} (hmin : ∀ x, okG R lo hi n al x → g ≤ x) {s : Sp Int} (hs : s ∈ R) (h2 : s.lo ≤ g + (n - 1)) : ∀ x, okG R lo hi n al x → s.hi + 1 ≤ x := by
  intro x hx
  have hgx := hmin x hx
  have hsl := (good_lo h s hs).2.1
  obtain ⟨m1, m2, f1, f2, f3, f4⟩ := hx
  rcases (show s.hi < x ∨ x ≤ s.hi by omega) with hl | hl
  · omega
  · exfalso
    by_cases hsx : x ≤ s.lo
    · have := f4 s.lo hsx (by omega)
      rw [mem_get h hs (Int.le_refl _) hsl] at this
      cases this
    · have := f4 x (Int.le_refl _) (by omega)
      rw [mem_get h hs (by omega) hl] at this
      cases this

theorem rg_end {R : List (Sp Int)} (h : Good 0 none R) {lo hi n al g : Int} (hn : 1 ≤ n) (hI : RgInv R lo hi n al R.length (some g)) (h1 : g ≤ hi) (h2 : n - 1 ≤ hi - g) : GapIs R lo hi n al (some g) := by
  obtain ⟨a, b, c, d, e⟩ := hI
  refine ⟨fun g' eg => ?_, fun eg => by cases eg⟩
  cases eg
  refine ⟨⟨c, b, hn, h1, h2, fun x hx hx2 => ?_⟩, a, d⟩
  refine get_out (fun s hs hh => ?_)
  obtain ⟨j, hj⟩ := List.mem_iff_getElem?.1 hs
  have := e j s (List.getElem?_eq_some_iff.1 hj).1 hj
  omega

set_option maxHeartbeats 6000000 in
set_option maxRecDepth 100000 in
theorem rgap_any (W : World) (lo0 p : Nat) (v : Value) (D : List Dn) (lo hi n al : Int) (h : RefAt W lo0 p v D) (hs : D.length ≤ 1048576) (l1 : 0 ≤ lo) (l2 : lo ≤ 18446744073709551615) (b1 : 0 ≤ hi) (b2 : hi ≤ 18446744073709551615) (n1 : 0 < n) (n2 : n ≤ 18446744073709551615) (a1 : 0 < al) (a2 : al ≤ 18446744073709551615) (L : List (Sp Int)) (hL : Good 0 none L) (hBo : Both L D) :
    Calls Try.prog 10 #[.pointer (some ⟨p, 0, none⟩), .int .u64 lo, .int .u64 hi, .int .u64 n, .int .u64 al] W fun e W' => ∃ r, e = .returned (gapV r) ∧ GapIs L lo hi n al r ∧ Below W.heap.size W W' := by
  have hn0 : (n == 0) = false := by simp; omega
  have ha0 : (al == 0) = false := by simp; omega
  have hS := rspans_any W lo0 p v D h hs
  have HL : Hid (Good 0 none L ∧ Both L D) := ⟨hL, hBo⟩
  clear h hL hBo
  go_enter Try.func10, Try.ntmps10
  go_wp2_with (fail)
  refine hS.mono ?_
  rintro e w1 ⟨v1, rfl, ⟨R, hR1, hR2, hR3, hR4⟩, hb1⟩
  obtain rfl : R = L := hR2.uniq HL.out.1 (fun k h0 h1 => (hR3 k h0 h1).trans (HL.out.2 k h0 h1).symm)
  obtain ⟨va, vc, hv, hvc⟩ := Lr.view hR1
  subst hv
  have HC : Hid (∀ i s, R[i]? = some s → ∃ g, va = some ⟨g, 0, none⟩ ∧ W.heap.size ≤ g ∧ g < w1.heap.size ∧ w1.cell? ⟨g, i * 3, none⟩ = some (.int .u64 s.lo) ∧ w1.cell? ⟨g, i * 3 + 1, none⟩ = some (.int .u64 s.hi) ∧ w1.cell? ⟨g, i * 3 + 2, none⟩ = some (.int .i64 s.val) ∧ w1.frozen? ⟨g, i * 3 + 1, none⟩ = false) := hvc
  have HG : Hid (Good 0 none R) := hR2
  clear hS hR1 hR2 hR3 hvc HL
  have hm8 : R.length ≤ 3000000 := by omega
  have hU0 := rup_any lo al w1 l1 l2 a1 a2
  have HI0 : Hid (RgInv R lo hi n al 0 (upO lo al)) := by
    show RgInv _ _ _ _ _ _ _
    cases hup : upO lo al with
    | none => exact fun x hx => upO_none a1 hup x hx.2.1 (Int.le_trans hx.2.2.2.1 b2) hx.1
    | some g =>
      obtain ⟨g1, g2, g3, g4⟩ := upO_some a1 l1 hup
      exact ⟨⟨by omega, g3 l2⟩, g2, g1, fun x hx => g4 x hx.2.1 hx.1, fun j s hj => by omega⟩
  generalize upO lo al = o0 at *
  generalize hm : R.length = m at *
  have HML : Hid (R.length = m) := hm
  clear hm
  go_wp2_with (fail)
  refine hU0.mono ?_
  cases o0 with
  | none =>
    simp only [gapV]
    rintro e w2 ⟨rfl, rfl⟩
    go_wp2
    go_loopw [13, 14, 15] (fun sg so si wr => ∃ (i : Nat) (r : Option Int), sg = .int .u64 (r.getD 0) ∧ so = .bool r.isSome ∧ si = .int .i64 i ∧ i ≤ m ∧ Hid (RgInv R lo hi n al i r) ∧ w1 = wr) (fun _ _ si _ => m - (intOf si).toNat)
    case atStart => exact ⟨0, none, rfl, rfl, rfl, Nat.zero_le _, HI0, rfl⟩
    case round =>
      obtain ⟨i, r, rfl, rfl, rfl, hi', HI, rfl⟩ := hrel
      cases r with
      | none =>
        have HF : Hid (GapIs R lo hi n al none) := ⟨(fun g e => by cases e), (fun _ => HI.out)⟩
        simp only [Option.getD_none, Option.isSome_none]
        go_wp2
        go_ret2
        exact ⟨none, rfl, HF, hb1⟩
      | some g =>
        simp only [Option.getD_some, Option.isSome_some]
        obtain ⟨⟨g1, g2⟩, g3, g4, g5, g6⟩ := HI.out
        by_cases c1 : hi < g
        · have HF : Hid (GapIs R lo hi n al none) := ⟨(fun g e => by cases e), (fun _ x hx => by have h1 := g5 x hx; have h2 := hx.2.2.2.1; omega)⟩
          clear g4 g5 g6
          by_cases hlt : i < m
          · go_wp2
            go_ret2
            exact ⟨none, rfl, HF, hb1⟩
          · go_wp2
            go_ret2
            exact ⟨none, rfl, HF, hb1⟩
        · by_cases c2 : hi - g < n - 1
          · have HF : Hid (GapIs R lo hi n al none) := ⟨(fun g e => by cases e), (fun _ x hx => by have h1 := g5 x hx; have h2 := hx.2.2.2.2.1; omega)⟩
            clear g4 g5 g6
            by_cases hlt : i < m
            · go_wp2
              go_ret2
              exact ⟨none, rfl, HF, hb1⟩
            · go_wp2
              go_ret2
              exact ⟨none, rfl, HF, hb1⟩
          · have hgn : g + (n - 1) ≤ 18446744073709551615 := by omega
            by_cases hlt : i < m
            · obtain ⟨s, hs⟩ : ∃ s, R[i]? = some s := ⟨_, List.getElem?_eq_getElem (by rw [HML.out]; exact hlt)⟩
              obtain ⟨gg, rfl, hg0, hgl, z0, z1, z2, z3⟩ := HC.out i s hs
              obtain ⟨y1, y2, y3⟩ := good_lo HG.out s (List.mem_of_getElem? hs)
              have hiz : (i : Int) < (m : Int) := by omega
              have hi0 : (0 : Int) ≤ (i : Int) := by omega
              by_cases c3 : s.hi < g ∨ g + (n - 1) < s.lo
              · have HI2 : Hid (RgInv R lo hi n al (i + 1) (some g)) := ⟨⟨g1, g2⟩, g3, g4, g5, fun j t hj ht => by
                  by_cases e : j = i
                  · subst e
                    rw [hs] at ht
                    cases ht
                    exact c3
                  · exact g6 j t (by omega) ht⟩
                clear g4 g5 g6 hs
                by_cases c4 : s.hi < g
                · go_wp2
                  go_roundw
                  case rel => exact ⟨i + 1, some g, rfl, rfl, by go_num, by omega, HI2, trivial⟩
                  case measure => simp [intOf]; omega
                · have c5 : g + (n - 1) < s.lo := by omega
                  clear c3
                  go_wp2
                  go_roundw
                  case rel => exact ⟨i + 1, some g, rfl, rfl, by go_num, by omega, HI2, trivial⟩
                  case measure => simp [intOf]; omega
              · have c4 : ¬ (s.hi < g) := fun h => c3 (.inl h)
                have c5 : ¬ (g + (n - 1) < s.lo) := fun h => c3 (.inr h)
                have hpast := rg_past HG.out g5 (List.mem_of_getElem? hs) (by omega)
                by_cases c6 : s.hi = 18446744073709551615
                · have HF : Hid (GapIs R lo hi n al none) := ⟨(fun g e => by cases e), (fun _ x hx => by have h1 := hpast x hx; have h2 := hx.2.2.2.1; omega)⟩
                  have c7 : (s.hi == 18446744073709551615) = true := by simp [c6]
                  clear g4 g5 g6 hs hpast c3 c6
                  go_wp2
                  go_ret2
                  exact ⟨none, rfl, HF, hb1⟩
                · have c7 : (s.hi == 18446744073709551615) = false := by simp [c6]
                  have c8 : s.hi + 1 ≤ 18446744073709551615 := by omega
                  have hU := rup_any (s.hi + 1) al w1 (by omega) c8 a1 a2
                  have HI2 : Hid (RgInv R lo hi n al (i + 1) (upO (s.hi + 1) al)) := by
                    show RgInv _ _ _ _ _ _ _
                    cases hup : upO (s.hi + 1) al with
                    | none => exact fun x hx => upO_none a1 hup x (hpast x hx) (Int.le_trans hx.2.2.2.1 b2) hx.1
                    | some g' =>
                      obtain ⟨q1, q2, q3, q4⟩ := upO_some a1 (by omega) hup
                      refine ⟨⟨by omega, q3 c8⟩, by omega, q1, fun x hx => q4 x (hpast x hx) hx.1, fun j t hj ht => .inl ?_⟩
                      by_cases e : j = i
                      · subst e
                        rw [hs] at ht
                        cases ht
                        omega
                      · have h1 := good_lt HG.out ht hs (by omega)
                        omega
                  generalize upO (s.hi + 1) al = o2 at *
                  clear g4 g5 g6 hs hpast c3 c6
                  cases o2 with
                  | none =>
                    simp only [gapV] at hU
                    go_wp2_with (go_at_call 33; refine hU.mono ?_; rintro e w3 ⟨rfl, rfl⟩)
                    go_roundw
                    case rel => exact ⟨i + 1, none, rfl, rfl, by go_num, by omega, HI2, trivial⟩
                    case measure => simp [intOf]; omega
                  | some g' =>
                    simp only [gapV] at hU
                    go_wp2_with (go_at_call 33; refine hU.mono ?_; rintro e w3 ⟨rfl, rfl⟩)
                    go_roundw
                    case rel => exact ⟨i + 1, some g', rfl, rfl, by go_num, by omega, HI2, trivial⟩
                    case measure => simp [intOf]; omega
            · obtain rfl : i = m := by omega
              have HF : Hid (GapIs R lo hi n al (some g)) := rg_end HG.out (by omega) (by rw [HML.out]; exact HI.out) (by omega) (by omega)
              clear g4 g5 g6
              go_wp2
              go_ret2
              exact ⟨some g, rfl, HF, hb1⟩
  | some g0 =>
    simp only [gapV]
    rintro e w2 ⟨rfl, rfl⟩
    go_wp2
    go_loopw [13, 14, 15] (fun sg so si wr => ∃ (i : Nat) (r : Option Int), sg = .int .u64 (r.getD 0) ∧ so = .bool r.isSome ∧ si = .int .i64 i ∧ i ≤ m ∧ Hid (RgInv R lo hi n al i r) ∧ w1 = wr) (fun _ _ si _ => m - (intOf si).toNat)
    case atStart => exact ⟨0, some g0, rfl, rfl, rfl, Nat.zero_le _, HI0, rfl⟩
    case round =>
      obtain ⟨i, r, rfl, rfl, rfl, hi', HI, rfl⟩ := hrel
      cases r with
      | none =>
        have HF : Hid (GapIs R lo hi n al none) := ⟨(fun g e => by cases e), (fun _ => HI.out)⟩
        simp only [Option.getD_none, Option.isSome_none]
        go_wp2
        go_ret2
        exact ⟨none, rfl, HF, hb1⟩
      | some g =>
        simp only [Option.getD_some, Option.isSome_some]
        obtain ⟨⟨g1, g2⟩, g3, g4, g5, g6⟩ := HI.out
        by_cases c1 : hi < g
        · have HF : Hid (GapIs R lo hi n al none) := ⟨(fun g e => by cases e), (fun _ x hx => by have h1 := g5 x hx; have h2 := hx.2.2.2.1; omega)⟩
          clear g4 g5 g6
          by_cases hlt : i < m
          · go_wp2
            go_ret2
            exact ⟨none, rfl, HF, hb1⟩
          · go_wp2
            go_ret2
            exact ⟨none, rfl, HF, hb1⟩
        · by_cases c2 : hi - g < n - 1
          · have HF : Hid (GapIs R lo hi n al none) := ⟨(fun g e => by cases e), (fun _ x hx => by have h1 := g5 x hx; have h2 := hx.2.2.2.2.1; omega)⟩
            clear g4 g5 g6
            by_cases hlt : i < m
            · go_wp2
              go_ret2
              exact ⟨none, rfl, HF, hb1⟩
            · go_wp2
              go_ret2
              exact ⟨none, rfl, HF, hb1⟩
          · have hgn : g + (n - 1) ≤ 18446744073709551615 := by omega
            by_cases hlt : i < m
            · obtain ⟨s, hs⟩ : ∃ s, R[i]? = some s := ⟨_, List.getElem?_eq_getElem (by rw [HML.out]; exact hlt)⟩
              obtain ⟨gg, rfl, hg0, hgl, z0, z1, z2, z3⟩ := HC.out i s hs
              obtain ⟨y1, y2, y3⟩ := good_lo HG.out s (List.mem_of_getElem? hs)
              have hiz : (i : Int) < (m : Int) := by omega
              have hi0 : (0 : Int) ≤ (i : Int) := by omega
              by_cases c3 : s.hi < g ∨ g + (n - 1) < s.lo
              · have HI2 : Hid (RgInv R lo hi n al (i + 1) (some g)) := ⟨⟨g1, g2⟩, g3, g4, g5, fun j t hj ht => by
                  by_cases e : j = i
                  · subst e
                    rw [hs] at ht
                    cases ht
                    exact c3
                  · exact g6 j t (by omega) ht⟩
                clear g4 g5 g6 hs
                by_cases c4 : s.hi < g
                · go_wp2
                  go_roundw
                  case rel => exact ⟨i + 1, some g, rfl, rfl, by go_num, by omega, HI2, trivial⟩
                  case measure => simp [intOf]; omega
                · have c5 : g + (n - 1) < s.lo := by omega
                  clear c3
                  go_wp2
                  go_roundw
                  case rel => exact ⟨i + 1, some g, rfl, rfl, by go_num, by omega, HI2, trivial⟩
                  case measure => simp [intOf]; omega
              · have c4 : ¬ (s.hi < g) := fun h => c3 (.inl h)
                have c5 : ¬ (g + (n - 1) < s.lo) := fun h => c3 (.inr h)
                have hpast := rg_past HG.out g5 (List.mem_of_getElem? hs) (by omega)
                by_cases c6 : s.hi = 18446744073709551615
                · have HF : Hid (GapIs R lo hi n al none) := ⟨(fun g e => by cases e), (fun _ x hx => by have h1 := hpast x hx; have h2 := hx.2.2.2.1; omega)⟩
                  have c7 : (s.hi == 18446744073709551615) = true := by simp [c6]
                  clear g4 g5 g6 hs hpast c3 c6
                  go_wp2
                  go_ret2
                  exact ⟨none, rfl, HF, hb1⟩
                · have c7 : (s.hi == 18446744073709551615) = false := by simp [c6]
                  have c8 : s.hi + 1 ≤ 18446744073709551615 := by omega
                  have hU := rup_any (s.hi + 1) al w1 (by omega) c8 a1 a2
                  have HI2 : Hid (RgInv R lo hi n al (i + 1) (upO (s.hi + 1) al)) := by
                    show RgInv _ _ _ _ _ _ _
                    cases hup : upO (s.hi + 1) al with
                    | none => exact fun x hx => upO_none a1 hup x (hpast x hx) (Int.le_trans hx.2.2.2.1 b2) hx.1
                    | some g' =>
                      obtain ⟨q1, q2, q3, q4⟩ := upO_some a1 (by omega) hup
                      refine ⟨⟨by omega, q3 c8⟩, by omega, q1, fun x hx => q4 x (hpast x hx) hx.1, fun j t hj ht => .inl ?_⟩
                      by_cases e : j = i
                      · subst e
                        rw [hs] at ht
                        cases ht
                        omega
                      · have h1 := good_lt HG.out ht hs (by omega)
                        omega
                  generalize upO (s.hi + 1) al = o2 at *
                  clear g4 g5 g6 hs hpast c3 c6
                  cases o2 with
                  | none =>
                    simp only [gapV] at hU
                    go_wp2_with (go_at_call 33; refine hU.mono ?_; rintro e w3 ⟨rfl, rfl⟩)
                    go_roundw
                    case rel => exact ⟨i + 1, none, rfl, rfl, by go_num, by omega, HI2, trivial⟩
                    case measure => simp [intOf]; omega
                  | some g' =>
                    simp only [gapV] at hU
                    go_wp2_with (go_at_call 33; refine hU.mono ?_; rintro e w3 ⟨rfl, rfl⟩)
                    go_roundw
                    case rel => exact ⟨i + 1, some g', rfl, rfl, by go_num, by omega, HI2, trivial⟩
                    case measure => simp [intOf]; omega
            · obtain rfl : i = m := by omega
              have HF : Hid (GapIs R lo hi n al (some g)) := rg_end HG.out (by omega) (by rw [HML.out]; exact HI.out) (by omega) (by omega)
              clear g4 g5 g6
              go_wp2
              go_ret2
              exact ⟨some g, rfl, HF, hb1⟩
end Go.Proofs.Ytliiblaodhcjhab
