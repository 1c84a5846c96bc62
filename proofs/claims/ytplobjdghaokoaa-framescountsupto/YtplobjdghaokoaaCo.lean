import Derived.Test.YtplobjdghaokoaaLo
import Derived.Test.YtplobjdghaokoaaRu
import Derived.Deep.CutRange
namespace Go.Proofs.Ytplobjdghaokoaa
open Go.RowKit
set_option linter.unusedVariables false

theorem pl_runs {W w : World} {p ub f0 c : Nat} {u : List Nat} (h : Pl W w p ub f0 c u) :
    Calls Try.prog 17 #[.pointer (some ⟨p, 0, none⟩)] w fun e w' => ∃ a cap, e = .returned (.slice a (runs f0 u).length cap) ∧ RAt w' a (runs f0 u) ∧ (∀ g, a = some ⟨g, 0, none⟩ → w.heap.size ≤ g ∧ g < w'.heap.size) ∧ Turn (fun _ => False) w w' := by
  refine (runs_any w p ub f0 u h.1).mono ?_
  rintro e w' ⟨v, rfl, ho, ht⟩
  obtain ⟨a, cap, rfl, h1, h2⟩ := own_rat ho
  exact ⟨a, cap, rfl, h1, h2, ht⟩
theorem runs_len (f0 : Nat) (u : List Nat) : (runs f0 u).length ≤ u.length := runsTo_len f0 u u.length
theorem sum_take {l : List (Nat × Nat)} {j : Nat} {x : Nat × Nat} (h : l[j]? = some x) : ((l.take (j + 1)).map (·.2)).sum = ((l.take j).map (·.2)).sum + x.2 := by
  rw [take_snoc l h, List.map_append, List.sum_append]
  simp
theorem sum_take_le (l : List (Nat × Nat)) (j : Nat) : ((l.take j).map (·.2)).sum ≤ (l.map (·.2)).sum := by
  conv => rhs; rw [← List.take_append_drop j l, List.map_append, List.sum_append]
  omega
/-- What is known of the run before. -/
def LastV (l : List (Nat × Nat)) (j : Nat) (last : Int) : Prop := ∀ i a c, j = i + 1 → l[i]? = some (a, c) → last = (a : Int) + (c : Int) - 1

set_option maxHeartbeats 32000000 in
set_option maxRecDepth 100000 in
theorem law_counts (W : World) (first count : Int) (a : Option Addr) (cap : Nat) (ops : List Op4) (hs : Scr W a ops) (hl : ops.length ≤ 140737488355328) :
    Calls Try.prog 4 #[.int .i64 first, .int .i64 count, .slice a ops.length cap] W fun e W' => e = .returned (.bool true) ∧ Below W.heap.size W W' := by
  have hpr := pressed_any W first count
  obtain ⟨f1, f2⟩ := pf_lt first
  obtain ⟨c1, c2, c3⟩ := pc_lt count
  have HS : Hid (Scr W a ops) := hs
  clear hs f2 c3
  generalize pf first = f0 at *
  generalize pc count = c at *
  generalize hn : ops.length = m at *
  have HN : Hid (ops.length = m) := hn
  clear hn
  go_enter Try.func4, Try.ntmps4
  go_wp2_with (first
    | (go_at_call 9; refine hpr.mono ?_; clear hpr; rintro e w1 ⟨rfl, hp1, ht1, hz1⟩;
       have hlv := live_any w1;
       have HP1 : Hid (Pl W w1 (W.heap.size + 1) W.heap.size f0 c (List.replicate c 0)) := ⟨hp1, List.length_replicate, ht1, by omega, by omega⟩; clear hp1 ht1 hz1)
    | (go_at_call 10; refine hlv.mono ?_; clear hlv; rintro e w2 ⟨rfl, ht2⟩; have HP2 : Hid (Pl W w2 (W.heap.size + 1) W.heap.size f0 c (List.replicate c 0)) := HP1.out.keep ht2; clear ht2)
    | go_in)
  clear HP1
  generalize W.heap.size + 1 = p at *
  generalize hub : W.heap.size = ub at *
  have HUB : Hid (W.heap.size = ub) := hub
  clear hub
  go_loopw [10] (fun s10 wr => ∃ (k : Nat) (u : List Nat), k ≤ m ∧ s10 = .int .i64 k ∧ Hid (Pl W wr p ub f0 c u)) (fun s10 _ => m - (intOf s10).toNat)
  case atStart => exact ⟨0, _, Nat.zero_le _, rfl, HP2⟩
  case round =>
    obtain ⟨k, u0, hk, rfl, HX⟩ := hrel
    clear HP2
    by_cases hlt : k < m
    · obtain ⟨o, ho⟩ : ∃ o, ops[k]? = some o := ⟨_, List.getElem?_eq_getElem (by rw [HN.out]; omega)⟩
      obtain ⟨b, off, rfl, hbl, e0, e1, e2, e3, e4⟩ := HS.out.lies k o ho
      have T := HX.out.2.2.1
      rw [← T.cell hbl (fun h => h)] at e0 e1 e2 e3 e4
      have hst := pl_pooled HX.out o (HS.out.oks o (List.mem_of_getElem? ho))
      unfold Op4.val at hst
      clear T ho
      go_wp2_with (first
        | (go_at_call 11; refine hst.mono ?_; clear hst; rintro e w3 ⟨rfl, hP3, ht3⟩; have hus := pl_uses hP3; have HP3 : Hid (Pl W w3 p ub f0 c (poolR f0 u0 o).2.2) := hP3; clear hP3 ht3)
        | (go_at_call 12; refine hus.mono ?_; clear hus; rintro e w4 ⟨la, lc, rfl, hia, hib, ht4⟩; have HL : Hid (Pl W w4 p ub f0 c (poolR f0 u0 o).2.2 ∧ IAt w4 la (intsOf (poolR f0 u0 o).2.2)) := ⟨HP3.out.keep ht4, hia⟩; clear hia hib ht4)
        | go_in)
      clear e0 e1 e2 e3 e4 HX HP3
      generalize (poolR f0 u0 o).2.2 = u at *
      have hul : Hid (u.length = c) := HL.out.1.2.1
      go_loop [12, 13] (fun s12 s13 => ∃ j : Nat, j ≤ c ∧ s13 = .int .i64 j ∧ s12 = .int .i64 ((zeros (u.take j) : Nat) : Int)) (fun _ s13 => c - (intOf s13).toNat)
      case atStart => exact ⟨0, Nat.zero_le _, rfl, rfl⟩
      case round =>
        obtain ⟨j, hj, rfl, rfl⟩ := hrel
        have hzl : zeros (u.take j) ≤ j := Nat.le_trans (zeros_le _) (List.length_take_le _ _)
        by_cases hjc : j < c
        · obtain ⟨x, hx⟩ : ∃ x, u[j]? = some x := ⟨_, List.getElem?_eq_getElem (by rw [hul.out]; exact hjc)⟩
          obtain ⟨g, rfl, _, hcx⟩ := HL.out.2 j x (intsOf_at hx)
          have hxle := HL.out.1.1.le x (List.mem_of_getElem? hx)
          have hzs := zeros_take_succ u j hx
          have hjz : (j : Int) < (c : Int) := by omega
          clear hx
          by_cases hx0 : x = 0
          · subst hx0
            rw [if_pos rfl] at hzs
            have HZS : Hid _ := hzs
            clear hzs
            go_wp2
            go_round
            case rel => exact ⟨j + 1, by omega, by go_num, by rw [HZS.out]; go_num⟩
            case measure => simp [intOf]; omega
          · rw [if_neg hx0] at hzs
            have HZS : Hid _ := hzs
            have hxz : ¬ ((x : Int) = 0) := by omega
            clear hzs
            go_wp2
            go_round
            case rel => exact ⟨j + 1, by omega, by go_num, by rw [HZS.out]; rfl⟩
            case measure => simp [intOf]; omega
        · obtain rfl : j = c := by omega
          have hru := pl_runs HL.out.1
          have hzz : zeros (u.take j) = zeros u := by rw [List.take_of_length_le (by rw [hul.out]; omega)]
          rw [hzz] at hzl ⊢
          have hrl : (runs f0 u).length ≤ j := by have := runs_len f0 u; rw [hul.out] at this; exact this
          have HOK : Hid (RunsOK f0 u j (runs f0 u)) := by have := runsOK f0 u; rw [hul.out] at this; exact this
          have HSum : Hid (((runs f0 u).map (·.2)).sum = zeros u) := by
            have := HOK.out.sum
            rw [List.take_of_length_le (by rw [hul.out]; omega)] at this
            exact this
          have hfr : ∀ w, PP w p ub f0 u → Calls Try.prog 18 #[.pointer (some ⟨p, 0, none⟩)] w fun e w' => e = .returned (.int .i64 (zeros u)) ∧ w = w' := fun w hw => free_any w p ub f0 u hw
          clear hzz
          generalize runs f0 u = rs at *
          generalize hrn : rs.length = R at *
          have HRN : Hid (rs.length = R) := hrn
          clear hrn
          generalize zeros u = z at *
          go_wp2_with (first
            | (go_at_call 17; refine hru.mono ?_; clear hru; rintro e w5 ⟨ra, rc, rfl, hra, hrb, ht5⟩; have HR : Hid (Pl W w5 p ub f0 j u ∧ IAt w5 la (intsOf u) ∧ RAt w5 ra rs) := ⟨HL.out.1.keep ht5, HL.out.2.turn ht5 (fun _ _ h => h), hra⟩; clear hra hrb ht5)
            | go_in)
          clear HL
          generalize wr = wz at *
          go_loopw [15, 16, 17] (fun s15 s16 s17 wr => ∃ (i : Nat) (last : Int), i ≤ R ∧ s17 = .int .i64 i ∧ s15 = .int .i64 last ∧ s16 = .int .i64 ((((rs.take i).map (·.2)).sum : Nat) : Int) ∧ -1 ≤ last ∧ last ≤ 20000 ∧ Hid (LastV rs i last) ∧ ∃ q, wr = w5.drewN q) (fun _ _ s17 _ => R - (intOf s17).toNat)
          case atStart => exact ⟨0, (f0 : Int) - 1, Nat.zero_le _, rfl, rfl, rfl, by omega, by omega, fun i a c h => by omega, 0, rfl⟩
          case round =>
            obtain ⟨i, last, hi, rfl, rfl, rfl, hl1, hl2, HLV, q, rfl⟩ := hrel
            have hsl := sum_take_le rs i
            rw [HSum.out] at hsl
            by_cases hiR : i < R
            · obtain ⟨⟨ra1, cc⟩, hx⟩ : ∃ x, rs[i]? = some x := ⟨_, List.getElem?_eq_getElem (by rw [HRN.out]; exact hiR)⟩
              obtain ⟨o1, o2, o3, o4⟩ := HOK.out.each i ra1 cc hx
              obtain ⟨g, rfl, _, hca, hcb⟩ := HR.out.2.2 i _ hx
              have HO4 : Hid (∀ t, t < cc → u[ra1 - f0 + t]? = some 0) := o4
              have HXS := sum_take hx
              have hss := sum_take_le rs (i + 1)
              rw [HSum.out, HXS] at hss
              have HXX : Hid (((rs.take (i + 1)).map (·.2)).sum = ((rs.take i).map (·.2)).sum + cc) := HXS
              have HRX : Hid (rs[i]? = some (ra1, cc)) := hx
              have hgap : 0 < i → last + 1 < (ra1 : Int) := fun h0 => by
                obtain ⟨⟨a', c'⟩, hx'⟩ : ∃ x, rs[i - 1]? = some x := ⟨_, List.getElem?_eq_getElem (by rw [HRN.out]; omega)⟩
                have h1 := HOK.out.gap (i - 1) a' c' ra1 cc hx' (by rw [show i - 1 + 1 = i by omega]; exact hx)
                have h2 := HLV.out (i - 1) a' c' (by omega) hx'
                omega
              clear o4 HXS hx
              simp only at hca hcb hss
              generalize ((rs.take i).map (·.2)).sum = sm at *
              have d1 : decide ((cc : Int) < 1) = false := decide_eq_false (by omega)
              have d2 : decide (ra1 < f0) = false := decide_eq_false (by omega)
              have x1 : IntKind.i64.wrap (last + 1) = last + 1 := by rw [IntKind.wrap_i64]; omega
              have x2 : IntKind.i64.wrap ((ra1 : Int) + (cc : Int)) = (ra1 : Int) + (cc : Int) := by rw [IntKind.wrap_i64]; omega
              have x3 : IntKind.i64.wrap ((f0 : Int) + (j : Int)) = (f0 : Int) + (j : Int) := by rw [IntKind.wrap_i64]; omega
              have d3 : decide ((f0 : Int) + (j : Int) < (ra1 : Int) + (cc : Int)) = false := decide_eq_false (by omega)
              have hiz : (i : Int) < (R : Int) := by omega
              go_wp2
              go_cut [127] from 76 to 173 (fun s127 wx => s127 = .bool false ∧ ∃ q, wx = w5.drewN q)
              case first =>
                by_cases hi0 : 0 < i
                · have d4 : decide ((0 : Int) < (i : Int)) = true := decide_eq_true (by omega)
                  have d5 : decide ((ra1 : Int) ≤ last + 1) = false := decide_eq_false (by have := hgap hi0; omega)
                  clear hgap
                  go_quiet (fail)
                  go_wp2
                  go_meet
                  exact ⟨rfl, _, World.drewN_drewN _ _ _⟩
                · obtain rfl : i = 0 := by omega
                  clear hgap
                  go_quiet (fail)
                  go_wp2
                  go_meet
                  exact ⟨rfl, _, World.drewN_drewN _ _ _⟩
              case rest =>
                obtain ⟨rfl, q3, rfl⟩ := hcut
                clear hgap d1 d2 d3 x1
                go_wp2
                generalize wz = wy at *
                go_loopw [18] (fun s18 wr => ∃ t : Nat, t ≤ cc ∧ s18 = .int .i64 ((ra1 + t : Nat) : Int) ∧ ∃ q, wr = w5.drewN q) (fun s18 _ => ra1 + cc - (intOf s18).toNat)
                case atStart => exact ⟨0, Nat.zero_le _, by go_num, _, rfl⟩
                case round =>
                  obtain ⟨t, ht, rfl, q2, rfl⟩ := hrel
                  by_cases htc : t < cc
                  · obtain ⟨g2, hg2, _, hcl⟩ := HR.out.2.1 (ra1 - f0 + t) _ (intsOf_at (HO4.out t htc))
                    subst hg2
                    have hix : (ra1 : Int) + (t : Int) - (f0 : Int) = ((ra1 - f0 + t : Nat) : Int) := by omega
                    have hixl : ra1 - f0 + t < j := by omega
                    have d6 : (ra1 : Int) + (t : Int) < (ra1 : Int) + (cc : Int) := by omega
                    go_wp2
                    go_quiet (fail)
                    go_wp2
                    go_roundw
                    case rel => exact ⟨t + 1, by omega, by go_num, _, rfl⟩
                    case measure => simp [intOf]; omega
                  · obtain rfl : t = cc := by omega
                    have d6 : ¬ ((ra1 : Int) + (t : Int) < (ra1 : Int) + (t : Int)) := by omega
                    go_wp2
                    go_quiet (fail)
                    go_wp2
                    go_quiet (fail)
                    go_wp2
                    go_roundw
                    case rel => exact ⟨i + 1, (ra1 : Int) + (t : Int) - 1, by omega, by go_num, rfl, by rw [HXX.out]; go_num, by omega, by omega, fun i' a' c' h1 h2 => by
                      obtain rfl : i = i' := by omega
                      have h3 := HRX.out
                      rw [h3] at h2
                      cases h2
                      rfl, _, rfl⟩
                    case measure => simp [intOf]; omega
            · obtain rfl : i = R := by omega
              have hfin : ((rs.take i).map (·.2)).sum = z := by rw [List.take_of_length_le (by rw [HRN.out]; omega)]; exact HSum.out
              rw [hfin] at hsl ⊢
              have hf := fun q => hfr (w5.drewN q) (HR.out.1.1.drewN q)
              have HPl : Hid (∀ q, Pl W (w5.drewN q) p ub f0 j u) := fun q => HR.out.1.keep ((Turn.refl _ _).drewN q)
              have hiz : ¬ ((i : Int) < (i : Int)) := by omega
              clear hfin hfr
              go_wp2_with (first
                | (go_at_call 18; refine (hf _).mono ?_; clear hf; rintro e w6 ⟨rfl, rfl⟩)
                | go_in)
              go_roundw
              case rel => exact ⟨k + 1, u, by omega, by go_num, HPl.out _⟩
              case measure => simp [intOf]; omega
    · have hall := all_any wr p ub f0 u0 HX.out.1
      rw [HX.out.2.1] at hall
      have HXT : Hid (Turn (fun _ => False) W wr) := HX.out.2.2.1
      go_wp2_with (first
        | (go_at_call 19; refine hall.mono ?_; clear hall; rintro e w3 ⟨rfl, ht3⟩; have HT3 : Hid (Turn (fun _ => False) W w3) := HXT.out.trans ht3 (fun _ h => h.elim); clear ht3)
        | go_in)
      go_ret
      exact ⟨rfl, HT3.out.to (fun _ h => h.elim) (Nat.le_refl _)⟩
end Go.Proofs.Ytplobjdghaokoaa
