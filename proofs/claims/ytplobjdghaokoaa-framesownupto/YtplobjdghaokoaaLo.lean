import Derived.Test.YtplobjdghaokoaaOp
namespace Go.Proofs.Ytplobjdghaokoaa
open Go.RowKit
set_option linter.unusedVariables false

/-- A pool of one's own. -/
def Pl (W w : World) (p ub f0 c : Nat) (u : List Nat) : Prop := PP w p ub f0 u ∧ u.length = c ∧ Turn (fun _ => False) W w ∧ W.heap.size ≤ p ∧ W.heap.size ≤ ub
theorem Pl.step {W w w' : World} {p ub f0 c : Nat} {u u' : List Nat} (h : Pl W w p ub f0 c u) (hp : PP w' p ub f0 u') (hl : u'.length = u.length) (T : Turn (Two p ub) w w') : Pl W w' p ub f0 c u' :=
  ⟨hp, by rw [hl]; exact h.2.1, h.2.2.1.trans T (fun x hx => .inr (by rcases hx with rfl | rfl; exact h.2.2.2.1; exact h.2.2.2.2)), h.2.2.2⟩
theorem Pl.keep {W w w' : World} {p ub f0 c : Nat} {u : List Nat} (h : Pl W w p ub f0 c u) (T : Turn (fun _ => False) w w') : Pl W w' p ub f0 c u :=
  ⟨h.1.keep T (fun h => h) (fun h => h), h.2.1, h.2.2.1.trans T (fun _ h => h.elim), h.2.2.2⟩
/-- A step of the script. -/
theorem pl_pooled {W w : World} {p ub f0 c : Nat} {u : List Nat} (h : Pl W w p ub f0 c u) (o : Op4) (ho : o.ok) :
    Calls Try.prog 11 #[.pointer (some ⟨p, 0, none⟩), o.val] w fun e w' => e = .returned (.tuple #[.int .i64 (poolR f0 u o).1, .int .i64 (poolR f0 u o).2.1]) ∧ Pl W w' p ub f0 c (poolR f0 u o).2.2 ∧ Turn (Two p ub) w w' := by
  refine (pooled_any w p ub f0 u o h.1 ho).mono ?_
  rintro e w' ⟨rfl, hp, ht⟩
  exact ⟨rfl, h.step hp (poolR_len _ _ _) ht, ht⟩
theorem pl_uses {W w : World} {p ub f0 c : Nat} {u : List Nat} (h : Pl W w p ub f0 c u) :
    Calls Try.prog 12 #[.pointer (some ⟨p, 0, none⟩), .int .i64 f0, .int .i64 c] w fun e w' => ∃ a cap, e = .returned (.slice a c cap) ∧ IAt w' a (intsOf u) ∧ (∀ g, a = some ⟨g, 0, none⟩ → w.heap.size ≤ g ∧ g < w'.heap.size) ∧ Turn (fun _ => False) w w' := by
  have := usesL_any w p ub f0 u h.1
  rw [h.2.1] at this
  refine this.mono ?_
  rintro e w' ⟨v, rfl, ho, ht⟩
  rw [show c = (intsOf u).length by rw [intsOf_len, h.2.1]] at ho
  obtain ⟨a, cap, rfl, h1, h2⟩ := own_iat ho
  rw [intsOf_len, h.2.1]
  exact ⟨a, cap, rfl, h1, h2, ht⟩

def noFitB (f0 : Nat) (u : List Nat) (n al t : Nat) : Prop := ∀ j, j < t → ¬ Fit f0 u n al j
/-- The statement's search: nothing yet, or the least place. -/
def WantL (f0 : Nat) (u : List Nat) (n al t : Nat) (want : Int) : Prop :=
  (want = -1 ∧ noFitB f0 u n al t) ∨ ∃ t', tk f0 u n al = some t' ∧ want = ((f0 + t' : Nat) : Int)
theorem al_pow (r : Nat) (h : r ≤ 12) : isAl ((2 ^ r : Nat) : Int) = true ∧ 1 ≤ 2 ^ r ∧ 2 ^ r ≤ 4096 := by
  rcases (show r = 0 ∨ r = 1 ∨ r = 2 ∨ r = 3 ∨ r = 4 ∨ r = 5 ∨ r = 6 ∨ r = 7 ∨ r = 8 ∨ r = 9 ∨ r = 10 ∨ r = 11 ∨ r = 12 by omega) with rfl | rfl | rfl | rfl | rfl | rfl | rfl | rfl | rfl | rfl | rfl | rfl | rfl <;> decide

set_option maxHeartbeats 16000000 in
set_option maxRecDepth 100000 in
theorem law_lowest (W : World) (first count : Int) (a : Option Addr) (cap : Nat) (ops : List Op4) (n0 al0 : Int) (hs : Scr W a ops) (hl : ops.length ≤ 140737488355328) :
    Calls Try.prog 3 #[.int .i64 first, .int .i64 count, .slice a ops.length cap, .int .i64 n0, .int .i64 al0] W fun e W' => e = .returned (.bool true) ∧ Below W.heap.size W W' := by
  have hpr := pressed_any W first count
  obtain ⟨f1, f2⟩ := pf_lt first
  obtain ⟨c1, c2, c3⟩ := pc_lt count
  have HS : Hid (Scr W a ops) := hs
  clear hs f2 c3
  generalize pf first = f0 at *
  generalize pc count = c at *
  generalize hn : ops.length = m at *
  have HN : Hid (ops.length = m) := hn
  clear hn
  go_enter Try.func3, Try.ntmps3
  go_wp2_with (first
    | (go_at_call 9; refine hpr.mono ?_; clear hpr; rintro e w1 ⟨rfl, hp1, ht1, hz1⟩;
       have hlv := live_any w1;
       have HP1 : Hid (Pl W w1 (W.heap.size + 1) W.heap.size f0 c (List.replicate c 0)) := ⟨hp1, List.length_replicate, ht1, by omega, by omega⟩; clear hp1 ht1 hz1)
    | (go_at_call 10; refine hlv.mono ?_; clear hlv; rintro e w2 ⟨rfl, ht2⟩; have HP2 : Hid (Pl W w2 (W.heap.size + 1) W.heap.size f0 c (List.replicate c 0)) := HP1.out.keep ht2; clear ht2)
    | go_in)
  clear HP1
  generalize W.heap.size + 1 = p at *
  generalize hub : W.heap.size = ub at *
  have HUB : Hid (W.heap.size = ub) := hub
  clear hub
  go_loopw [14] (fun s14 wr => ∃ (k : Nat) (u : List Nat), k ≤ m ∧ s14 = .int .i64 k ∧ Hid (Pl W wr p ub f0 c u)) (fun s14 _ => m - (intOf s14).toNat)
  case atStart => exact ⟨0, _, Nat.zero_le _, rfl, HP2⟩
  case round =>
    obtain ⟨k, u, hk, rfl, HX⟩ := hrel
    clear HP2
    by_cases hlt : k < m
    · obtain ⟨o, ho⟩ : ∃ o, ops[k]? = some o := ⟨_, List.getElem?_eq_getElem (by rw [HN.out]; omega)⟩
      obtain ⟨b, off, rfl, hbl, e0, e1, e2, e3, e4⟩ := HS.out.lies k o ho
      have T := HX.out.2.2.1
      rw [← T.cell hbl (fun h => h)] at e0 e1 e2 e3 e4
      have hst := pl_pooled HX.out o (HS.out.oks o (List.mem_of_getElem? ho))
      unfold Op4.val at hst
      clear T ho
      go_wp2_with (first
        | (go_at_call 11; refine hst.mono ?_; clear hst; rintro e w3 ⟨rfl, hP3, ht3⟩; have HP3 : Hid (Pl W w3 p ub f0 c (poolR f0 u o).2.2) := hP3; clear hP3 ht3)
        | go_in)
      go_roundw
      case rel => exact ⟨k + 1, _, by omega, by go_num, HP3⟩
      case measure => simp [intOf]; omega
    · have hus := pl_uses HX.out
      have hr1 := fun w => rest_any w n0 40 (by omega) (by omega)
      have hr2 := fun w => rest_any w al0 13 (by omega) (by omega)
      obtain ⟨n, hn⟩ : ∃ n : Nat, 1 + n0 % 40 = (n : Int) := ⟨(1 + n0 % 40).toNat, by omega⟩
      obtain ⟨r, hr⟩ : ∃ r : Nat, al0 % 13 = (r : Int) := ⟨(al0 % 13).toNat, by omega⟩
      have hn1 : 1 ≤ n ∧ n ≤ 40 := by omega
      obtain ⟨hn1, hn2⟩ := hn1
      have hr12 : r ≤ 12 := by omega
      rw [show n0 % 40 = (n : Int) - 1 by omega] at hr1
      rw [hr] at hr2
      have hnn : (1 : Int) + ((n : Int) - 1) = n := by omega
      clear hn hr
      go_wp2_with (first
        | (go_at_call 12; refine hus.mono ?_; clear hus; rintro e w4 ⟨la, lc, rfl, hia, hib, ht4⟩; have HL : Hid (Pl W w4 p ub f0 c u ∧ IAt w4 la (intsOf u) ∧ (∀ g, la = some ⟨g, 0, none⟩ → wr.heap.size ≤ g ∧ g < w4.heap.size) ∧ wr.heap.size ≤ w4.heap.size) := ⟨HX.out.keep ht4, hia, hib, ht4.size⟩; clear hia hib ht4)
        | (go_at_call 13; refine (hr1 _).mono ?_; clear hr1; rintro e w' ⟨rfl, rfl⟩)
        | go_in)
      go_loop [16, 17] (fun s16 s17 => ∃ i : Nat, i ≤ r ∧ s17 = .int .i64 i ∧ s16 = .int .i64 ((2 ^ i : Nat) : Int)) (fun _ s17 => r - (intOf s17).toNat)
      case atStart => exact ⟨0, Nat.zero_le _, rfl, rfl⟩
      case round =>
        obtain ⟨i, hi, rfl, rfl⟩ := hrel
        have hp2 := al_pow i (by omega)
        by_cases hir : i < r
        · have hz : (i : Int) < (r : Int) := by omega
          have hps : (2 ^ (i + 1) : Nat) = 2 * 2 ^ i := by rw [Nat.pow_succ]; omega
          have HPS : Hid _ := hps
          have hpb := hp2.2.2
          clear hp2 hps
          generalize 2 ^ i = q at *
          go_wp2_with (first
            | (go_at_call 13; refine (hr2 _).mono ?_; rintro e w' ⟨rfl, rfl⟩)
            | go_in)
          go_round
          case rel => exact ⟨i + 1, by omega, by go_num, by rw [HPS.out]; go_num⟩
          case measure => simp [intOf]; omega
        · obtain rfl : i = r := by omega
          have hz : ¬ ((i : Int) < (i : Int)) := by omega
          have hpb := hp2.2.2
          have hpb1 := hp2.2.1
          have HAL : Hid (isAl ((2 ^ i : Nat) : Int) = true) := hp2.1
          clear hp2
          generalize 2 ^ i = al at *
          go_wp2_with (first
            | (go_at_call 13; refine (hr2 _).mono ?_; rintro e w' ⟨rfl, rfl⟩)
            | go_in)
          clear hr2 hz hir
          have hlo : Hid (u.length = c) := HX.out.2.1
          go_loop [18, 19] (fun s18 s19 => ∃ (t : Nat) (want : Int), s19 = .int .i64 ((f0 + t : Nat) : Int) ∧ s18 = .int .i64 want ∧ t ≤ c + 1 ∧ -1 ≤ want ∧ want ≤ 20000 ∧ Hid (WantL f0 u n al t want)) (fun _ s19 => f0 + c + 2 - (intOf s19).toNat)
          case atStart => exact ⟨0, -1, by go_num, rfl, by omega, by omega, by omega, .inl ⟨rfl, fun j hj => by omega⟩⟩
          case round =>
            obtain ⟨t, want, rfl, rfl, ht, hw1, hw2, HW⟩ := hrel
            by_cases hwz : want < 0
            · have hnof : noFitB f0 u n al t := by
                rcases HW.out with ⟨_, h⟩ | ⟨t', _, h⟩
                · exact h
                · omega
              have HNF : Hid (noFitB f0 u n al t) := hnof
              obtain rfl : want = -1 := by omega
              clear hnof HW
              by_cases hfit : t + n ≤ c
              · have hfz : (f0 : Int) + (t : Int) + (n : Int) ≤ (f0 : Int) + (c : Int) := by omega
                have hmod : ((f0 : Int) + (t : Int)) % (al : Int) = ((f0 + t) % al : Nat) := by rw [Int.natCast_emod]; rfl
                have hal1 : (1 : Int) ≤ (al : Int) := by omega
                have HMOD : Hid (((f0 : Int) + (t : Int)) % (al : Int) = 0 ↔ (f0 + t) % al = 0) := by rw [hmod]; generalize (f0 + t) % al = z; show (z : Int) = 0 ↔ z = 0; omega
                clear hmod
                go_wp2
                go_loop [20, 21] (fun s20 s21 => ∃ (ok : Bool) (k : Nat), s20 = .bool ok ∧ s21 = .int .i64 k ∧ k ≤ n ∧ Hid ((ok = true → (f0 + t) % al = 0 ∧ ∀ i, i < k → u[t + i]? = some 0) ∧ (ok = false → ¬ Fit f0 u n al t))) (fun _ s21 => n - (intOf s21).toNat)
                case atStart =>
                  refine ⟨_, 0, rfl, rfl, Nat.zero_le _, ?_⟩
                  show _ ∧ _
                  refine ⟨fun h => ⟨?_, fun i hi => by omega⟩, fun h hf => ?_⟩
                  · simp at h
                    exact HMOD.out.1 h
                  · simp at h
                    exact h (HMOD.out.2 hf.1)
                case round =>
                  obtain ⟨ok, k2, rfl, rfl, hk2, HOK⟩ := hrel
                  cases ok with
                  | true =>
                    by_cases hkn : k2 < n
                    · have hkz : (k2 : Int) < (n : Int) := by omega
                      obtain ⟨x, hx⟩ : ∃ x, u[t + k2]? = some x := ⟨_, List.getElem?_eq_getElem (by rw [hlo.out]; omega)⟩
                      obtain ⟨g, rfl, _, hcx⟩ := HL.out.2.1 (t + k2) x (intsOf_at hx)
                      have HXX : Hid (u[t + k2]? = some x) := hx
                      clear hx
                      have hft : (f0 : Int) + (t : Int) - (f0 : Int) + (k2 : Int) = ((t + k2 : Nat) : Int) := by omega
                      have hft2 : (f0 : Int) + (t : Int) - (f0 : Int) = (t : Int) := by omega
                      go_wp2
                      go_round
                      case rel =>
                        refine ⟨_, k2 + 1, rfl, by go_num, by omega, ?_⟩
                        show _ ∧ _
                        refine ⟨fun h => ⟨(HOK.out.1 rfl).1, fun i hi => ?_⟩, fun h hf => ?_⟩
                        · by_cases e : i = k2
                          · subst e
                            simp at h
                            have := HXX.out
                            rw [this]
                            congr 1
                          · exact (HOK.out.1 rfl).2 i (by omega)
                        · have := hf.2.2 k2 hkn
                          have h2 := HXX.out
                          rw [this] at h2
                          injection h2 with h2
                          subst h2
                          simp at h
                      case measure => simp [intOf]; omega
                    · obtain rfl : k2 = n := by omega
                      have HTK : Hid (tk f0 u k2 al = some t) := tk_some.2 ⟨⟨(HOK.out.1 rfl).1, by rw [hlo.out]; exact hfit, (HOK.out.1 rfl).2⟩, HNF.out⟩
                      have hkz : ¬ ((k2 : Int) < (k2 : Int)) := by omega
                      go_wp2
                      go_round
                      case rel => exact ⟨t + 1, ((f0 + t : Nat) : Int), by go_num, by go_num, by omega, by omega, by omega, .inr ⟨t, HTK.out, rfl⟩⟩
                      case measure => simp [intOf]; omega
                  | false =>
                    have HNF2 : Hid (noFitB f0 u n al (t + 1)) := fun j hj => by
                      by_cases e : j = t
                      · rw [e]; exact HOK.out.2 rfl
                      · exact HNF.out j (by omega)
                    by_cases hkn : k2 < n
                    all_goals
                      go_wp2
                      go_round
                      case rel => exact ⟨t + 1, -1, by go_num, rfl, by omega, by omega, by omega, .inl ⟨rfl, HNF2.out⟩⟩
                      case measure => simp [intOf]; omega
              · have hfz : ¬ ((f0 : Int) + (t : Int) + (n : Int) ≤ (f0 : Int) + (c : Int)) := by omega
                have htn : tk f0 u n al = none := by
                  rw [tk_none]
                  intro j hf
                  by_cases h1 : j < t
                  · exact HNF.out j h1 hf
                  · have := hf.2.1; rw [hlo.out] at this; omega
                have htk := take_any w4 p ub f0 u n al HL.out.1.1 (by omega)
                have he : takeR f0 u n al = (0, 42, u) := by
                  unfold takeR
                  rw [if_neg (by rw [HAL.out]; simp; omega), Int.toNat_natCast, Int.toNat_natCast, htn]
                rw [he] at htk
                clear he htn
                go_wp2_with (first
                  | (go_at_call 15; refine (no_any _ _).mono ?_; rintro e w' ⟨rfl, rfl⟩)
                  | (go_at_call 14; refine htk.mono ?_; clear htk; rintro e w5 ⟨rfl, hp5, ht5⟩;
                     have hP5 := HL.out.1.step hp5 rfl ht5;
                     have hus := pl_uses hP5;
                     have hi5 := HL.out.2.1.turn ht5 (fun g hg h => (by
                       have h1 := HL.out.2.2.1 g hg
                       have h2 := HX.out.1.lt
                       rcases h with h | h <;> omega));
                     have HP5 : Hid (Pl W w5 p ub f0 c u ∧ IAt w5 la (intsOf u)) := ⟨hP5, hi5⟩; clear hp5 ht5 hP5 hi5)
                  | (go_at_call 12; refine hus.mono ?_; clear hus; rintro e w6 ⟨a6, c6, rfl, hi6, hj6, ht6⟩;
                     have hsm := sameInts_any w6 a6 la c6 lc (intsOf u) (intsOf u) hi6 (HP5.out.2.turn ht6 (fun _ _ h => h)) (by rw [intsOf_len, hlo.out]; omega) (by rw [intsOf_len, hlo.out]; omega);
                     rw [intsOf_len, hlo.out, decide_eq_true rfl] at hsm;
                     have HP6 : Hid (Pl W w6 p ub f0 c u) := HP5.out.1.keep ht6; clear hi6 hj6 ht6)
                  | (go_at_call 16; refine hsm.mono ?_; clear hsm; rintro e w7 ⟨rfl, q7, rfl⟩)
                  | go_in)
                go_ret
                exact ⟨rfl, (HP6.out.2.2.1.drewN _).to (fun _ h => h.elim) (Nat.le_refl _)⟩
            · obtain ⟨t', htn, hwt⟩ : ∃ t', tk f0 u n al = some t' ∧ want = ((f0 + t' : Nat) : Int) := by
                rcases HW.out with ⟨h, _⟩ | h
                · omega
                · exact h
              have htk := take_any w4 p ub f0 u n al HL.out.1.1 (by omega)
              have he : takeR f0 u n al = (want, 0, mdr (fun _ => 1) u t' n) := by
                unfold takeR
                rw [if_neg (by rw [HAL.out]; simp; omega), Int.toNat_natCast, Int.toNat_natCast, htn, hwt]
              rw [he] at htk
              clear he htn hwt
              by_cases hfit : t + n ≤ c
              all_goals
                go_wp2_with (first
                  | (go_at_call 15; refine (no_any _ _).mono ?_; rintro e w' ⟨rfl, rfl⟩)
                  | (go_at_call 14; refine htk.mono ?_; clear htk; rintro e w5 ⟨rfl, hp5, ht5⟩;
                     have HP5 : Hid (Pl W w5 p ub f0 c (mdr (fun _ => 1) u t' n)) := HL.out.1.step hp5 (mdr_len _ _ _ _) ht5; clear hp5 ht5)
                  | go_in)
                go_ret
                exact ⟨rfl, HP5.out.2.2.1.to (fun _ h => h.elim) (Nat.le_refl _)⟩
end Go.Proofs.Ytplobjdghaokoaa
