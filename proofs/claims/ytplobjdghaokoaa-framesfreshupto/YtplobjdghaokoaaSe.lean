import Derived.Test.YtplobjdghaokoaaSd
namespace Go.Proofs.Ytplobjdghaokoaa
open Go.RowKit
set_option linter.unusedVariables false

/-- What a slab's Take answers, and leaves. -/
def SlT (f0 : Nat) (u : List Nat) (cs : List Cut) (r e : Int) (u' : List Nat) (cs' : List Cut) : Prop :=
  (∃ (k : Nat) (c : Cut) (i : Nat), cs[k]? = some c ∧ (∀ (j : Nat) (d : Cut), j < k → cs[j]? = some d → d.left = -1) ∧ c.left = i ∧ r = 4 * (c.f : Int) + i ∧ e = 0 ∧ u' = u ∧ cs' = cs.set k (c.put i true)) ∨
  ((∀ c ∈ cs, c.left = -1) ∧ tk f0 u 1 1 = none ∧ r = 0 ∧ e = 42 ∧ u' = u ∧ cs' = cs) ∨
  (∃ t k : Nat, (∀ c ∈ cs, c.left = -1) ∧ tk f0 u 1 1 = some t ∧ PosOf cs (f0 + t) k ∧ r = 4 * ((f0 + t : Nat) : Int) ∧ e = 0 ∧ u' = mdr (fun _ => 1) u t 1 ∧ cs' = cs.take k ++ [(⟨f0 + t, fun _ => false⟩ : Cut).put 0 true] ++ cs.drop k)

theorem put_any_true (c : Cut) (i : Nat) (hi : i < 4) : (c.put i true).any = true := by
  unfold Cut.any Cut.put
  rcases (show i = 0 ∨ i = 1 ∨ i = 2 ∨ i = 3 by omega) with rfl | rfl | rfl | rfl <;> simp
theorem enc_put (c : Cut) (i : Nat) (hi : i < 4) (v : Bool) : c.enc.set (1 + i) (.bool v) = (c.put i v).enc := by
  unfold Cut.enc Cut.put
  rcases (show i = 0 ∨ i = 1 ∨ i = 2 ∨ i = 3 by omega) with rfl | rfl | rfl | rfl <;> rfl
theorem flat_set (cs : List Cut) (k j : Nat) (c : Cut) (h : cs[k]? = some c) (hj : j < 5) (x : Value) (c' : Cut) (hc : c.enc.set j x = c'.enc) : (cs.flatMap Cut.enc).set (k * 5 + j) x = (cs.set k c').flatMap Cut.enc := by
  induction cs generalizing k with
  | nil => simp at h
  | cons d r ih =>
    cases k with
    | zero =>
      simp at h
      subst h
      rw [List.set_cons_zero, List.flatMap_cons, List.flatMap_cons, Nat.zero_mul, Nat.zero_add, List.set_append_left _ _ (by rw [Cut.enc_len]; exact hj), hc]
    | succ k =>
      rw [List.set_cons_succ, List.flatMap_cons, List.flatMap_cons, List.set_append_right _ _ (by rw [Cut.enc_len]; omega), Cut.enc_len, show (k + 1) * 5 + j - 5 = k * 5 + j by omega, ih k (by simpa using h)]
/-- A bit of a cut is set. -/
theorem PSx.bit {W : World} {S : Nat → Prop} {s p low cap : Nat} {cs : List Cut} {g : Nat} (h : PSx W S s p cs low (.slice (some ⟨g, 0, none⟩) cs.length cap)) {k i : Nat} {c : Cut} (hk : cs[k]? = some c) (hi : i < 4) (v : Bool)
    (hl : ∀ (j : Nat), j < low → j ≠ k ∨ v = true) : PSx (W.setCell ⟨g, k * 5 + 1 + i, none⟩ (.bool v)) S s p (cs.set k (c.put i v)) low (.slice (some ⟨g, 0, none⟩) cs.length cap) := by
  have hlt : k < cs.length := (List.getElem?_eq_some_iff.1 hk).1
  rcases row_of_own h.own with ⟨e, _, _⟩ | ⟨g', cap', cur, e, hlo, hr, h1, h2, h3, h4⟩
  · cases e
  · cases e
    have T : Turn (· = g) W (W.setCell ⟨g, k * 5 + 1 + i, none⟩ (.bool v)) := (Turn.refl (· = g) W).setCell (p := ⟨g, _, none⟩) (.inl rfl) _
    refine ⟨h.box.setO (Ne.symm (h.sne g rfl)) _ _, ?_, h.vS, h.Ss, fun b hb => Nat.lt_of_lt_of_le (h.lowb b hb) T.size, ⟨by rw [List.length_set]; exact h.lows.1, fun j d hj hd => ?_⟩, ?_, ?_⟩
    · rw [List.length_set]
      refine own_of_row (hr.set _ _) hlo h1 h2 (by rw [List.length_set]; exact h3) ?_
      rw [List.take_set, h4]
      rw [Nat.add_assoc]
      exact flat_set cs k (1 + i) c hk (by omega) _ _ (enc_put c i hi v)
    · by_cases e : j = k
      · subst e
        rw [List.getElem?_set_self hlt] at hd
        cases hd
        have hv : v = true := by
          rcases hl j hj with h | h
          · exact absurd rfl h
          · exact h
        have := h.lows.2 j c hj hk
        rw [Cut.left_full] at this ⊢
        intro q hq
        show (if q = i then v else c.b q) = true
        split
        · exact hv
        · exact this q hq
      · rw [List.getElem?_set_ne (Ne.symm e)] at hd
        exact h.lows.2 j d hj hd
    · have hs := h.srt
      unfold Srt at hs ⊢
      rw [List.pairwise_iff_getElem] at hs ⊢
      have hf : ∀ (q : Nat) (hq : q < (cs.set k (c.put i v)).length), ((cs.set k (c.put i v))[q]).f = (cs[q]'(by simpa using hq)).f := by
        intro q hq
        rw [List.getElem_set]
        split
        · rename_i e
          subst e
          rw [(List.getElem?_eq_some_iff.1 hk).2]
          rfl
        · rfl
      intro a b ha hb hab
      rw [hf a ha, hf b hb]
      exact hs a b _ _ hab
    · intro d hd
      rcases List.mem_or_eq_of_mem_set hd with h1 | rfl
      · exact h.fb d h1
      · exact h.fb c (List.mem_of_getElem? hk)

set_option maxHeartbeats 16000000 in
set_option maxRecDepth 100000 in
theorem stake_any (W : World) (S : Nat → Prop) (s p ub f0 : Nat) (cs : List Cut) (u : List Nat) (hS : PS W S s p cs) (hP : PP W p ub f0 u) (hp1 : ¬ S p) (hp2 : ¬ S ub) (hU : Used f0 u cs) :
    Calls Try.prog 28 #[.pointer (some ⟨s, 0, none⟩)] W fun e W' => ∃ r e0 u' cs', e = .returned (.tuple #[.int .i64 r, .int .i64 e0]) ∧ SlT f0 u cs r e0 u' cs' ∧ PS W' (gr S W W') s p cs' ∧ PP W' p ub f0 u' ∧ Turn (GrowS S p ub) W W' := by
  obtain ⟨⟨low, v, h⟩, hany⟩ := hS
  obtain ⟨a, cap, rfl, hcu, haS⟩ := h.view
  have hlen := h.len
  have HX : Hid (PSx W S s p cs low (.slice a cs.length cap)) := h
  have HPP : Hid (PP W p ub f0 u ∧ ¬ S p ∧ ¬ S ub ∧ Used f0 u cs ∧ (∀ c ∈ cs, c.any = true) ∧ ∀ g, a = some ⟨g, 0, none⟩ → S g) := ⟨hP, hp1, hp2, hU, hany, haS⟩
  clear h hP hp1 hp2 hU hany haS hcu
  generalize hn : cs.length = n at *
  have HN : Hid (cs.length = n) := hn
  clear hn
  go_enter Try.func28, Try.ntmps28
  go_wp2
  go_loopw [29] (fun _ wr => ∃ lw : Nat, lw ≤ n ∧ Hid (PSx wr S s p cs lw (.slice a n cap) ∧ Turn (· = s) W wr)) (fun _ wr => (match wr.cell? ⟨s, 2, none⟩ with | some (.int _ x) => n - x.toNat | _ => 0))
  case atStart => exact ⟨low, by have := HX.out.lows.1; rw [HN.out] at this; exact this, HX.out, Turn.refl _ _⟩
  case round =>
    obtain ⟨lw, hlw, HY⟩ := hrel
    have c1 := HY.out.1.c1
    have c2 := HY.out.1.c2
    have hfp := HY.out.1.box.frozen
    have hMS : Hid (wr.cell? ⟨s, 2, none⟩ = some (.int .i64 lw)) := c2
    obtain ⟨a', cap', e1, hcu, _⟩ := HY.out.1.view
    rw [HN.out] at e1
    cases e1
    by_cases hlt : lw < n
    · obtain ⟨c, hc⟩ : ∃ c, cs[lw]? = some c := ⟨_, List.getElem?_eq_getElem (by rw [HN.out]; exact hlt)⟩
      obtain ⟨g, rfl, hg, hcut⟩ := hcu lw c hc
      have hfl : ∀ q, Calls Try.prog 44 #[.pointer (some ⟨g, lw * 5, none⟩)] (wr.drewN q) fun e W' => e = .returned (.int .i64 c.left) ∧ W' = wr.drewN q := fun q => (firstLeft_any (wr.drewN q) g (lw * 5) c hcut).mono (fun e W' h => ⟨h.1, h.2.symm⟩)
      have hltz : decide ((lw : Int) < (n : Int)) = true := decide_eq_true (by omega)
      by_cases hfull : c.left = -1
      · rw [hfull] at hfl
        have HN2 : Hid (∀ q, PSx ((wr.drewN q).setCell ⟨s, 2, none⟩ (.int .i64 ((lw : Int) + 1))) S s p cs (lw + 1) (.slice (some ⟨g, 0, none⟩) n cap)) := fun q => by
          have hx := HY.out.1.drewN q
          have T : Turn (· = s) (wr.drewN q) ((wr.drewN q).setCell ⟨s, 2, none⟩ (.int .i64 ((lw : Int) + 1))) := (Turn.refl (· = s) _).setCell (p := ⟨s, 2, none⟩) (.inl rfl) _
          refine ⟨hx.box.set 2 _, own_turn hx.own T (fun b hb => hx.sne b hb), hx.vS, hx.Ss, fun b hb => Nat.lt_of_lt_of_le (hx.lowb b hb) T.size, ⟨by rw [HN.out]; omega, fun i d hi hd => ?_⟩, hx.srt, hx.fb⟩
          by_cases e : i = lw
          · subst e
            rw [hc] at hd
            cases hd
            exact hfull
          · exact hx.lows.2 i d (by omega) hd
        clear hc hcu hcut hfull
        go_wp2
        go_quiet ((go_at_call 44; exact Calls.quiet_of_same (hfl _)))
        go_wp2
        go_roundw
        case rel => exact ⟨lw + 1, by omega, HN2.out _, (HY.out.2.drewN _).setCell (.inl rfl) _⟩
        case measure =>
          rw [hMS.out]
          rw [(HN2.out nq).c2]
          simp
          omega
      · obtain ⟨i, hi⟩ : ∃ i : Nat, c.left = i := by
          have := c.left_le
          exact ⟨c.left.toNat, by omega⟩
        obtain ⟨hi4, _, _⟩ := Cut.left_at hi
        rw [hi] at hfl
        have HS2 : Hid (∀ q, SlT f0 u cs (4 * (c.f : Int) + i) 0 u (cs.set lw (c.put i true)) ∧ PS ((wr.drewN q).setCell ⟨g, lw * 5 + 1 + i, none⟩ (.bool true)) (gr S W ((wr.drewN q).setCell ⟨g, lw * 5 + 1 + i, none⟩ (.bool true))) s p (cs.set lw (c.put i true)) ∧ PP ((wr.drewN q).setCell ⟨g, lw * 5 + 1 + i, none⟩ (.bool true)) p ub f0 u ∧ Turn (GrowS S p ub) W ((wr.drewN q).setCell ⟨g, lw * 5 + 1 + i, none⟩ (.bool true))) := fun q => by
          have hx := HY.out.1.drewN q
          have e1 : n = cs.length := HN.out.symm
          rw [e1] at hx
          have hb := hx.bit hc hi4 true (fun _ _ => .inr rfl)
          have hgS := HPP.out.2.2.2.2.2 g rfl
          have T0 : Turn (· = s) W (wr.drewN q) := HY.out.2.drewN q
          have T : Turn (· = g) (wr.drewN q) ((wr.drewN q).setCell ⟨g, lw * 5 + 1 + i, none⟩ (.bool true)) := (Turn.refl (· = g) _).setCell (p := ⟨g, _, none⟩) (.inl rfl) _
          have hps : ∀ b, S b → b ≠ p ∧ b ≠ ub := fun b hb => ⟨fun e => HPP.out.2.1 (e ▸ hb), fun e => HPP.out.2.2.1 (e ▸ hb)⟩
          refine ⟨.inl ⟨lw, c, i, hc, fun j d hj hd => HY.out.1.lows.2 j d hj hd, hi, rfl, rfl, rfl, rfl⟩, ⟨⟨lw, _, hb.mono (fun b hb => .inl hb) (fun b hb' => ?_)⟩, fun d hd => ?_⟩, (HPP.out.1.keep T0 (fun e => (hps s hx.Ss).1 e.symm) (fun e => (hps s hx.Ss).2 e.symm)).keep T (fun e => (hps g hgS).1 e.symm) (fun e => (hps g hgS).2 e.symm), (T0.mono (fun b _ hb => .inl (by rw [hb]; exact hx.Ss))).trans T (fun b hb => .inl (.inl (by rw [hb]; exact hgS)))⟩
          · rcases hb' with hb' | hb'
            · exact hb.lowb b hb'
            · exact hb'.2
          · rcases List.mem_or_eq_of_mem_set hd with h1 | rfl
            · exact HPP.out.2.2.2.2.1 d h1
            · exact put_any_true c i hi4
        have k0 : ∀ q, (wr.drewN q).cell? ⟨g, lw * 5, none⟩ = some (.int .i64 c.f) := fun q => (cut_cells hcut).1
        have ki : ∀ q, (wr.drewN q).cell? ⟨g, lw * 5 + 1 + i, none⟩ = some (.bool (c.b i)) := fun q => by
          have := hcut (1 + i) (by omega)
          rw [show (wr.drewN q).cell? ⟨g, lw * 5 + 1 + i, none⟩ = wr.cell? ⟨g, lw * 5 + (1 + i), none⟩ by rw [Nat.add_assoc]; rfl, this]
          rcases (show i = 0 ∨ i = 1 ∨ i = 2 ∨ i = 3 by omega) with rfl | rfl | rfl | rfl <;> rfl
        have hfg : ∀ q o, (wr.drewN q).frozen? ⟨g, o, none⟩ = false := fun q o => by
          rcases row_of_own HY.out.1.own with ⟨e, _, _⟩ | ⟨g', cap', cur, e, _, hr, _⟩
          · cases e
          · cases e; exact hr.frozen o
        have hcf := HY.out.1.fb c (List.mem_of_getElem? hc)
        have hne : ¬ ((lw : Int) = (n : Int)) := by omega
        clear hc hcu hcut hfull hi
        go_wp2
        go_quiet ((go_at_call 44; exact Calls.quiet_of_same (hfl _)))
        go_wp2
        go_quiet (fail)
        go_wp2
        go_quiet (fail)
        simp only [World.drewN_drewN]
        go_wp2_with (first
          | (go_at_call 44; refine (hfl _).mono ?_; rintro e w' ⟨rfl, rfl⟩)
          | go_in)
        go_ret2
        have hh := HS2.out
        exact ⟨_, _, _, _, ret_ii (by omega) rfl, (hh 0).1, (hh _).2.1, (hh _).2.2.1, (hh _).2.2.2⟩
    · have hmm : n = lw := by omega
      subst hmm
      have HFL : Hid (∀ c ∈ cs, c.left = -1) := fun c hc => by
        obtain ⟨j, hj⟩ := List.mem_iff_getElem?.1 hc
        exact HY.out.1.lows.2 j c (by have := (List.getElem?_eq_some_iff.1 hj).1; rw [HN.out] at this; exact this) hj
      have hgr := fun q => grow_any (wr.drewN q) S s p ub f0 n cs _ u (HY.out.1.drewN q) (HPP.out.1.keep (HY.out.2.drewN q) (fun e => HPP.out.2.1 (by rw [e]; exact HY.out.1.Ss)) (fun e => HPP.out.2.2.1 (by rw [e]; exact HY.out.1.Ss))) HPP.out.2.1 HPP.out.2.2.1 HPP.out.2.2.2.1 HFL.out
      rcases tk_cases f0 u 1 1 with ⟨t, htk, hfit, hno⟩ | ⟨htk, hno⟩
      · have hgr' : ∀ q, Calls Try.prog 45 #[.pointer (some ⟨s, 0, none⟩)] (wr.drewN q) fun e W' => e = .returned (.int .i64 0) ∧ Hid (∃ k v', PosOf cs (f0 + t) k ∧ PSx W' (gr S W W') s p (cs.take k ++ [⟨f0 + t, fun _ => false⟩] ++ cs.drop k) k v' ∧ PP W' p ub f0 (mdr (fun _ => 1) u t 1) ∧ Turn (GrowS S p ub) W W') := fun q => by
          refine (hgr q).mono ?_
          rintro e w' (⟨h1, _⟩ | ⟨t', k, v', h1, rfl, h2⟩)
          · rw [htk] at h1; cases h1
          · rw [htk] at h1; cases h1
            obtain ⟨g1, g2, g3, g4⟩ := h2
            have hz := (HY.out.2.drewN q).size
            refine ⟨rfl, k, v', g1, g2.mono (fun b hb => ?_) (fun b hb => ?_), g3, ((HY.out.2.drewN q).mono (S' := GrowS S p ub) (fun b _ hb => .inl (by rw [hb]; exact HY.out.1.Ss))).trans g4 (fun b hb => .inl hb)⟩
            · rcases hb with hb | hb
              · exact .inl hb
              · exact .inr ⟨Nat.le_trans hz hb.1, hb.2⟩
            · rcases hb with hb | hb
              · exact g2.lowb b (.inl hb)
              · exact hb.2
        clear hgr hfit hno hcu
        have HTK : Hid (tk f0 u 1 1 = some t) := htk
        have htl := (tk_free htk).2
        have hPn := HPP.out.1.n2
        clear htk
        go_wp2
        go_quiet (fail)
        go_wp2
        go_quiet (fail)
        simp only [World.drewN_drewN]
        go_wp2_with (first
          | (go_at_call 45; refine (hgr' _).mono ?_; clear hgr'; rintro e w1 ⟨rfl, HG⟩)
          | go_in)
        obtain ⟨k, v', hpos, hx1, hP1, hT1⟩ := HG.out
        obtain ⟨a2, cap2, rfl, hcu2, haS2⟩ := hx1.view
        have hkn : k ≤ n := by rw [← HN.out]; exact hpos.1
        have hk2 : (cs.take k ++ [⟨f0 + t, fun _ => false⟩] ++ cs.drop k : List Cut)[k]? = some ⟨f0 + t, fun _ => false⟩ := by
          have hl : (cs.take k).length = k := by rw [List.length_take, HN.out]; omega
          rw [List.append_assoc, List.getElem?_append_right (by omega), hl, Nat.sub_self]
          rfl
        have hln : (cs.take k ++ [⟨f0 + t, fun _ => false⟩] ++ cs.drop k : List Cut).length = n + 1 := by
          simp [HN.out]; omega
        obtain ⟨g2, rfl, hg2, hcut2⟩ := hcu2 k _ hk2
        have hb2 := fun q => (hx1.drewN q).bit hk2 (show 0 < 4 by omega) true (fun _ _ => .inr rfl)
        have d1 := fun q => (hx1.drewN q).c1
        have d2 := fun q => (hx1.drewN q).c2
        have hfl : ∀ q, Calls Try.prog 44 #[.pointer (some ⟨g2, k * 5, none⟩)] (w1.drewN q) fun e W' => e = .returned (.int .i64 0) ∧ W' = w1.drewN q := fun q => (firstLeft_any (w1.drewN q) g2 (k * 5) _ hcut2).mono (fun e W' h => ⟨h.1, h.2.symm⟩)
        have hset : (cs.take k ++ [⟨f0 + t, fun _ => false⟩] ++ cs.drop k : List Cut).set k ((⟨f0 + t, fun _ => false⟩ : Cut).put 0 true) = cs.take k ++ [(⟨f0 + t, fun _ => false⟩ : Cut).put 0 true] ++ cs.drop k := by
          have hl : (cs.take k).length = k := by rw [List.length_take, HN.out]; omega
          rw [List.append_assoc, List.set_append_right _ _ (by omega), hl, Nat.sub_self, List.append_assoc]
          rfl
        have HS2 : Hid (∀ q, SlT f0 u cs (4 * ((f0 + t : Nat) : Int)) 0 (mdr (fun _ => 1) u t 1) (cs.take k ++ [(⟨f0 + t, fun _ => false⟩ : Cut).put 0 true] ++ cs.drop k) ∧ PS ((w1.drewN q).setCell ⟨g2, k * 5 + 1, none⟩ (.bool true)) (gr S W ((w1.drewN q).setCell ⟨g2, k * 5 + 1, none⟩ (.bool true))) s p (cs.take k ++ [(⟨f0 + t, fun _ => false⟩ : Cut).put 0 true] ++ cs.drop k) ∧ PP ((w1.drewN q).setCell ⟨g2, k * 5 + 1, none⟩ (.bool true)) p ub f0 (mdr (fun _ => 1) u t 1) ∧ Turn (GrowS S p ub) W ((w1.drewN q).setCell ⟨g2, k * 5 + 1, none⟩ (.bool true))) := fun q => by
          have hb := hb2 q
          rw [hset, Nat.add_zero] at hb
          have hgS := haS2 g2 rfl
          have T : Turn (· = g2) (w1.drewN q) ((w1.drewN q).setCell ⟨g2, k * 5 + 1, none⟩ (.bool true)) := (Turn.refl (· = g2) _).setCell (p := ⟨g2, _, none⟩) (.inl rfl) _
          have hpl := HPP.out.1.lt
          have hps : ∀ b, gr S W w1 b → b ≠ p ∧ b ≠ ub := fun b hb => by
            rcases hb with hb | hb
            · exact ⟨fun e => HPP.out.2.1 (e ▸ hb), fun e => HPP.out.2.2.1 (e ▸ hb)⟩
            · exact ⟨by omega, by omega⟩
          have hsz : w1.heap.size = ((w1.drewN q).setCell ⟨g2, k * 5 + 1, none⟩ (.bool true)).heap.size := by simp [World.setCell, World.drewN]
          refine ⟨.inr (.inr ⟨t, k, HFL.out, HTK.out, hpos, rfl, rfl, rfl, rfl⟩), ⟨⟨k, _, hb.mono (fun b hb => ?_) (fun b hb' => ?_)⟩, fun d hd => ?_⟩, (hP1.drewN q).keep T (fun e => (hps g2 hgS).1 e.symm) (fun e => (hps g2 hgS).2 e.symm), (hT1.drewN q).trans T (fun b hb => ?_)⟩
          · rcases hb with hb | hb
            · exact .inl hb
            · exact .inr ⟨hb.1, by rw [← hsz]; exact hb.2⟩
          · rcases hb' with hb' | hb'
            · exact hb.lowb b (.inl hb')
            · exact hb'.2
          · simp only [List.mem_append, List.mem_singleton] at hd
            rcases hd with (hd | rfl) | hd
            · exact HPP.out.2.2.2.2.1 d (List.mem_of_mem_take hd)
            · exact put_any_true _ 0 (by omega)
            · exact HPP.out.2.2.2.2.1 d (List.mem_of_mem_drop hd)
          · rcases hgS with h1 | h1
            · exact .inl (.inl (by rw [hb]; exact h1))
            · exact .inr (by rw [hb]; exact h1.1)
        have k0 : ∀ q, (w1.drewN q).cell? ⟨g2, k * 5, none⟩ = some (.int .i64 ((f0 + t : Nat) : Int)) := fun q => (cut_cells hcut2).1
        have ki : ∀ q, (w1.drewN q).cell? ⟨g2, k * 5 + 1, none⟩ = some (.bool false) := fun q => (cut_cells hcut2).2.1
        have hfg : ∀ q o, (w1.drewN q).frozen? ⟨g2, o, none⟩ = false := fun q o => by
          rcases row_of_own hx1.own with ⟨e, _, _⟩ | ⟨g', cap', cur, e, _, hr, _⟩
          · cases e
          · cases e; exact hr.frozen o
        rw [hln] at d1
        have D1 := d1 0
        have D2 := d2 0
        clear HG hx1 hP1 hT1 hcu2 haS2 hk2 hcut2 hb2 hset hpos hln
        simp only [World.drewN_zero] at D1 D2
        go_wp2
        go_quiet (fail)
        go_wp2_with (first
          | (go_at_call 44; refine (hfl _).mono ?_; rintro e w' ⟨rfl, rfl⟩)
          | go_in)
        go_ret2
        have hh := HS2.out
        exact ⟨_, _, _, _, ret_ii (by omega) rfl, (hh 0).1, (hh _).2.1, (hh _).2.2.1, (hh _).2.2.2⟩
      · have hgr' : ∀ q, Calls Try.prog 45 #[.pointer (some ⟨s, 0, none⟩)] (wr.drewN q) fun e W' => e = .returned (.int .i64 42) ∧ Hid (PSx W' S s p cs n (.slice a n cap) ∧ PP W' p ub f0 u ∧ Turn (GrowS S p ub) W W') := fun q => by
          refine (hgr q).mono ?_
          rintro e w' (⟨h1, rfl, h2⟩ | ⟨t', k, v', h1, rfl, h2⟩)
          · obtain ⟨g1, g2⟩ := h2
            have hsp : ∀ b, S b → ¬ Two p ub b := fun b hb h => by
              rcases h with rfl | rfl
              · exact HPP.out.2.1 hb
              · exact HPP.out.2.2.1 hb
            exact ⟨rfl, (HY.out.1.drewN q).keep g2 hsp, g1, ((HY.out.2.drewN q).mono (S' := GrowS S p ub) (fun b _ hb => .inl (by rw [hb]; exact HY.out.1.Ss))).trans g2 (fun b hb => .inl (.inr hb))⟩
          · rw [htk] at h1; cases h1
        clear hgr hno hcu
        have HTK : Hid (tk f0 u 1 1 = none) := htk
        clear htk
        go_wp2
        go_quiet (fail)
        go_wp2
        go_quiet (fail)
        simp only [World.drewN_drewN]
        go_wp2_with (first
          | (go_at_call 45; refine (hgr' _).mono ?_; clear hgr'; rintro e w1 ⟨rfl, HG⟩)
          | go_in)
        go_ret2
        have hx := HG.out.1
        refine ⟨0, 42, u, cs, rfl, .inr (.inl ⟨HFL.out, HTK.out, rfl, rfl, rfl, rfl⟩), ⟨⟨n, _, hx.mono (fun b hb => .inl hb) (fun b hb => ?_)⟩, HPP.out.2.2.2.2.1⟩, HG.out.2.1, HG.out.2.2⟩
        rcases hb with hb | hb
        · exact hx.lowb b hb
        · exact hb.2
end Go.Proofs.Ytplobjdghaokoaa
