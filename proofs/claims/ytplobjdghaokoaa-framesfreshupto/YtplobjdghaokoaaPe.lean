import Derived.Test.YtplobjdghaokoaaPc
import Derived.WalkMore
namespace Go.Proofs.Ytplobjdghaokoaa
open Go.RowKit
set_option linter.unusedVariables false

theorem alFrom_ge (f0 i al : Nat) (h : 1 ≤ al) : i ≤ alFrom f0 i al ∧ alFrom f0 i al < i + al ∧ (f0 + alFrom f0 i al) % al = 0 ∧ ∀ j, i ≤ j → j < alFrom f0 i al → (f0 + j) % al ≠ 0 := by
  have hlt : (f0 + i) % al < al := Nat.mod_lt _ (by omega)
  unfold alFrom
  split
  · rename_i h0
    exact ⟨Nat.le_refl _, by omega, h0, fun j h1 h2 => by omega⟩
  · rename_i h0
    have hdm := Nat.div_add_mod (f0 + i) al
    have hmul : al * ((f0 + i) / al + 1) = al * ((f0 + i) / al) + al := by rw [Nat.mul_add, Nat.mul_one]
    refine ⟨by omega, by omega, ?_, fun j h1 h2 e => ?_⟩
    · have : f0 + (i + al - (f0 + i) % al) = al * ((f0 + i) / al + 1) := by omega
      rw [this, Nat.mul_mod_right]
    · have hdj := Nat.div_add_mod (f0 + j) al
      rw [e] at hdj
      have h3 : (f0 + i) / al < (f0 + j) / al := by
        apply Nat.lt_of_mul_lt_mul_left (a := al)
        omega
      have h4 : (f0 + j) / al < (f0 + i) / al + 1 := by
        apply Nat.lt_of_mul_lt_mul_left (a := al)
        omega
      omega
/-- No lower place serves. -/
def NoFit (f0 : Nat) (u : List Nat) (n al t : Nat) : Prop := ∀ j, j < t → ¬ Fit f0 u n al j
theorem noFit_low {f0 : Nat} {u : List Nat} {n al low : Nat} (h1 : 1 ≤ n) (ha : 1 ≤ al) (hl : ∀ i, i < low → u[i]? ≠ some 0) : NoFit f0 u n al (alFrom f0 low al) := by
  intro j hj hf
  by_cases h : j < low
  · exact hl j h (by have := hf.2.2 0 (by omega); simpa using this)
  · exact (alFrom_ge f0 low al ha).2.2.2 j (by omega) hj hf.1
theorem noFit_next {f0 : Nat} {u : List Nat} {n al t i x : Nat} (ha : 1 ≤ al) (hN : NoFit f0 u n al t) (hi : t ≤ i) (hin : i < t + n) (hx : u[i]? = some x) (h0 : x ≠ 0) : NoFit f0 u n al (alFrom f0 (i + 1) al) := by
  intro j hj hf
  by_cases h1 : j < t
  · exact hN j h1 hf
  · by_cases h2 : j ≤ i
    · have := hf.2.2 (i - j) (by omega)
      rw [show j + (i - j) = i by omega, hx] at this
      injection this with this
      exact h0 this
    · exact (alFrom_ge f0 (i + 1) al ha).2.2.2 j (by omega) hj hf.1
theorem noFit_all {f0 : Nat} {u : List Nat} {n al t : Nat} (hN : NoFit f0 u n al t) (h : u.length < t + n) : tk f0 u n al = none := by
  rw [tk_none]
  intro j hf
  by_cases h1 : j < t
  · exact hN j h1 hf
  · have := hf.2.1; omega

set_option maxHeartbeats 8000000 in
theorem findRun_any (W : World) (p ub f0 low : Nat) (u : List Nat) (n al : Nat) (h : PPx W p ub f0 u low) (hn1 : 1 ≤ n) (hn2 : n ≤ 9223372036854775807) (ha1 : 1 ≤ al) (ha2 : al ≤ 4096) :
    Calls Try.prog 36 #[.pointer (some ⟨p, 0, none⟩), .int .i64 n, .int .i64 al] W fun e W' => ((∃ t, tk f0 u n al = some t ∧ e = .returned (.tuple #[.int .i64 (t : Nat), .bool true])) ∨ (tk f0 u n al = none ∧ e = .returned (.tuple #[.int .i64 0, .bool false]))) ∧ PP W' p ub f0 u ∧ Turn (· = p) W W' := by
  have n1 := h.n1
  have n2 := h.n2
  have HP : Hid (PPx W p ub f0 u low) := h
  clear h
  generalize hm : u.length = m at *
  have HLM : Hid (u.length = m) := hm
  clear hm
  go_enter Try.func36, Try.ntmps36
  go_wp2
  go_step3
  go_wp2
  go_loopw [32] (fun _ wr => ∃ lw : Nat, lw ≤ m ∧ Hid (PPx wr p ub f0 u lw ∧ Turn (· = p) W wr)) (fun _ wr => (match wr.cell? ⟨p, 3, none⟩ with | some (.int _ x) => m - x.toNat | _ => 0))
  case atStart => exact ⟨low, by have := HP.out.lows.1; rw [HLM.out] at this; exact this, HP.out, Turn.refl _ _⟩
  case round =>
    obtain ⟨lw, hlw, HX⟩ := hrel
    have c1 := HX.out.1.c1
    rw [HLM.out] at c1
    have c3 := HX.out.1.c3
    have hfp := HX.out.1.box.frozen
    have hMS : Hid (wr.cell? ⟨p, 3, none⟩ = some (.int .i64 lw)) := c3
    by_cases hgo : ∃ x, u[lw]? = some x ∧ x ≠ 0
    · obtain ⟨x, hx, hx0⟩ := hgo
      have hlt : lw < m := by rw [← HLM.out]; exact (List.getElem?_eq_some_iff.1 hx).1
      have hcx := HX.out.1.cu hx
      have hltz : decide ((lw : Int) < (m : Int)) = true := decide_eq_true (by omega)
      have hxz : decide ((x : Int) = 0) = false := decide_eq_false (by omega)
      have HN : Hid (∀ q, PPx ((wr.drewN q).setCell ⟨p, 3, none⟩ (.int .i64 ((lw : Int) + 1))) p ub f0 u (lw + 1)) := fun q => by
        have hX := HX.out.1.drewN q
        have hne := hX.ne
        refine hX.with rfl ?_ (hX.row.setO (Ne.symm hne) _ _) ⟨by rw [HLM.out]; omega, fun i hi => ?_⟩ hX.le
        · exact hX.box.set 3 _
        · by_cases e : i = lw
          · subst e; rw [hx]; simpa using hx0
          · exact HX.out.1.lows.2 i (by omega)
      clear hx
      go_wp2
      go_quiet (fail)
      go_wp2
      go_roundw
      case rel => exact ⟨lw + 1, by omega, HN.out _, (HX.out.2.drewN _).setCell (.inl rfl) _⟩
      case measure =>
        rw [hMS.out]
        rw [(HN.out nq).c3]
        simp
        omega
    · have hlow : ∀ i, i < lw → u[i]? ≠ some 0 := HX.out.1.lows.2
      have hcase : (u[lw]? = some 0 ∧ lw < m) ∨ lw = m := by
        by_cases hlt : lw < m
        · obtain ⟨x, hx⟩ : ∃ x, u[lw]? = some x := ⟨_, List.getElem?_eq_getElem (by rw [HLM.out]; exact hlt)⟩
          refine .inl ⟨?_, hlt⟩
          rw [hx]
          by_cases e : x = 0
          · rw [e]
          · exact absurd ⟨x, hx, e⟩ hgo
        · exact .inr (by omega)
      have HNF : Hid (NoFit f0 u n al (alFrom f0 lw al)) := noFit_low hn1 ha1 hlow
      have HG := alFrom_ge f0 lw al ha1
      clear hgo hlow
      rcases hcase with ⟨hx, hlt⟩ | hmm
      · have hcx := HX.out.1.cu hx
        have hltz : decide ((lw : Int) < (m : Int)) = true := decide_eq_true (by omega)
        have hxz : decide (((0 : Nat) : Int) = 0) = true := decide_eq_true (by omega)
        clear hx
        go_wp2
        go_quiet (fail)
        clear hcx hltz hxz
        have HZ : Hid (PPx (wr.drewN nq) p ub f0 u lw ∧ Turn (· = p) W (wr.drewN nq)) := ⟨HX.out.1.drewN nq, HX.out.2.drewN nq⟩
        clear c1 c3 hfp hMS HX
        generalize wr.drewN nq = wz at *
        have c0 := HZ.out.1.c0
        have c1 := HZ.out.1.c1
        have c3 := HZ.out.1.c3
        rw [HLM.out] at c1
        have hal := alFrom_any wz p f0 lw al c0 (by omega) ha1 ha2
        obtain ⟨g1, g2, g3, g4⟩ := HG
        have HG3 : Hid ((f0 + alFrom f0 lw al) % al = 0) := g3
        clear g3 g4
        generalize alFrom f0 lw al = t0 at *
        go_wp2_with (go_at_call 51; refine hal.mono ?_; rintro e w' ⟨rfl, rfl⟩)
        go_step3
        go_wp2
        go_loop [8] (fun s8 => ∃ t : Nat, s8 = .int .i64 t ∧ t ≤ m + 4096 ∧ Hid (NoFit f0 u n al t ∧ (f0 + t) % al = 0)) (fun s8 => m + 5000 - (intOf s8).toNat)
        case atStart => exact ⟨t0, rfl, by omega, HNF.out, HG3.out⟩
        case round =>
          obtain ⟨t, rfl, ht, HT⟩ := hrel
          clear hal
          by_cases hfit : t + n ≤ m
          · have hfz : (t : Int) ≤ (m : Int) - (n : Int) := by omega
            go_wp2
            go_loop [8, 9] (fun s8 s9 => s8 = .int .i64 t ∧ ∃ j : Nat, s9 = .int .i64 ((t + j : Nat) : Int) ∧ j ≤ n ∧ Hid (∀ i, i < j → u[t + i]? = some 0)) (fun _ s9 => t + n - (intOf s9).toNat)
            case atStart => exact ⟨rfl, 0, by go_num, Nat.zero_le _, by intro i hi; omega⟩
            case round =>
              obtain ⟨rfl, j, rfl, hj, HJ⟩ := hrel
              by_cases hjn : j < n
              · obtain ⟨x, hx⟩ : ∃ x, u[t + j]? = some x := ⟨_, List.getElem?_eq_getElem (by rw [HLM.out]; omega)⟩
                have hcx := HZ.out.1.cu hx
                have HXX : Hid (u[t + j]? = some x) := hx
                clear hx
                by_cases hx0 : x = 0
                · subst hx0
                  go_wp2
                  go_round
                  case rel => exact ⟨rfl, j + 1, by go_num, by omega, by
                    intro i hi
                    by_cases e : i = j
                    · rw [e]; exact HXX.out
                    · exact HJ.out i (by omega)⟩
                  case measure => simp [intOf]; omega
                · have hxz : ¬ ((x : Int) = 0) := by omega
                  have hal2 := alFrom_any wz p f0 (t + j + 1) al c0 (by omega) ha1 ha2
                  obtain ⟨g1', g2', g3', g4'⟩ := alFrom_ge f0 (t + j + 1) al ha1
                  have HN2 : Hid (NoFit f0 u n al (alFrom f0 (t + j + 1) al) ∧ (f0 + alFrom f0 (t + j + 1) al) % al = 0) := ⟨noFit_next ha1 HT.out.1 (by omega) (by omega) HXX.out hx0, g3'⟩
                  clear g3' g4'
                  generalize alFrom f0 (t + j + 1) al = t1 at *
                  rw [show ((t + j + 1 : Nat) : Int) = (t : Int) + (j : Int) + 1 by omega] at hal2
                  go_wp2_with (go_at_call 51; refine hal2.mono ?_; rintro e w' ⟨rfl, rfl⟩)
                  go_round
                  case rel => exact ⟨t1, rfl, by omega, HN2⟩
                  case measure => simp [intOf]; omega
              · obtain rfl : j = n := by omega
                have HK : Hid (tk f0 u j al = some t) := tk_some.2 ⟨⟨HT.out.2, by rw [HLM.out]; omega, HJ.out⟩, HT.out.1⟩
                go_wp2
                go_ret2
                exact ⟨.inl ⟨t, HK.out, rfl⟩, ⟨lw, HZ.out.1⟩, HZ.out.2⟩
          · have hfz : ¬ ((t : Int) ≤ (m : Int) - (n : Int)) := by omega
            have HK : Hid (tk f0 u n al = none) := noFit_all HT.out.1 (by rw [HLM.out]; omega)
            go_wp2
            go_ret2
            exact ⟨.inr ⟨HK.out, rfl⟩, ⟨lw, HZ.out.1⟩, HZ.out.2⟩
      · have hmm' : m = lw := hmm.symm
        subst hmm'
        go_wp2
        go_quiet (fail)
        have HZ : Hid (PPx (wr.drewN nq) p ub f0 u m ∧ Turn (· = p) W (wr.drewN nq)) := ⟨HX.out.1.drewN nq, HX.out.2.drewN nq⟩
        clear c1 c3 hfp hMS HX
        generalize wr.drewN nq = wz at *
        have c0 := HZ.out.1.c0
        have c1 := HZ.out.1.c1
        have c3 := HZ.out.1.c3
        rw [HLM.out] at c1
        have hal := alFrom_any wz p f0 m al c0 (by omega) ha1 ha2
        obtain ⟨g1, g2, g3, g4⟩ := HG
        have HG3 : Hid ((f0 + alFrom f0 m al) % al = 0) := g3
        clear g3 g4
        generalize alFrom f0 m al = t0 at *
        go_wp2_with (go_at_call 51; refine hal.mono ?_; rintro e w' ⟨rfl, rfl⟩)
        go_step3
        go_wp2
        go_loop [8] (fun s8 => ∃ t : Nat, s8 = .int .i64 t ∧ t ≤ m + 4096 ∧ Hid (NoFit f0 u n al t ∧ (f0 + t) % al = 0)) (fun s8 => m + 5000 - (intOf s8).toNat)
        case atStart => exact ⟨t0, rfl, by omega, HNF.out, HG3.out⟩
        case round =>
          obtain ⟨t, rfl, ht, HT⟩ := hrel
          clear hal
          by_cases hfit : t + n ≤ m
          · have hfz : (t : Int) ≤ (m : Int) - (n : Int) := by omega
            go_wp2
            go_loop [8, 9] (fun s8 s9 => s8 = .int .i64 t ∧ ∃ j : Nat, s9 = .int .i64 ((t + j : Nat) : Int) ∧ j ≤ n ∧ Hid (∀ i, i < j → u[t + i]? = some 0)) (fun _ s9 => t + n - (intOf s9).toNat)
            case atStart => exact ⟨rfl, 0, by go_num, Nat.zero_le _, by intro i hi; omega⟩
            case round =>
              obtain ⟨rfl, j, rfl, hj, HJ⟩ := hrel
              by_cases hjn : j < n
              · obtain ⟨x, hx⟩ : ∃ x, u[t + j]? = some x := ⟨_, List.getElem?_eq_getElem (by rw [HLM.out]; omega)⟩
                have hcx := HZ.out.1.cu hx
                have HXX : Hid (u[t + j]? = some x) := hx
                clear hx
                by_cases hx0 : x = 0
                · subst hx0
                  go_wp2
                  go_round
                  case rel => exact ⟨rfl, j + 1, by go_num, by omega, by
                    intro i hi
                    by_cases e : i = j
                    · rw [e]; exact HXX.out
                    · exact HJ.out i (by omega)⟩
                  case measure => simp [intOf]; omega
                · have hxz : ¬ ((x : Int) = 0) := by omega
                  have hal2 := alFrom_any wz p f0 (t + j + 1) al c0 (by omega) ha1 ha2
                  obtain ⟨g1', g2', g3', g4'⟩ := alFrom_ge f0 (t + j + 1) al ha1
                  have HN2 : Hid (NoFit f0 u n al (alFrom f0 (t + j + 1) al) ∧ (f0 + alFrom f0 (t + j + 1) al) % al = 0) := ⟨noFit_next ha1 HT.out.1 (by omega) (by omega) HXX.out hx0, g3'⟩
                  clear g3' g4'
                  generalize alFrom f0 (t + j + 1) al = t1 at *
                  rw [show ((t + j + 1 : Nat) : Int) = (t : Int) + (j : Int) + 1 by omega] at hal2
                  go_wp2_with (go_at_call 51; refine hal2.mono ?_; rintro e w' ⟨rfl, rfl⟩)
                  go_round
                  case rel => exact ⟨t1, rfl, by omega, HN2⟩
                  case measure => simp [intOf]; omega
              · obtain rfl : j = n := by omega
                have HK : Hid (tk f0 u j al = some t) := tk_some.2 ⟨⟨HT.out.2, by rw [HLM.out]; omega, HJ.out⟩, HT.out.1⟩
                go_wp2
                go_ret2
                exact ⟨.inl ⟨t, HK.out, rfl⟩, ⟨m, HZ.out.1⟩, HZ.out.2⟩
          · have hfz : ¬ ((t : Int) ≤ (m : Int) - (n : Int)) := by omega
            have HK : Hid (tk f0 u n al = none) := noFit_all HT.out.1 (by rw [HLM.out]; omega)
            go_wp2
            go_ret2
            exact ⟨.inr ⟨HK.out, rfl⟩, ⟨m, HZ.out.1⟩, HZ.out.2⟩
end Go.Proofs.Ytplobjdghaokoaa
