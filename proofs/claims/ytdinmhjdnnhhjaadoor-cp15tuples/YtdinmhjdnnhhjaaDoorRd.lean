import Derived.Test.YtdinmhjdnnhhjaaDoorRc
namespace Go.Proofs.YtdinmhjdnnhhjaaDoor
open Go.RowKit
set_option linter.unusedVariables false
set_option linter.unusedSimpArgs false
set_option maxRecDepth 100000 in
set_option maxHeartbeats 1000000 in
theorem rdrops_any (t : Tu) (w : World) : Calls Tryd.prog 47 #[.agg #[.int .i64 t.a, .int .i64 t.b, .int .i64 t.c, .int .i64 t.d]] w fun e w' => e = .returned (.bool (drB t)) ∧ Below w.heap.size w w' := by
  obtain ⟨a, b, c, d⟩ := t
  have HB : Hid (∀ o, Below w.heap.size w (w.alloc o)) := fun o => below_new _ _
  have HA : Hid (drB ⟨a, b, c, d⟩ = (decide (a = 8) && (decide (b = 0) && (decide (0 ≤ d) && (decide (d ≤ 3) && (decide (c = 3) || (decide (c = 7) || ((decide (c = 5) || decide (c = 6)) && decide (d < 3))))))))) := rfl
  rw [HA.out]
  clear HA
  by_cases h1 : a = 8
  · subst h1
    by_cases h2 : b = 0
    · subst h2
      by_cases h3 : d < 0
      · have k3 : decide (d < 0) = true := by simp [h3]
        go_enter Tryd.func47, Tryd.ntmps47
        go_wp2
        go_ret
        exact ⟨by simp [show ¬ 0 ≤ d by omega], HB.out _⟩
      · have k3 : decide (d < 0) = false := by simp [h3]
        by_cases h4 : 3 < d
        · have k4 : decide (3 < d) = true := by simp [h4]
          go_enter Tryd.func47, Tryd.ntmps47
          go_wp2
          go_ret
          exact ⟨by simp [show ¬ d ≤ 3 by omega], HB.out _⟩
        · have k4 : decide (3 < d) = false := by simp [h4]
          have f1 : 0 ≤ d := by omega
          have f2 : d ≤ 3 := by omega
          by_cases h5 : c = 3
          · subst h5
            go_enter Tryd.func47, Tryd.ntmps47
            go_wp2
            go_ret
            exact ⟨by simp [f1, f2], HB.out _⟩
          · have k5 : (c == 3) = false := by simp [h5]
            by_cases h6 : c = 7
            · subst h6
              go_enter Tryd.func47, Tryd.ntmps47
              go_wp2
              go_ret
              exact ⟨by simp [f1, f2], HB.out _⟩
            · have k6 : (c == 7) = false := by simp [h6]
              by_cases h7 : c = 5
              · subst h7
                go_enter Tryd.func47, Tryd.ntmps47
                go_wp2
                go_ret
                exact ⟨by simp [f1, f2], HB.out _⟩
              · have k7 : (c == 5) = false := by simp [h7]
                by_cases h8 : c = 6
                · subst h8
                  go_enter Tryd.func47, Tryd.ntmps47
                  go_wp2
                  go_ret
                  exact ⟨by simp [f1, f2], HB.out _⟩
                · have k8 : (c == 6) = false := by simp [h8]
                  go_enter Tryd.func47, Tryd.ntmps47
                  go_wp2
                  go_ret
                  exact ⟨by simp [f1, f2, h5, h6, h7, h8], HB.out _⟩
    · have k2 : (b != 0) = true := by simp [h2]
      go_enter Tryd.func47, Tryd.ntmps47
      go_wp2
      go_ret
      exact ⟨by simp [h2], HB.out _⟩
  · have k1 : (a != 8) = true := by simp [h1]
    go_enter Tryd.func47, Tryd.ntmps47
    go_wp2
    go_ret
    exact ⟨by simp [h1], HB.out _⟩
set_option maxRecDepth 100000 in
set_option maxHeartbeats 1000000 in
theorem roperation_any (t : Tu) (w : World) : Calls Tryd.prog 35 #[.agg #[.int .i64 t.a, .int .i64 t.b, .int .i64 t.c, .int .i64 t.d]] w fun e w' => e = .returned (.bool (barB t || (asB t || drB t))) ∧ Below w.heap.size w w' := by
  have hb := rbarrier_any t
  have ha := rasks_any t
  have hd := rdrops_any t
  have HX0 : Hid (CX w (w.alloc (.cells ([.int .i64 t.a, .int .i64 t.b, .int .i64 t.c, .int .i64 t.d]).toArray 27)) t) := CX.new w t
  have c0 := HX0.out.res.cell
  cases e1 : barB t
  · cases e2 : asB t
    · rw [e1] at hb
      rw [e2] at ha
      go_enter Tryd.func35, Tryd.ntmps35
      go_wp2_with (fail)
      go_at_call 36
      refine (hb _).mono ?_
      rintro e w1 ⟨rfl, hbb⟩
      have HX1 : Hid (CX w w1 t) := ⟨Below.step HX0.out.bel hbb, HX0.out.res.below hbb⟩
      clear hbb c0 HX0
      have c0 := HX1.out.res.cell
      go_wp2_with (fail)
      go_at_call 46
      refine (ha _).mono ?_
      rintro e w2 ⟨rfl, hbb⟩
      have HX2 : Hid (CX w w2 t) := ⟨Below.step HX1.out.bel hbb, HX1.out.res.below hbb⟩
      clear hbb c0 HX1
      have c0 := HX2.out.res.cell
      go_wp2_with (fail)
      go_at_call 47
      refine (hd _).mono ?_
      rintro e w3 ⟨rfl, hbb⟩
      have HB3 : Hid (Below w.heap.size w w3) := Below.step HX2.out.bel hbb
      clear hbb
      go_wp2
      go_ret
      exact ⟨rfl, HB3.out⟩
    · rw [e1] at hb
      rw [e2] at ha
      go_enter Tryd.func35, Tryd.ntmps35
      go_wp2_with (fail)
      go_at_call 36
      refine (hb _).mono ?_
      rintro e w1 ⟨rfl, hbb⟩
      have HX1 : Hid (CX w w1 t) := ⟨Below.step HX0.out.bel hbb, HX0.out.res.below hbb⟩
      clear hbb c0 HX0
      have c0 := HX1.out.res.cell
      go_wp2_with (fail)
      go_at_call 46
      refine (ha _).mono ?_
      rintro e w2 ⟨rfl, hbb⟩
      have HB2 : Hid (Below w.heap.size w w2) := Below.step HX1.out.bel hbb
      clear hbb
      go_wp2
      go_ret
      exact ⟨rfl, HB2.out⟩
  · rw [e1] at hb
    go_enter Tryd.func35, Tryd.ntmps35
    go_wp2_with (fail)
    go_at_call 36
    refine (hb _).mono ?_
    rintro e w1 ⟨rfl, hbb⟩
    have HB1 : Hid (Below w.heap.size w w1) := Below.step HX0.out.bel hbb
    clear hbb
    go_wp2
    go_ret
    exact ⟨rfl, HB1.out⟩
end Go.Proofs.YtdinmhjdnnhhjaaDoor
