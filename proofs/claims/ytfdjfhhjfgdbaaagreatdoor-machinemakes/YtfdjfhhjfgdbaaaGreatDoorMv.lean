import Derived.Test.YtfdjfhhjfgdbaaaGreatDoorMu
namespace Go.Proofs.YtfdjfhhjfgdbaaaGreatDoor
open Go.RowKit
set_option linter.unusedVariables false
set_option linter.unusedSimpArgs false
attribute [local go_sem] Oper.semAt_some
set_option maxRecDepth 100000 in
set_option maxHeartbeats 4000000 in
theorem gnew_no (W : World) (f i d m z n : Int) (h : ¬ Okc f i d m) :
    Calls Tryz.prog 6 #[.agg #[.int .i64 f, .int .i64 i, .int .i64 d, .int .i64 m, .int .i64 z, .int .i64 n]] W fun e w' => e = .returned (.tuple #[.pointer none, .int .i64 1]) ∧ Below W.heap.size W w' := by
  have hb0 := below_new W (.cells #[.int .i64 f, .int .i64 i, .int .i64 d, .int .i64 m, .int .i64 z, .int .i64 n] 23)
  have hx : Bl (W.alloc (.cells #[.int .i64 f, .int .i64 i, .int .i64 d, .int .i64 m, .int .i64 z, .int .i64 n] 23)) W.heap.size 23 (cfL f i d m z n) := Bl.new _ _ _
  have HX := hidW hx
  have HB0 := hidW hb0
  have c0 : (W.alloc (.cells #[.int .i64 f, .int .i64 i, .int .i64 d, .int .i64 m, .int .i64 z, .int .i64 n] 23)).cell? ⟨W.heap.size, 0, none⟩ = some (.int .i64 f) := hx.cell 0
  clear hb0 hx
  by_cases h1 : f < 256
  · have d1 : decide (f < 256) = true := decide_eq_true h1
    clear HX h
    go_enter Tryz.func6, Tryz.ntmps6
    go_wp2
    go_ret2
    exact ⟨rfl, HB0.out⟩
  have d1 : decide (f < 256) = false := decide_eq_false h1
  by_cases h2 : f.tmod 256 = 0
  · have HO : Hid (¬ ((f ≤ 65536) ∧ (Okn i ∧ Okn d ∧ Okn m))) := fun hh => h ⟨⟨by omega, hh.1, by rw [← tmod_256 (by omega)]; exact h2⟩, hh.2⟩
    clear h
    go_enter Tryz.func6, Tryz.ntmps6
    go_wp2_with fail
    generalize W.alloc (.cells #[.int .i64 f, .int .i64 i, .int .i64 d, .int .i64 m, .int .i64 z, .int .i64 n] 23) = w0 at *
    have key : ∃ pv : Option Addr, ∃ en : Int, Hid ((en = 0 ∧ f ≤ 65536) ∨ en = 1) ∧ Calls Tryz.prog 31 #[.int .i64 f] w0 fun e w' => e = .returned (.tuple #[.pointer pv, .int .i64 en]) ∧ Below w0.heap.size w0 w' := by
      by_cases h3 : f ≤ 65536
      · exact ⟨_, 0, .inl ⟨rfl, h3⟩, (pnew_yes f w0 (by omega)).mono fun e w' hh => ⟨hh.1, hh.2.2⟩⟩
      · exact ⟨_, 1, .inr rfl, (pnew_no f w0 (by omega)).mono fun e w' hh => ⟨hh.1, by rw [← hh.2]; exact Below.refl _ _⟩⟩
    obtain ⟨pv, en, HE, HP⟩ := key
    go_at_call 31
    refine HP.mono ?_
    rintro e w1 ⟨rfl, g4⟩
    have HB1 := hidW g4
    have hX1 := HX.out.below g4
    have e1 : w1.cell? ⟨W.heap.size, 1, none⟩ = some (.int .i64 i) := hX1.cell 1
    have e2 : w1.cell? ⟨W.heap.size, 2, none⟩ = some (.int .i64 d) := hX1.cell 2
    have e3 : w1.cell? ⟨W.heap.size, 3, none⟩ = some (.int .i64 m) := hX1.cell 3
    clear g4 c0 hX1 HP
    go_wp2_with fail
    have key2 : (∃ A : Ad, (en = 1) ∧ Calls Tryz.prog 32 #[.int .i64 i, .int .i64 d, .int .i64 m] w1 fun e w' => (∃ A : Ad, e = .returned (.tuple #[.pointer (some ⟨A.h, 0, none⟩), .int .i64 0])) ∧ Below w1.heap.size w1 w') ∨ (Calls Tryz.prog 32 #[.int .i64 i, .int .i64 d, .int .i64 m] w1 fun e w' => e = .returned (.tuple #[.pointer none, .int .i64 100]) ∧ Below w1.heap.size w1 w') := by
      by_cases h3 : Okn i ∧ Okn d ∧ Okn m
      · refine .inl ⟨⟨0, 0, 0, 0, 0, 0, 0⟩, ?_, (hnew_yes i d m w1 h3).mono fun e w' hh => ?_⟩
        · rcases HE.out with ⟨_, q⟩ | q
          · exact absurd ⟨q, h3⟩ HO.out
          · exact q
        · obtain ⟨A, q1, _, q2⟩ := hh
          exact ⟨⟨A, q1⟩, q2.1⟩
      · exact .inr (hnew_no i d m w1 h3)
    rcases key2 with ⟨_, rfl, HH⟩ | HH
    · go_at_call 32
      refine HH.mono ?_
      rintro e w2 ⟨⟨A, rfl⟩, g5⟩
      have HB2 := hidW (Below.step HB0.out (Below.step HB1.out g5))
      clear g5 HH e1 e2 e3
      go_wp2
      go_ret2
      exact ⟨rfl, HB2.out⟩
    · go_at_call 32
      refine HH.mono ?_
      rintro e w2 ⟨rfl, g5⟩
      have HB2 := hidW (Below.step HB0.out (Below.step HB1.out g5))
      rcases HE.out with ⟨rfl, _⟩ | rfl
      all_goals
        clear g5 HH e1 e2 e3
        go_wp2
        go_ret2
        exact ⟨rfl, HB2.out⟩
  · clear HX h
    have h4 : ¬ f % 256 = 0 := fun e => h2 (by rw [tmod_256 (by omega)]; exact e)
    have hm : (f % 256 != 0) = true := by simpa using h4
    have hm2 : (f.tmod 256 != 0) = true := by simpa using h2
    go_enter Tryz.func6, Tryz.ntmps6
    go_wp2
    go_ret2
    exact ⟨rfl, HB0.out⟩
set_option maxRecDepth 100000 in
set_option maxHeartbeats 4000000 in
theorem jnew_no (W : World) (f i d m z n : Int) (h : ¬ Okc f i d m) :
    Calls Tryz.prog 7 #[.agg #[.int .i64 f, .int .i64 i, .int .i64 d, .int .i64 m, .int .i64 z, .int .i64 n]] W fun e w' => e = .returned (.tuple #[.pointer none, .int .i64 1]) ∧ Below W.heap.size W w' := by
  have hb0 := below_new W (.cells #[.int .i64 f, .int .i64 i, .int .i64 d, .int .i64 m, .int .i64 z, .int .i64 n] 23)
  have hx : Bl (W.alloc (.cells #[.int .i64 f, .int .i64 i, .int .i64 d, .int .i64 m, .int .i64 z, .int .i64 n] 23)) W.heap.size 23 (cfL f i d m z n) := Bl.new _ _ _
  have HB0 := hidW hb0
  have c0 : (W.alloc (.cells #[.int .i64 f, .int .i64 i, .int .i64 d, .int .i64 m, .int .i64 z, .int .i64 n] 23)).cell? ⟨W.heap.size, 0, none⟩ = some (.int .i64 f) := hx.cell 0
  have e1 : (W.alloc (.cells #[.int .i64 f, .int .i64 i, .int .i64 d, .int .i64 m, .int .i64 z, .int .i64 n] 23)).cell? ⟨W.heap.size, 1, none⟩ = some (.int .i64 i) := hx.cell 1
  have e2 : (W.alloc (.cells #[.int .i64 f, .int .i64 i, .int .i64 d, .int .i64 m, .int .i64 z, .int .i64 n] 23)).cell? ⟨W.heap.size, 2, none⟩ = some (.int .i64 d) := hx.cell 2
  have e3 : (W.alloc (.cells #[.int .i64 f, .int .i64 i, .int .i64 d, .int .i64 m, .int .i64 z, .int .i64 n] 23)).cell? ⟨W.heap.size, 3, none⟩ = some (.int .i64 m) := hx.cell 3
  clear hb0 hx
  by_cases h1 : f < 256
  · have d1 : decide (f < 256) = true := decide_eq_true h1
    clear h
    go_enter Tryz.func7, Tryz.ntmps7
    go_wp2
    go_ret2
    exact ⟨rfl, HB0.out⟩
  have d1 : decide (f < 256) = false := decide_eq_false h1
  by_cases h3 : 65536 < f
  · have d3 : decide (65536 < f) = true := decide_eq_true h3
    clear h
    go_enter Tryz.func7, Tryz.ntmps7
    go_wp2
    go_ret2
    exact ⟨rfl, HB0.out⟩
  have d3 : decide (65536 < f) = false := decide_eq_false h3
  by_cases h2 : f.tmod 256 = 0
  · have HO := hidW (show ¬ (Okn i ∧ Okn d ∧ Okn m) from fun hh => h ⟨⟨by omega, by omega, by rw [← tmod_256 (by omega)]; exact h2⟩, hh⟩)
    clear h
    go_enter Tryz.func7, Tryz.ntmps7
    go_wp2_with fail
    generalize W.alloc (.cells #[.int .i64 f, .int .i64 i, .int .i64 d, .int .i64 m, .int .i64 z, .int .i64 n] 23) = w0 at *
    go_at_call 35
    refine (vnew_no i d m w0 HO.out).mono ?_
    rintro e w1 ⟨rfl, g4⟩
    have HB1 := hidW (Below.step HB0.out g4)
    clear g4 c0 e1 e2 e3
    go_wp2
    go_ret2
    exact ⟨rfl, HB1.out⟩
  · clear h
    have h4 : ¬ f % 256 = 0 := fun e => h2 (by rw [tmod_256 (by omega)]; exact e)
    have hm : (f % 256 != 0) = true := by simpa using h4
    have hm2 : (f.tmod 256 != 0) = true := by simpa using h2
    go_enter Tryz.func7, Tryz.ntmps7
    go_wp2
    go_ret2
    exact ⟨rfl, HB0.out⟩
set_option maxHeartbeats 4000000 in
theorem both_no (W : World) (f i d m z n : Int) (h : ¬ Okc f i d m) :
    Calls Tryz.prog 4 #[.agg #[.int .i64 f, .int .i64 i, .int .i64 d, .int .i64 m, .int .i64 z, .int .i64 n]] W fun e w' => e = .returned (.tuple #[.pointer none, .pointer none, .bool true]) ∧ Below W.heap.size W w' := by
  have hb0 := below_new W (.cells #[.int .i64 f, .int .i64 i, .int .i64 d, .int .i64 m, .int .i64 z, .int .i64 n] 23)
  have hx : Bl (W.alloc (.cells #[.int .i64 f, .int .i64 i, .int .i64 d, .int .i64 m, .int .i64 z, .int .i64 n] 23)) W.heap.size 23 (cfL f i d m z n) := Bl.new _ _ _
  have HX := hidW hx
  have HB0 := hidW hb0
  have HO := hidW h
  have hc := hx.cell
  clear hb0 hx h
  go_enter Tryz.func4, Tryz.ntmps4
  go_wp2_with fail
  generalize W.alloc (.cells #[.int .i64 f, .int .i64 i, .int .i64 d, .int .i64 m, .int .i64 z, .int .i64 n] 23) = w0 at *
  go_at_call 6
  refine (gnew_no w0 f i d m z n HO.out).mono ?_
  rintro e w1 ⟨rfl, g3⟩
  have HB1 := hidW g3
  have hc1 := (HX.out.below g3).cell
  clear g3 hc
  go_wp2_with fail
  go_at_call 7
  refine (jnew_no w1 f i d m z n HO.out).mono ?_
  rintro e w2 ⟨rfl, g3⟩
  have HB2 := hidW (Below.step HB0.out (Below.step HB1.out g3))
  clear g3 hc1
  go_wp2
  go_ret3
  exact ⟨rfl, HB2.out⟩
end Go.Proofs.YtfdjfhhjfgdbaaaGreatDoor
