import Derived.Test.YtmmocnejacflmaaDoorGq
namespace Go.Proofs.YtmmocnejacflmaaDoor
open Go.RowKit
set_option linter.unusedVariables false
set_option linter.unusedSimpArgs false
def rrF (k l d : Int) : Bool :=
  if k = 1 ∨ k = 2 ∨ k = 3 ∨ k = 6 ∨ k = 10 then (l == 0) && (d == 0)
  else if k = 4 ∨ k = 5 then (l == 0) && (decide (0 ≤ d) && decide (d ≤ 15))
  else if k = 7 ∨ k = 8 ∨ k = 9 then ((l == 1) || (l == 2)) && (decide (0 ≤ d) && decide (d ≤ 15))
  else false
set_option maxRecDepth 100000 in
set_option maxHeartbeats 16000000 in
theorem qright_raw (k l d : Int) (w : World) :
    Calls Tryd.prog 19 #[.agg #[.int .i64 k, .int .i64 l, .int .i64 d]] w fun e w' => e = .returned (.bool (rrF k l d)) ∧ Below w.heap.size w w' := by
  have HN : Hid (∀ o, Below w.heap.size w (w.alloc o)) := below_new w
  have hd : ∃ b, decide (0 ≤ d) = b := ⟨_, rfl⟩
  obtain ⟨bd, hd⟩ := hd
  have hk : k = 1 ∨ k = 2 ∨ k = 3 ∨ k = 6 ∨ k = 10 ∨ k = 4 ∨ k = 5 ∨ k = 7 ∨ k = 8 ∨ k = 9 ∨ (¬ k = 1 ∧ ¬ k = 2 ∧ ¬ k = 3 ∧ ¬ k = 4 ∧ ¬ k = 5 ∧ ¬ k = 6 ∧ ¬ k = 7 ∧ ¬ k = 8 ∧ ¬ k = 9 ∧ ¬ k = 10) := by omega
  unfold rrF
  rcases hk with rfl | rfl | rfl | rfl | rfl | rfl | rfl | rfl | rfl | rfl | ⟨n1, n2, n3, n4, n5, n6, n7, n8, n9, n10⟩
  iterate 7
    · have hl : ∃ b, (l == 0) = b := ⟨_, rfl⟩
      obtain ⟨bl, hl⟩ := hl
      cases bl <;> cases bd
      all_goals
        go_enter Tryd.func19, Tryd.ntmps19
        go_wp2
        go_ret
        exact ⟨by simp [hl, hd], HN.out _⟩
  iterate 3
    · have hl : ∃ b, (l == 1) = b := ⟨_, rfl⟩
      obtain ⟨bl, hl⟩ := hl
      have hm : ∃ b, (l == 2) = b := ⟨_, rfl⟩
      obtain ⟨bm, hm⟩ := hm
      cases bl <;> cases bm <;> cases bd
      all_goals
        go_enter Tryd.func19, Tryd.ntmps19
        go_wp2
        go_ret
        exact ⟨by simp [hl, hm, hd], HN.out _⟩
  · have z1 : (k == 1) = false := by simp [n1]
    have z2 : (k == 2) = false := by simp [n2]
    have z3 : (k == 3) = false := by simp [n3]
    have z4 : (k == 4) = false := by simp [n4]
    have z5 : (k == 5) = false := by simp [n5]
    have z6 : (k == 6) = false := by simp [n6]
    have z7 : (k == 7) = false := by simp [n7]
    have z8 : (k == 8) = false := by simp [n8]
    have z9 : (k == 9) = false := by simp [n9]
    have z10 : (k == 10) = false := by simp [n10]
    cases bd
    all_goals
      go_enter Tryd.func19, Tryd.ntmps19
      go_wp2
      go_ret
      exact ⟨by simp [n1, n2, n3, n4, n5, n6, n7, n8, n9, n10], HN.out _⟩
theorem rrF_eq (f : Fa) : rrF f.k f.l f.d = rtF f := by
  obtain ⟨k, l, d⟩ := f
  unfold rrF rtF
  by_cases h : Rg ⟨k, l, d⟩
  · rw [if_pos h]
    simp only [Rg] at h
    rcases (show k = 0 ∨ k = 1 ∨ k = 2 ∨ k = 3 ∨ k = 4 ∨ k = 5 ∨ k = 6 ∨ k = 7 ∨ k = 8 ∨ k = 9 ∨ k = 10 by omega) with rfl | rfl | rfl | rfl | rfl | rfl | rfl | rfl | rfl | rfl | rfl <;> rcases (show l = 0 ∨ l = 1 ∨ l = 2 by omega) with rfl | rfl | rfl <;> simp [cdF, foF, lForm]
  · rw [if_neg h]
    simp only [Rg] at h
    have e0 : ∀ b c : Bool, ¬ (b = true ∧ c = true) → (b && c) = false := by decide
    by_cases h1 : k = 1 ∨ k = 2 ∨ k = 3 ∨ k = 6 ∨ k = 10
    · rw [if_pos h1]
      apply e0
      simp only [beq_iff_eq]
      omega
    rw [if_neg h1]
    by_cases h2 : k = 4 ∨ k = 5
    · rw [if_pos h2]
      apply e0
      simp only [beq_iff_eq]
      omega
    rw [if_neg h2]
    by_cases h3 : k = 7 ∨ k = 8 ∨ k = 9
    · rw [if_pos h3]
      apply e0
      simp only [beq_iff_eq, Bool.or_eq_true]
      omega
    rw [if_neg h3]
theorem qright_any (f : Fa) (w : World) : Calls Tryd.prog 19 #[.agg #[.int .i64 f.k, .int .i64 f.l, .int .i64 f.d]] w fun e w' => e = .returned (.bool (rtF f)) ∧ Below w.heap.size w w' := by
  rw [← rrF_eq]
  exact qright_raw _ _ _ w
theorem rt_kinds {f : Fa} (h : rtF f = true) : (f.l = 0 ∧ (f.k = 1 ∨ f.k = 2 ∨ f.k = 3 ∨ f.k = 4 ∨ f.k = 5 ∨ f.k = 6 ∨ f.k = 10)) ∨ ((f.l = 1 ∨ f.l = 2) ∧ (f.k = 7 ∨ f.k = 8 ∨ f.k = 9)) := by
  rw [← rrF_eq] at h
  unfold rrF at h
  repeat' split at h
  · simp at h; omega
  · simp at h; omega
  · simp at h; omega
  · cases h
set_option maxRecDepth 100000 in
set_option maxHeartbeats 4000000 in
theorem code_any (f : Fa) (w : World) (h : rtF f = true) : Calls Tryd.prog 20 #[.agg #[.int .i64 f.k, .int .i64 f.l, .int .i64 f.d]] w fun e w' => e = .returned (.int .u32 (cdF f.k f.l)) ∧ Below w.heap.size w w' := by
  have HN : Hid (∀ o, Below w.heap.size w (w.alloc o)) := below_new w
  have hk := rt_kinds h
  clear h
  obtain ⟨k, l, d⟩ := f
  simp only at hk ⊢
  rcases hk with ⟨rfl, rfl | rfl | rfl | rfl | rfl | rfl | rfl⟩ | ⟨rfl | rfl, rfl | rfl | rfl⟩
  all_goals
    go_enter Tryd.func20, Tryd.ntmps20
    go_wp2
    go_ret
    exact ⟨rfl, HN.out _⟩
set_option maxRecDepth 100000 in
set_option maxHeartbeats 1000000 in
theorem rstatus_no (f : Fa) (b : Bool) (w : World) (HR : ∀ w, Calls Tryd.prog 19 #[.agg #[.int .i64 f.k, .int .i64 f.l, .int .i64 f.d]] w fun e w' => e = .returned (.bool false) ∧ Below w.heap.size w w') :
    Calls Tryd.prog 11 #[.agg #[.int .i64 f.k, .int .i64 f.l, .int .i64 f.d], .bool b] w fun e w' => e = .returned (.tuple #[.int .u32 0, .int .i64 70]) ∧ Below w.heap.size w w' := by
  have HB0 : Hid (Below w.heap.size w (w.alloc (.cells #[.int .i64 f.k, .int .i64 f.l, .int .i64 f.d] 28))) := below_new w _
  have HR' : Hid (∀ w, Calls Tryd.prog 19 #[.agg #[.int .i64 f.k, .int .i64 f.l, .int .i64 f.d]] w fun e w' => e = .returned (.bool false) ∧ Below w.heap.size w w') := HR
  clear HR
  go_enter Tryd.func11, Tryd.ntmps11
  go_wp2_with (fail)
  go_at_call 19
  refine (HR'.out _).mono ?_
  rintro e w1 ⟨rfl, hb⟩
  have HB1 : Hid (Below w.heap.size w w1) := Below.step HB0.out hb
  clear hb HB0 HR'
  go_wp2
  go_ret2
  exact ⟨rfl, HB1.out⟩
set_option maxRecDepth 100000 in
set_option maxHeartbeats 1000000 in
theorem rstatus_yes (k l d c : Int) (b : Bool) (w : World) (hc : 0 ≤ c ∧ c ≤ 16) (hd : 0 ≤ d ∧ d ≤ 15) (HR : ∀ w, Calls Tryd.prog 19 #[.agg #[.int .i64 k, .int .i64 l, .int .i64 d]] w fun e w' => e = .returned (.bool true) ∧ Below w.heap.size w w')
    (HC : ∀ w, Calls Tryd.prog 20 #[.agg #[.int .i64 k, .int .i64 l, .int .i64 d]] w fun e w' => e = .returned (.int .u32 c) ∧ Below w.heap.size w w') :
    Calls Tryd.prog 11 #[.agg #[.int .i64 k, .int .i64 l, .int .i64 d], .bool b] w fun e w' => e = .returned (.tuple #[.int .u32 (c % 16 + c / 16 * 1024 + d * 16 + (if b then 2048 else 0)), .int .i64 0]) ∧ Below w.heap.size w w' := by
  have HB0 : Hid (Below w.heap.size w (w.alloc (.cells #[.int .i64 k, .int .i64 l, .int .i64 d] 28))) := below_new w _
  have HL0 : Hid (Bl (w.alloc (.cells #[.int .i64 k, .int .i64 l, .int .i64 d] 28)) w.heap.size 28 [.int .i64 k, .int .i64 l, .int .i64 d]) := Bl.new _ _ _
  have HR' : Hid (∀ w, Calls Tryd.prog 19 #[.agg #[.int .i64 k, .int .i64 l, .int .i64 d]] w fun e w' => e = .returned (.bool true) ∧ Below w.heap.size w w') := HR
  have HC' : Hid (∀ w, Calls Tryd.prog 20 #[.agg #[.int .i64 k, .int .i64 l, .int .i64 d]] w fun e w' => e = .returned (.int .u32 c) ∧ Below w.heap.size w w') := HC
  have m1 : c.tmod 16 = c % 16 := Int.tmod_eq_emod_of_nonneg hc.1
  have m2 : c.tdiv 16 = c / 16 := Int.tdiv_eq_ediv_of_nonneg hc.1
  have s2 : c / 16 * 1024 % 4294967296 = c / 16 * 1024 := by omega
  have s3 : d % 4294967296 = d := by omega
  have s4 : d * 16 % 4294967296 = d * 16 := by omega
  have s5 : (c % 16 + c / 16 * 1024) % 4294967296 = c % 16 + c / 16 * 1024 := by omega
  have s6 : (c % 16 + c / 16 * 1024 + d * 16) % 4294967296 = c % 16 + c / 16 * 1024 + d * 16 := by omega
  have s7 : (c % 16 + c / 16 * 1024 + d * 16 + 2048) % 4294967296 = c % 16 + c / 16 * 1024 + d * 16 + 2048 := by omega
  clear HR HC hc hd
  go_enter Tryd.func11, Tryd.ntmps11
  go_wp2_with (fail)
  go_at_call 19
  refine (HR'.out _).mono ?_
  rintro e w1 ⟨rfl, hb⟩
  have HB1 : Hid (Below w.heap.size w w1) := Below.step HB0.out hb
  have HL1 : Hid (Bl w1 w.heap.size 28 [.int .i64 k, .int .i64 l, .int .i64 d]) := HL0.out.below hb
  have c1 := HL1.out.cell
  clear hb HB0 HR' HL0
  go_wp2_with (fail)
  go_at_call 20
  refine (HC'.out _).mono ?_
  rintro e w2 ⟨rfl, hb⟩
  have HB2 : Hid (Below w.heap.size w w2) := Below.step HB1.out hb
  have HL2 : Hid (Bl w2 w.heap.size 28 [.int .i64 k, .int .i64 l, .int .i64 d]) := HL1.out.below hb
  clear c1
  have c1 := HL2.out.cell
  clear hb HB1 HC' HL1
  cases b
  · go_wp2
    go_ret2
    exact ⟨by simp, HB2.out⟩
  · go_wp2
    go_ret2
    exact ⟨by simp, HB2.out⟩
theorem code_range {f : Fa} (h : rtF f = true) : 0 ≤ cdF f.k f.l ∧ cdF f.k f.l ≤ 16 := by
  have hk := rt_kinds h
  obtain ⟨k, l, d⟩ := f
  simp only at hk ⊢
  rcases hk with ⟨rfl, rfl | rfl | rfl | rfl | rfl | rfl | rfl⟩ | ⟨rfl | rfl, rfl | rfl | rfl⟩ <;> decide
theorem rstatus_any (f : Fa) (b : Bool) (w : World) :
    Calls Tryd.prog 11 #[.agg #[.int .i64 f.k, .int .i64 f.l, .int .i64 f.d], .bool b] w fun e w' => e = .returned (.tuple #[.int .u32 (stF f b).1, .int .i64 (stF f b).2]) ∧ Below w.heap.size w w' := by
  have HR := fun w => qright_any f w
  unfold stF
  cases h : rtF f with
  | false =>
    rw [h] at HR
    exact rstatus_no f b w HR
  | true =>
    rw [h] at HR
    rw [if_pos rfl]
    exact rstatus_yes f.k f.l f.d _ b w (code_range h) (rt_range h).2 HR (fun w => code_any f w h)
end Go.Proofs.YtmmocnejacflmaaDoor
