import Derived.Test.YtfdjfhhjfgdbaaaGreatDoorMa
namespace Go.Proofs.YtfdjfhhjfgdbaaaGreatDoor
open Go.RowKit
set_option linter.unusedVariables false
set_option linter.unusedSimpArgs false
/-- The program's memory: no frame is held. -/
structure RP (w : World) (p g : Nat) (n : Int) : Prop where
  box : Bl w p 137 [.int .i64 n, .map (some g)]
  em : EM w g
theorem RP.below {w w' : World} {p g : Nat} {n : Int} (h : RP w p g n) (hb : Below w.heap.size w w') : RP w' p g n := ⟨h.box.below hb, h.em.below hb⟩
set_option maxHeartbeats 1000000 in
theorem pnew_yes (n : Int) (W : World) (h : 1 ≤ n ∧ n ≤ 65536) : Calls Tryz.prog 31 #[.int .i64 n] W fun e w' => e = .returned (.tuple #[.pointer (some ⟨W.heap.size + 1, 0, none⟩), .int .i64 0]) ∧ RP w' (W.heap.size + 1) W.heap.size n ∧ Below W.heap.size W w' := by
  have hmm := @run_makeMap Tryz.prog
  have g1 : ¬ n < 1 := by omega
  have g2 : ¬ 65536 < n := by omega
  have d1 : decide (n < 1) = false := decide_eq_false g1
  have d2 : decide (65536 < n) = false := decide_eq_false g2
  have H1 := hidW (EM.new W)
  have H2 : Hid (Bl ((W.alloc (.map #[] 0)).alloc (.cells #[.int .i64 n, .map (some W.heap.size)] 137)) (W.heap.size + 1) 137 [.int .i64 n, .map (some W.heap.size)]) := by
    have h := Bl.new (W.alloc (.map #[] 0)) 137 [.int .i64 n, .map (some W.heap.size)]
    rw [show (W.alloc (.map #[] 0)).heap.size = W.heap.size + 1 by simp] at h
    exact h
  go_enter Tryz.func31, Tryz.ntmps31
  go_wp2
  go_ret2
  exact ⟨rfl, ⟨H2.out, H1.out.below (below_new _ _)⟩, Below.step (below_new _ _) (below_new _ _)⟩
set_option maxHeartbeats 1000000 in
theorem pnew_no (n : Int) (W : World) (h : 65536 < n) : Calls Tryz.prog 31 #[.int .i64 n] W fun e w' => e = .returned (.tuple #[.pointer none, .int .i64 1]) ∧ W = w' := by
  have g1 : ¬ n < 1 := by omega
  have d1 : decide (n < 1) = false := decide_eq_false g1
  go_enter Tryz.func31, Tryz.ntmps31
  go_wp2
  go_ret2
  exact ⟨rfl, rfl⟩
set_option maxHeartbeats 1000000 in
theorem phas_any (W : World) (p g : Nat) (n : Int) (h : RP W p g n) (hn : 1 ≤ n ∧ n ≤ 65536) : Calls Tryz.prog 100 #[.pointer (some ⟨p, 0, none⟩), .int .u64 0, .int .i64 4] W fun e w' => e = .returned (.bool true) ∧ W = w' := by
  have c0 := h.box.cell 0
  simp only [List.getElem?_cons_zero] at c0
  have w1 : IntKind.u64.wrap n = n := by rw [IntKind.wrap_u64]; omega
  have w2 : IntKind.u64.wrap (n * 4096) = n * 4096 := by rw [IntKind.wrap_u64]; omega
  have g1 : (0 : Int) ≤ n * 4096 := by omega
  have g2 : (4 : Int) ≤ n * 4096 := by omega
  clear h
  generalize hy : n * 4096 = y at *
  go_enter Tryz.func100, Tryz.ntmps100
  go_wp2
  go_ret
  exact ⟨rfl, rfl⟩
set_option maxHeartbeats 1000000 in
theorem pcheck_any (W : World) (p g : Nat) (n : Int) (h : RP W p g n) (hn : 1 ≤ n ∧ n ≤ 65536) : Calls Tryz.prog 72 #[.pointer (some ⟨p, 0, none⟩), .int .u64 0, .int .i64 4] W fun e w' => e = .returned (.int .i64 0) ∧ W = w' := by
  have H := hidW (phas_any W p g n h hn)
  clear h hn
  go_enter Tryz.func72, Tryz.ntmps72
  go_wp2_with (go_at_call 100; refine H.out.mono ?_; rintro e w1 ⟨rfl, rfl⟩)
  go_ret
  exact ⟨rfl, rfl⟩
theorem psplit_any (W : World) : Calls Tryz.prog 73 #[.int .u64 0] W fun e w' => e = .returned (.tuple #[.int .i64 0, .int .i64 0]) ∧ W = w' := by
  go_enter Tryz.func73, Tryz.ntmps73
  go_wp2
  go_ret2
  exact ⟨rfl, rfl⟩
theorem zeroPF (w : World) : (zeroValue 188).run Tryz.prog w = .ok (.pointer none) w := by kernel_rfl
set_option maxHeartbeats 1000000 in
theorem pvalue_any (W : World) (p g : Nat) (n : Int) (h : RP W p g n) (hn : 1 ≤ n ∧ n ≤ 65536) : Calls Tryz.prog 54 #[.pointer (some ⟨p, 0, none⟩), .int .u64 0, .int .i64 4] W fun e w' => e = .returned (.tuple #[.int .u32 0, .int .i64 0]) ∧ W = w' := by
  have H := hidW (pcheck_any W p g n h hn)
  have HS := hidW (psplit_any W)
  have c1 := h.box.cell 1
  simp only [List.getElem?_cons_succ, List.getElem?_cons_zero] at c1
  have hl := h.em.look Tryz.underlying135 (zeroPF W) (a := 0) (by decide) (by decide)
  clear h hn
  go_enter Tryz.func54, Tryz.ntmps54
  go_wp2_with (first | (go_at_call 72; refine H.out.mono ?_; rintro e w1 ⟨rfl, rfl⟩) | (go_at_call 73; refine HS.out.mono ?_; rintro e w1 ⟨rfl, rfl⟩))
  go_ret2
  exact ⟨rfl, rfl⟩
theorem pword_any (W : World) (p g : Nat) (n : Int) (h : RP W p g n) (hn : 1 ≤ n ∧ n ≤ 65536) : Calls Tryz.prog 38 #[.pointer (some ⟨p, 0, none⟩), .int .u64 0] W fun e w' => e = .returned (.tuple #[.int .u32 0, .int .i64 0]) ∧ W = w' := by
  have H := hidW (pvalue_any W p g n h hn)
  clear h hn
  go_enter Tryz.func38, Tryz.ntmps38
  go_wp2_with (go_at_call 54; refine H.out.mono ?_; rintro e w1 ⟨rfl, rfl⟩)
  go_ret2
  exact ⟨rfl, rfl⟩
theorem pframes_any (W : World) (p g : Nat) (n : Int) (h : RP W p g n) : Calls Tryz.prog 41 #[.pointer (some ⟨p, 0, none⟩)] W fun e w' => e = .returned (.int .i64 n) ∧ W = w' := by
  have c0 := h.box.cell 0
  simp only [List.getElem?_cons_zero] at c0
  clear h
  go_enter Tryz.func41, Tryz.ntmps41
  go_wp2
  go_ret
  exact ⟨rfl, rfl⟩
/-! ### the document's -/
def RM (w : World) (p : Nat) (n : Int) : Prop := Bl w p 61 [.int .i64 n, .slice none 0 0]
set_option maxHeartbeats 1000000 in
theorem mnew_yes (n : Int) (W : World) (h : 1 ≤ n ∧ n ≤ 65536) : Calls Tryz.prog 37 #[.int .i64 n] W fun e w' => e = .returned (.tuple #[.pointer (some ⟨W.heap.size, 0, none⟩), .int .i64 0]) ∧ RM w' W.heap.size n ∧ Below W.heap.size W w' := by
  have g1 : ¬ n < 1 := by omega
  have g2 : ¬ 65536 < n := by omega
  have d1 : decide (n < 1) = false := decide_eq_false g1
  have d2 : decide (65536 < n) = false := decide_eq_false g2
  go_enter Tryz.func37, Tryz.ntmps37
  go_wp2
  go_ret2
  exact ⟨rfl, Bl.new _ _ _, below_new _ _⟩
set_option maxHeartbeats 1000000 in
theorem mend_any (W : World) (p : Nat) (n : Int) (h : RM W p n) (hn : 1 ≤ n ∧ n ≤ 65536) : Calls Tryz.prog 55 #[.pointer (some ⟨p, 0, none⟩)] W fun e w' => e = .returned (.int .u64 (n * 4096)) ∧ W = w' := by
  have c0 := Bl.cell h 0
  simp only [List.getElem?_cons_zero] at c0
  have w1 : IntKind.u64.wrap n = n := by rw [IntKind.wrap_u64]; omega
  have w2 : IntKind.u64.wrap (n * 4096) = n * 4096 := by rw [IntKind.wrap_u64]; omega
  clear h
  go_enter Tryz.func55, Tryz.ntmps55
  go_wp2
  go_ret
  exact ⟨rfl, rfl⟩
set_option maxHeartbeats 1000000 in
theorem mat_any (W : World) (p : Nat) (n : Int) (h : RM W p n) : Calls Tryz.prog 56 #[.pointer (some ⟨p, 0, none⟩), .int .i64 0] W fun e w' => e = .returned (.int .i64 (-1)) ∧ W = w' := by
  have c1 := Bl.cell h 1
  simp only [List.getElem?_cons_succ, List.getElem?_cons_zero] at c1
  clear h
  go_enter Tryz.func56, Tryz.ntmps56
  go_wp2
  go_loopw [5] (fun i wr => i = .int .i64 0 ∧ Hid (W = wr)) (fun i _ => 0)
  case atStart => exact ⟨rfl, rfl⟩
  case round =>
    obtain ⟨rfl, HK⟩ := hrel
    have e := HK.out
    subst e
    go_wp2
    go_ret
    exact ⟨rfl, rfl⟩
set_option maxHeartbeats 1000000 in
theorem mget_any (W : World) (p : Nat) (n : Int) (h : RM W p n) (hn : 1 ≤ n ∧ n ≤ 65536) : Calls Tryz.prog 39 #[.pointer (some ⟨p, 0, none⟩), .int .u64 0, .int .i64 4] W fun e w' => e = .returned (.tuple #[.int .u64 0, .int .i64 0]) ∧ W = w' := by
  have H1 := hidW (mend_any W p n h hn)
  have H2 := hidW (mat_any W p n h)
  have g1 : ¬ n * 4096 ≤ 0 := by omega
  have d1 : decide (n * 4096 ≤ 0) = false := decide_eq_false g1
  clear h hn
  go_enter Tryz.func39, Tryz.ntmps39
  go_wp2_with (first | (go_at_call 55; refine H1.out.mono ?_; rintro e w1 ⟨rfl, rfl⟩) | (go_at_call 56; refine H2.out.mono ?_; rintro e w1 ⟨rfl, rfl⟩))
  go_ret2
  exact ⟨rfl, rfl⟩
theorem mword_any (W : World) (p : Nat) (n : Int) (h : RM W p n) (hn : 1 ≤ n ∧ n ≤ 65536) : Calls Tryz.prog 9 #[.pointer (some ⟨p, 0, none⟩), .int .u64 0] W fun e w' => e = .returned (.tuple #[.int .u32 0, .int .i64 0]) ∧ W = w' := by
  have H := hidW (mget_any W p n h hn)
  clear h hn
  go_enter Tryz.func9, Tryz.ntmps9
  go_wp2_with (go_at_call 39; refine H.out.mono ?_; rintro e w1 ⟨rfl, rfl⟩)
  go_ret2
  exact ⟨rfl, rfl⟩
end Go.Proofs.YtfdjfhhjfgdbaaaGreatDoor
