import Derived.Test.YtmcloaonpkfibaaDoorRs0
import Derived.Test.YtmcloaonpkfibaaDoorRs1
import Derived.Test.YtmcloaonpkfibaaDoorRs2
import Derived.Test.YtmcloaonpkfibaaDoorRs3
import Derived.Test.YtmcloaonpkfibaaDoorRs4
namespace Go.Proofs.YtmcloaonpkfibaaDoor
open Go.RowKit
set_option linter.unusedVariables false
set_option linter.unusedSimpArgs false
set_option maxRecDepth 100000 in
set_option maxHeartbeats 1000000 in
theorem rshow_no (m : Mem) (w : World) (hm : ¬ K m) :
    Calls Tryd.prog 15 #[.agg #[.int .i64 m.t, .int .i64 m.i, .int .i64 m.o, .int .i64 m.s]] w fun e w' => e = .returned (.tuple #[.string ⟨#[]⟩, .int .i64 62]) ∧ Below w.heap.size w w' := by
  have HK : Hid (∀ w, Calls Tryd.prog 23 #[.agg #[.int .i64 m.t, .int .i64 m.i, .int .i64 m.o, .int .i64 m.s]] w fun e w' => e = .returned (.bool false) ∧ Below w.heap.size w w') := fun w => by
    have := isMem_any m w
    rw [decide_eq_false hm] at this
    exact this
  clear hm
  obtain ⟨t, i, o, s⟩ := m
  simp only at *
  go_enter Tryd.func15, Tryd.ntmps15
  go_wp2_with (first | (go_at_call 23; refine (HK.out _).mono ?_; rintro e w1 ⟨rfl, hb⟩) | go_in)
  go_ret2
  exact ⟨rfl, Below.one hb⟩
theorem rshow_yes (m : Mem) (w : World) (h : K m) :
    Calls Tryd.prog 15 #[.agg #[.int .i64 m.t, .int .i64 m.i, .int .i64 m.o, .int .i64 m.s]] w fun e w' => e = .returned (.tuple #[.string (tx m), .int .i64 0]) ∧ Below w.heap.size w w' := by
  obtain ⟨t, i, o, s⟩ := m
  rcases h with ⟨rfl, rfl, rfl, rfl⟩ | ⟨rfl, rfl, rfl, a, b⟩ | ⟨rfl, a, b, c, d, e, f⟩
  · exact rs_0_0_0_2 w
  · simp only at a b
    rcases (show s = 0 ∨ s = 1 ∨ s = 2 by omega) with rfl | rfl | rfl
    · exact rs_1_0_0_0 w
    · exact rs_1_0_0_1 w
    · exact rs_1_0_0_2 w
  · simp only at a b c d e f
    rcases (show i = 0 ∨ i = 1 ∨ i = 2 ∨ i = 3 by omega) with rfl | rfl | rfl | rfl <;> rcases (show o = 0 ∨ o = 1 ∨ o = 2 ∨ o = 3 by omega) with rfl | rfl | rfl | rfl <;> rcases (show s = 0 ∨ s = 1 ∨ s = 2 by omega) with rfl | rfl | rfl
    · exact rs_2_0_0_0 w
    · exact rs_2_0_0_1 w
    · exact rs_2_0_0_2 w
    · exact rs_2_0_1_0 w
    · exact rs_2_0_1_1 w
    · exact rs_2_0_1_2 w
    · exact rs_2_0_2_0 w
    · exact rs_2_0_2_1 w
    · exact rs_2_0_2_2 w
    · exact rs_2_0_3_0 w
    · exact rs_2_0_3_1 w
    · exact rs_2_0_3_2 w
    · exact rs_2_1_0_0 w
    · exact rs_2_1_0_1 w
    · exact rs_2_1_0_2 w
    · exact rs_2_1_1_0 w
    · exact rs_2_1_1_1 w
    · exact rs_2_1_1_2 w
    · exact rs_2_1_2_0 w
    · exact rs_2_1_2_1 w
    · exact rs_2_1_2_2 w
    · exact rs_2_1_3_0 w
    · exact rs_2_1_3_1 w
    · exact rs_2_1_3_2 w
    · exact rs_2_2_0_0 w
    · exact rs_2_2_0_1 w
    · exact rs_2_2_0_2 w
    · exact rs_2_2_1_0 w
    · exact rs_2_2_1_1 w
    · exact rs_2_2_1_2 w
    · exact rs_2_2_2_0 w
    · exact rs_2_2_2_1 w
    · exact rs_2_2_2_2 w
    · exact rs_2_2_3_0 w
    · exact rs_2_2_3_1 w
    · exact rs_2_2_3_2 w
    · exact rs_2_3_0_0 w
    · exact rs_2_3_0_1 w
    · exact rs_2_3_0_2 w
    · exact rs_2_3_1_0 w
    · exact rs_2_3_1_1 w
    · exact rs_2_3_1_2 w
    · exact rs_2_3_2_0 w
    · exact rs_2_3_2_1 w
    · exact rs_2_3_2_2 w
    · exact rs_2_3_3_0 w
    · exact rs_2_3_3_1 w
    · exact rs_2_3_3_2 w
theorem rshow_any (m : Mem) (w : World) :
    Calls Tryd.prog 15 #[.agg #[.int .i64 m.t, .int .i64 m.i, .int .i64 m.o, .int .i64 m.s]] w fun e w' => e = .returned (.tuple #[.string (if K m then tx m else ⟨#[]⟩), .int .i64 (if K m then 0 else 62)]) ∧ Below w.heap.size w w' := by
  by_cases h : K m
  · rw [if_pos h, if_pos h]
    exact rshow_yes m w h
  · rw [if_neg h, if_neg h]
    exact rshow_no m w h
/-- No kind ahead of (t, i, o, h) has the text. -/
def Pre (m : Mem) (t i o h : Nat) : Prop := m.t < t ∨ (m.t = t ∧ (m.i < i ∨ (m.i = i ∧ (m.o < o ∨ (m.o = o ∧ m.s < h)))))
def No (x : ByteArray) (t i o h : Nat) : Prop := ∀ m, K m → Pre m t i o h → tx m ≠ x
theorem K_rng {m : Mem} (h : K m) : 0 ≤ m.t ∧ m.t ≤ 2 ∧ 0 ≤ m.i ∧ m.i ≤ 3 ∧ 0 ≤ m.o ∧ m.o ≤ 3 ∧ 0 ≤ m.s ∧ m.s ≤ 2 := by
  rcases h with ⟨h1, h2, h3, h4⟩ | ⟨h1, h2, h3, h4, h5⟩ | ⟨h1, h2, h3, h4, h5, h6, h7⟩ <;> omega
theorem No.zero (x : ByteArray) : No x 0 0 0 0 := fun m hm h => by
  have := K_rng hm
  unfold Pre at h
  omega
theorem No.s {x : ByteArray} {t i o h : Nat} (a : No x t i o h) (b : K ⟨t, i, o, h⟩ → tx ⟨t, i, o, h⟩ ≠ x) : No x t i o (h + 1) := fun m hm hp => by
  by_cases c : m = ⟨t, i, o, h⟩
  · subst c
    exact b hm
  · refine a m hm ?_
    obtain ⟨m1, m2, m3, m4⟩ := m
    simp only [Mem.mk.injEq] at c
    unfold Pre at hp ⊢
    simp only at hp ⊢
    omega
theorem No.o {x : ByteArray} {t i o : Nat} (a : No x t i o 3) : No x t i (o + 1) 0 := fun m hm hp => by
  have := K_rng hm
  exact a m hm (by unfold Pre at hp ⊢; omega)
theorem No.i {x : ByteArray} {t i : Nat} (a : No x t i 4 0) : No x t (i + 1) 0 0 := fun m hm hp => by
  have := K_rng hm
  exact a m hm (by unfold Pre at hp ⊢; omega)
theorem No.t {x : ByteArray} {t : Nat} (a : No x t 4 0 0) : No x (t + 1) 0 0 0 := fun m hm hp => by
  have := K_rng hm
  exact a m hm (by unfold Pre at hp ⊢; omega)
theorem No.all {x : ByteArray} (a : No x 3 0 0 0) : ∀ m, K m → tx m ≠ x := fun m hm => by
  have := K_rng hm
  exact a m hm (by unfold Pre; omega)
end Go.Proofs.YtmcloaonpkfibaaDoor
