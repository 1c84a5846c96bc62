import Derived.Test.YtliiblaodhcjhabCln
namespace Go.Proofs.Ytliiblaodhcjhab
open Go.RowKit
set_option linter.unusedVariables false

theorem below_alloc {W0 w : World} (h : Below W0.heap.size W0 w) (o : Obj) : Below W0.heap.size W0 (w.alloc o) := h.alloc h.size o
theorem below_set {W0 w : World} (h : Below W0.heap.size W0 w) {a : Addr} (ha : W0.heap.size ≤ a.block) (u : Value) : Below W0.heap.size W0 (w.setCell a u) := h.setCell ha u
theorem below_go {W0 w w' : World} (h : Below W0.heap.size W0 w) (h2 : Below w.heap.size w w') : Below W0.heap.size W0 w' := h.trans (h2.mono h.size)

theorem run_at (W0 W : World) (hB : Below W0.heap.size W0 W) (lo p : Nat) (v : Value) (L : List (Sp Int)) (k : Int) (h : MapAt W0 lo p v L) (hsz : L.length < 4611686018427387904) (o : Option (Sp Int)) (ho : run L k = o) :
    Calls Try.prog 35 #[.pointer (some ⟨p, 0, none⟩), .int .u64 k] W fun e W' => e = .returned (optV o) ∧ Below W0.heap.size W0 W' ∧ W.heap.size ≤ W'.heap.size ∧ Below W.heap.size W W' := by
  subst ho
  refine (run_any W lo p v L k (h.keep hB) hsz).mono ?_
  rintro e W' ⟨rfl, hb⟩
  exact ⟨rfl, below_go hB hb, hb.size, hb⟩

theorem same_at (W0 W : World) (hB : Below W0.heap.size W0 W) (a b : Int) (t : Bool) (ht : decide (a = b) = t) :
    Calls Try.prog 47 #[.int .i64 a, .int .i64 b] W fun e W' => e = .returned (.bool t) ∧ Below W0.heap.size W0 W' ∧ W.heap.size ≤ W'.heap.size ∧ Below W.heap.size W W' := by
  subst ht
  refine (same_any a b W).mono ?_
  rintro e W' ⟨rfl, hb⟩
  exact ⟨rfl, below_go hB hb, hb.size, hb⟩

/-- The ways on one side of a Set. -/
def Side (L : List (Sp Int)) (k : Int) (x : Int) : Prop :=
  run L k = none ∨ (∃ s, run L k = some s ∧ decide (s.val = x) = true) ∨ ∃ s, run L k = some s ∧ decide (s.val = x) = false

theorem side_of (L : List (Sp Int)) (k : Int) (x : Int) : Side L k x := by
  cases h : run L k with
  | none => exact .inl h
  | some s =>
    by_cases e : s.val = x
    · exact .inr (.inl ⟨s, h, by simpa using e⟩)
    · exact .inr (.inr ⟨s, h, by simpa using e⟩)

theorem widLo_zero {L : List (Sp Int)} (h : Good 0 none L) (x : Int) : widLo L 0 x = 0 := by
  have hr : run L (0 - 1) = none := by
    cases hr : run L (0 - 1) with
    | none => rfl
    | some s => have := run_some h hr; omega
  rw [widLo, hr]
theorem widHi_last {L : List (Sp Int)} (h : Good 0 none L) (x : Int) : widHi L 18446744073709551615 x = 18446744073709551615 := by
  have hr : run L (18446744073709551615 + 1) = none := by
    cases hr : run L (18446744073709551615 + 1) with
    | none => rfl
    | some s => have := run_some h hr; omega
  rw [widHi, hr]
theorem widLo_same {L : List (Sp Int)} {a : Int} {x : Int} {s : Sp Int} (h : run L (a - 1) = some s) (e : decide (s.val = x) = true) : widLo L a x = s.lo := by
  rw [widLo, h]; simp only [decide_eq_true_eq] at e; simp [e]
theorem widLo_other {L : List (Sp Int)} {a : Int} {x : Int} {s : Sp Int} (h : run L (a - 1) = some s) (e : decide (s.val = x) = false) : widLo L a x = a := by
  rw [widLo, h]; simp only [decide_eq_false_iff_not] at e; simp [e]
theorem widLo_none {L : List (Sp Int)} {a : Int} {x : Int} (h : run L (a - 1) = none) : widLo L a x = a := by rw [widLo, h]
theorem widHi_same {L : List (Sp Int)} {a : Int} {x : Int} {s : Sp Int} (h : run L (a + 1) = some s) (e : decide (s.val = x) = true) : widHi L a x = s.hi := by
  rw [widHi, h]; simp only [decide_eq_true_eq] at e; simp [e]
theorem widHi_other {L : List (Sp Int)} {a : Int} {x : Int} {s : Sp Int} (h : run L (a + 1) = some s) (e : decide (s.val = x) = false) : widHi L a x = a := by
  rw [widHi, h]; simp only [decide_eq_false_iff_not] at e; simp [e]
theorem widHi_none {L : List (Sp Int)} {a : Int} {x : Int} (h : run L (a + 1) = none) : widHi L a x = a := by rw [widHi, h]

set_option maxHeartbeats 8000000 in
set_option maxRecDepth 100000 in
theorem widen_ZZ (W : World) (lo p : Nat) (v : Value) (L : List (Sp Int)) (a b : Int) (x : Int) (h : MapAt W lo p v L) (hsz : L.length < 4611686018427387904) (ha : 0 ≤ a) (hb : b ≤ 18446744073709551615) (ha2 : a ≤ 18446744073709551615) (hb2 : 0 ≤ b) (ha0 : ¬ 0 < a) (hbm : ¬ b < 18446744073709551615)   :
    Calls Try.prog 54 #[.pointer (some ⟨p, 0, none⟩), .int .u64 a, .int .u64 b, .int .i64 x] W fun e W' => e = .returned (.tuple #[.int .u64 (a), .int .u64 (b)]) ∧ Below W.heap.size W W' := by
  have hB := Below.refl W.heap.size W
  go_enter Try.func54, Try.ntmps54
  go_wp2
  go_ret2
  exact ⟨rfl, (by repeat (first | assumption | refine below_set ?_ (by first | assumption | exact Nat.le_refl _ | omega) _ | refine below_alloc ?_ _))⟩

set_option maxHeartbeats 8000000 in
set_option maxRecDepth 100000 in
theorem widen_ZN (W : World) (lo p : Nat) (v : Value) (L : List (Sp Int)) (a b : Int) (x : Int) (h : MapAt W lo p v L) (hsz : L.length < 4611686018427387904) (ha : 0 ≤ a) (hb : b ≤ 18446744073709551615) (ha2 : a ≤ 18446744073709551615) (hb2 : 0 ≤ b) (ha0 : ¬ 0 < a) (hbm : b < 18446744073709551615)  (HR' : Hid (run L (b + 1) = none)) :
    Calls Try.prog 54 #[.pointer (some ⟨p, 0, none⟩), .int .u64 a, .int .u64 b, .int .i64 x] W fun e W' => e = .returned (.tuple #[.int .u64 (a), .int .u64 (b)]) ∧ Below W.heap.size W W' := by
  have hB := Below.refl W.heap.size W
  go_enter Try.func54, Try.ntmps54
  go_wp2_with (first | (go_at_call 35; refine (run_at W _ (by repeat (first | assumption | refine below_set ?_ (by first | assumption | exact Nat.le_refl _ | omega) _ | refine below_alloc ?_ _)) lo p v L _ h hsz _ (by first | exact HR'.out)).mono ?_; simp only [optV]; rintro e w1 ⟨rfl, hb1, hz1, hc1⟩))
  go_ret2
  exact ⟨rfl, (by repeat (first | assumption | refine below_set ?_ (by first | assumption | exact Nat.le_refl _ | omega) _ | refine below_alloc ?_ _))⟩

set_option maxHeartbeats 8000000 in
set_option maxRecDepth 100000 in
theorem widen_ZS (W : World) (lo p : Nat) (v : Value) (L : List (Sp Int)) (a b : Int) (x : Int) (h : MapAt W lo p v L) (hsz : L.length < 4611686018427387904) (ha : 0 ≤ a) (hb : b ≤ 18446744073709551615) (ha2 : a ≤ 18446744073709551615) (hb2 : 0 ≤ b) (ha0 : ¬ 0 < a) (hbm : b < 18446744073709551615)  (s' : Sp Int) (HR' : Hid (run L (b + 1) = some s')) (E' : Hid (decide (s'.val = x) = true)) :
    Calls Try.prog 54 #[.pointer (some ⟨p, 0, none⟩), .int .u64 a, .int .u64 b, .int .i64 x] W fun e W' => e = .returned (.tuple #[.int .u64 (a), .int .u64 (s'.hi)]) ∧ Below W.heap.size W W' := by
  have hB := Below.refl W.heap.size W
  go_enter Try.func54, Try.ntmps54
  go_wp2_with (first | (go_at_call 35; refine (run_at W _ (by repeat (first | assumption | refine below_set ?_ (by first | assumption | exact Nat.le_refl _ | omega) _ | refine below_alloc ?_ _)) lo p v L _ h hsz _ (by first | exact HR'.out)).mono ?_; simp only [optV]; rintro e w1 ⟨rfl, hb1, hz1, hc1⟩) | (go_at_call 47; refine (same_at W _ (by repeat (first | assumption | refine below_set ?_ (by first | assumption | exact Nat.le_refl _ | omega) _ | refine below_alloc ?_ _)) _ _ _ (by first | exact E'.out)).mono ?_; rintro e w2 ⟨rfl, hb3, hz3, hc3⟩; rw [World.size_alloc] at hc3 hz3; obtain ⟨hcc, hff⟩ := bcell hc3))
  go_ret2
  exact ⟨rfl, (by repeat (first | assumption | refine below_set ?_ (by first | assumption | exact Nat.le_refl _ | omega) _ | refine below_alloc ?_ _))⟩

set_option maxHeartbeats 8000000 in
set_option maxRecDepth 100000 in
theorem widen_ZO (W : World) (lo p : Nat) (v : Value) (L : List (Sp Int)) (a b : Int) (x : Int) (h : MapAt W lo p v L) (hsz : L.length < 4611686018427387904) (ha : 0 ≤ a) (hb : b ≤ 18446744073709551615) (ha2 : a ≤ 18446744073709551615) (hb2 : 0 ≤ b) (ha0 : ¬ 0 < a) (hbm : b < 18446744073709551615)  (s' : Sp Int) (HR' : Hid (run L (b + 1) = some s')) (E' : Hid (decide (s'.val = x) = false)) :
    Calls Try.prog 54 #[.pointer (some ⟨p, 0, none⟩), .int .u64 a, .int .u64 b, .int .i64 x] W fun e W' => e = .returned (.tuple #[.int .u64 (a), .int .u64 (b)]) ∧ Below W.heap.size W W' := by
  have hB := Below.refl W.heap.size W
  go_enter Try.func54, Try.ntmps54
  go_wp2_with (first | (go_at_call 35; refine (run_at W _ (by repeat (first | assumption | refine below_set ?_ (by first | assumption | exact Nat.le_refl _ | omega) _ | refine below_alloc ?_ _)) lo p v L _ h hsz _ (by first | exact HR'.out)).mono ?_; simp only [optV]; rintro e w1 ⟨rfl, hb1, hz1, hc1⟩) | (go_at_call 47; refine (same_at W _ (by repeat (first | assumption | refine below_set ?_ (by first | assumption | exact Nat.le_refl _ | omega) _ | refine below_alloc ?_ _)) _ _ _ (by first | exact E'.out)).mono ?_; rintro e w2 ⟨rfl, hb3, hz3, hc3⟩; rw [World.size_alloc] at hc3 hz3; obtain ⟨hcc, hff⟩ := bcell hc3))
  go_ret2
  exact ⟨rfl, (by repeat (first | assumption | refine below_set ?_ (by first | assumption | exact Nat.le_refl _ | omega) _ | refine below_alloc ?_ _))⟩

set_option maxHeartbeats 8000000 in
set_option maxRecDepth 100000 in
theorem widen_NZ (W : World) (lo p : Nat) (v : Value) (L : List (Sp Int)) (a b : Int) (x : Int) (h : MapAt W lo p v L) (hsz : L.length < 4611686018427387904) (ha : 0 ≤ a) (hb : b ≤ 18446744073709551615) (ha2 : a ≤ 18446744073709551615) (hb2 : 0 ≤ b) (ha0 : 0 < a) (hbm : ¬ b < 18446744073709551615) (HR : Hid (run L (a - 1) = none))  :
    Calls Try.prog 54 #[.pointer (some ⟨p, 0, none⟩), .int .u64 a, .int .u64 b, .int .i64 x] W fun e W' => e = .returned (.tuple #[.int .u64 (a), .int .u64 (b)]) ∧ Below W.heap.size W W' := by
  have hB := Below.refl W.heap.size W
  go_enter Try.func54, Try.ntmps54
  go_wp2_with (first | (go_at_call 35; refine (run_at W _ (by repeat (first | assumption | refine below_set ?_ (by first | assumption | exact Nat.le_refl _ | omega) _ | refine below_alloc ?_ _)) lo p v L _ h hsz _ (by first | exact HR.out)).mono ?_; simp only [optV]; rintro e w1 ⟨rfl, hb1, hz1, hc1⟩))
  go_ret2
  exact ⟨rfl, (by repeat (first | assumption | refine below_set ?_ (by first | assumption | exact Nat.le_refl _ | omega) _ | refine below_alloc ?_ _))⟩

set_option maxHeartbeats 8000000 in
set_option maxRecDepth 100000 in
theorem widen_NN (W : World) (lo p : Nat) (v : Value) (L : List (Sp Int)) (a b : Int) (x : Int) (h : MapAt W lo p v L) (hsz : L.length < 4611686018427387904) (ha : 0 ≤ a) (hb : b ≤ 18446744073709551615) (ha2 : a ≤ 18446744073709551615) (hb2 : 0 ≤ b) (ha0 : 0 < a) (hbm : b < 18446744073709551615) (HR : Hid (run L (a - 1) = none)) (HR' : Hid (run L (b + 1) = none)) :
    Calls Try.prog 54 #[.pointer (some ⟨p, 0, none⟩), .int .u64 a, .int .u64 b, .int .i64 x] W fun e W' => e = .returned (.tuple #[.int .u64 (a), .int .u64 (b)]) ∧ Below W.heap.size W W' := by
  have hB := Below.refl W.heap.size W
  go_enter Try.func54, Try.ntmps54
  go_wp2_with (first | (go_at_call 35; refine (run_at W _ (by repeat (first | assumption | refine below_set ?_ (by first | assumption | exact Nat.le_refl _ | omega) _ | refine below_alloc ?_ _)) lo p v L _ h hsz _ (by first | exact HR.out | exact HR'.out)).mono ?_; simp only [optV]; rintro e w1 ⟨rfl, hb1, hz1, hc1⟩))
  go_ret2
  exact ⟨rfl, (by repeat (first | assumption | refine below_set ?_ (by first | assumption | exact Nat.le_refl _ | omega) _ | refine below_alloc ?_ _))⟩

set_option maxHeartbeats 8000000 in
set_option maxRecDepth 100000 in
theorem widen_NS (W : World) (lo p : Nat) (v : Value) (L : List (Sp Int)) (a b : Int) (x : Int) (h : MapAt W lo p v L) (hsz : L.length < 4611686018427387904) (ha : 0 ≤ a) (hb : b ≤ 18446744073709551615) (ha2 : a ≤ 18446744073709551615) (hb2 : 0 ≤ b) (ha0 : 0 < a) (hbm : b < 18446744073709551615) (HR : Hid (run L (a - 1) = none)) (s' : Sp Int) (HR' : Hid (run L (b + 1) = some s')) (E' : Hid (decide (s'.val = x) = true)) :
    Calls Try.prog 54 #[.pointer (some ⟨p, 0, none⟩), .int .u64 a, .int .u64 b, .int .i64 x] W fun e W' => e = .returned (.tuple #[.int .u64 (a), .int .u64 (s'.hi)]) ∧ Below W.heap.size W W' := by
  have hB := Below.refl W.heap.size W
  go_enter Try.func54, Try.ntmps54
  go_wp2_with (first | (go_at_call 35; refine (run_at W _ (by repeat (first | assumption | refine below_set ?_ (by first | assumption | exact Nat.le_refl _ | omega) _ | refine below_alloc ?_ _)) lo p v L _ h hsz _ (by first | exact HR.out | exact HR'.out)).mono ?_; simp only [optV]; rintro e w1 ⟨rfl, hb1, hz1, hc1⟩) | (go_at_call 47; refine (same_at W _ (by repeat (first | assumption | refine below_set ?_ (by first | assumption | exact Nat.le_refl _ | omega) _ | refine below_alloc ?_ _)) _ _ _ (by first | exact E'.out)).mono ?_; rintro e w2 ⟨rfl, hb3, hz3, hc3⟩; rw [World.size_alloc] at hc3 hz3; obtain ⟨hcc, hff⟩ := bcell hc3))
  go_ret2
  exact ⟨rfl, (by repeat (first | assumption | refine below_set ?_ (by first | assumption | exact Nat.le_refl _ | omega) _ | refine below_alloc ?_ _))⟩

set_option maxHeartbeats 8000000 in
set_option maxRecDepth 100000 in
theorem widen_NO (W : World) (lo p : Nat) (v : Value) (L : List (Sp Int)) (a b : Int) (x : Int) (h : MapAt W lo p v L) (hsz : L.length < 4611686018427387904) (ha : 0 ≤ a) (hb : b ≤ 18446744073709551615) (ha2 : a ≤ 18446744073709551615) (hb2 : 0 ≤ b) (ha0 : 0 < a) (hbm : b < 18446744073709551615) (HR : Hid (run L (a - 1) = none)) (s' : Sp Int) (HR' : Hid (run L (b + 1) = some s')) (E' : Hid (decide (s'.val = x) = false)) :
    Calls Try.prog 54 #[.pointer (some ⟨p, 0, none⟩), .int .u64 a, .int .u64 b, .int .i64 x] W fun e W' => e = .returned (.tuple #[.int .u64 (a), .int .u64 (b)]) ∧ Below W.heap.size W W' := by
  have hB := Below.refl W.heap.size W
  go_enter Try.func54, Try.ntmps54
  go_wp2_with (first | (go_at_call 35; refine (run_at W _ (by repeat (first | assumption | refine below_set ?_ (by first | assumption | exact Nat.le_refl _ | omega) _ | refine below_alloc ?_ _)) lo p v L _ h hsz _ (by first | exact HR.out | exact HR'.out)).mono ?_; simp only [optV]; rintro e w1 ⟨rfl, hb1, hz1, hc1⟩) | (go_at_call 47; refine (same_at W _ (by repeat (first | assumption | refine below_set ?_ (by first | assumption | exact Nat.le_refl _ | omega) _ | refine below_alloc ?_ _)) _ _ _ (by first | exact E'.out)).mono ?_; rintro e w2 ⟨rfl, hb3, hz3, hc3⟩; rw [World.size_alloc] at hc3 hz3; obtain ⟨hcc, hff⟩ := bcell hc3))
  go_ret2
  exact ⟨rfl, (by repeat (first | assumption | refine below_set ?_ (by first | assumption | exact Nat.le_refl _ | omega) _ | refine below_alloc ?_ _))⟩

set_option maxHeartbeats 8000000 in
set_option maxRecDepth 100000 in
theorem widen_SZ (W : World) (lo p : Nat) (v : Value) (L : List (Sp Int)) (a b : Int) (x : Int) (h : MapAt W lo p v L) (hsz : L.length < 4611686018427387904) (ha : 0 ≤ a) (hb : b ≤ 18446744073709551615) (ha2 : a ≤ 18446744073709551615) (hb2 : 0 ≤ b) (ha0 : 0 < a) (hbm : ¬ b < 18446744073709551615) (s : Sp Int) (HR : Hid (run L (a - 1) = some s)) (E : Hid (decide (s.val = x) = true))  :
    Calls Try.prog 54 #[.pointer (some ⟨p, 0, none⟩), .int .u64 a, .int .u64 b, .int .i64 x] W fun e W' => e = .returned (.tuple #[.int .u64 (s.lo), .int .u64 (b)]) ∧ Below W.heap.size W W' := by
  have hB := Below.refl W.heap.size W
  go_enter Try.func54, Try.ntmps54
  go_wp2_with (first | (go_at_call 35; refine (run_at W _ (by repeat (first | assumption | refine below_set ?_ (by first | assumption | exact Nat.le_refl _ | omega) _ | refine below_alloc ?_ _)) lo p v L _ h hsz _ (by first | exact HR.out)).mono ?_; simp only [optV]; rintro e w1 ⟨rfl, hb1, hz1, hc1⟩) | (go_at_call 47; refine (same_at W _ (by repeat (first | assumption | refine below_set ?_ (by first | assumption | exact Nat.le_refl _ | omega) _ | refine below_alloc ?_ _)) _ _ _ (by first | exact E.out)).mono ?_; rintro e w2 ⟨rfl, hb3, hz3, hc3⟩; rw [World.size_alloc] at hc3 hz3; obtain ⟨hcc, hff⟩ := bcell hc3))
  go_ret2
  exact ⟨rfl, (by repeat (first | assumption | refine below_set ?_ (by first | assumption | exact Nat.le_refl _ | omega) _ | refine below_alloc ?_ _))⟩

set_option maxHeartbeats 8000000 in
set_option maxRecDepth 100000 in
theorem widen_SN (W : World) (lo p : Nat) (v : Value) (L : List (Sp Int)) (a b : Int) (x : Int) (h : MapAt W lo p v L) (hsz : L.length < 4611686018427387904) (ha : 0 ≤ a) (hb : b ≤ 18446744073709551615) (ha2 : a ≤ 18446744073709551615) (hb2 : 0 ≤ b) (ha0 : 0 < a) (hbm : b < 18446744073709551615) (s : Sp Int) (HR : Hid (run L (a - 1) = some s)) (E : Hid (decide (s.val = x) = true)) (HR' : Hid (run L (b + 1) = none)) :
    Calls Try.prog 54 #[.pointer (some ⟨p, 0, none⟩), .int .u64 a, .int .u64 b, .int .i64 x] W fun e W' => e = .returned (.tuple #[.int .u64 (s.lo), .int .u64 (b)]) ∧ Below W.heap.size W W' := by
  have hB := Below.refl W.heap.size W
  go_enter Try.func54, Try.ntmps54
  go_wp2_with (first | (go_at_call 35; refine (run_at W _ (by repeat (first | assumption | refine below_set ?_ (by first | assumption | exact Nat.le_refl _ | omega) _ | refine below_alloc ?_ _)) lo p v L _ h hsz _ (by first | exact HR.out | exact HR'.out)).mono ?_; simp only [optV]; rintro e w1 ⟨rfl, hb1, hz1, hc1⟩) | (go_at_call 47; refine (same_at W _ (by repeat (first | assumption | refine below_set ?_ (by first | assumption | exact Nat.le_refl _ | omega) _ | refine below_alloc ?_ _)) _ _ _ (by first | exact E.out)).mono ?_; rintro e w2 ⟨rfl, hb3, hz3, hc3⟩; rw [World.size_alloc] at hc3 hz3; obtain ⟨hcc, hff⟩ := bcell hc3))
  go_ret2
  exact ⟨rfl, (by repeat (first | assumption | refine below_set ?_ (by first | assumption | exact Nat.le_refl _ | omega) _ | refine below_alloc ?_ _))⟩

set_option maxHeartbeats 8000000 in
set_option maxRecDepth 100000 in
theorem widen_SS (W : World) (lo p : Nat) (v : Value) (L : List (Sp Int)) (a b : Int) (x : Int) (h : MapAt W lo p v L) (hsz : L.length < 4611686018427387904) (ha : 0 ≤ a) (hb : b ≤ 18446744073709551615) (ha2 : a ≤ 18446744073709551615) (hb2 : 0 ≤ b) (ha0 : 0 < a) (hbm : b < 18446744073709551615) (s : Sp Int) (HR : Hid (run L (a - 1) = some s)) (E : Hid (decide (s.val = x) = true)) (s' : Sp Int) (HR' : Hid (run L (b + 1) = some s')) (E' : Hid (decide (s'.val = x) = true)) :
    Calls Try.prog 54 #[.pointer (some ⟨p, 0, none⟩), .int .u64 a, .int .u64 b, .int .i64 x] W fun e W' => e = .returned (.tuple #[.int .u64 (s.lo), .int .u64 (s'.hi)]) ∧ Below W.heap.size W W' := by
  have hB := Below.refl W.heap.size W
  go_enter Try.func54, Try.ntmps54
  go_wp2_with (first | (go_at_call 35; refine (run_at W _ (by repeat (first | assumption | refine below_set ?_ (by first | assumption | exact Nat.le_refl _ | omega) _ | refine below_alloc ?_ _)) lo p v L _ h hsz _ (by first | exact HR.out | exact HR'.out)).mono ?_; simp only [optV]; rintro e w1 ⟨rfl, hb1, hz1, hc1⟩) | (go_at_call 47; refine (same_at W _ (by repeat (first | assumption | refine below_set ?_ (by first | assumption | exact Nat.le_refl _ | omega) _ | refine below_alloc ?_ _)) _ _ _ (by first | exact E.out | exact E'.out)).mono ?_; rintro e w2 ⟨rfl, hb3, hz3, hc3⟩; rw [World.size_alloc] at hc3 hz3; obtain ⟨hcc, hff⟩ := bcell hc3))
  go_ret2
  exact ⟨rfl, (by repeat (first | assumption | refine below_set ?_ (by first | assumption | exact Nat.le_refl _ | omega) _ | refine below_alloc ?_ _))⟩

set_option maxHeartbeats 8000000 in
set_option maxRecDepth 100000 in
theorem widen_SO (W : World) (lo p : Nat) (v : Value) (L : List (Sp Int)) (a b : Int) (x : Int) (h : MapAt W lo p v L) (hsz : L.length < 4611686018427387904) (ha : 0 ≤ a) (hb : b ≤ 18446744073709551615) (ha2 : a ≤ 18446744073709551615) (hb2 : 0 ≤ b) (ha0 : 0 < a) (hbm : b < 18446744073709551615) (s : Sp Int) (HR : Hid (run L (a - 1) = some s)) (E : Hid (decide (s.val = x) = true)) (s' : Sp Int) (HR' : Hid (run L (b + 1) = some s')) (E' : Hid (decide (s'.val = x) = false)) :
    Calls Try.prog 54 #[.pointer (some ⟨p, 0, none⟩), .int .u64 a, .int .u64 b, .int .i64 x] W fun e W' => e = .returned (.tuple #[.int .u64 (s.lo), .int .u64 (b)]) ∧ Below W.heap.size W W' := by
  have hB := Below.refl W.heap.size W
  go_enter Try.func54, Try.ntmps54
  go_wp2_with (first | (go_at_call 35; refine (run_at W _ (by repeat (first | assumption | refine below_set ?_ (by first | assumption | exact Nat.le_refl _ | omega) _ | refine below_alloc ?_ _)) lo p v L _ h hsz _ (by first | exact HR.out | exact HR'.out)).mono ?_; simp only [optV]; rintro e w1 ⟨rfl, hb1, hz1, hc1⟩) | (go_at_call 47; refine (same_at W _ (by repeat (first | assumption | refine below_set ?_ (by first | assumption | exact Nat.le_refl _ | omega) _ | refine below_alloc ?_ _)) _ _ _ (by first | exact E.out | exact E'.out)).mono ?_; rintro e w2 ⟨rfl, hb3, hz3, hc3⟩; rw [World.size_alloc] at hc3 hz3; obtain ⟨hcc, hff⟩ := bcell hc3))
  go_ret2
  exact ⟨rfl, (by repeat (first | assumption | refine below_set ?_ (by first | assumption | exact Nat.le_refl _ | omega) _ | refine below_alloc ?_ _))⟩

set_option maxHeartbeats 8000000 in
set_option maxRecDepth 100000 in
theorem widen_OZ (W : World) (lo p : Nat) (v : Value) (L : List (Sp Int)) (a b : Int) (x : Int) (h : MapAt W lo p v L) (hsz : L.length < 4611686018427387904) (ha : 0 ≤ a) (hb : b ≤ 18446744073709551615) (ha2 : a ≤ 18446744073709551615) (hb2 : 0 ≤ b) (ha0 : 0 < a) (hbm : ¬ b < 18446744073709551615) (s : Sp Int) (HR : Hid (run L (a - 1) = some s)) (E : Hid (decide (s.val = x) = false))  :
    Calls Try.prog 54 #[.pointer (some ⟨p, 0, none⟩), .int .u64 a, .int .u64 b, .int .i64 x] W fun e W' => e = .returned (.tuple #[.int .u64 (a), .int .u64 (b)]) ∧ Below W.heap.size W W' := by
  have hB := Below.refl W.heap.size W
  go_enter Try.func54, Try.ntmps54
  go_wp2_with (first | (go_at_call 35; refine (run_at W _ (by repeat (first | assumption | refine below_set ?_ (by first | assumption | exact Nat.le_refl _ | omega) _ | refine below_alloc ?_ _)) lo p v L _ h hsz _ (by first | exact HR.out)).mono ?_; simp only [optV]; rintro e w1 ⟨rfl, hb1, hz1, hc1⟩) | (go_at_call 47; refine (same_at W _ (by repeat (first | assumption | refine below_set ?_ (by first | assumption | exact Nat.le_refl _ | omega) _ | refine below_alloc ?_ _)) _ _ _ (by first | exact E.out)).mono ?_; rintro e w2 ⟨rfl, hb3, hz3, hc3⟩; rw [World.size_alloc] at hc3 hz3; obtain ⟨hcc, hff⟩ := bcell hc3))
  go_ret2
  exact ⟨rfl, (by repeat (first | assumption | refine below_set ?_ (by first | assumption | exact Nat.le_refl _ | omega) _ | refine below_alloc ?_ _))⟩

set_option maxHeartbeats 8000000 in
set_option maxRecDepth 100000 in
theorem widen_ON (W : World) (lo p : Nat) (v : Value) (L : List (Sp Int)) (a b : Int) (x : Int) (h : MapAt W lo p v L) (hsz : L.length < 4611686018427387904) (ha : 0 ≤ a) (hb : b ≤ 18446744073709551615) (ha2 : a ≤ 18446744073709551615) (hb2 : 0 ≤ b) (ha0 : 0 < a) (hbm : b < 18446744073709551615) (s : Sp Int) (HR : Hid (run L (a - 1) = some s)) (E : Hid (decide (s.val = x) = false)) (HR' : Hid (run L (b + 1) = none)) :
    Calls Try.prog 54 #[.pointer (some ⟨p, 0, none⟩), .int .u64 a, .int .u64 b, .int .i64 x] W fun e W' => e = .returned (.tuple #[.int .u64 (a), .int .u64 (b)]) ∧ Below W.heap.size W W' := by
  have hB := Below.refl W.heap.size W
  go_enter Try.func54, Try.ntmps54
  go_wp2_with (first | (go_at_call 35; refine (run_at W _ (by repeat (first | assumption | refine below_set ?_ (by first | assumption | exact Nat.le_refl _ | omega) _ | refine below_alloc ?_ _)) lo p v L _ h hsz _ (by first | exact HR.out | exact HR'.out)).mono ?_; simp only [optV]; rintro e w1 ⟨rfl, hb1, hz1, hc1⟩) | (go_at_call 47; refine (same_at W _ (by repeat (first | assumption | refine below_set ?_ (by first | assumption | exact Nat.le_refl _ | omega) _ | refine below_alloc ?_ _)) _ _ _ (by first | exact E.out)).mono ?_; rintro e w2 ⟨rfl, hb3, hz3, hc3⟩; rw [World.size_alloc] at hc3 hz3; obtain ⟨hcc, hff⟩ := bcell hc3))
  go_ret2
  exact ⟨rfl, (by repeat (first | assumption | refine below_set ?_ (by first | assumption | exact Nat.le_refl _ | omega) _ | refine below_alloc ?_ _))⟩

set_option maxHeartbeats 8000000 in
set_option maxRecDepth 100000 in
theorem widen_OS (W : World) (lo p : Nat) (v : Value) (L : List (Sp Int)) (a b : Int) (x : Int) (h : MapAt W lo p v L) (hsz : L.length < 4611686018427387904) (ha : 0 ≤ a) (hb : b ≤ 18446744073709551615) (ha2 : a ≤ 18446744073709551615) (hb2 : 0 ≤ b) (ha0 : 0 < a) (hbm : b < 18446744073709551615) (s : Sp Int) (HR : Hid (run L (a - 1) = some s)) (E : Hid (decide (s.val = x) = false)) (s' : Sp Int) (HR' : Hid (run L (b + 1) = some s')) (E' : Hid (decide (s'.val = x) = true)) :
    Calls Try.prog 54 #[.pointer (some ⟨p, 0, none⟩), .int .u64 a, .int .u64 b, .int .i64 x] W fun e W' => e = .returned (.tuple #[.int .u64 (a), .int .u64 (s'.hi)]) ∧ Below W.heap.size W W' := by
  have hB := Below.refl W.heap.size W
  go_enter Try.func54, Try.ntmps54
  go_wp2_with (first | (go_at_call 35; refine (run_at W _ (by repeat (first | assumption | refine below_set ?_ (by first | assumption | exact Nat.le_refl _ | omega) _ | refine below_alloc ?_ _)) lo p v L _ h hsz _ (by first | exact HR.out | exact HR'.out)).mono ?_; simp only [optV]; rintro e w1 ⟨rfl, hb1, hz1, hc1⟩) | (go_at_call 47; refine (same_at W _ (by repeat (first | assumption | refine below_set ?_ (by first | assumption | exact Nat.le_refl _ | omega) _ | refine below_alloc ?_ _)) _ _ _ (by first | exact E.out | exact E'.out)).mono ?_; rintro e w2 ⟨rfl, hb3, hz3, hc3⟩; rw [World.size_alloc] at hc3 hz3; obtain ⟨hcc, hff⟩ := bcell hc3))
  go_ret2
  exact ⟨rfl, (by repeat (first | assumption | refine below_set ?_ (by first | assumption | exact Nat.le_refl _ | omega) _ | refine below_alloc ?_ _))⟩

set_option maxHeartbeats 8000000 in
set_option maxRecDepth 100000 in
theorem widen_OO (W : World) (lo p : Nat) (v : Value) (L : List (Sp Int)) (a b : Int) (x : Int) (h : MapAt W lo p v L) (hsz : L.length < 4611686018427387904) (ha : 0 ≤ a) (hb : b ≤ 18446744073709551615) (ha2 : a ≤ 18446744073709551615) (hb2 : 0 ≤ b) (ha0 : 0 < a) (hbm : b < 18446744073709551615) (s : Sp Int) (HR : Hid (run L (a - 1) = some s)) (E : Hid (decide (s.val = x) = false)) (s' : Sp Int) (HR' : Hid (run L (b + 1) = some s')) (E' : Hid (decide (s'.val = x) = false)) :
    Calls Try.prog 54 #[.pointer (some ⟨p, 0, none⟩), .int .u64 a, .int .u64 b, .int .i64 x] W fun e W' => e = .returned (.tuple #[.int .u64 (a), .int .u64 (b)]) ∧ Below W.heap.size W W' := by
  have hB := Below.refl W.heap.size W
  go_enter Try.func54, Try.ntmps54
  go_wp2_with (first | (go_at_call 35; refine (run_at W _ (by repeat (first | assumption | refine below_set ?_ (by first | assumption | exact Nat.le_refl _ | omega) _ | refine below_alloc ?_ _)) lo p v L _ h hsz _ (by first | exact HR.out | exact HR'.out)).mono ?_; simp only [optV]; rintro e w1 ⟨rfl, hb1, hz1, hc1⟩) | (go_at_call 47; refine (same_at W _ (by repeat (first | assumption | refine below_set ?_ (by first | assumption | exact Nat.le_refl _ | omega) _ | refine below_alloc ?_ _)) _ _ _ (by first | exact E.out | exact E'.out)).mono ?_; rintro e w2 ⟨rfl, hb3, hz3, hc3⟩; rw [World.size_alloc] at hc3 hz3; obtain ⟨hcc, hff⟩ := bcell hc3))
  go_ret2
  exact ⟨rfl, (by repeat (first | assumption | refine below_set ?_ (by first | assumption | exact Nat.le_refl _ | omega) _ | refine below_alloc ?_ _))⟩

theorem widen_any (W : World) (lo p : Nat) (v : Value) (L : List (Sp Int)) (a b : Int) (x : Int) (h : MapAt W lo p v L) (hsz : L.length < 4611686018427387904) (ha : 0 ≤ a) (hb : b ≤ 18446744073709551615) (ha2 : a ≤ 18446744073709551615) (hb2 : 0 ≤ b) :
    Calls Try.prog 54 #[.pointer (some ⟨p, 0, none⟩), .int .u64 a, .int .u64 b, .int .i64 x] W fun e W' => e = .returned (.tuple #[.int .u64 (widLo L a x), .int .u64 (widHi L b x)]) ∧ Below W.heap.size W W' := by
  have hg := h.good
  by_cases ha0 : 0 < a
  · by_cases hbm : b < 18446744073709551615
    · rcases side_of L (a - 1) x with hr | ⟨s, hr, e⟩ | ⟨s, hr, e⟩ <;> rcases side_of L (b + 1) x with hr' | ⟨s', hr', e'⟩ | ⟨s', hr', e'⟩
      · rw [widLo_none hr, widHi_none hr']; exact widen_NN W lo p v L a b x h hsz ha hb ha2 hb2 ha0 hbm hr hr'
      · rw [widLo_none hr, widHi_same hr' e']; exact widen_NS W lo p v L a b x h hsz ha hb ha2 hb2 ha0 hbm hr s' hr' e'
      · rw [widLo_none hr, widHi_other hr' e']; exact widen_NO W lo p v L a b x h hsz ha hb ha2 hb2 ha0 hbm hr s' hr' e'
      · rw [widLo_same hr e, widHi_none hr']; exact widen_SN W lo p v L a b x h hsz ha hb ha2 hb2 ha0 hbm s hr e hr'
      · rw [widLo_same hr e, widHi_same hr' e']; exact widen_SS W lo p v L a b x h hsz ha hb ha2 hb2 ha0 hbm s hr e s' hr' e'
      · rw [widLo_same hr e, widHi_other hr' e']; exact widen_SO W lo p v L a b x h hsz ha hb ha2 hb2 ha0 hbm s hr e s' hr' e'
      · rw [widLo_other hr e, widHi_none hr']; exact widen_ON W lo p v L a b x h hsz ha hb ha2 hb2 ha0 hbm s hr e hr'
      · rw [widLo_other hr e, widHi_same hr' e']; exact widen_OS W lo p v L a b x h hsz ha hb ha2 hb2 ha0 hbm s hr e s' hr' e'
      · rw [widLo_other hr e, widHi_other hr' e']; exact widen_OO W lo p v L a b x h hsz ha hb ha2 hb2 ha0 hbm s hr e s' hr' e'
    · obtain rfl : b = 18446744073709551615 := by omega
      rw [widHi_last hg]
      rcases side_of L (a - 1) x with hr | ⟨s, hr, e⟩ | ⟨s, hr, e⟩
      · rw [widLo_none hr]; exact widen_NZ W lo p v L a _ x h hsz ha hb ha2 hb2 ha0 hbm hr
      · rw [widLo_same hr e]; exact widen_SZ W lo p v L a _ x h hsz ha hb ha2 hb2 ha0 hbm s hr e
      · rw [widLo_other hr e]; exact widen_OZ W lo p v L a _ x h hsz ha hb ha2 hb2 ha0 hbm s hr e
  · obtain rfl : a = 0 := by omega
    rw [widLo_zero hg]
    by_cases hbm : b < 18446744073709551615
    · rcases side_of L (b + 1) x with hr' | ⟨s', hr', e'⟩ | ⟨s', hr', e'⟩
      · rw [widHi_none hr']; exact widen_ZN W lo p v L _ b x h hsz ha hb ha2 hb2 ha0 hbm hr'
      · rw [widHi_same hr' e']; exact widen_ZS W lo p v L _ b x h hsz ha hb ha2 hb2 ha0 hbm s' hr' e'
      · rw [widHi_other hr' e']; exact widen_ZO W lo p v L _ b x h hsz ha hb ha2 hb2 ha0 hbm s' hr' e'
    · obtain rfl : b = 18446744073709551615 := by omega
      rw [widHi_last hg]
      exact widen_ZZ W lo p v L _ _ x h hsz ha hb ha2 hb2 ha0 hbm
end Go.Proofs.Ytliiblaodhcjhab
