import Derived.Test.YtliiblaodhcjhabMapB
import Derived.Defers
import Derived.Recover
import Derived.Laws.Pointers
namespace Go.Proofs.Ytliiblaodhcjhab
open Go.RowKit
set_option linter.unusedVariables false

theorem bcell {B : Nat} {W w1 : World} (hb : Below B W w1) : (∀ b o, b < B → w1.cell? ⟨b, o, none⟩ = W.cell? ⟨b, o, none⟩) ∧ (∀ b o, b < B → w1.frozen? ⟨b, o, none⟩ = W.frozen? ⟨b, o, none⟩) :=
  ⟨fun b o h => hb.cell (p := ⟨b, o, none⟩) h, fun b o h => hb.frozen (p := ⟨b, o, none⟩) h⟩

theorem same_idle (p : Addr) (w : World) :
    CallsD Try.prog 60 #[.pointer (some p)] .returning w fun e u' w' => e = .returned (.tuple #[]) ∧ u' = .returning ∧ w' = w := by
  refine callsD_of_wpS Try.func60 rfl fun c₀ cs hu => ?_
  apply wpS_seq
  apply wpS_region
  simp [wpOpsS, go_sem, recoverD, hu, Try.ntmps60, Exit.thenS]
  refine wpS_cond (t := false) (by simp [Act.eval, Array.replicate]) ?_
  simp only [Bool.false_eq_true, if_false]
  refine wpS_of_wp (wp_skip ?_)
  cases c₀
  simp_all [bodyPostS, results, Try.results60]

set_option maxHeartbeats 1000000 in
theorem same_any (a b : Int) (w : World) :
    Calls Try.prog 47 #[.int .i64 a, .int .i64 b] w fun e w' => e = .returned (.bool (decide (a = b))) ∧ Below w.heap.size w w' := by
  have hmf : ∀ (fn : Fn) (first cap : Array Value) (w : World), (Instr.makeFunc fn first cap).run Try.prog w = .ok (.func fn first cap) w := fun _ _ _ _ => rfl
  go_enter_defers Try.func47, Try.ntmps47
  go_wp2
  refine leaves_cons (f := 60) (args := #[.pointer (some ⟨w.heap.size, 0, none⟩)]) (by simp) (by simp [go_sem]) ?_
  refine (same_idle ⟨w.heap.size, 0, none⟩ _).mono ?_
  rintro e u' w'' ⟨rfl, rfl, rfl⟩
  simp [Leaves, settle, results, Try.results47, go_sem]
  exact ⟨by rw [Bool.eq_iff_iff]; simp, (Below.refl _ w).alloc (Nat.le_refl _) _⟩

/-- What Run and Next tell. -/
def spanV (s : Sp Int) : Value := .agg #[.int .u64 s.lo, .int .u64 s.hi, .int .i64 s.val]
def optV : Option (Sp Int) → Value
  | some s => .tuple #[.agg #[.int .u64 s.lo, .int .u64 s.hi, .int .i64 s.val], .bool true]
  | none => .tuple #[(.agg #[.int .u64 0, .int .u64 0, .int .i64 0]), .bool false]

set_option maxHeartbeats 4000000 in
set_option maxRecDepth 100000 in
theorem next_none_any (W : World) (lo p : Nat) (v : Value) (L : List (Sp Int)) (k : Int) (h : MapAt W lo p v L) (hsz : L.length < 4611686018427387904) (hn : next L k = none) :
    Calls Try.prog 30 #[.pointer (some ⟨p, 0, none⟩), .int .u64 k] W fun e W' => e = .returned (.tuple #[(.agg #[.int .u64 0, .int .u64 0, .int .i64 0]), .bool false]) ∧ Below W.heap.size W W' := by
  have hei : ei L k = L.length := by
    have h1 := ei_next h.good k
    rw [hn] at h1
    have h2 := ei_le L k
    have h3 := List.getElem?_eq_none_iff.1 h1
    omega
  obtain ⟨a, cap, hv⟩ : ∃ a cap, v = .slice a L.length cap := by
    rcases h.own.view with ⟨rfl, rfl⟩ | ⟨g, cap, rfl, _⟩
    · exact ⟨_, _, rfl⟩
    · exact ⟨_, _, rfl⟩
  subst hv
  have hB0 : ∀ o, Below W.heap.size W (W.alloc o) := fun o => (Below.refl _ W).alloc (Nat.le_refl _) _
  have hC := ends_any (W.alloc (.cells #[.int .u64 0, .int .u64 0, .int .i64 0] 45)) lo p _ L k (h.keep (hB0 _)) hsz
  rw [hei] at hC
  have hcW : W.cell? ⟨p, 0, none⟩ = some (.slice a L.length cap) := h.cell
  have hlt := h.lt
  go_enter Try.func30, Try.ntmps30
  go_wp2_with (go_at_call 40; refine hC.mono ?_; rintro e w1 ⟨rfl, hb⟩; have hb' := hb; rw [World.size_alloc] at hb'; obtain ⟨hc, hf⟩ := bcell hb'; have hz : W.heap.size < w1.heap.size := (by have := hb.size; simp at this; omega))
  refine bodyPost_ret (v := .tuple #[(.agg #[.int .u64 0, .int .u64 0, .int .i64 0]), .bool false]) (by simp [results, Try.results30, go_sem, hc]) rfl ⟨rfl, ?_⟩
  have hb2 : Below W.heap.size W w1 := (hB0 _).trans (hb.mono (by simp))
  have hset : ∀ (q : Nat) (u : Value) (w2 : World), Below W.heap.size W w2 → Below W.heap.size W (w2.setCell ⟨W.heap.size, q, none⟩ u) := fun q u w2 h2 => h2.setCell (Nat.le_refl _) u
  repeat (first | exact hb2 | refine hset _ _ _ ?_)

set_option maxHeartbeats 4000000 in
set_option maxRecDepth 100000 in
theorem next_some_any (W : World) (lo p : Nat) (v : Value) (L : List (Sp Int)) (k : Int) (h : MapAt W lo p v L) (hsz : L.length < 4611686018427387904) (s : Sp Int) (hn : next L k = some s) :
    Calls Try.prog 30 #[.pointer (some ⟨p, 0, none⟩), .int .u64 k] W fun e W' => e = .returned (.tuple #[.agg #[.int .u64 s.lo, .int .u64 s.hi, .int .i64 s.val], .bool true]) ∧ Below W.heap.size W W' := by
  have h1 := ei_next h.good k
  rw [hn] at h1
  have hlt1 : ei L k < L.length := (List.getElem?_eq_some_iff.1 h1).1
  rcases h.own.view with ⟨_, rfl⟩ | ⟨g, cap, rfl, hg1, hg2, hcap, hcap2, hcell⟩
  · simp at hlt1
  have hB0 : ∀ o, Below W.heap.size W (W.alloc o) := fun o => (Below.refl _ W).alloc (Nat.le_refl _) _
  have hC := ends_any (W.alloc (.cells #[.int .u64 0, .int .u64 0, .int .i64 0] 45)) lo p _ L k (h.keep (hB0 _)) hsz
  generalize ei L k = c at h1 hlt1 hC
  have hcW : W.cell? ⟨p, 0, none⟩ = some (.slice (some ⟨g, 0, none⟩) L.length cap) := h.cell
  have hlt := h.lt
  have q0 := hcell c s h1 0 (by omega)
  have q1 := hcell c s h1 1 (by omega)
  have q2 := hcell c s h1 2 (by omega)
  simp only [encS, Nat.add_zero, List.getElem?_cons_zero, List.getElem?_cons_succ] at q0 q1 q2
  have hne : ¬ ((c : Int) = (L.length : Int)) := by omega
  have hltz : (c : Int) < (L.length : Int) := by omega
  clear hcell h1
  go_enter Try.func30, Try.ntmps30
  go_wp2_with (go_at_call 40; refine hC.mono ?_; rintro e w1 ⟨rfl, hb⟩; have hb' := hb; rw [World.size_alloc] at hb'; obtain ⟨hc, hf⟩ := bcell hb'; have hz : W.heap.size < w1.heap.size := (by have := hb.size; simp at this; omega))
  refine bodyPost_ret (v := .tuple #[.agg #[.int .u64 s.lo, .int .u64 s.hi, .int .i64 s.val], .bool true]) (by simp [results, Try.results30, go_sem, hc]) rfl ⟨rfl, ?_⟩
  have hb2 : Below W.heap.size W w1 := (hB0 _).trans (hb.mono (by simp))
  have hset : ∀ (q : Nat) (u : Value) (w2 : World), Below W.heap.size W w2 → Below W.heap.size W (w2.setCell ⟨W.heap.size, q, none⟩ u) := fun q u w2 h2 => h2.setCell (Nat.le_refl _) u
  repeat (first | exact hb2 | refine hset _ _ _ ?_)

theorem next_any (W : World) (lo p : Nat) (v : Value) (L : List (Sp Int)) (k : Int) (h : MapAt W lo p v L) (hsz : L.length < 4611686018427387904) :
    Calls Try.prog 30 #[.pointer (some ⟨p, 0, none⟩), .int .u64 k] W fun e W' => e = .returned (optV (next L k)) ∧ Below W.heap.size W W' := by
  cases hn : next L k with
  | none => exact next_none_any W lo p v L k h hsz hn
  | some s => exact next_some_any W lo p v L k h hsz s hn

set_option maxHeartbeats 4000000 in
set_option maxRecDepth 100000 in
theorem run_any (W : World) (lo p : Nat) (v : Value) (L : List (Sp Int)) (k : Int) (h : MapAt W lo p v L) (hsz : L.length < 4611686018427387904) :
    Calls Try.prog 35 #[.pointer (some ⟨p, 0, none⟩), .int .u64 k] W fun e W' => e = .returned (optV (run L k)) ∧ Below W.heap.size W W' := by
  have hB0 : ∀ o, Below W.heap.size W (W.alloc o) := fun o => (Below.refl _ W).alloc (Nat.le_refl _) _
  have hC := next_any (W.alloc (.cells #[.int .u64 0, .int .u64 0, .int .i64 0] 45)) lo p _ L k (h.keep (hB0 _)) hsz
  have hset : ∀ (B : Nat) (a : Addr) (u : Value) (w2 : World), B ≤ a.block → Below B W w2 → Below B W (w2.setCell a u) := fun B a u w2 ha h2 => h2.setCell ha u
  cases hn : next L k with
  | none =>
    have hr : run L k = none := by rw [run, hn]; rfl
    rw [hr]
    rw [hn] at hC
    simp only [optV] at hC ⊢
    go_enter Try.func35, Try.ntmps35
    go_wp2_with (go_at_call 30; refine hC.mono ?_; rintro e w1 ⟨rfl, hb⟩; have hb' := hb; rw [World.size_alloc] at hb'; obtain ⟨hc, hf⟩ := bcell hb'; have hz : W.heap.size < w1.heap.size := (by have := hb.size; simp at this; omega))
    refine bodyPost_ret (v := .tuple #[(.agg #[.int .u64 0, .int .u64 0, .int .i64 0]), .bool false]) (by simp [results, Try.results35, go_sem, hc, hz]) rfl ⟨rfl, ?_⟩
    have hb2 : Below W.heap.size W w1 := (hB0 _).trans (hb.mono (by simp))
    repeat (first | exact hb2 | refine hset _ _ _ _ (by first | exact Nat.le_refl _ | (simp; done) | (simp; omega)) ?_ | refine Below.alloc ?_ (by first | exact Nat.le_refl _ | (simp; done) | (simp; omega)) _)
  | some s =>
    rw [hn] at hC
    by_cases hlo : s.lo ≤ k
    · have hr : run L k = some s := by rw [run, hn]; simp [Option.filter, hlo]
      rw [hr]
      simp only [optV] at hC ⊢
      have hlo' : ¬ (k < s.lo) := by omega
      go_enter Try.func35, Try.ntmps35
      go_wp2_with (go_at_call 30; refine hC.mono ?_; rintro e w1 ⟨rfl, hb⟩; have hb' := hb; rw [World.size_alloc] at hb'; obtain ⟨hc, hf⟩ := bcell hb'; have hz : W.heap.size < w1.heap.size := (by have := hb.size; simp at this; omega))
      refine bodyPost_ret (v := .tuple #[.agg #[.int .u64 s.lo, .int .u64 s.hi, .int .i64 s.val], .bool true]) (by simp [results, Try.results35, go_sem, hc, hz]) rfl ⟨rfl, ?_⟩
      have hb2 : Below W.heap.size W w1 := (hB0 _).trans (hb.mono (by simp))
      repeat (first | exact hb2 | refine hset _ _ _ _ (by first | exact Nat.le_refl _ | (simp; done) | (simp; omega)) ?_ | refine Below.alloc ?_ (by first | exact Nat.le_refl _ | (simp; done) | (simp; omega)) _)
    · have hr : run L k = none := by rw [run, hn]; simp [Option.filter, hlo]
      rw [hr]
      simp only [optV] at hC ⊢
      have hlo' : k < s.lo := by omega
      go_enter Try.func35, Try.ntmps35
      go_wp2_with (go_at_call 30; refine hC.mono ?_; rintro e w1 ⟨rfl, hb⟩; have hb' := hb; rw [World.size_alloc] at hb'; obtain ⟨hc, hf⟩ := bcell hb'; have hz : W.heap.size < w1.heap.size := (by have := hb.size; simp at this; omega))
      refine bodyPost_ret (v := .tuple #[(.agg #[.int .u64 0, .int .u64 0, .int .i64 0]), .bool false]) (by simp [results, Try.results35, go_sem, hc, hz]) rfl ⟨rfl, ?_⟩
      have hb2 : Below W.heap.size W w1 := (hB0 _).trans (hb.mono (by simp))
      repeat (first | exact hb2 | refine hset _ _ _ _ (by first | exact Nat.le_refl _ | (simp; done) | (simp; omega)) ?_ | refine Below.alloc ?_ (by first | exact Nat.le_refl _ | (simp; done) | (simp; omega)) _)
end Go.Proofs.Ytliiblaodhcjhab
