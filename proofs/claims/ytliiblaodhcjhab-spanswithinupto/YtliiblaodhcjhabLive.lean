import Derived.Test.YtliiblaodhcjhabSet
import Derived.Laws.StructEq
namespace Go.Proofs.Ytliiblaodhcjhab
open Go.RowKit
set_option linter.unusedVariables false

theorem turn_below {W0 W W' : World} {lo p : Nat} {v : Value} {L : List (Sp Int)} (hB : Below W0.heap.size W0 W) (h : MapAt W lo p v L) (hlo : W0.heap.size ≤ lo) (t : Turn W W' p v) : Below W0.heap.size W0 W' :=
  ⟨t.os.trans hB.os, t.tape.trans hB.tape, t.output.trans hB.output, Nat.le_trans hB.size t.size, fun k hk => (t.block k (Nat.lt_of_lt_of_le hk hB.size) (by have := h.low; omega) (fun e => by have := (h.own.lt k e.symm).1; omega)).trans (hB.block k hk)⟩

theorem set_at (W0 W : World) (hB : Below W0.heap.size W0 W) (lo p : Nat) (v : Value) (L : List (Sp Int)) (a b : Int) (x : Int) (h : MapAt W lo p v L) (hlo : W0.heap.size ≤ lo) (hsz : (L.length + 4) * 24 ≤ 140737488355328) (ha : 0 ≤ a) (hb : b ≤ 18446744073709551615) :
    Calls Try.prog 29 #[.pointer (some ⟨p, 0, none⟩), .int .u64 a, .int .u64 b, .int .i64 x] W fun e W' => e = .returned (.int .i64 (errC a b)) ∧ ∃ v', MapAt W' lo p v' (setR L a b x) ∧ Below W0.heap.size W0 W' := by
  refine (set_any W lo p v L a b x h hsz ha hb).mono ?_
  rintro e W' ⟨rfl, v', h1, h2, h3⟩
  exact ⟨rfl, v', h1, turn_below hB h hlo h2⟩

theorem clear_at (W0 W : World) (hB : Below W0.heap.size W0 W) (lo p : Nat) (v : Value) (L : List (Sp Int)) (a b : Int) (h : MapAt W lo p v L) (hlo : W0.heap.size ≤ lo) (hsz : (L.length + 4) * 24 ≤ 140737488355328) (ha : 0 ≤ a) (hb : b ≤ 18446744073709551615) :
    Calls Try.prog 18 #[.pointer (some ⟨p, 0, none⟩), .int .u64 a, .int .u64 b] W fun e W' => e = .returned (.int .i64 (errC a b)) ∧ ∃ v', MapAt W' lo p v' (clearR L a b) ∧ Below W0.heap.size W0 W' := by
  refine (clear_any W lo p v L a b h hsz ha hb).mono ?_
  rintro e W' ⟨rfl, v', h1, h2, h3⟩
  exact ⟨rfl, v', h1, turn_below hB h hlo h2⟩

theorem next_at (W0 W : World) (hB : Below W0.heap.size W0 W) (lo p : Nat) (v : Value) (L : List (Sp Int)) (k : Int) (h : MapAt W lo p v L) (hsz : L.length < 4611686018427387904) (o : Option (Sp Int)) (ho : next L k = o) :
    Calls Try.prog 30 #[.pointer (some ⟨p, 0, none⟩), .int .u64 k] W fun e W' => e = .returned (optV o) ∧ MapAt W' lo p v L ∧ Below W0.heap.size W0 W' ∧ Below W.heap.size W W' := by
  subst ho
  refine (next_any W lo p v L k h hsz).mono ?_
  rintro e W' ⟨rfl, hb⟩
  exact ⟨rfl, h.keep hb, below_go hB hb, hb⟩

theorem get_at (W0 W : World) (hB : Below W0.heap.size W0 W) (lo p : Nat) (v : Value) (L : List (Sp Int)) (k : Int) (h : MapAt W lo p v L) (hsz : L.length < 4611686018427387904) (o : Option Int) (ho : get L k = o) :
    Calls Try.prog 31 #[.pointer (some ⟨p, 0, none⟩), .int .u64 k] W fun e W' => e = .returned (getV o) ∧ MapAt W' lo p v L ∧ Below W0.heap.size W0 W' ∧ Below W.heap.size W W' := by
  subst ho
  refine (get_any W lo p v L k h hsz).mono ?_
  rintro e W' ⟨rfl, hb⟩
  exact ⟨rfl, h.keep hb, below_go hB hb, hb⟩

def live1 : List (Sp Int) := [⟨10, 19, 7⟩]
def live2 : List (Sp Int) := [⟨10, 19, 7⟩, ⟨30, 39, 7⟩]
def live3 : List (Sp Int) := [⟨10, 14, 7⟩, ⟨15, 34, 8⟩, ⟨35, 39, 7⟩]

theorem no_any (a : Int) (w : World) : Calls Try.prog 17 #[.int .i64 a] w fun e w' => e = .returned (.int .i64 a) ∧ w = w' := by
  go_enter Try.func17, Try.ntmps17
  go_wp2
  go_ret
  exact ⟨rfl, rfl⟩

/-- Two spans by ==. -/
theorem eql_span (a b c a' b' c' : Int) (w : World) : (binOp .eql 45 (.agg #[.int .u64 a, .int .u64 b, .int .i64 c]) (.agg #[.int .u64 a', .int .u64 b', .int .i64 c'])).run Try.prog w = .ok (.bool (a == a' && b == b' && c == c')) w := by
  have u3 := Try.underlying3
  have a3 := Try.isAgg3
  have z3 := Try.sizeOf3
  have u26 := Try.underlying23
  have a26 := Try.isAgg23
  have z26 := Try.sizeOf23
  have hS : Try.prog.underlying 45 = some (.struct (Try.prog.fieldsOf 45)) := by kernel_rfl
  have hp : Try.prog.stoodInHeld 45 = false := by kernel_rfl
  rw [run_eql_struct, show (10000 : Nat) = 9999 + 1 from rfl, run_equalIn_agg w 9999 45 _ _ hS hp]
  simp only [Program.fieldsOf, Try.underlying45]
  go_simp
  by_cases h1 : a = a' <;> by_cases h2 : b = b' <;> by_cases h3 : c = c' <;> simp [h1, h2, h3]

set_option maxHeartbeats 4000000 in
set_option maxRecDepth 100000 in
theorem live_any (W : World) : Calls Try.prog 8 #[] W fun e W' => e = .returned (.bool true) ∧ Below W.heap.size W W' := by
  have hB := Below.refl W.heap.size W
  have s1 : ∀ w v, Below W.heap.size W w → MapAt w W.heap.size W.heap.size v [] → Calls Try.prog 29 #[.pointer (some ⟨W.heap.size, 0, none⟩), .int .u64 10, .int .u64 19, .int .i64 7] w fun e W' => e = .returned (.int .i64 0) ∧ ∃ v', MapAt W' W.heap.size W.heap.size v' live1 ∧ Below W.heap.size W W' :=
    fun w v h1 h2 => set_at W w h1 _ _ v [] 10 19 7 h2 (Nat.le_refl _) (by decide) (by decide) (by decide)
  have s2 : ∀ w v, Below W.heap.size W w → MapAt w W.heap.size W.heap.size v live1 → Calls Try.prog 29 #[.pointer (some ⟨W.heap.size, 0, none⟩), .int .u64 30, .int .u64 39, .int .i64 7] w fun e W' => e = .returned (.int .i64 0) ∧ ∃ v', MapAt W' W.heap.size W.heap.size v' live2 ∧ Below W.heap.size W W' :=
    fun w v h1 h2 => set_at W w h1 _ _ v live1 30 39 7 h2 (Nat.le_refl _) (by decide) (by decide) (by decide)
  have s3 : ∀ w v, Below W.heap.size W w → MapAt w W.heap.size W.heap.size v live2 → Calls Try.prog 29 #[.pointer (some ⟨W.heap.size, 0, none⟩), .int .u64 15, .int .u64 34, .int .i64 8] w fun e W' => e = .returned (.int .i64 0) ∧ ∃ v', MapAt W' W.heap.size W.heap.size v' live3 ∧ Below W.heap.size W W' :=
    fun w v h1 h2 => set_at W w h1 _ _ v live2 15 34 8 h2 (Nat.le_refl _) (by decide) (by decide) (by decide)
  have c4 : ∀ w v, Below W.heap.size W w → MapAt w W.heap.size W.heap.size v live3 → Calls Try.prog 30 #[.pointer (some ⟨W.heap.size, 0, none⟩), .int .u64 20] w fun e W' => e = .returned (.tuple #[.agg #[.int .u64 15, .int .u64 34, .int .i64 8], .bool true]) ∧ MapAt W' W.heap.size W.heap.size v live3 ∧ Below W.heap.size W W' ∧ Below w.heap.size w W' :=
    fun w v h1 h2 => next_at W w h1 _ _ v live3 20 h2 (by decide) (some ⟨15, 34, 8⟩) rfl
  have c5 : ∀ w v, Below W.heap.size W w → MapAt w W.heap.size W.heap.size v live3 → Calls Try.prog 31 #[.pointer (some ⟨W.heap.size, 0, none⟩), .int .u64 35] w fun e W' => e = .returned (.tuple #[.int .i64 7, .bool true]) ∧ MapAt W' W.heap.size W.heap.size v live3 ∧ Below W.heap.size W W' ∧ Below w.heap.size w W' :=
    fun w v h1 h2 => get_at W w h1 _ _ v live3 35 h2 (by decide) (some 7) rfl
  have c6 : ∀ w v, MapAt w W.heap.size W.heap.size v live3 → Calls Try.prog 19 #[.pointer (some ⟨W.heap.size, 0, none⟩)] w fun e W' => e = .returned (.int .i64 3) ∧ w = W' :=
    fun w v h2 => len_any w _ _ v live3 h2
  have hM0 := MapAt.new W W.heap.size (Nat.le_refl _)
  have hB0 := below_alloc hB (.cells #[.slice none 0 0] 76)
  have hE : Try.prog.eqGuardType Try.prog.depth 45 = false := by kernel_rfl
  have hQ : ∀ w, (binOp .eql 45 (.agg #[.int .u64 15, .int .u64 34, .int .i64 8]) (.agg #[.int .u64 15, .int .u64 34, .int .i64 8])).run Try.prog w = .ok (.bool true) w := fun w => eql_span 15 34 8 15 34 8 w
  go_enter Try.func8, Try.ntmps8
  go_wp2_with (go_at_call 27; refine (new_any _).mono ?_; rintro e w' ⟨rfl, rfl⟩)
  refine (s1 _ _ hB0 hM0).mono ?_
  rintro e w1 ⟨rfl, v1, hM1, hB1⟩
  go_wp2_with (fail)
  refine (s2 _ _ hB1 hM1).mono ?_
  rintro e w2 ⟨rfl, v2, hM2, hB2⟩
  go_wp2_with (fail)
  refine (s3 _ _ hB2 hM2).mono ?_
  rintro e w3 ⟨rfl, v3, hM3, hB3⟩
  go_wp2_with (fail)
  refine (c4 _ _ hB3 hM3).mono ?_
  rintro e w4 ⟨rfl, hM4, hB4, _⟩
  go_wp2_with (fail)
  refine (c5 _ _ (below_alloc hB4 _) (hM4.keep ((Below.refl _ _).alloc (Nat.le_refl _) _))).mono ?_
  rintro e w5 ⟨rfl, hM5, hB5, hb5⟩
  rw [World.size_alloc] at hb5
  obtain ⟨hcc, hff⟩ := bcell hb5
  have r0 : w5.cell? ⟨w4.heap.size, 0, none⟩ = some (.int .u64 15) := by rw [hcc _ _ (Nat.lt_succ_self _)]; simp [go_sem]
  have r1 : w5.cell? ⟨w4.heap.size, 1, none⟩ = some (.int .u64 34) := by rw [hcc _ _ (Nat.lt_succ_self _)]; simp [go_sem]
  have r2 : w5.cell? ⟨w4.heap.size, 2, none⟩ = some (.int .i64 8) := by rw [hcc _ _ (Nat.lt_succ_self _)]; simp [go_sem]
  clear hcc hff
  go_wp2_with (first
    | (go_at_call 17; refine (no_any _ _).mono ?_; rintro e w6 ⟨rfl, rfl⟩)
    | (go_at_call 19; refine (c6 _ _ hM5).mono ?_; rintro e w6 ⟨rfl, rfl⟩))
  go_ret
  exact ⟨rfl, hB5⟩
end Go.Proofs.Ytliiblaodhcjhab
