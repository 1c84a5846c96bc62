import Derived.Test.YtmcloaonpkfibaaDoorOf
namespace Go.Proofs.YtmcloaonpkfibaaDoor
open Go.RowKit
set_option linter.unusedVariables false
set_option linter.unusedSimpArgs false
set_option maxRecDepth 100000 in
set_option maxHeartbeats 4000000 in
theorem rem_6 (p q : Int) (b n2 : Nat) (T : Int) (w : World) (a1 : bits .and .u32 ((b : Int) / 2) 7 = 6) (s : Nat) (a2 : bits .and .u32 (b : Int) 1 = (s : Int))
    (H1 : (∀ w, Calls Tryd.prog 29 #[.int .u32 p, .int .u32 12] w fun e w' => e = .returned (.int .i64 T) ∧ w = w')) :
    Calls Tryd.prog 19 #[.int .u32 p, .int .u32 q, .int .u32 b] w fun e w' => e = .returned (.agg #[.bool false, .int .i64 ( mZ).t, .int .i64 ( mZ).i, .int .i64 ( mZ).o, .int .i64 ( mZ).s]) ∧ Below w.heap.size w w' := by
  have G1 : Hid ((∀ w, Calls Tryd.prog 29 #[.int .u32 p, .int .u32 12] w fun e w' => e = .returned (.int .i64 T) ∧ w = w')) := H1
  clear H1
  unfold mZ
  go_enter Tryd.func19, Tryd.ntmps19
  go_wp2_with (first | (go_at_call 29; refine (G1.out _).mono ?_; rintro e w' ⟨rfl, rfl⟩) | go_in)
  refine bodyPost_ret (v := .agg #[.bool false, .int .i64 0, .int .i64 0, .int .i64 0, .int .i64 0]) (by simp [results, Tryd.results19, go_sem]) rfl ⟨rfl, (by (repeat (first | apply below_drew | refine Below.setCell ?_ (by simp) _ | refine Below.alloc ?_ (by simp) _)); exact Below.refl _ _)⟩
set_option maxRecDepth 100000 in
set_option maxHeartbeats 4000000 in
theorem rem_3 (p q : Int) (b n n2 s : Nat) (w : World) (a1 : bits .and .u32 ((b : Int) / 2) 7 = (n : Int)) (hn : ((n : Int) == 6) = false) (a2 : bits .and .u32 (b : Int) 1 = (s : Int)) (e2 : IntKind.u32.wrap (2 * (n : Int)) = (n2 : Int))
    (H1 : (∀ w, Calls Tryd.prog 29 #[.int .u32 p, .int .u32 n2] w fun e w' => e = .returned (.int .i64 3) ∧ w = w')) :
    Calls Tryd.prog 19 #[.int .u32 p, .int .u32 q, .int .u32 b] w fun e w' => e = .returned (.agg #[.bool false, .int .i64 ( mZ).t, .int .i64 ( mZ).i, .int .i64 ( mZ).o, .int .i64 ( mZ).s]) ∧ Below w.heap.size w w' := by
  have G1 : Hid ((∀ w, Calls Tryd.prog 29 #[.int .u32 p, .int .u32 n2] w fun e w' => e = .returned (.int .i64 3) ∧ w = w')) := H1
  clear H1
  unfold mZ
  go_enter Tryd.func19, Tryd.ntmps19
  go_wp2_with (first | (go_at_call 29; refine (G1.out _).mono ?_; rintro e w' ⟨rfl, rfl⟩) | go_in)
  refine bodyPost_ret (v := .agg #[.bool false, .int .i64 0, .int .i64 0, .int .i64 0, .int .i64 0]) (by simp [results, Tryd.results19, go_sem]) rfl ⟨rfl, (by (repeat (first | apply below_drew | refine Below.setCell ?_ (by simp) _ | refine Below.alloc ?_ (by simp) _)); exact Below.refl _ _)⟩
set_option maxRecDepth 100000 in
set_option maxHeartbeats 4000000 in
theorem rem_0 (p q : Int) (b n n2 s : Nat) (w : World) (a1 : bits .and .u32 ((b : Int) / 2) 7 = (n : Int)) (hn : ((n : Int) == 6) = false) (a2 : bits .and .u32 (b : Int) 1 = (s : Int)) (e2 : IntKind.u32.wrap (2 * (n : Int)) = (n2 : Int))
    (H1 : (∀ w, Calls Tryd.prog 29 #[.int .u32 p, .int .u32 n2] w fun e w' => e = .returned (.int .i64 0) ∧ w = w')) :
    Calls Tryd.prog 19 #[.int .u32 p, .int .u32 q, .int .u32 b] w fun e w' => e = .returned (.agg #[.bool true, .int .i64 ( ⟨0, 0, 0, 2⟩ : Mem).t, .int .i64 ( ⟨0, 0, 0, 2⟩ : Mem).i, .int .i64 ( ⟨0, 0, 0, 2⟩ : Mem).o, .int .i64 ( ⟨0, 0, 0, 2⟩ : Mem).s]) ∧ Below w.heap.size w w' := by
  have G1 : Hid ((∀ w, Calls Tryd.prog 29 #[.int .u32 p, .int .u32 n2] w fun e w' => e = .returned (.int .i64 0) ∧ w = w')) := H1
  clear H1
  go_enter Tryd.func19, Tryd.ntmps19
  go_wp2_with (first | (go_at_call 29; refine (G1.out _).mono ?_; rintro e w' ⟨rfl, rfl⟩) | go_in)
  refine bodyPost_ret (v := .agg #[.bool true, .int .i64 ( ⟨0, 0, 0, 2⟩ : Mem).t, .int .i64 ( ⟨0, 0, 0, 2⟩ : Mem).i, .int .i64 ( ⟨0, 0, 0, 2⟩ : Mem).o, .int .i64 ( ⟨0, 0, 0, 2⟩ : Mem).s]) (by simp [results, Tryd.results19, go_sem]) rfl ⟨rfl, (by (repeat (first | apply below_drew | refine Below.setCell ?_ (by simp) _ | refine Below.alloc ?_ (by simp) _)); exact Below.refl _ _)⟩
set_option maxRecDepth 100000 in
set_option maxHeartbeats 4000000 in
theorem rem_1 (p q : Int) (b n n2 s k : Nat) (S : Int) (w : World) (a1 : bits .and .u32 ((b : Int) / 2) 7 = (n : Int)) (hn : ((n : Int) == 6) = false) (a2 : bits .and .u32 (b : Int) 1 = (s : Int)) (e2 : IntKind.u32.wrap (2 * (n : Int)) = (n2 : Int)) (e3 : IntKind.u32.wrap (16 + (s : Int)) = (k : Int))
    (H1 : (∀ w, Calls Tryd.prog 29 #[.int .u32 p, .int .u32 n2] w fun e w' => e = .returned (.int .i64 1) ∧ w = w')) (H2 : (∀ w, Calls Tryd.prog 30 #[.int .u32 p, .int .u32 n, .int .u32 k] w fun e w' => e = .returned (.int .i64 S) ∧ w = w')) :
    Calls Tryd.prog 19 #[.int .u32 p, .int .u32 q, .int .u32 b] w fun e w' => e = .returned (.agg #[.bool true, .int .i64 ( ⟨1, 0, 0, S⟩ : Mem).t, .int .i64 ( ⟨1, 0, 0, S⟩ : Mem).i, .int .i64 ( ⟨1, 0, 0, S⟩ : Mem).o, .int .i64 ( ⟨1, 0, 0, S⟩ : Mem).s]) ∧ Below w.heap.size w w' := by
  have G1 : Hid ((∀ w, Calls Tryd.prog 29 #[.int .u32 p, .int .u32 n2] w fun e w' => e = .returned (.int .i64 1) ∧ w = w')) := H1
  have G2 : Hid ((∀ w, Calls Tryd.prog 30 #[.int .u32 p, .int .u32 n, .int .u32 k] w fun e w' => e = .returned (.int .i64 S) ∧ w = w')) := H2
  clear H1 H2
  go_enter Tryd.func19, Tryd.ntmps19
  go_wp2_with (first | (go_at_call 29; refine (G1.out _).mono ?_; rintro e w' ⟨rfl, rfl⟩) | (go_at_call 30; refine (G2.out _).mono ?_; rintro e w' ⟨rfl, rfl⟩) | go_in)
  refine bodyPost_ret (v := .agg #[.bool true, .int .i64 ( ⟨1, 0, 0, S⟩ : Mem).t, .int .i64 ( ⟨1, 0, 0, S⟩ : Mem).i, .int .i64 ( ⟨1, 0, 0, S⟩ : Mem).o, .int .i64 ( ⟨1, 0, 0, S⟩ : Mem).s]) (by simp [results, Tryd.results19, go_sem]) rfl ⟨rfl, (by (repeat (first | apply below_drew | refine Below.setCell ?_ (by simp) _ | refine Below.alloc ?_ (by simp) _)); exact Below.refl _ _)⟩
set_option maxRecDepth 100000 in
set_option maxHeartbeats 4000000 in
theorem rem_2 (p q : Int) (b n n2 n16 s k : Nat) (S I O : Int) (w : World) (a1 : bits .and .u32 ((b : Int) / 2) 7 = (n : Int)) (hn : ((n : Int) == 6) = false) (a2 : bits .and .u32 (b : Int) 1 = (s : Int)) (e2 : IntKind.u32.wrap (2 * (n : Int)) = (n2 : Int)) (e3 : IntKind.u32.wrap (18 + (s : Int)) = (k : Int)) (e4 : IntKind.u32.wrap ((n2 : Int) + 16) = (n16 : Int))
    (H1 : (∀ w, Calls Tryd.prog 29 #[.int .u32 p, .int .u32 n2] w fun e w' => e = .returned (.int .i64 2) ∧ w = w')) (H2 : (∀ w, Calls Tryd.prog 30 #[.int .u32 p, .int .u32 n, .int .u32 k] w fun e w' => e = .returned (.int .i64 S) ∧ w = w')) (H3 : (∀ w, Calls Tryd.prog 29 #[.int .u32 q, .int .u32 n2] w fun e w' => e = .returned (.int .i64 I) ∧ w = w')) (H4 : (∀ w, Calls Tryd.prog 29 #[.int .u32 q, .int .u32 n16] w fun e w' => e = .returned (.int .i64 O) ∧ w = w')) :
    Calls Tryd.prog 19 #[.int .u32 p, .int .u32 q, .int .u32 b] w fun e w' => e = .returned (.agg #[.bool true, .int .i64 ( ⟨2, I, O, S⟩ : Mem).t, .int .i64 ( ⟨2, I, O, S⟩ : Mem).i, .int .i64 ( ⟨2, I, O, S⟩ : Mem).o, .int .i64 ( ⟨2, I, O, S⟩ : Mem).s]) ∧ Below w.heap.size w w' := by
  have G1 : Hid ((∀ w, Calls Tryd.prog 29 #[.int .u32 p, .int .u32 n2] w fun e w' => e = .returned (.int .i64 2) ∧ w = w')) := H1
  have G2 : Hid ((∀ w, Calls Tryd.prog 30 #[.int .u32 p, .int .u32 n, .int .u32 k] w fun e w' => e = .returned (.int .i64 S) ∧ w = w')) := H2
  have G3 : Hid ((∀ w, Calls Tryd.prog 29 #[.int .u32 q, .int .u32 n2] w fun e w' => e = .returned (.int .i64 I) ∧ w = w')) := H3
  have G4 : Hid ((∀ w, Calls Tryd.prog 29 #[.int .u32 q, .int .u32 n16] w fun e w' => e = .returned (.int .i64 O) ∧ w = w')) := H4
  clear H1 H2 H3 H4
  go_enter Tryd.func19, Tryd.ntmps19
  go_wp2_with (first | (go_at_call 29; with_reducible refine (G1.out _).mono ?_; rintro e w' ⟨rfl, rfl⟩) | (go_at_call 29; with_reducible refine (G3.out _).mono ?_; rintro e w' ⟨rfl, rfl⟩) | (go_at_call 29; with_reducible refine (G4.out _).mono ?_; rintro e w' ⟨rfl, rfl⟩) | (go_at_call 30; refine (G2.out _).mono ?_; rintro e w' ⟨rfl, rfl⟩) | go_in)
  refine bodyPost_ret (v := .agg #[.bool true, .int .i64 ( ⟨2, I, O, S⟩ : Mem).t, .int .i64 ( ⟨2, I, O, S⟩ : Mem).i, .int .i64 ( ⟨2, I, O, S⟩ : Mem).o, .int .i64 ( ⟨2, I, O, S⟩ : Mem).s]) (by simp [results, Tryd.results19, go_sem]) rfl ⟨rfl, (by (repeat (first | apply below_drew | refine Below.setCell ?_ (by simp) _ | refine Below.alloc ?_ (by simp) _)); exact Below.refl _ _)⟩
theorem rem_any (p q : Int) (b : Nat) (w : World) (hp : 0 ≤ p ∧ p < 4294967296) (hq : 0 ≤ q ∧ q < 4294967296) (hb : b < 64) :
    Calls Tryd.prog 19 #[.int .u32 p, .int .u32 q, .int .u32 b] w fun e w' => ∃ m, e = .returned (.agg #[.bool (decide ((rM p q (b / 2 % 8) (b % 2)).1 = 0)), .int .i64 ( m).t, .int .i64 ( m).i, .int .i64 ( m).o, .int .i64 ( m).s]) ∧ ((rM p q (b / 2 % 8) (b % 2)).1 = 0 → m = (rM p q (b / 2 % 8) (b % 2)).2) ∧ Below w.heap.size w w' := by
  have a1 : bits .and .u32 ((b : Int) / 2) 7 = ((b / 2 % 8 : Nat) : Int) := by rw [and7 _ (by omega)]; omega
  have a2 : bits .and .u32 (b : Int) 1 = ((b % 2 : Nat) : Int) := by rw [and1 _ (by omega)]; omega
  generalize hn : b / 2 % 8 = n at *
  generalize hs : b % 2 = s at *
  have ln : n < 8 := by omega
  have ls : s < 2 := by omega
  have P1 : (∀ w, Calls Tryd.prog 29 #[.int .u32 p, .int .u32 (2 * n : Nat)] w fun e w' => e = .returned (.int .i64 (pr p (2 * n))) ∧ w = w') := fun w => pair_any p _ w hp (by omega)
  have e2 : IntKind.u32.wrap (2 * (n : Int)) = ((2 * n : Nat) : Int) := by rw [IntKind.wrap_u32]; omega
  have lo := pr_lo p (2 * n)
  have hi := pr_hi p (2 * n)
  unfold rM
  by_cases h6 : n = 6
  · subst h6
    rw [if_pos (.inl rfl)]
    exact (rem_6 p q b 12 _ w a1 s a2 P1).mono fun e w' ⟨he, hb⟩ => ⟨_, he, fun h => absurd h (by decide), hb⟩
  · have n6 : ((n : Int) == 6) = false := by simp; omega
    by_cases h3 : pr p (2 * n) = 3
    · rw [if_pos (.inr h3)]
      rw [h3] at P1
      exact (rem_3 p q b n _ s w a1 n6 a2 e2 P1).mono fun e w' ⟨he, hb⟩ => ⟨_, he, fun h => absurd h (by decide), hb⟩
    · rw [if_neg (by omega)]
      by_cases h0 : pr p (2 * n) = 0
      · rw [if_pos h0]
        rw [h0] at P1
        exact (rem_0 p q b n _ s w a1 n6 a2 e2 P1).mono fun e w' ⟨he, hb⟩ => ⟨_, he, fun _ => rfl, hb⟩
      · rw [if_neg h0]
        by_cases h1 : pr p (2 * n) = 1
        · rw [if_pos h1]
          rw [h1] at P1
          exact (rem_1 p q b n _ s (16 + s) _ w a1 n6 a2 e2 (by rw [IntKind.wrap_u32]; omega) P1 (fun w => sharing_any p n (16 + s) w hp ln (by omega))).mono fun e w' ⟨he, hb⟩ => ⟨_, he, fun _ => rfl, hb⟩
        · rw [if_neg h1]
          rw [show pr p (2 * n) = 2 by omega] at P1
          exact (rem_2 p q b n _ (2 * n + 16) s (18 + s) _ _ _ w a1 n6 a2 e2 (by rw [IntKind.wrap_u32]; omega) (by rw [IntKind.wrap_u32]; omega) P1 (fun w => sharing_any p n (18 + s) w hp ln (by omega)) (fun w => pair_any q _ w hq (by omega)) (fun w => pair_any q _ w hq (by omega))).mono fun e w' ⟨he, hb⟩ => ⟨_, he, fun _ => rfl, hb⟩
set_option maxRecDepth 100000 in
set_option maxHeartbeats 4000000 in
theorem of_big (tre : Bool) (p q b : Int) (w : World) (hb : 64 ≤ b) :
    Calls Tryd.prog 13 #[.bool tre, .int .u32 p, .int .u32 q, .int .u32 b] w fun e w' => e = .returned (.tuple #[.agg #[.int .i64 mZ.t, .int .i64 mZ.i, .int .i64 mZ.o, .int .i64 mZ.s], .int .i64 60]) ∧ Below w.heap.size w w' := by
  unfold mZ
  go_enter Tryd.func13, Tryd.ntmps13
  go_wp2
  refine bodyPost_ret (v := .tuple #[.agg #[.int .i64 0, .int .i64 0, .int .i64 0, .int .i64 0], .int .i64 60]) (by simp [results, Tryd.results13, go_sem]) rfl ⟨rfl, (by (repeat (first | apply below_drew | refine Below.setCell ?_ (by simp) _ | refine Below.alloc ?_ (by simp) _)); exact Below.refl _ _)⟩
set_option maxRecDepth 100000 in
set_option maxHeartbeats 4000000 in
theorem of_tre (p q : Int) (b : Nat) (g : Bool) (M : Mem) (w : World) (hb : b < 64)
    (H : ∀ w, Calls Tryd.prog 19 #[.int .u32 p, .int .u32 q, .int .u32 b] w fun e w' => ∃ m, e = .returned (.agg #[.bool g, .int .i64 ( m).t, .int .i64 ( m).i, .int .i64 ( m).o, .int .i64 ( m).s]) ∧ (g = true → m = M) ∧ Below w.heap.size w w') :
    Calls Tryd.prog 13 #[.bool true, .int .u32 p, .int .u32 q, .int .u32 b] w fun e w' => e = .returned (.tuple #[.agg #[.int .i64 (cond g M mZ).t, .int .i64 (cond g M mZ).i, .int .i64 (cond g M mZ).o, .int .i64 (cond g M mZ).s], .int .i64 (cond g 0 61)]) ∧ Below w.heap.size w w' := by
  have G : Hid (∀ w, Calls Tryd.prog 19 #[.int .u32 p, .int .u32 q, .int .u32 b] w fun e w' => ∃ m, e = .returned (.agg #[.bool g, .int .i64 ( m).t, .int .i64 ( m).i, .int .i64 ( m).o, .int .i64 ( m).s]) ∧ (g = true → m = M) ∧ Below w.heap.size w w') := H
  clear H
  have h64 : (b : Int) < 64 := by omega
  have hN0 := (Bl.new w 24 [.int .i64 0, .int .i64 0, .int .i64 0, .int .i64 0]).below (below_new _ (.cells #[.bool false, .int .i64 0, .int .i64 0, .int .i64 0, .int .i64 0] 51))
  have hN1 := Bl.new (w.alloc (.cells #[.int .i64 0, .int .i64 0, .int .i64 0, .int .i64 0] 24)) 51 [.bool false, .int .i64 0, .int .i64 0, .int .i64 0, .int .i64 0]
  rw [show (w.alloc (.cells #[.int .i64 0, .int .i64 0, .int .i64 0, .int .i64 0] 24)).heap.size = w.heap.size + 1 by simp] at hN1
  unfold mZ
  cases g
  · simp only [cond]
    go_enter Tryd.func13, Tryd.ntmps13
    go_wp2_with (first | (go_at_call 19; refine (G.out _).mono ?_; rintro e w1 ⟨m, rfl, hm, hb⟩; have hc0 := (hN0.below hb).cell; have hc1 := (hN1.below hb).cell; have hf0 := (hN0.below hb).frozen; have hf1 := (hN1.below hb).frozen; have hl := (hN1.below hb).lt; have HB : Hid (Below w.heap.size w w1) := Below.one (Below.one hb)) | go_in)
    refine bodyPost_ret (v := .tuple #[.agg #[.int .i64 0, .int .i64 0, .int .i64 0, .int .i64 0], .int .i64 61]) (by simp [results, Tryd.results13, go_sem, hc0, hc1, hf0, hf1]) rfl ⟨rfl, (by (repeat (with_reducible refine Below.setCell ?_ (by simp) _)); exact HB.out)⟩
  · simp only [cond]
    go_enter Tryd.func13, Tryd.ntmps13
    go_wp2_with (first | (go_at_call 19; refine (G.out _).mono ?_; rintro e w1 ⟨m, rfl, hm, hb⟩; have hc0 := (hN0.below hb).cell; have hc1 := (hN1.below hb).cell; have hf0 := (hN0.below hb).frozen; have hf1 := (hN1.below hb).frozen; have hl := (hN1.below hb).lt; have HB : Hid (Below w.heap.size w w1) := Below.one (Below.one hb)) | go_in)
    refine bodyPost_ret (v := .tuple #[.agg #[.int .i64 M.t, .int .i64 M.i, .int .i64 M.o, .int .i64 M.s], .int .i64 0]) (by simp [results, Tryd.results13, go_sem, hc0, hc1, hf0, hf1, hm trivial]) rfl ⟨rfl, (by (repeat (with_reducible refine Below.setCell ?_ (by simp) _)); exact HB.out)⟩
set_option maxRecDepth 100000 in
set_option maxHeartbeats 4000000 in
theorem of_plain (p q : Int) (b : Nat) (g : Bool) (M : Mem) (w : World) (hb : b < 64) (hT : TP w)
    (H : ∀ w, TP w → Calls Tryd.prog 20 #[.int .u32 b] w fun e w' => ∃ m, e = .returned (.agg #[.bool g, .int .i64 ( m).t, .int .i64 ( m).i, .int .i64 ( m).o, .int .i64 ( m).s]) ∧ (g = true → m = M) ∧ Below w.heap.size w w') :
    Calls Tryd.prog 13 #[.bool false, .int .u32 p, .int .u32 q, .int .u32 b] w fun e w' => e = .returned (.tuple #[.agg #[.int .i64 (cond g M mZ).t, .int .i64 (cond g M mZ).i, .int .i64 (cond g M mZ).o, .int .i64 (cond g M mZ).s], .int .i64 (cond g 0 61)]) ∧ Below w.heap.size w w' := by
  have G : Hid (∀ w, TP w → Calls Tryd.prog 20 #[.int .u32 b] w fun e w' => ∃ m, e = .returned (.agg #[.bool g, .int .i64 ( m).t, .int .i64 ( m).i, .int .i64 ( m).o, .int .i64 ( m).s]) ∧ (g = true → m = M) ∧ Below w.heap.size w w') := H
  have HT : Hid (TP w) := hT
  clear H hT
  have h64 : (b : Int) < 64 := by omega
  have hN0 := (Bl.new w 24 [.int .i64 0, .int .i64 0, .int .i64 0, .int .i64 0]).below (below_new _ (.cells #[.bool false, .int .i64 0, .int .i64 0, .int .i64 0, .int .i64 0] 51))
  have hN1 := Bl.new (w.alloc (.cells #[.int .i64 0, .int .i64 0, .int .i64 0, .int .i64 0] 24)) 51 [.bool false, .int .i64 0, .int .i64 0, .int .i64 0, .int .i64 0]
  rw [show (w.alloc (.cells #[.int .i64 0, .int .i64 0, .int .i64 0, .int .i64 0] 24)).heap.size = w.heap.size + 1 by simp] at hN1
  unfold mZ
  cases g
  · simp only [cond]
    go_enter Tryd.func13, Tryd.ntmps13
    go_wp2_with (first | (go_at_call 20; refine (G.out _ ((HT.out.below (below_new _ _)).below (below_new _ _))).mono ?_; rintro e w1 ⟨m, rfl, hm, hb⟩; have hc0 := (hN0.below hb).cell; have hc1 := (hN1.below hb).cell; have hf0 := (hN0.below hb).frozen; have hf1 := (hN1.below hb).frozen; have hl := (hN1.below hb).lt; have HB : Hid (Below w.heap.size w w1) := Below.one (Below.one hb)) | go_in)
    refine bodyPost_ret (v := .tuple #[.agg #[.int .i64 0, .int .i64 0, .int .i64 0, .int .i64 0], .int .i64 61]) (by simp [results, Tryd.results13, go_sem, hc0, hc1, hf0, hf1]) rfl ⟨rfl, (by (repeat (with_reducible refine Below.setCell ?_ (by simp) _)); exact HB.out)⟩
  · simp only [cond]
    go_enter Tryd.func13, Tryd.ntmps13
    go_wp2_with (first | (go_at_call 20; refine (G.out _ ((HT.out.below (below_new _ _)).below (below_new _ _))).mono ?_; rintro e w1 ⟨m, rfl, hm, hb⟩; have hc0 := (hN0.below hb).cell; have hc1 := (hN1.below hb).cell; have hf0 := (hN0.below hb).frozen; have hf1 := (hN1.below hb).frozen; have hl := (hN1.below hb).lt; have HB : Hid (Below w.heap.size w w1) := Below.one (Below.one hb)) | go_in)
    refine bodyPost_ret (v := .tuple #[.agg #[.int .i64 M.t, .int .i64 M.i, .int .i64 M.o, .int .i64 M.s], .int .i64 0]) (by simp [results, Tryd.results13, go_sem, hc0, hc1, hf0, hf1, hm trivial]) rfl ⟨rfl, (by (repeat (with_reducible refine Below.setCell ?_ (by simp) _)); exact HB.out)⟩
theorem rM_err (p q : Int) (n s : Nat) : (rM p q n s).1 = 0 ∨ rM p q n s = (61, mZ) := by
  unfold rM
  repeat' split
  all_goals simp
theorem pF_err (b : Nat) : (pF b).1 = 0 ∨ pF b = (61, mZ) := by
  unfold pF
  repeat' split
  all_goals simp
theorem of_any (tre : Bool) (p q : Int) (b : Nat) (w : World) (hp : 0 ≤ p ∧ p < 4294967296) (hq : 0 ≤ q ∧ q < 4294967296) (hT : TP w) :
    Calls Tryd.prog 13 #[.bool tre, .int .u32 p, .int .u32 q, .int .u32 b] w fun e w' => e = .returned (.tuple #[.agg #[.int .i64 ((oF tre p q b).2).t, .int .i64 ((oF tre p q b).2).i, .int .i64 ((oF tre p q b).2).o, .int .i64 ((oF tre p q b).2).s], .int .i64 (oF tre p q b).1]) ∧ Below w.heap.size w w' := by
  unfold oF
  by_cases h : 63 < b
  · rw [if_pos h]
    exact of_big tre p q b w (by omega)
  · rw [if_neg h]
    cases tre
    · rw [if_neg (by decide)]
      have := of_plain p q b _ (pF b).2 w (by omega) hT (fun w hw => (plain_any b w (by omega) hw).mono fun e w' ⟨m, h1, h2, h3⟩ => ⟨m, h1, fun h => h2 (of_decide_eq_true h), h3⟩)
      rcases pF_err b with he | he
      · rw [he] at this ⊢
        exact this
      · rw [he] at this ⊢
        exact this
    · rw [if_pos rfl]
      have := of_tre p q b _ (rM p q (b / 2 % 8) (b % 2)).2 w (by omega) (fun w => (rem_any p q b w hp hq (by omega)).mono fun e w' ⟨m, h1, h2, h3⟩ => ⟨m, h1, fun h => h2 (of_decide_eq_true h), h3⟩)
      rcases rM_err p q (b / 2 % 8) (b % 2) with he | he
      · rw [he] at this ⊢
        exact this
      · rw [he] at this ⊢
        exact this
end Go.Proofs.YtmcloaonpkfibaaDoor
