import Derived.Test.YtmcloaonpkfibaaDoorSm
namespace Go.Proofs.YtmcloaonpkfibaaDoor
open Go.RowKit
set_option linter.unusedVariables false
set_option linter.unusedSimpArgs false
/-- The table of the plain bits' meanings. -/
def lPl : List (Bool × Mem) := [(true, ⟨0, 0, 0, 2⟩), (true, ⟨1, 0, 0, 2⟩), (true, ⟨2, 2, 2, 0⟩), (true, ⟨2, 3, 3, 0⟩), (true, ⟨2, 0, 0, 0⟩), (false, mZ), (false, mZ), (true, ⟨2, 1, 1, 0⟩), (true, ⟨1, 0, 0, 0⟩), (false, mZ), (false, mZ), (false, mZ), (false, mZ), (false, mZ), (false, mZ), (false, mZ)]
structure Ro (w : World) (g a : Nat) (r : Bool × Mem) : Prop where
  c0 : w.cell? ⟨g, a, none⟩ = some (.bool r.1)
  c1 : w.cell? ⟨g, a + 1, none⟩ = some (.int .i64 r.2.t)
  c2 : w.cell? ⟨g, a + 2, none⟩ = some (.int .i64 r.2.i)
  c3 : w.cell? ⟨g, a + 3, none⟩ = some (.int .i64 r.2.o)
  c4 : w.cell? ⟨g, a + 4, none⟩ = some (.int .i64 r.2.s)
def TP (w : World) : Prop := ∀ q r, lPl[q]? = some r → Ro w 3 (q * 5) r
theorem TP.below {w w' : World} (h : TP w) (hb : Below w.heap.size w w') : TP w' := fun q r hr =>
  have a := h q r hr
  ⟨(hb.cell (cell_lt a.c0)).trans a.c0, (hb.cell (cell_lt a.c1)).trans a.c1, (hb.cell (cell_lt a.c2)).trans a.c2, (hb.cell (cell_lt a.c3)).trans a.c3, (hb.cell (cell_lt a.c4)).trans a.c4⟩
theorem and32_hi : ∀ b : Nat, b < 64 → 32 ≤ b → b &&& 32 = 32 := by decide
theorem and32_lo : ∀ b : Nat, b < 32 → b &&& 32 = 0 := by decide
set_option maxRecDepth 100000 in
set_option maxHeartbeats 4000000 in
theorem plain_hi (b : Nat) (w : World) (h1 : 32 ≤ b) (h2 : b < 64) :
    Calls Tryd.prog 20 #[.int .u32 b] w fun e w' => e = .returned (.agg #[.bool true, .int .i64 ( ⟨2, pr b 1, pr b 3, 2 * (b % 2 : Nat)⟩ : Mem).t, .int .i64 ( ⟨2, pr b 1, pr b 3, 2 * (b % 2 : Nat)⟩ : Mem).i, .int .i64 ( ⟨2, pr b 1, pr b 3, 2 * (b % 2 : Nat)⟩ : Mem).o, .int .i64 ( ⟨2, pr b 1, pr b 3, 2 * (b % 2 : Nat)⟩ : Mem).s]) ∧ Below w.heap.size w w' := by
  have a1 := and1 b (by omega)
  have a2 : bits .and .u32 (b : Int) 32 = 32 := by
    have := u32_and_nat b 32 (by omega) (by omega)
    rw [and32_hi b h2 h1] at this
    exact this
  have Hb : Hid (0 ≤ (b : Int) ∧ (b : Int) < 4294967296) := ⟨by omega, by omega⟩
  rcases (show b % 2 = 0 ∨ b % 2 = 1 by omega) with h | h
  · rw [h]
    have a3 : (b : Int) % 2 = 0 := by omega
    rw [a3] at a1
    clear h h1 h2 a3
    go_enter Tryd.func20, Tryd.ntmps20
    go_wp2_with (first | (go_at_call 29; refine (pair_any b _ _ Hb.out (by decide)).mono ?_; rintro e w' ⟨rfl, rfl⟩) | go_in)
    refine bodyPost_ret (v := .agg #[.bool true, .int .i64 ( ⟨2, pr b 1, pr b 3, 0⟩ : Mem).t, .int .i64 ( ⟨2, pr b 1, pr b 3, 0⟩ : Mem).i, .int .i64 ( ⟨2, pr b 1, pr b 3, 0⟩ : Mem).o, .int .i64 ( ⟨2, pr b 1, pr b 3, 0⟩ : Mem).s]) (by simp [results, Tryd.results20, go_sem]) rfl ⟨rfl, (by (repeat (first | apply below_drew | refine Below.setCell ?_ (by simp) _ | refine Below.alloc ?_ (by simp) _)); exact Below.refl _ _)⟩
  · rw [h]
    have a3 : (b : Int) % 2 = 1 := by omega
    rw [a3] at a1
    clear h h1 h2 a3
    go_enter Tryd.func20, Tryd.ntmps20
    go_wp2_with (first | (go_at_call 29; refine (pair_any b _ _ Hb.out (by decide)).mono ?_; rintro e w' ⟨rfl, rfl⟩) | go_in)
    refine bodyPost_ret (v := .agg #[.bool true, .int .i64 ( ⟨2, pr b 1, pr b 3, 2⟩ : Mem).t, .int .i64 ( ⟨2, pr b 1, pr b 3, 2⟩ : Mem).i, .int .i64 ( ⟨2, pr b 1, pr b 3, 2⟩ : Mem).o, .int .i64 ( ⟨2, pr b 1, pr b 3, 2⟩ : Mem).s]) (by simp [results, Tryd.results20, go_sem]) rfl ⟨rfl, (by (repeat (first | apply below_drew | refine Below.setCell ?_ (by simp) _ | refine Below.alloc ?_ (by simp) _)); exact Below.refl _ _)⟩
set_option maxRecDepth 100000 in
set_option maxHeartbeats 4000000 in
theorem plain_lo (b : Nat) (g : Bool) (t i o s : Int) (w : World) (h2 : b < 32) (hR : Ro w 3 (b / 2 * 5) (g, ⟨t, i, o, s⟩)) :
    Calls Tryd.prog 20 #[.int .u32 b] w fun e w' => e = .returned (.agg #[.bool g, .int .i64 ( ⟨t, i, o, if t = 2 ∧ b % 2 = 1 then 2 else s⟩ : Mem).t, .int .i64 ( ⟨t, i, o, if t = 2 ∧ b % 2 = 1 then 2 else s⟩ : Mem).i, .int .i64 ( ⟨t, i, o, if t = 2 ∧ b % 2 = 1 then 2 else s⟩ : Mem).o, .int .i64 ( ⟨t, i, o, if t = 2 ∧ b % 2 = 1 then 2 else s⟩ : Mem).s]) ∧ Below w.heap.size w w' := by
  have a1 := and1 b (by omega)
  have a2 : bits .and .u32 (b : Int) 32 = 0 := by
    have := u32_and_nat b 32 (by omega) (by omega)
    rw [and32_lo b h2] at this
    exact this
  have Hb : Hid (0 ≤ (b : Int) ∧ (b : Int) < 4294967296) := ⟨by omega, by omega⟩
  obtain ⟨c0, c1, c2, c3, c4⟩ := hR
  have l0 := cell_lt c0
  simp only at c0 c1 c2 c3 c4 l0
  have hg : ¬ (3 = w.heap.size) := by omega
  have hg2 : ¬ (3 = w.heap.size + 1) := by omega
  have hd : (b : Int) / 2 < 16 := by omega
  have hd0 : 0 ≤ (b : Int) / 2 := by omega
  have ht : ((b : Int) / 2).toNat = b / 2 := by omega
  by_cases h3 : t = 2
  · subst h3
    rcases (show b % 2 = 0 ∨ b % 2 = 1 by omega) with h | h
    · rw [if_neg (by simp [h])]
      have a3 : (b : Int) % 2 = 0 := by omega
      rw [a3] at a1
      clear h h2 a3
      go_enter Tryd.func20, Tryd.ntmps20
      go_wp2_with (first | (go_at_call 29; refine (pair_any b _ _ Hb.out (by decide)).mono ?_; rintro e w' ⟨rfl, rfl⟩) | go_in)
      refine bodyPost_ret (v := .agg #[.bool g, .int .i64 ( ⟨2, i, o, s⟩ : Mem).t, .int .i64 ( ⟨2, i, o, s⟩ : Mem).i, .int .i64 ( ⟨2, i, o, s⟩ : Mem).o, .int .i64 ( ⟨2, i, o, s⟩ : Mem).s]) (by simp [results, Tryd.results20, go_sem]) rfl ⟨rfl, (by (repeat (first | apply below_drew | refine Below.setCell ?_ (by simp) _ | refine Below.alloc ?_ (by simp) _)); exact Below.refl _ _)⟩
    · rw [if_pos ⟨rfl, h⟩]
      have a3 : (b : Int) % 2 = 1 := by omega
      rw [a3] at a1
      clear h h2 a3
      go_enter Tryd.func20, Tryd.ntmps20
      go_wp2_with (first | (go_at_call 29; refine (pair_any b _ _ Hb.out (by decide)).mono ?_; rintro e w' ⟨rfl, rfl⟩) | go_in)
      refine bodyPost_ret (v := .agg #[.bool g, .int .i64 ( ⟨2, i, o, 2⟩ : Mem).t, .int .i64 ( ⟨2, i, o, 2⟩ : Mem).i, .int .i64 ( ⟨2, i, o, 2⟩ : Mem).o, .int .i64 ( ⟨2, i, o, 2⟩ : Mem).s]) (by simp [results, Tryd.results20, go_sem]) rfl ⟨rfl, (by (repeat (first | apply below_drew | refine Below.setCell ?_ (by simp) _ | refine Below.alloc ?_ (by simp) _)); exact Below.refl _ _)⟩
  · have q : (t == 2) = false := by simp [h3]
    rw [if_neg (by simp [h3])]
    clear h3 h2
    go_enter Tryd.func20, Tryd.ntmps20
    go_wp2_with (first | (go_at_call 29; refine (pair_any b _ _ Hb.out (by decide)).mono ?_; rintro e w' ⟨rfl, rfl⟩) | go_in)
    refine bodyPost_ret (v := .agg #[.bool g, .int .i64 ( ⟨t, i, o, s⟩ : Mem).t, .int .i64 ( ⟨t, i, o, s⟩ : Mem).i, .int .i64 ( ⟨t, i, o, s⟩ : Mem).o, .int .i64 ( ⟨t, i, o, s⟩ : Mem).s]) (by simp [results, Tryd.results20, go_sem]) rfl ⟨rfl, (by (repeat (first | apply below_drew | refine Below.setCell ?_ (by simp) _ | refine Below.alloc ?_ (by simp) _)); exact Below.refl _ _)⟩
theorem plain_any (b : Nat) (w : World) (h2 : b < 64) (hT : TP w) :
    Calls Tryd.prog 20 #[.int .u32 b] w fun e w' => ∃ m, e = .returned (.agg #[.bool (decide ((pF b).1 = 0)), .int .i64 ( m).t, .int .i64 ( m).i, .int .i64 ( m).o, .int .i64 ( m).s]) ∧ ((pF b).1 = 0 → m = (pF b).2) ∧ Below w.heap.size w w' := by
  by_cases h1 : 32 ≤ b
  · refine (plain_hi b w h1 h2).mono ?_
    rintro e w' ⟨rfl, hb⟩
    have e1 : pF b = (0, ⟨2, pr b 1, pr b 3, 2 * (b % 2 : Nat)⟩) := by
      unfold pF pr
      rw [if_pos h1]
      simp
    rw [e1]
    exact ⟨_, rfl, fun _ => rfl, hb⟩
  · have key : ∀ q s, q < 16 → s < 2 → ∃ r, lPl[q]? = some r ∧ decide ((pF (2 * q + s)).1 = 0) = r.1 ∧ ((pF (2 * q + s)).1 = 0 → (⟨r.2.t, r.2.i, r.2.o, if r.2.t = 2 ∧ s = 1 then 2 else r.2.s⟩ : Mem) = (pF (2 * q + s)).2) := by
      intro q s hq hs
      rcases (show s = 0 ∨ s = 1 by omega) with rfl | rfl <;> rcases (show q = 0 ∨ q = 1 ∨ q = 2 ∨ q = 3 ∨ q = 4 ∨ q = 5 ∨ q = 6 ∨ q = 7 ∨ q = 8 ∨ q = 9 ∨ q = 10 ∨ q = 11 ∨ q = 12 ∨ q = 13 ∨ q = 14 ∨ q = 15 by omega) with rfl | rfl | rfl | rfl | rfl | rfl | rfl | rfl | rfl | rfl | rfl | rfl | rfl | rfl | rfl | rfl <;> exact ⟨_, rfl, rfl, fun h => by first | rfl | exact absurd h (by decide)⟩
    obtain ⟨⟨g, ⟨t, i, o, s⟩⟩, k1, k2, k3⟩ := key (b / 2) (b % 2) (by omega) (by omega)
    rw [show 2 * (b / 2) + b % 2 = b by omega] at k2 k3
    refine (plain_lo b g t i o s w (by omega) (hT _ _ k1)).mono ?_
    rintro e w' ⟨rfl, hb⟩
    exact ⟨_, by rw [k2], k3, hb⟩
end Go.Proofs.YtmcloaonpkfibaaDoor
