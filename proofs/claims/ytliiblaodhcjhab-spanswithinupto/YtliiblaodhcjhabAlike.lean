import Derived.Test.YtliiblaodhcjhabRRun
import Derived.Deep.RegionHeld3
namespace Go.Proofs.Ytliiblaodhcjhab
open Go.RowKit
set_option linter.unusedVariables false

set_option maxHeartbeats 1000000 in
theorem like_any (s : Sp Int) (w : World) : Calls Try.prog 16 #[.agg #[.int .u64 s.lo, .int .u64 s.hi, .int .i64 s.val], .agg #[.int .u64 s.lo, .int .u64 s.hi, .int .i64 s.val]] w fun e w' => e = .returned (.bool true) ∧ Below w.heap.size w w' := by
  go_enter Try.func16, Try.ntmps16
  go_wp2
  go_ret
  exact ⟨rfl, by first | exact Below.refl _ _ | exact below_alloc (below_alloc (Below.refl _ _) _) _⟩

set_option maxHeartbeats 4000000 in
set_option maxRecDepth 100000 in
theorem alike_any (W : World) (lo lo2 : Nat) (v u : Value) (L : List (Sp Int)) (h : Ls W lo v L) (h2 : Lr W lo2 u L) (hsz : L.length ≤ 4000000) :
    Calls Try.prog 13 #[v, u] W fun e W' => e = .returned (.bool true) ∧ Below W.heap.size W W' := by
  obtain ⟨a, cap, hv⟩ := slice_form h
  have hview := h.view
  subst hv
  obtain ⟨va, vc, hu, hvc⟩ := Lr.view h2
  subst hu
  have HV : Hid ((Value.slice a L.length cap = .slice none 0 0 ∧ L = []) ∨ ∃ g cap', Value.slice a L.length cap = .slice (some ⟨g, 0, none⟩) L.length cap' ∧ lo ≤ g ∧ g < W.heap.size ∧ L.length ≤ cap' ∧ cap' ≤ 9223372036854775807 ∧ ∀ i s, L[i]? = some s → ∀ j, j < 3 → W.cell? ⟨g, i * 3 + j, none⟩ = (encS s)[j]?) := hview
  have HC : Hid (∀ i s, L[i]? = some s → ∃ g, va = some ⟨g, 0, none⟩ ∧ lo2 ≤ g ∧ g < W.heap.size ∧ W.cell? ⟨g, i * 3, none⟩ = some (.int .u64 s.lo) ∧ W.cell? ⟨g, i * 3 + 1, none⟩ = some (.int .u64 s.hi) ∧ W.cell? ⟨g, i * 3 + 2, none⟩ = some (.int .i64 s.val) ∧ W.frozen? ⟨g, i * 3 + 1, none⟩ = false) := hvc
  clear hview h h2 hvc
  generalize hn : L.length = n at *
  have HN : Hid (L.length = n) := hn
  clear hn
  go_enter Try.func13, Try.ntmps13
  go_wp2
  go_loopw [5] (fun i wr => ∃ (k : Nat), k ≤ n ∧ i = .int .i64 k ∧ Hid (Below W.heap.size W wr)) (fun i _ => n - (intOf i).toNat)
  case atStart => exact ⟨0, Nat.zero_le _, rfl, Below.refl _ _⟩
  case round =>
    obtain ⟨k, hk, rfl, HB⟩ := hrel
    by_cases hlt : k < n
    · obtain ⟨s, hs⟩ : ∃ s, L[k]? = some s := ⟨_, List.getElem?_eq_getElem (by rw [HN.out]; exact hlt)⟩
      obtain ⟨g, cap', he, hgl, hc⟩ : ∃ g cap', Value.slice a n cap = .slice (some ⟨g, 0, none⟩) n cap' ∧ g < W.heap.size ∧ ∀ i s, L[i]? = some s → ∀ j, j < 3 → W.cell? ⟨g, i * 3 + j, none⟩ = (encS s)[j]? := by
        rcases HV.out with ⟨_, h2⟩ | ⟨g, cap', h1, _, h3, _, _, h2⟩
        · rw [h2] at hs; simp at hs
        · exact ⟨g, cap', h1, h3, h2⟩
      cases he
      have q0 := hc k s hs 0 (by omega)
      have q1 := hc k s hs 1 (by omega)
      have q2 := hc k s hs 2 (by omega)
      simp only [encS, Nat.add_zero, List.getElem?_cons_zero, List.getElem?_cons_succ] at q0 q1 q2
      obtain ⟨gg, rfl, _, hgg, z0, z1, z2, _⟩ := HC.out k s hs
      have hltz : (k : Int) < (n : Int) := by omega
      have hk0 : (0 : Int) ≤ (k : Int) := by omega
      have HA : ∀ w', Below W.heap.size W w' → w'.cell? ⟨g, k * 3, none⟩ = some (.int .u64 s.lo) ∧ w'.cell? ⟨g, k * 3 + 1, none⟩ = some (.int .u64 s.hi) ∧ w'.cell? ⟨g, k * 3 + 2, none⟩ = some (.int .i64 s.val) ∧ w'.cell? ⟨gg, k * 3, none⟩ = some (.int .u64 s.lo) ∧ w'.cell? ⟨gg, k * 3 + 1, none⟩ = some (.int .u64 s.hi) ∧ w'.cell? ⟨gg, k * 3 + 2, none⟩ = some (.int .i64 s.val) := fun w' hb => by
        obtain ⟨hcc, _⟩ := bcell hb
        rw [hcc _ _ hgl, hcc _ _ hgl, hcc _ _ hgl, hcc _ _ hgg, hcc _ _ hgg, hcc _ _ hgg]
        exact ⟨q0, q1, q2, z0, z1, z2⟩
      have hHB := HB.out
      obtain ⟨x0, x1, x2, x3, x4, x5⟩ := HA wr hHB
      have HBd := hHB.drew
      have HH : Hid (∀ w', Below W.heap.size W w' → w'.cell? ⟨g, k * 3, none⟩ = some (.int .u64 s.lo) ∧ w'.cell? ⟨g, k * 3 + 1, none⟩ = some (.int .u64 s.hi) ∧ w'.cell? ⟨g, k * 3 + 2, none⟩ = some (.int .i64 s.val) ∧ w'.cell? ⟨gg, k * 3, none⟩ = some (.int .u64 s.lo) ∧ w'.cell? ⟨gg, k * 3 + 1, none⟩ = some (.int .u64 s.hi) ∧ w'.cell? ⟨gg, k * 3 + 2, none⟩ = some (.int .i64 s.val)) := HA
      clear hc hs q0 q1 q2 z0 z1 z2 HA
      go_wp2_with (fail)
      go_region_held3 (fun w' => w'.cell? ⟨g, k * 3, none⟩ = some (.int .u64 s.lo) ∧ w'.cell? ⟨g, k * 3 + 1, none⟩ = some (.int .u64 s.hi) ∧ w'.cell? ⟨g, k * 3 + 2, none⟩ = some (.int .i64 s.val) ∧ w'.cell? ⟨gg, k * 3, none⟩ = some (.int .u64 s.lo) ∧ w'.cell? ⟨gg, k * 3 + 1, none⟩ = some (.int .u64 s.hi) ∧ w'.cell? ⟨gg, k * 3 + 2, none⟩ = some (.int .i64 s.val)) (first | go_keep | exact HH.out _ hB1)
        ((go_at_call 16; refine (like_any s _).mono ?_; rintro e w1 ⟨rfl, hb1⟩; have hB1 := below_go HBd hb1; clear hb1))
      go_wp2
      go_roundw
      case rel => exact ⟨k + 1, by omega, by go_num, hB1⟩
      case measure => simp [intOf]; omega
    · go_wp2
      go_ret
      exact ⟨rfl, HB.out⟩
end Go.Proofs.Ytliiblaodhcjhab
