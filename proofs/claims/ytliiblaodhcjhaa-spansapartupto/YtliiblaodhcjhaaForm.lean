import Derived.Test.YtliiblaodhcjhaaLive
import Derived.Deep.QuietTactic
import Derived.BigQuiet
namespace Go.Proofs.Ytliiblaodhcjhaa
open Go.RowKit
set_option linter.unusedVariables false

theorem good_touch {α : Type} {L : List (Sp α)} {c : Int} {u : Option α} (h : Good c u L) {a : Nat} {s t : Sp α} (ha : L[a]? = some s) (hb : L[a + 1]? = some t) (e : s.hi + 1 = t.lo) : s.val ≠ t.val := by
  induction L generalizing c u a with
  | nil => simp at ha
  | cons x r ih =>
    obtain ⟨h1, h2, h3, h4, h5⟩ := h
    cases a with
    | zero =>
      cases r with
      | nil => simp at hb
      | cons y r2 =>
        simp at ha hb
        subst ha hb
        intro e2
        exact h5.2.2.2.1 e.symm (by rw [e2])
    | succ a => exact ih h5 (by simpa using ha) (by simpa using hb)

set_option maxHeartbeats 4000000 in
set_option maxRecDepth 100000 in
theorem formed_any (W : World) (lo : Nat) (v : Value) (L : List (Sp Int)) (h : Ls W lo v L) (hg : Good 0 none L) (hsz : L.length < 4611686018427387904) :
    Calls Try.prog 15 #[v] W fun e W' => e = .returned (.bool true) ∧ ∃ q, W' = W.drewN q := by
  obtain ⟨a, cap, hv⟩ := slice_form h
  have hview := h.view
  subst hv
  have HV : Hid ((Value.slice a L.length cap = .slice none 0 0 ∧ L = []) ∨ ∃ g cap', Value.slice a L.length cap = .slice (some ⟨g, 0, none⟩) L.length cap' ∧ lo ≤ g ∧ g < W.heap.size ∧ L.length ≤ cap' ∧ cap' ≤ 9223372036854775807 ∧ ∀ i s, L[i]? = some s → ∀ j, j < 3 → W.cell? ⟨g, i * 3 + j, none⟩ = (encS s)[j]?) := hview
  have HG : Hid (Good 0 none L) := hg
  clear hview hg h
  generalize hn : L.length = n at *
  have HN : Hid (L.length = n) := hn
  clear hn
  go_enter Try.func15, Try.ntmps15
  go_wp2
  go_loopw [3] (fun i wr => ∃ (k q : Nat), k ≤ n ∧ i = .int .i64 k ∧ wr = W.drewN q) (fun i _ => n - (intOf i).toNat)
  case atStart => exact ⟨0, 0, Nat.zero_le _, rfl, rfl⟩
  case round =>
    obtain ⟨k, q, hk, rfl, rfl⟩ := hrel
    by_cases hlt : k < n
    · obtain ⟨s, hs⟩ : ∃ s, L[k]? = some s := ⟨_, List.getElem?_eq_getElem (by rw [HN.out]; exact hlt)⟩
      have hsg := good_lo HG.out s (List.mem_of_getElem? hs)
      obtain ⟨g, cap', he, hc⟩ : ∃ g cap', Value.slice a n cap = .slice (some ⟨g, 0, none⟩) n cap' ∧ ∀ i s, L[i]? = some s → ∀ j, j < 3 → W.cell? ⟨g, i * 3 + j, none⟩ = (encS s)[j]? := by
        rcases HV.out with ⟨_, h2⟩ | ⟨g, cap', h1, _, _, _, _, h2⟩
        · rw [h2] at hs; simp at hs
        · exact ⟨g, cap', h1, h2⟩
      cases he
      have q0 := hc k s hs 0 (by omega)
      have q1 := hc k s hs 1 (by omega)
      have q2 := hc k s hs 2 (by omega)
      simp only [encS, Nat.add_zero, List.getElem?_cons_zero, List.getElem?_cons_succ] at q0 q1 q2
      have hltz : (k : Int) < (n : Int) := by omega
      have hk0 : (0 : Int) ≤ (k : Int) := by omega
      have hle : ¬ (s.hi < s.lo) := by omega
      cases k with
      | zero =>
        clear hc HV
        go_wp2
        go_quiet (fail)
        go_wp2
        go_roundw
        case rel => exact ⟨1, _, by omega, rfl, rfl⟩
        case measure => simp [intOf]; omega
      | succ k =>
        obtain ⟨t, ht⟩ : ∃ t, L[k]? = some t := ⟨_, List.getElem?_eq_getElem (by rw [HN.out]; omega)⟩
        have htg := good_lo HG.out t (List.mem_of_getElem? ht)
        have hts := good_lt HG.out ht hs (Nat.lt_succ_self k)
        have htouch := good_touch HG.out ht hs
        have p1 := hc k t ht 1 (by omega)
        have p2 := hc k t ht 2 (by omega)
        simp only [encS, List.getElem?_cons_zero, List.getElem?_cons_succ] at p1 p2
        have hkz : (k : Int) < (n : Int) := by omega
        have hk1 : (0 : Int) ≤ (k : Int) := by omega
        have hge : decide (s.lo ≤ t.hi) = false := by simp; omega
        have hw : IntKind.u64.wrap (t.hi + 1) = t.hi + 1 := by rw [IntKind.wrap_u64]; omega
        clear hc HV
        by_cases htt : t.hi + 1 = s.lo
        · have hv := htouch htt
          have hb1 : (t.hi + 1 == s.lo) = true := by simp [htt]
          have hb2 : (t.val == s.val) = false := by simp [hv]
          clear htouch htt hv
          go_wp2
          go_quiet (fail)
          go_wp2
          go_quiet (fail)
          go_wp2
          go_roundw
          case rel => exact ⟨k + 1 + 1, _, by omega, by go_num, rfl⟩
          case measure => simp [intOf]; omega
        · have hb1 : (t.hi + 1 == s.lo) = false := by simp [htt]
          clear htouch htt
          go_wp2
          go_quiet (fail)
          go_wp2
          go_quiet (fail)
          go_wp2
          go_roundw
          case rel => exact ⟨k + 1 + 1, _, by omega, by go_num, rfl⟩
          case measure => simp [intOf]; omega
    · go_wp2
      go_ret
      exact ⟨rfl, q, rfl⟩
end Go.Proofs.Ytliiblaodhcjhaa
