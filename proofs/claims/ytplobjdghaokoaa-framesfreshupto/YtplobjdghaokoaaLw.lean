import Derived.Test.YtplobjdghaokoaaLv
namespace Go.Proofs.Ytplobjdghaokoaa
open Go.RowKit
set_option linter.unusedVariables false

/-! ### lists of numbers, of runs, to be read -/
def IAt (W : World) (a : Option Addr) (A : List Int) : Prop := ∀ (i : Nat) (x : Int), A[i]? = some x → ∃ g, a = some ⟨g, 0, none⟩ ∧ g < W.heap.size ∧ W.cell? ⟨g, i, none⟩ = some (.int .i64 x)
theorem IAt.turn {W W' : World} {a : Option Addr} {A : List Int} {S : Nat → Prop} (h : IAt W a A) (T : Turn S W W') (hS : ∀ g, a = some ⟨g, 0, none⟩ → ¬ S g) : IAt W' a A := by
  intro i x hi
  obtain ⟨g, rfl, hg, hc⟩ := h i x hi
  exact ⟨g, rfl, Nat.lt_of_lt_of_le hg T.size, by rw [T.cell hg (hS g rfl)]; exact hc⟩
def encI (A : List Int) : List Value := A.map (Value.int .i64)
theorem encI_len (A : List Int) : (encI A).length = A.length := by simp [encI]
theorem encI_at {A : List Int} {i : Nat} {x : Int} (h : A[i]? = some x) : (encI A)[i]? = some (.int .i64 x) := by simp [encI, h]
theorem own_iat {W : World} {lo : Nat} {v : Value} {A : List Int} (h : W.ownsRow lo 3 1 v A.length (encI A)) : ∃ a cap, v = .slice a A.length cap ∧ IAt W a A ∧ ∀ g, a = some ⟨g, 0, none⟩ → lo ≤ g ∧ g < W.heap.size := by
  rcases row_of_own h with ⟨rfl, h1, h2⟩ | ⟨g, cap, cur, rfl, h2, h3, h4, h5, h6, h7⟩
  · refine ⟨none, 0, by rw [h1], fun i x hx => ?_, fun g hg => by cases hg⟩
    rw [List.eq_nil_of_length_eq_zero h1] at hx
    simp at hx
  · refine ⟨_, cap, rfl, fun i x hx => ⟨g, rfl, h3.lt, ?_⟩, fun g' hg => by cases hg; exact ⟨h2, h3.lt⟩⟩
    rw [h3.cell]
    have := congrArg (fun l => l[i]?) h7
    rw [Nat.mul_one] at this
    simp only [List.getElem?_take_of_lt (List.getElem?_eq_some_iff.1 hx).1] at this
    rw [this]
    exact encI_at hx
def encR (x : Nat × Nat) : List Value := [.int .i64 (x.1 : Int), .int .i64 (x.2 : Int)]
def RAt (W : World) (a : Option Addr) (A : List (Nat × Nat)) : Prop := ∀ (i : Nat) (x : Nat × Nat), A[i]? = some x → ∃ g, a = some ⟨g, 0, none⟩ ∧ g < W.heap.size ∧ W.cell? ⟨g, i * 2, none⟩ = some (.int .i64 (x.1 : Int)) ∧ W.cell? ⟨g, i * 2 + 1, none⟩ = some (.int .i64 (x.2 : Int))
theorem RAt.turn {W W' : World} {a : Option Addr} {A : List (Nat × Nat)} {S : Nat → Prop} (h : RAt W a A) (T : Turn S W W') (hS : ∀ g, a = some ⟨g, 0, none⟩ → ¬ S g) : RAt W' a A := by
  intro i x hi
  obtain ⟨g, rfl, hg, hc, hd⟩ := h i x hi
  exact ⟨g, rfl, Nat.lt_of_lt_of_le hg T.size, by rw [T.cell hg (hS g rfl)]; exact hc, by rw [T.cell hg (hS g rfl)]; exact hd⟩
theorem own_rat {W : World} {lo : Nat} {v : Value} {A : List (Nat × Nat)} (h : W.ownsRow lo 42 2 v A.length (A.flatMap encR)) : ∃ a cap, v = .slice a A.length cap ∧ RAt W a A ∧ ∀ g, a = some ⟨g, 0, none⟩ → lo ≤ g ∧ g < W.heap.size := by
  have h0 := h
  rcases row_of_own h with ⟨rfl, h1, h2⟩ | ⟨g, cap, cur, rfl, h2, h3, h4, h5, h6, h7⟩
  · refine ⟨none, 0, by rw [h1], fun i x hx => ?_, fun g hg => by cases hg⟩
    rw [List.eq_nil_of_length_eq_zero h1] at hx
    simp at hx
  · refine ⟨_, cap, rfl, fun i x hx => ⟨g, rfl, h3.lt, ?_, ?_⟩, fun g' hg => by cases hg; exact ⟨h2, h3.lt⟩⟩
    · have hlt : i < A.length := (List.getElem?_eq_some_iff.1 hx).1
      have := cat_at encR 2 (fun _ => rfl) hx 0 (by omega)
      rw [show i * 2 = i * 2 + 0 from rfl, World.ownsRow.cellAt h0 (i * 2 + 0) (by omega), this]
      rfl
    · have hlt : i < A.length := (List.getElem?_eq_some_iff.1 hx).1
      have := cat_at encR 2 (fun _ => rfl) hx 1 (by omega)
      rw [World.ownsRow.cellAt h0 (i * 2 + 1) (by omega), this]
      rfl

set_option maxHeartbeats 2000000 in
theorem sameInts_any (W : World) (a b : Option Addr) (ca cb : Nat) (A B : List Int) (ha : IAt W a A) (hb : IAt W b B) (hl : A.length ≤ 140737488355328) (hlb : B.length ≤ 140737488355328) :
    Calls Try.prog 16 #[.slice a A.length ca, .slice b B.length cb] W fun e W' => e = .returned (.bool (decide (A = B))) ∧ ∃ q, W' = W.drewN q := by
  by_cases hab : A.length = B.length
  · have HA : Hid (IAt W a A) := ha
    have HB : Hid (IAt W b B) := hb
    clear ha hb
    rw [← hab]
    have HNB : Hid (A.length = B.length) := hab
    clear hab hlb
    generalize hn : A.length = n at *
    have HN : Hid (A.length = n) := hn
    clear hn
    go_enter Try.func16, Try.ntmps16
    go_wp2
    go_loopw [5] (fun i wr => ∃ k : Nat, k ≤ n ∧ i = .int .i64 k ∧ (∃ q, wr = W.drewN q) ∧ Hid (A.take k = B.take k)) (fun i _ => n - (intOf i).toNat)
    case atStart => exact ⟨0, Nat.zero_le _, rfl, ⟨0, rfl⟩, by show _ = _; simp⟩
    case round =>
      obtain ⟨k, hk, rfl, ⟨q, rfl⟩, HE⟩ := hrel
      by_cases hlt : k < n
      · obtain ⟨x, hx⟩ : ∃ x, A[k]? = some x := ⟨_, List.getElem?_eq_getElem (by rw [HN.out]; omega)⟩
        obtain ⟨y, hy⟩ : ∃ y, B[k]? = some y := ⟨_, List.getElem?_eq_getElem (by have := HNB.out; omega)⟩
        obtain ⟨g, rfl, _, hc⟩ := HA.out k x hx
        obtain ⟨g', rfl, _, hc'⟩ := HB.out k y hy
        have HXY : Hid (A[k]? = some x ∧ B[k]? = some y) := ⟨hx, hy⟩
        clear hx hy
        have hkz : (k : Int) < (n : Int) := by omega
        by_cases hxy : x = y
        · subst hxy
          go_wp2
          go_quiet (fail)
          go_wp2
          go_roundw
          case rel => exact ⟨k + 1, by omega, by go_num, ⟨_, rfl⟩, by show _ = _; rw [take_snoc A HXY.out.1, take_snoc B HXY.out.2, HE.out]⟩
          case measure => simp [intOf]; omega
        · go_wp2
          go_quiet (fail)
          go_wp2
          go_ret
          refine ⟨ret_bool (decide_eq_false (fun e => ?_)).symm, _, World.drewN_drewN _ _ _⟩
          have := HXY.out
          rw [e] at this
          rw [this.1] at this
          exact hxy (by injection this.2)
      · have HF : Hid (A = B) := by
          have := HE.out
          rw [List.take_of_length_le (by rw [HN.out]; omega), List.take_of_length_le (by rw [← HNB.out]; omega)] at this
          exact this
        go_wp2
        go_ret
        exact ⟨ret_bool (decide_eq_true HF.out).symm, q, rfl⟩
  · have HF : Hid (decide (A = B) = false) := decide_eq_false (fun e => hab (by rw [e]))
    have hne : ¬ ((A.length : Int) = (B.length : Int)) := by omega
    clear ha hb
    go_enter Try.func16, Try.ntmps16
    go_wp2
    go_ret
    exact ⟨ret_bool HF.out.symm, 0, rfl⟩
set_option maxHeartbeats 2000000 in
theorem sameRuns_any (W : World) (a b : Option Addr) (ca cb : Nat) (A B : List (Nat × Nat)) (ha : RAt W a A) (hb : RAt W b B) (hl : A.length ≤ 140737488355328) (hlb : B.length ≤ 140737488355328) :
    Calls Try.prog 21 #[.slice a A.length ca, .slice b B.length cb] W fun e W' => e = .returned (.bool (decide (A = B))) ∧ ∃ q, W' = W.drewN q := by
  by_cases hab : A.length = B.length
  · have HA : Hid (RAt W a A) := ha
    have HB : Hid (RAt W b B) := hb
    clear ha hb
    rw [← hab]
    have HNB : Hid (A.length = B.length) := hab
    clear hab hlb
    generalize hn : A.length = n at *
    have HN : Hid (A.length = n) := hn
    clear hn
    go_enter Try.func21, Try.ntmps21
    go_wp2
    go_loopw [5] (fun i wr => ∃ k : Nat, k ≤ n ∧ i = .int .i64 k ∧ (∃ q, wr = W.drewN q) ∧ Hid (A.take k = B.take k)) (fun i _ => n - (intOf i).toNat)
    case atStart => exact ⟨0, Nat.zero_le _, rfl, ⟨0, rfl⟩, by show _ = _; simp⟩
    case round =>
      obtain ⟨k, hk, rfl, ⟨q, rfl⟩, HE⟩ := hrel
      by_cases hlt : k < n
      · obtain ⟨⟨x1, x2⟩, hx⟩ : ∃ x, A[k]? = some x := ⟨_, List.getElem?_eq_getElem (by rw [HN.out]; omega)⟩
        obtain ⟨⟨y1, y2⟩, hy⟩ : ∃ y, B[k]? = some y := ⟨_, List.getElem?_eq_getElem (by have := HNB.out; omega)⟩
        obtain ⟨g, rfl, _, hc, hc2⟩ := HA.out k _ hx
        obtain ⟨g', rfl, _, hc', hc2'⟩ := HB.out k _ hy
        have HXY : Hid (A[k]? = some (x1, x2) ∧ B[k]? = some (y1, y2)) := ⟨hx, hy⟩
        clear hx hy
        have hkz : (k : Int) < (n : Int) := by omega
        by_cases hxy : x1 = y1 ∧ x2 = y2
        · obtain ⟨rfl, rfl⟩ := hxy
          go_wp2
          go_quiet (fail)
          go_wp2
          go_roundw
          case rel => exact ⟨k + 1, by omega, by go_num, ⟨_, rfl⟩, by show _ = _; rw [take_snoc A HXY.out.1, take_snoc B HXY.out.2, HE.out]⟩
          case measure => simp [intOf]; omega
        · have HXN : Hid (¬ (x1 = y1 ∧ x2 = y2)) := hxy
          have hcase : ¬ ((x1 : Int) = (y1 : Int)) ∨ ((x1 : Int) = (y1 : Int) ∧ ¬ ((x2 : Int) = (y2 : Int))) := by omega
          clear hxy
          rcases hcase with h1 | ⟨h1, h2⟩
          all_goals
            go_wp2
            go_quiet (fail)
            go_wp2
            go_ret
            refine ⟨ret_bool (decide_eq_false (fun e => ?_)).symm, _, World.drewN_drewN _ _ _⟩
            have := HXY.out
            rw [e] at this
            rw [this.1] at this
            have h3 := this.2
            injection h3 with h3
            injection h3 with h3 h4
            exact HXN.out ⟨h3, h4⟩
      · have HF : Hid (A = B) := by
          have := HE.out
          rw [List.take_of_length_le (by rw [HN.out]; omega), List.take_of_length_le (by rw [← HNB.out]; omega)] at this
          exact this
        go_wp2
        go_ret
        exact ⟨ret_bool (decide_eq_true HF.out).symm, q, rfl⟩
  · have HF : Hid (decide (A = B) = false) := decide_eq_false (fun e => hab (by rw [e]))
    have hne : ¬ ((A.length : Int) = (B.length : Int)) := by omega
    clear ha hb
    go_enter Try.func21, Try.ntmps21
    go_wp2
    go_ret
    exact ⟨ret_bool HF.out.symm, 0, rfl⟩
end Go.Proofs.Ytplobjdghaokoaa
