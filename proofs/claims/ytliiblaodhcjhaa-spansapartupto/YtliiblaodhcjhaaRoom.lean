import Derived.Test.YtliiblaodhcjhaaDifP
import Derived.Test.YtliiblaodhcjhaaRSpW
import Derived.Deep.RegionHeld3
namespace Go.Proofs.Ytliiblaodhcjhaa
open Go.RowKit
set_option linter.unusedVariables false

def encR (s : Sp Unit) : List Value := [.int .u64 s.lo, .int .u64 s.hi]
def cellsR (L : List (Sp Unit)) : List Value := L.flatMap encR
theorem cellsR_append (A B : List (Sp Unit)) : cellsR (A ++ B) = cellsR A ++ cellsR B := by simp [cellsR]

theorem infoRoom : (Try.prog.info? 57).map (fun i => (i.zero, i.size, i.bytes)) = some (some (.agg #[.int .u64 0, .int .u64 0]), 2, 16) := by kernel_rfl
/-- A list of rooms. -/
def Lm (W : World) (lo : Nat) (v : Value) (L : List (Sp Unit)) : Prop := W.ownsRow lo 57 2 v L.length (cellsR L)

theorem lm_append (w : World) (q B : Nat) (pv : Value) (A : List (Sp Unit)) (t : Sp Unit) (h : Lm w B pv A) (hB : B ≤ w.heap.size) (hby : A.length ≤ 9000000) :
    ∃ v' w', (∀ ty, (Builtin.append_ #[54, 54] ty #[pv, .slice (some ⟨w.heap.size, 0, none⟩) 1 1]).run Try.prog ((w.alloc (.cells #[.int .u64 t.lo, .int .u64 t.hi] 57)).drewN q) = .ok v' w') ∧ Lm w' B v' (A ++ [t]) ∧ w.grownBy w' pv.ownBlock := by
  obtain ⟨inf, hi0, hz0, hzs, hzb⟩ := info_parts infoRoom
  have h1 : Below w.heap.size w ((w.alloc (.cells #[.int .u64 t.lo, .int .u64 t.hi] 57)).drewN q) := below_go (below_alloc (Below.refl _ w) _) (grown_below (grownBy_drewN _ none q))
  have ho1 : ((w.alloc (.cells #[.int .u64 t.lo, .int .u64 t.hi] 57)).drewN q).ownsRow 0 57 2 (.slice (some ⟨w.heap.size, 0, none⟩) 1 1) 1 (encR t) :=
    own_of_row (cur := encR t) (heap_alloc_new w _) (Nat.zero_le _) (Nat.le_refl _) (by decide) rfl rfl
  obtain ⟨v', w', hr, ho, hg, hb⟩ := append_any (P := Try.prog) ((w.alloc (.cells #[.int .u64 t.lo, .int .u64 t.hi] 57)).drewN q) 54 57 inf _ Try.underlying54 hi0 hz0 (by rw [hzs]; rfl) B A.length 1 pv (.slice (some ⟨w.heap.size, 0, none⟩) 1 1) (cellsR A) (encR t)
    (by rw [hzs]; exact row_keep h h1) (by rw [hzs]; exact src_of_own Try.underlying54 ho1 (by intro u hu; simp [encR] at hu; rcases hu with rfl | rfl <;> rfl)) (Nat.le_trans hB h1.size) (by unfold maxLen; omega) (by rw [hzb]; omega)
  refine ⟨v', w', hr, ?_, grownBy_trans (grownBy_none _ (below_grown h1)) hg⟩
  rw [hzs] at ho
  rw [Lm, List.length_append, cellsR_append]
  simpa [cellsR] using ho

theorem Lm.view {W : World} {lo : Nat} {v : Value} {L : List (Sp Unit)} (h : Lm W lo v L) : ∃ a cap, v = .slice a L.length cap ∧ ∀ i s, L[i]? = some s → ∃ g, a = some ⟨g, 0, none⟩ ∧ lo ≤ g ∧ g < W.heap.size ∧ W.cell? ⟨g, i * 2, none⟩ = some (.int .u64 s.lo) ∧ W.cell? ⟨g, i * 2 + 1, none⟩ = some (.int .u64 s.hi) ∧ W.frozen? ⟨g, i * 2 + 1, none⟩ = false := by
  rcases row_of_own h with ⟨rfl, h1, h2⟩ | ⟨g, cap, cur, rfl, a, b, c, d, e, f⟩
  · refine ⟨none, 0, by rw [h1], fun i x hx => ?_⟩
    have : L = [] := List.eq_nil_of_length_eq_zero h1
    rw [this] at hx
    simp at hx
  · refine ⟨some ⟨g, 0, none⟩, cap, rfl, fun i x hx => ⟨g, rfl, a, b.lt, ?_⟩⟩
    have hlt : i < L.length := (List.getElem?_eq_some_iff.1 hx).1
    have hc : ∀ j, j < 2 → W.cell? ⟨g, i * 2 + j, none⟩ = (encR x)[j]? := fun j hj => by
      rw [World.ownsRow.cellAt h (i * 2 + j) (by omega)]
      exact cat_at encR 2 (fun _ => rfl) hx j hj
    exact ⟨hc 0 (by omega), hc 1 (by omega), b.frozen _⟩

/-- The last room's end is set. -/
theorem Lm.set {W : World} {lo g cap : Nat} {A : List (Sp Unit)} {t : Sp Unit} (h : Lm W lo (.slice (some ⟨g, 0, none⟩) (A ++ [t]).length cap) (A ++ [t])) (e : Int) :
    Lm (W.setCell ⟨g, A.length * 2 + 1, none⟩ (.int .u64 e)) lo (.slice (some ⟨g, 0, none⟩) (A ++ [t]).length cap) (A ++ [⟨t.lo, e, t.val⟩]) := by
  have h1 := (World.ownsRow.stored h (A.length * 2 + 1) (.int .u64 e)).1
  have hl : (A ++ [⟨t.lo, e, t.val⟩] : List (Sp Unit)).length = (A ++ [t]).length := by simp
  rw [Lm, hl]
  have hc : cellsR (A ++ [⟨t.lo, e, t.val⟩]) = (cellsR (A ++ [t])).set (A.length * 2 + 1) (.int .u64 e) := by
    rw [cellsR_append, cellsR_append, List.set_append_right _ _ (by rw [show (cellsR A).length = A.length * 2 from cat_len encR 2 (fun _ => rfl) A]; omega), show (cellsR A).length = A.length * 2 from cat_len encR 2 (fun _ => rfl) A, show A.length * 2 + 1 - A.length * 2 = 1 by omega]
    simp [cellsR, encR]
  rw [hc]
  exact h1

/-- Two rooms by !=. -/
theorem neq_room (a b a' b' : Int) (w : World) : (binOp .neq 57 (.agg #[.int .u64 a, .int .u64 b]) (.agg #[.int .u64 a', .int .u64 b'])).run Try.prog w = .ok (.bool (!(a == a' && b == b'))) w := by
  have u26 := Try.underlying26
  have a26 := Try.isAgg26
  have z26 := Try.sizeOf26
  have hS : Try.prog.underlying 57 = some (.struct (Try.prog.fieldsOf 57)) := by kernel_rfl
  have hp : Try.prog.stoodInHeld 57 = false := by kernel_rfl
  have h1 : (binOp .eql 57 (.agg #[.int .u64 a, .int .u64 b]) (.agg #[.int .u64 a', .int .u64 b'])).run Try.prog w = .ok (.bool (a == a' && b == b')) w := by
    rw [run_eql_struct, show (10000 : Nat) = 9999 + 1 from rfl, run_equalIn_agg w 9999 57 _ _ hS hp]
    simp only [Program.fieldsOf, Try.underlying57]
    go_simp
    by_cases h1 : a = a' <;> by_cases h2 : b = b' <;> simp [h1, h2]
  rw [run_eql_struct] at h1
  rw [run_neq_struct]
  cases hq : (Op.equalIn 10000 57 (.agg #[.int .u64 a, .int .u64 b]) (.agg #[.int .u64 a', .int .u64 b'])).run Try.prog w with
  | ok b w' =>
    rw [hq] at h1
    simp only [Result.andThen] at h1 ⊢
    cases h1
    rfl
  | _ => rw [hq] at h1; simp [Result.andThen] at h1

set_option maxHeartbeats 4000000 in
set_option maxRecDepth 100000 in
theorem rooms_any (W : World) (lo lo2 : Nat) (v u : Value) (L : List (Sp Unit)) (h : Lm W lo v L) (h2 : Lm W lo2 u L) (hsz : L.length ≤ 9000000) :
    Calls Try.prog 26 #[v, u] W fun e W' => e = .returned (.bool true) ∧ Below W.heap.size W W' := by
  obtain ⟨va, vc, hv, hvc⟩ := Lm.view h
  subst hv
  obtain ⟨ua, uc, hu, huc⟩ := Lm.view h2
  subst hu
  have HV : Hid (∀ i s, L[i]? = some s → ∃ g, va = some ⟨g, 0, none⟩ ∧ lo ≤ g ∧ g < W.heap.size ∧ W.cell? ⟨g, i * 2, none⟩ = some (.int .u64 s.lo) ∧ W.cell? ⟨g, i * 2 + 1, none⟩ = some (.int .u64 s.hi) ∧ W.frozen? ⟨g, i * 2 + 1, none⟩ = false) := hvc
  have HU : Hid (∀ i s, L[i]? = some s → ∃ g, ua = some ⟨g, 0, none⟩ ∧ lo2 ≤ g ∧ g < W.heap.size ∧ W.cell? ⟨g, i * 2, none⟩ = some (.int .u64 s.lo) ∧ W.cell? ⟨g, i * 2 + 1, none⟩ = some (.int .u64 s.hi) ∧ W.frozen? ⟨g, i * 2 + 1, none⟩ = false) := huc
  have hneq := neq_room
  clear h h2 hvc huc
  generalize hn : L.length = n at *
  have HN : Hid (L.length = n) := hn
  clear hn
  go_enter Try.func26, Try.ntmps26
  go_wp2
  go_loopw [5] (fun i wr => ∃ (k : Nat), k ≤ n ∧ i = .int .i64 k ∧ Hid (Below W.heap.size W wr)) (fun i _ => n - (intOf i).toNat)
  case atStart => exact ⟨0, Nat.zero_le _, rfl, Below.refl _ _⟩
  case round =>
    obtain ⟨k, hk, rfl, HB⟩ := hrel
    by_cases hlt : k < n
    · obtain ⟨s, hs⟩ : ∃ s, L[k]? = some s := ⟨_, List.getElem?_eq_getElem (by rw [HN.out]; exact hlt)⟩
      obtain ⟨g, rfl, _, hgl, q0, q1, _⟩ := HV.out k s hs
      obtain ⟨gg, rfl, _, hgg, z0, z1, _⟩ := HU.out k s hs
      have hltz : (k : Int) < (n : Int) := by omega
      have hk0 : (0 : Int) ≤ (k : Int) := by omega
      have HBo := HB.out
      obtain ⟨hcc, _⟩ := bcell HBo
      rw [← hcc _ _ hgl] at q0 q1
      rw [← hcc _ _ hgg] at z0 z1
      clear hcc hs
      go_wp2_with (fail)
      go_quiet (fail)
      go_wp2
      go_roundw
      case rel => exact ⟨k + 1, by omega, by go_num, below_go HBo (grown_below (grownBy_drewN wr none _))⟩
      case measure => simp [intOf]; omega
    · go_wp2
      go_ret
      exact ⟨rfl, HB.out⟩
end Go.Proofs.Ytliiblaodhcjhaa
