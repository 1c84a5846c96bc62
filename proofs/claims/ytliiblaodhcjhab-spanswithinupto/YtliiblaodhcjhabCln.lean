import Derived.Test.YtliiblaodhcjhabGet
import Derived.Lib.SliceRun
namespace Go.Proofs.Ytliiblaodhcjhab
open Go.RowKit
set_option linter.unusedVariables false

def getV : Option Int → Value
  | some x => .tuple #[.int .i64 x, .bool true]
  | none => .tuple #[.int .i64 0, .bool false]

set_option maxHeartbeats 4000000 in
set_option maxRecDepth 100000 in
theorem get_any (W : World) (lo p : Nat) (v : Value) (L : List (Sp Int)) (k : Int) (h : MapAt W lo p v L) (hsz : L.length < 4611686018427387904) :
    Calls Try.prog 31 #[.pointer (some ⟨p, 0, none⟩), .int .u64 k] W fun e W' => e = .returned (getV (get L k)) ∧ Below W.heap.size W W' := by
  have hC := run_any W lo p _ L k h hsz
  rw [← run_get h.good]
  have hset : ∀ (B : Nat) (a : Addr) (u : Value) (w2 : World), B ≤ a.block → Below B W w2 → Below B W (w2.setCell a u) := fun B a u w2 ha h2 => h2.setCell ha u
  cases hr : run L k with
  | none =>
    rw [hr] at hC
    simp only [optV] at hC
    go_enter Try.func31, Try.ntmps31
    go_wp2_with (go_at_call 35; refine hC.mono ?_; rintro e w1 ⟨rfl, hb⟩; have hz : W.heap.size ≤ w1.heap.size := hb.size)
    go_ret2
    refine ⟨rfl, ?_⟩
    repeat (first | exact hb | refine hset _ _ _ _ (by first | exact Nat.le_refl _ | assumption | (simp; done) | (simp; omega)) ?_ | refine Below.alloc ?_ (by first | exact Nat.le_refl _ | assumption | (simp; done) | (simp; omega)) _)
  | some s =>
    rw [hr] at hC
    simp only [optV] at hC
    go_enter Try.func31, Try.ntmps31
    go_wp2_with (go_at_call 35; refine hC.mono ?_; rintro e w1 ⟨rfl, hb⟩; have hz : W.heap.size ≤ w1.heap.size := hb.size)
    go_ret2
    refine ⟨rfl, ?_⟩
    repeat (first | exact hb | refine hset _ _ _ _ (by first | exact Nat.le_refl _ | assumption | (simp; done) | (simp; omega)) ?_ | refine Below.alloc ?_ (by first | exact Nat.le_refl _ | assumption | (simp; done) | (simp; omega)) _)

set_option maxHeartbeats 1000000 in
theorem len_any (W : World) (lo p : Nat) (v : Value) (L : List (Sp Int)) (h : MapAt W lo p v L) :
    Calls Try.prog 19 #[.pointer (some ⟨p, 0, none⟩)] W fun e W' => e = .returned (.int .i64 L.length) ∧ W = W' := by
  obtain ⟨a, cap, hv⟩ : ∃ a cap, v = .slice a L.length cap := by
    rcases h.own.view with ⟨rfl, rfl⟩ | ⟨g, cap, rfl, _⟩
    · exact ⟨_, _, rfl⟩
    · exact ⟨_, _, rfl⟩
  subst hv
  have hcW : W.cell? ⟨p, 0, none⟩ = some (.slice a L.length cap) := h.cell
  go_enter Try.func19, Try.ntmps19
  go_wp2
  go_ret
  exact ⟨rfl, rfl⟩

set_option maxHeartbeats 1000000 in
theorem new_any (W : World) :
    Calls Try.prog 27 #[] W fun e W' => e = .returned (.pointer (some ⟨W.heap.size, 0, none⟩)) ∧ W' = W.alloc (.cells #[.slice none 0 0] 76) := by
  go_enter Try.func27, Try.ntmps27
  go_wp2
  go_ret
  exact ⟨rfl, rfl⟩

theorem MapAt.new (W : World) (lo : Nat) (hlo : lo ≤ W.heap.size) : MapAt (W.alloc (.cells #[.slice none 0 0] 76)) lo W.heap.size (.slice none 0 0) [] :=
  ⟨heap_alloc_new W _, World.ownsRow_nil _ _ _ _, hlo, trivial⟩

set_option maxHeartbeats 4000000 in
set_option maxRecDepth 100000 in
/-- slices.Clone. -/
theorem clone_any (W : World) (lo : Nat) (v : Value) (L : List (Sp Int)) (h : Ls W lo v L) (hby : L.length * 24 ≤ 140737488355328) :
    Calls Try.prog 39 #[v] W fun e W' => ∃ v', e = .returned v' ∧ Ls W' W.heap.size v' L ∧ Below W.heap.size W W' := by
  obtain ⟨inf, hi0, hz0, hzs, hzb⟩ := info_parts infoEL
  have hnil : ∀ (a : Option Addr) (n c : Nat) (w : World), (binOp .eql 39 (.slice a n c) (.slice none 0 0)).run Try.prog w = .ok (.bool a.isNone) w := fun a n c w => Lib.run_eql_slice_nil w 39 45 a n c 0 0 Try.underlying39
  rcases h.view with ⟨rfl, rfl⟩ | ⟨g, cap, rfl, hg1, hg2, hcap, hcap2, hcell⟩
  · go_enter Try.func39, Try.ntmps39
    go_wp2
    go_ret
    exact ⟨_, rfl, World.ownsRow_nil _ _ _ _, Below.refl _ _⟩
  · obtain ⟨W1, hW1⟩ : ∃ W1, W1 = W.alloc (.cells #[] 45) := ⟨_, rfl⟩
    have hB1 : Below W.heap.size W W1 := by rw [hW1]; exact (Below.refl _ W).alloc (Nat.le_refl _) _
    have hrow : RowAt W1 W.heap.size 45 [] := by rw [hW1]; exact heap_alloc_new W _
    have hsz1 : W1.heap.size = W.heap.size + 1 := by rw [hW1]; simp
    have h1 : Ls W1 lo _ L := h.keep hB1 (fun g hg => (h.lt g hg).2)
    obtain ⟨v', W2, hr, ho, hg, hb⟩ := append_any (P := Try.prog) W1 39 45 inf _ Try.underlying39 hi0 hz0 (by rw [hzs]; rfl) W.heap.size 0 L.length (.slice (some ⟨W.heap.size, 0, none⟩) 0 0) (.slice (some ⟨g, 0, none⟩) L.length cap) [] (cellsL L)
      (own_of_row hrow (Nat.le_refl _) (Nat.le_refl _) (by decide) (by simp) (by simp)) (by rw [hzs]; exact src_of_own Try.underlying39 h1 (cellsL_one L)) (by omega) (by unfold maxLen; omega) (by rw [hzb]; omega)
    rw [hzs, Nat.zero_add, List.nil_append] at ho
    have hgr : W.grownBy W2 none := grownBy_new (below_grown hB1) hg (Nat.le_refl _)
    clear hcell
    go_enter Try.func39, Try.ntmps39
    go_wp2_with (at_builtin; refine Lib.wpList_append_run _ rfl _ _ 39 39 rfl _ _ rfl rfl _ _ (by rw [← hW1]; exact hr _) ?_)
    go_ret
    exact ⟨v', rfl, ho, grown_below hgr⟩

set_option maxHeartbeats 1000000 in
theorem spans_any (W : World) (lo p : Nat) (v : Value) (L : List (Sp Int)) (h : MapAt W lo p v L) (hby : L.length * 24 ≤ 140737488355328) :
    Calls Try.prog 25 #[.pointer (some ⟨p, 0, none⟩)] W fun e W' => ∃ v', e = .returned v' ∧ Ls W' W.heap.size v' L ∧ Below W.heap.size W W' := by
  have hC := clone_any W lo v L h.own hby
  have hcW : W.cell? ⟨p, 0, none⟩ = some v := h.cell
  go_enter Try.func25, Try.ntmps25
  go_wp2_with (go_at_call 39; refine hC.mono ?_; rintro e w1 ⟨v', rfl, h1, h2⟩)
  go_ret
  exact ⟨v', rfl, h1, h2⟩
end Go.Proofs.Ytliiblaodhcjhab
