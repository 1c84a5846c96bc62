import Derived.Test.YtliiblaodhcjhabMade
import Derived.Test.YtliiblaodhcjhabAlike
namespace Go.Proofs.Ytliiblaodhcjhab
open Go.RowKit
set_option linter.unusedVariables false

set_option maxHeartbeats 4000000 in
set_option maxRecDepth 100000 in
theorem asked_get (W : World) (lo p q : Nat) (v u : Value) (L : List (Sp Int)) (D : List Dn) (o : Op4) (hM : MapAt W lo p v L) (hR : RefAt W lo q u D) (hBo : Both L D) (hl : L.length ≤ 4000000) (hs : D.length ≤ 1048576) (r1 : 0 ≤ o.lo) (r2 : o.lo ≤ 18446744073709551615) (hk : o.kind = 3) :
    Calls Try.prog 11 #[.pointer (some ⟨p, 0, none⟩), .pointer (some ⟨q, 0, none⟩), .agg #[.int .i64 o.kind, .int .u64 o.lo, .int .u64 o.hi, .int .i64 o.val]] W fun e W' => e = .returned (.bool true) ∧ Below W.heap.size W W' := by
  have hb0 := below_alloc (Below.refl W.heap.size W) (.cells #[.int .i64 o.kind, .int .u64 o.lo, .int .u64 o.hi, .int .i64 o.val] 34)
  have hM1 := hM.keep hb0
  have hR1 := hR.keep hb0
  have hx1 : (W.alloc (.cells #[.int .i64 o.kind, .int .u64 o.lo, .int .u64 o.hi, .int .i64 o.val] 34)).heap[W.heap.size]? = some (.cells #[.int .i64 o.kind, .int .u64 o.lo, .int .u64 o.hi, .int .i64 o.val] 34 (0, 0)) := heap_alloc_new W _
  have hG := get_any _ _ _ _ L o.lo hM1 (by omega)
  have hbo := hBo o.lo r1 r2
  have hk3 : (o.kind == 3) = true := by simp [hk]
  rw [hbo] at hG
  clear hM hR hk hM1 hbo hBo
  go_enter Try.func11, Try.ntmps11
  go_wp2_with (fail)
  refine hG.mono ?_
  rintro e w1 ⟨rfl, hb1⟩
  have hR2 := hR1.keep hb1
  have hK := rget_any w1 _ _ _ D o.lo hR2 hs
  have hx2 := hx1
  rw [← hb1.block W.heap.size (by rw [World.size_alloc]; exact Nat.lt_succ_self _)] at hx2
  obtain ⟨y1, y2, y3⟩ := op_cells hx2
  have hB2 := below_go hb0 hb1
  clear hG hR1 hx1 hb1 hR2 hx2
  cases hg : refG D o.lo with
  | none =>
    rw [hg] at hK
    simp only [getV] at hK ⊢
    clear hg
    go_wp2_with (fail)
    refine hK.mono ?_
    rintro e w2 ⟨rfl, hb2⟩
    have hB3 := below_go hB2 hb2
    clear hK hb2 hB2
    go_wp2
    go_ret
    exact ⟨by first | rfl | simp, hB3⟩
  | some x =>
    rw [hg] at hK
    simp only [getV] at hK ⊢
    clear hg
    go_wp2_with (fail)
    refine hK.mono ?_
    rintro e w2 ⟨rfl, hb2⟩
    have hB3 := below_go hB2 hb2
    clear hK hb2 hB2
    go_wp2
    go_ret
    exact ⟨by first | rfl | simp, hB3⟩
set_option maxHeartbeats 4000000 in
set_option maxRecDepth 100000 in
theorem asked_run (W : World) (lo p q : Nat) (v u : Value) (L : List (Sp Int)) (D : List Dn) (o : Op4) (hM : MapAt W lo p v L) (hR : RefAt W lo q u D) (hBo : Both L D) (hl : L.length ≤ 4000000) (hs : D.length ≤ 1048576) (r1 : 0 ≤ o.lo) (r2 : o.lo ≤ 18446744073709551615) (hk : o.kind = 4) :
    Calls Try.prog 11 #[.pointer (some ⟨p, 0, none⟩), .pointer (some ⟨q, 0, none⟩), .agg #[.int .i64 o.kind, .int .u64 o.lo, .int .u64 o.hi, .int .i64 o.val]] W fun e W' => e = .returned (.bool true) ∧ Below W.heap.size W W' := by
  have hb0 := below_alloc (Below.refl W.heap.size W) (.cells #[.int .i64 o.kind, .int .u64 o.lo, .int .u64 o.hi, .int .i64 o.val] 34)
  have hM1 := hM.keep hb0
  have hR1 := hR.keep hb0
  have hx1 : (W.alloc (.cells #[.int .i64 o.kind, .int .u64 o.lo, .int .u64 o.hi, .int .i64 o.val] 34)).heap[W.heap.size]? = some (.cells #[.int .i64 o.kind, .int .u64 o.lo, .int .u64 o.hi, .int .i64 o.val] 34 (0, 0)) := heap_alloc_new W _
  have hG := run_any _ _ _ _ L o.lo hM1 (by omega)
  have HG : Hid (Good 0 none L ∧ Both L D) := ⟨hM.good, hBo⟩
  have hk30 : (o.kind == 3) = false := by simp [hk]
  have hk3 : (o.kind == 4) = true := by simp [hk]
  clear hM hR hk hM1 hBo
  go_enter Try.func11, Try.ntmps11
  go_wp2_with (fail)
  refine hG.mono ?_
  rintro e w1 ⟨rfl, hb1⟩
  have hR2 := hR1.keep hb1
  have hK := fun ob => rrun_any (w1.alloc ob) _ _ _ D o.lo (hR2.keep (below_alloc (Below.refl _ w1) ob)) hs L HG.out.1 HG.out.2
  have hx2 := hx1
  rw [← hb1.block W.heap.size (by rw [World.size_alloc]; exact Nat.lt_succ_self _)] at hx2
  obtain ⟨y1, y2, y3⟩ := op_cells hx2
  have hz : W.heap.size < w1.heap.size := by have := hb1.size; rw [World.size_alloc] at this; omega

  have hB2 := below_go hb0 hb1
  clear hG hR1 hx1 hb1 hR2 hx2
  cases hg : run L o.lo with
  | none =>
    rw [hg] at hK
    simp only [optV] at hK ⊢
    clear hg
    go_wp2_with (fail)
    refine (hK _).mono ?_
    rintro e w2 ⟨rfl, hb2⟩
    have hB3 := below_go (below_alloc hB2 _) hb2
    have hsz2 := hb2.size
    rw [World.size_alloc] at hb2 hsz2
    have hz2 : w1.heap.size < w2.heap.size := by omega
    obtain ⟨hc2, _⟩ := bcell hb2
    have t0 : w2.cell? ⟨w1.heap.size, 0, none⟩ = some (.int .u64 0) := by rw [hc2 _ _ (Nat.lt_succ_self _)]; simp [go_sem]
    have t1 : w2.cell? ⟨w1.heap.size, 1, none⟩ = some (.int .u64 0) := by rw [hc2 _ _ (Nat.lt_succ_self _)]; simp [go_sem]
    have t2 : w2.cell? ⟨w1.heap.size, 2, none⟩ = some (.int .i64 0) := by rw [hc2 _ _ (Nat.lt_succ_self _)]; simp [go_sem]
    clear hc2
    clear hK hb2 hB2
    go_wp2_with (fail)
    refine (like_any ⟨0, 0, 0⟩ _).mono ?_
    rintro e w3 ⟨rfl, hb3⟩
    have hB4 := below_go (below_alloc hB3 _) hb3
    clear hb3 hB3
    go_wp2
    go_ret
    exact ⟨by first | rfl | simp, hB4⟩
  | some x =>
    rw [hg] at hK
    simp only [optV] at hK ⊢
    clear hg
    go_wp2_with (fail)
    refine (hK _).mono ?_
    rintro e w2 ⟨rfl, hb2⟩
    have hB3 := below_go (below_alloc hB2 _) hb2
    have hsz2 := hb2.size
    rw [World.size_alloc] at hb2 hsz2
    have hz2 : w1.heap.size < w2.heap.size := by omega
    obtain ⟨hc2, _⟩ := bcell hb2
    have t0 : w2.cell? ⟨w1.heap.size, 0, none⟩ = some (.int .u64 x.lo) := by rw [hc2 _ _ (Nat.lt_succ_self _)]; simp [go_sem]
    have t1 : w2.cell? ⟨w1.heap.size, 1, none⟩ = some (.int .u64 x.hi) := by rw [hc2 _ _ (Nat.lt_succ_self _)]; simp [go_sem]
    have t2 : w2.cell? ⟨w1.heap.size, 2, none⟩ = some (.int .i64 x.val) := by rw [hc2 _ _ (Nat.lt_succ_self _)]; simp [go_sem]
    clear hc2
    clear hK hb2 hB2
    go_wp2_with (fail)
    refine (like_any x _).mono ?_
    rintro e w3 ⟨rfl, hb3⟩
    have hB4 := below_go (below_alloc hB3 _) hb3
    clear hb3 hB3
    go_wp2
    go_ret
    exact ⟨by first | rfl | simp, hB4⟩

set_option maxHeartbeats 4000000 in
set_option maxRecDepth 100000 in
theorem asked_next (W : World) (lo p q : Nat) (v u : Value) (L : List (Sp Int)) (D : List Dn) (o : Op4) (hM : MapAt W lo p v L) (hR : RefAt W lo q u D) (hBo : Both L D) (hl : L.length ≤ 4000000) (hs : D.length ≤ 1048576) (r1 : 0 ≤ o.lo) (r2 : o.lo ≤ 18446744073709551615) (hk : o.kind = 5) :
    Calls Try.prog 11 #[.pointer (some ⟨p, 0, none⟩), .pointer (some ⟨q, 0, none⟩), .agg #[.int .i64 o.kind, .int .u64 o.lo, .int .u64 o.hi, .int .i64 o.val]] W fun e W' => e = .returned (.bool true) ∧ Below W.heap.size W W' := by
  have hb0 := below_alloc (Below.refl W.heap.size W) (.cells #[.int .i64 o.kind, .int .u64 o.lo, .int .u64 o.hi, .int .i64 o.val] 34)
  have hM1 := hM.keep hb0
  have hR1 := hR.keep hb0
  have hx1 : (W.alloc (.cells #[.int .i64 o.kind, .int .u64 o.lo, .int .u64 o.hi, .int .i64 o.val] 34)).heap[W.heap.size]? = some (.cells #[.int .i64 o.kind, .int .u64 o.lo, .int .u64 o.hi, .int .i64 o.val] 34 (0, 0)) := heap_alloc_new W _
  have hG := next_any _ _ _ _ L o.lo hM1 (by omega)
  have HG : Hid (Good 0 none L ∧ Both L D) := ⟨hM.good, hBo⟩
  have hk30 : (o.kind == 3) = false := by simp [hk]
  have hk40 : (o.kind == 4) = false := by simp [hk]
  have hk3 : (o.kind == 5) = true := by simp [hk]
  clear hM hR hk hM1 hBo
  go_enter Try.func11, Try.ntmps11
  go_wp2_with (fail)
  refine hG.mono ?_
  rintro e w1 ⟨rfl, hb1⟩
  have hR2 := hR1.keep hb1
  have hK := fun ob => rnext_any (w1.alloc ob) _ _ _ D o.lo (hR2.keep (below_alloc (Below.refl _ w1) ob)) hs L HG.out.1 HG.out.2
  have hx2 := hx1
  rw [← hb1.block W.heap.size (by rw [World.size_alloc]; exact Nat.lt_succ_self _)] at hx2
  obtain ⟨y1, y2, y3⟩ := op_cells hx2
  have hz : W.heap.size < w1.heap.size := by have := hb1.size; rw [World.size_alloc] at this; omega

  have hB2 := below_go hb0 hb1
  clear hG hR1 hx1 hb1 hR2 hx2
  cases hg : next L o.lo with
  | none =>
    rw [hg] at hK
    simp only [optV] at hK ⊢
    clear hg
    go_wp2_with (fail)
    refine (hK _).mono ?_
    rintro e w2 ⟨rfl, hb2⟩
    have hB3 := below_go (below_alloc hB2 _) hb2
    have hsz2 := hb2.size
    rw [World.size_alloc] at hb2 hsz2
    have hz2 : w1.heap.size < w2.heap.size := by omega
    obtain ⟨hc2, _⟩ := bcell hb2
    have t0 : w2.cell? ⟨w1.heap.size, 0, none⟩ = some (.int .u64 0) := by rw [hc2 _ _ (Nat.lt_succ_self _)]; simp [go_sem]
    have t1 : w2.cell? ⟨w1.heap.size, 1, none⟩ = some (.int .u64 0) := by rw [hc2 _ _ (Nat.lt_succ_self _)]; simp [go_sem]
    have t2 : w2.cell? ⟨w1.heap.size, 2, none⟩ = some (.int .i64 0) := by rw [hc2 _ _ (Nat.lt_succ_self _)]; simp [go_sem]
    clear hc2
    clear hK hb2 hB2
    go_wp2_with (fail)
    refine (like_any ⟨0, 0, 0⟩ _).mono ?_
    rintro e w3 ⟨rfl, hb3⟩
    have hB4 := below_go (below_alloc hB3 _) hb3
    clear hb3 hB3
    go_wp2
    go_ret
    exact ⟨by first | rfl | simp, hB4⟩
  | some x =>
    rw [hg] at hK
    simp only [optV] at hK ⊢
    clear hg
    go_wp2_with (fail)
    refine (hK _).mono ?_
    rintro e w2 ⟨rfl, hb2⟩
    have hB3 := below_go (below_alloc hB2 _) hb2
    have hsz2 := hb2.size
    rw [World.size_alloc] at hb2 hsz2
    have hz2 : w1.heap.size < w2.heap.size := by omega
    obtain ⟨hc2, _⟩ := bcell hb2
    have t0 : w2.cell? ⟨w1.heap.size, 0, none⟩ = some (.int .u64 x.lo) := by rw [hc2 _ _ (Nat.lt_succ_self _)]; simp [go_sem]
    have t1 : w2.cell? ⟨w1.heap.size, 1, none⟩ = some (.int .u64 x.hi) := by rw [hc2 _ _ (Nat.lt_succ_self _)]; simp [go_sem]
    have t2 : w2.cell? ⟨w1.heap.size, 2, none⟩ = some (.int .i64 x.val) := by rw [hc2 _ _ (Nat.lt_succ_self _)]; simp [go_sem]
    clear hc2
    clear hK hb2 hB2
    go_wp2_with (fail)
    refine (like_any x _).mono ?_
    rintro e w3 ⟨rfl, hb3⟩
    have hB4 := below_go (below_alloc hB3 _) hb3
    clear hb3 hB3
    go_wp2
    go_ret
    exact ⟨by first | rfl | simp, hB4⟩

set_option maxHeartbeats 4000000 in
set_option maxRecDepth 100000 in
theorem asked_spans (W : World) (lo p q : Nat) (v u : Value) (L : List (Sp Int)) (D : List Dn) (o : Op4) (hM : MapAt W lo p v L) (hR : RefAt W lo q u D) (hBo : Both L D) (hl : L.length ≤ 4000000) (hs : D.length ≤ 1048576) (hk : o.kind = 6) :
    Calls Try.prog 11 #[.pointer (some ⟨p, 0, none⟩), .pointer (some ⟨q, 0, none⟩), .agg #[.int .i64 o.kind, .int .u64 o.lo, .int .u64 o.hi, .int .i64 o.val]] W fun e W' => e = .returned (.bool true) ∧ Below W.heap.size W W' := by
  have hb0 := below_alloc (Below.refl W.heap.size W) (.cells #[.int .i64 o.kind, .int .u64 o.lo, .int .u64 o.hi, .int .i64 o.val] 34)
  have hM1 := hM.keep hb0
  have hR1 := hR.keep hb0
  have hG := spans_any _ _ _ _ L hM1 (by omega)
  have HG : Hid (Good 0 none L ∧ Both L D) := ⟨hM.good, hBo⟩
  have hk30 : (o.kind == 3) = false := by simp [hk]
  have hk40 : (o.kind == 4) = false := by simp [hk]
  have hk50 : (o.kind == 5) = false := by simp [hk]
  have hk60 : (o.kind == 6) = true := by simp [hk]
  clear hM hR hk hBo
  go_enter Try.func11, Try.ntmps11
  go_wp2_with (fail)
  refine hG.mono ?_
  rintro e w1 ⟨v1, rfl, hL1, hb1⟩
  have hR2 := hR1.keep hb1
  have hM2 := hM1.keep hb1
  have hK := rsp_is w1 _ _ _ D hR2 hs L HG.out.1 HG.out.2
  have hz : W.heap.size < w1.heap.size := by have := hb1.size; rw [World.size_alloc] at this; omega

  have hB2 := below_go hb0 hb1
  clear hG hR1 hM1 hb1 hR2
  go_wp2_with (fail)
  refine hK.mono ?_
  rintro e w2 ⟨u2, rfl, ⟨hL2, hll⟩, hb2⟩
  have hL3 := hL1.keep hb2 (fun g hg => (hL1.lt g hg).2)
  have hM3 := hM2.keep hb2
  have hB3 := below_go hB2 hb2
  have hA := alike_any w2 _ _ _ _ L hL3 hL2 hl
  obtain ⟨va, vc, hu, hvc⟩ := Lr.view hL2
  subst hu
  clear hK hL1 hL2 hL3 hM2 hB2 hb2 hvc
  go_wp2_with (fail)
  refine hA.mono ?_
  rintro e w3 ⟨rfl, hb3⟩
  have hM4 := hM3.keep hb3
  have hB4 := below_go hB3 hb3
  have hN := len_any w3 _ _ _ L hM4
  clear hA hM3 hb3 hB3 hM4
  go_wp2_with (fail)
  refine hN.mono ?_
  rintro e w4 ⟨rfl, rfl⟩
  go_wp2
  go_ret
  exact ⟨by first | rfl | simp, hB4⟩

set_option maxHeartbeats 4000000 in
set_option maxRecDepth 100000 in
theorem asked_done (W0 W : World) (hB : Below W0.heap.size W0 W) (lo p q : Nat) (v u : Value) (L : List (Sp Int)) (D : List Dn) (o : Op4) (hM : MapAt W lo p v L) (hR : RefAt W lo q u D) (hlo : W0.heap.size ≤ lo) (hl : L.length ≤ 4000000) (hs : D.length ≤ 1048576) (r1 : 0 ≤ o.lo) (r4 : o.hi ≤ 18446744073709551615) (hk3 : ¬ o.kind = 3) (hk4 : ¬ o.kind = 4) (hk5 : ¬ o.kind = 5) (hk6 : ¬ o.kind = 6) :
    Calls Try.prog 11 #[.pointer (some ⟨p, 0, none⟩), .pointer (some ⟨q, 0, none⟩), .agg #[.int .i64 o.kind, .int .u64 o.lo, .int .u64 o.hi, .int .i64 o.val]] W fun e W' => e = .returned (.bool true) ∧ (∃ v' u', MapAt W' lo p v' (layS L o) ∧ RefAt W' lo q u' (didS D o)) ∧ Below W0.heap.size W0 W' := by
  have hb0 := below_alloc (Below.refl W.heap.size W) (.cells #[.int .i64 o.kind, .int .u64 o.lo, .int .u64 o.hi, .int .i64 o.val] 34)
  have hC := done_any W0 _ (below_go hB hb0) lo p q v u L D o (hM.keep hb0) (hR.keep hb0) hlo (by omega) (by omega) r1 r4
  have hk30 : (o.kind == 3) = false := by simp [hk3]
  have hk40 : (o.kind == 4) = false := by simp [hk4]
  have hk50 : (o.kind == 5) = false := by simp [hk5]
  have hk60 : (o.kind == 6) = false := by simp [hk6]
  clear hM hR hB hb0 hk3 hk4 hk5 hk6
  go_enter Try.func11, Try.ntmps11
  go_wp2_with (fail)
  refine hC.mono ?_
  rintro e w1 ⟨rfl, hP, hB1⟩
  clear hC
  go_wp2
  go_ret
  exact ⟨rfl, hP, hB1⟩

theorem asked_any (W0 W : World) (hB : Below W0.heap.size W0 W) (lo p q : Nat) (v u : Value) (L : List (Sp Int)) (D : List Dn) (o : Op4) (hM : MapAt W lo p v L) (hR : RefAt W lo q u D) (hBo : Both L D) (hlo : W0.heap.size ≤ lo) (hl : L.length ≤ 4000000) (hs : D.length ≤ 1048576) (r1 : 0 ≤ o.lo) (r2 : o.lo ≤ 18446744073709551615) (r4 : o.hi ≤ 18446744073709551615) :
    Calls Try.prog 11 #[.pointer (some ⟨p, 0, none⟩), .pointer (some ⟨q, 0, none⟩), .agg #[.int .i64 o.kind, .int .u64 o.lo, .int .u64 o.hi, .int .i64 o.val]] W fun e W' => e = .returned (.bool true) ∧ (∃ v' u', MapAt W' lo p v' (layS L o) ∧ RefAt W' lo q u' (didS D o)) ∧ Below W0.heap.size W0 W' := by
  have quiet : ∀ {e : Ending} {W' : World}, o.kind ≠ 1 → o.kind ≠ 2 → (e = .returned (.bool true) ∧ Below W.heap.size W W') → (e = .returned (.bool true) ∧ (∃ v' u', MapAt W' lo p v' (layS L o) ∧ RefAt W' lo q u' (didS D o)) ∧ Below W0.heap.size W0 W') := by
    intro e W' h1 h2 ⟨he, hb⟩
    rw [layS, if_neg h1, if_neg h2, didS, if_neg h1, if_neg h2]
    exact ⟨he, ⟨v, u, hM.keep hb, hR.keep hb⟩, below_go hB hb⟩
  by_cases k3 : o.kind = 3
  · exact (asked_get W lo p q v u L D o hM hR hBo hl hs r1 r2 k3).mono (fun e W' h => quiet (by omega) (by omega) h)
  by_cases k4 : o.kind = 4
  · exact (asked_run W lo p q v u L D o hM hR hBo hl hs r1 r2 k4).mono (fun e W' h => quiet (by omega) (by omega) h)
  by_cases k5 : o.kind = 5
  · exact (asked_next W lo p q v u L D o hM hR hBo hl hs r1 r2 k5).mono (fun e W' h => quiet (by omega) (by omega) h)
  by_cases k6 : o.kind = 6
  · exact (asked_spans W lo p q v u L D o hM hR hBo hl hs k6).mono (fun e W' h => quiet (by omega) (by omega) h)
  exact asked_done W0 W hB lo p q v u L D o hM hR hlo hl hs r1 r4 k3 k4 k5 k6
end Go.Proofs.Ytliiblaodhcjhab
