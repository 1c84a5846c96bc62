import Derived.Test.YtbbnodhpafiplaaDoorCc
namespace Go.Proofs.YtbbnodhpafiplaaDoor
open Go.RowKit
set_option linter.unusedVariables false
set_option linter.unusedSimpArgs false
theorem ix_split {L : List Slo} {k : Nat} {s : Slo} (hs : L[k]? = some s) : L = L.take k ++ s :: L.drop (k + 1) := by
  have hk := (List.getElem?_eq_some_iff.1 hs).1
  have he := (List.getElem?_eq_some_iff.1 hs).2
  conv => lhs; rw [← List.take_append_drop k L, List.drop_eq_getElem_cons hk, he]
theorem ix_yes {L : List Slo} {k : Nat} {s v : Slo} (hs : L[k]? = some s) (hn : ixF (L.take k) v = none) (h : s.same v = true) : ixF L v = some k := by
  have hk := (List.getElem?_eq_some_iff.1 hs).1
  unfold ixF at *
  rw [ix_split hs, List.findIdx?_append, hn, List.findIdx?_cons, h]
  simp
  omega
theorem ix_no {L : List Slo} {k : Nat} {s v : Slo} (hs : L[k]? = some s) (hn : ixF (L.take k) v = none) (h : s.same v = false) : ixF (L.take (k + 1)) v = none := by
  unfold ixF at *
  rw [List.take_add_one, hs, List.findIdx?_append, hn]
  simp [List.findIdx?_cons, h]
def ixI (L : List Slo) (v : Slo) : Int := match ixF L v with | some i => (i : Int) | none => -1
theorem ixF_lt {L : List Slo} {v : Slo} {i : Nat} (h : ixF L v = some i) : i < L.length := by
  unfold ixF at h
  obtain ⟨hi, _⟩ := List.findIdx?_eq_some_iff_getElem.1 h
  exact hi
set_option maxRecDepth 100000 in
theorem eqB (a b : Blo) (w : World) : (Op.equalIn 10000 38 (.agg #[.int .i64 a.asid, .int .i64 a.t.size, .int .u32 a.t.va, .int .u64 a.t.pa, .int .i64 a.t.dom, .int .i64 a.t.ap, .int .u32 a.t.bits, .bool a.t.ng, .bool a.t.xn]) (.agg #[.int .i64 b.asid, .int .i64 b.t.size, .int .u32 b.t.va, .int .u64 b.t.pa, .int .i64 b.t.dom, .int .i64 b.t.ap, .int .u32 b.t.bits, .bool b.t.ng, .bool b.t.xn])).run Tryd.prog w = .ok (a.same b) w := by
  obtain ⟨a0, a1, a2, a3, a4, a5, a6, a7, a8⟩ := a
  obtain ⟨b0, b1, b2, b3, b4, b5, b6, b7, b8⟩ := b
  go_simp
  simp only [Blo.same, Tra.same]
  repeat' split
  all_goals simp_all
set_option maxRecDepth 100000 in
theorem eqS (a b : Slo) (w : World) : (Op.equalIn 10000 57 (.agg #[.bool a.full, .int .i64 a.b.asid, .int .i64 a.b.t.size, .int .u32 a.b.t.va, .int .u64 a.b.t.pa, .int .i64 a.b.t.dom, .int .i64 a.b.t.ap, .int .u32 a.b.t.bits, .bool a.b.t.ng, .bool a.b.t.xn]) (.agg #[.bool b.full, .int .i64 b.b.asid, .int .i64 b.b.t.size, .int .u32 b.b.t.va, .int .u64 b.b.t.pa, .int .i64 b.b.t.dom, .int .i64 b.b.t.ap, .int .u32 b.b.t.bits, .bool b.b.t.ng, .bool b.b.t.xn])).run Tryd.prog w = .ok (a.same b) w := by
  obtain ⟨af, a0, a1, a2, a3, a4, a5, a6, a7, a8⟩ := a
  obtain ⟨bf, b0, b1, b2, b3, b4, b5, b6, b7, b8⟩ := b
  go_simp
  simp only [Slo.same, Blo.same, Tra.same]
  repeat' split
  all_goals simp_all
/-- Index: the box of what is sought, the row. -/
structure IX (W wr : World) (g : Nat) (L : List Slo) (v : Slo) : Prop where
  bel : Below W.heap.size W wr
  row : Bl wr g 57 (rowS L)
  box : Bl wr W.heap.size 57 ([.bool v.full, .int .i64 v.b.asid, .int .i64 v.b.t.size, .int .u32 v.b.t.va, .int .u64 v.b.t.pa, .int .i64 v.b.t.dom, .int .i64 v.b.t.ap, .int .u32 v.b.t.bits, .bool v.b.t.ng, .bool v.b.t.xn])
theorem IX.drewN {W wr : World} {g : Nat} {L : List Slo} {v : Slo} (h : IX W wr g L v) (q : Nat) : IX W (wr.drewN q) g L v := ⟨below_drewN h.bel q, h.row.drewN q, h.box.drewN q⟩
set_option maxRecDepth 100000 in
set_option maxHeartbeats 4000000 in
theorem index_any (W : World) (g : Nat) (L : List Slo) (v : Slo) (hR : Bl W g 57 (rowS L)) (hn : L.length ≤ 64) : Calls Tryd.prog 59 #[.slice (some ⟨g, 0, none⟩) L.length L.length, .agg #[.bool v.full, .int .i64 v.b.asid, .int .i64 v.b.t.size, .int .u32 v.b.t.va, .int .u64 v.b.t.pa, .int .i64 v.b.t.dom, .int .i64 v.b.t.ap, .int .u32 v.b.t.bits, .bool v.b.t.ng, .bool v.b.t.xn]] W fun e w' => e = .returned (.int .i64 (ixI L v)) ∧ Below W.heap.size W w' := by
  have HX0 : Hid (IX W (W.alloc (.cells ([.bool v.full, .int .i64 v.b.asid, .int .i64 v.b.t.size, .int .u32 v.b.t.va, .int .u64 v.b.t.pa, .int .i64 v.b.t.dom, .int .i64 v.b.t.ap, .int .u32 v.b.t.bits, .bool v.b.t.ng, .bool v.b.t.xn]).toArray 57)) g L v) := hidW ⟨below_new _ _, hR.below (below_new _ _), Bl.new _ _ _⟩
  clear hR
  generalize hl : L.length = n at *
  have HN : Hid (L.length = n) := hl
  clear hl
  go_enter Tryd.func59, Tryd.ntmps59
  go_wp2
  generalize World.alloc _ _ = w0 at *
  go_loopw [8] (fun i wr => ∃ k : Nat, k ≤ n ∧ i = .int .i64 k ∧ ixF (L.take k) v = none ∧ IX W wr g L v) (fun i _ => n - (intOf i).toNat)
  case atStart => exact ⟨0, by omega, rfl, rfl, HX0.out⟩
  case round =>
    obtain ⟨k, hk, rfl, hq, hX⟩ := hrel
    have HX := hidW hX
    have HQ := hidW hq
    clear hX hq HX0
    by_cases hlt : k < n
    · obtain ⟨s, hs⟩ : ∃ s, L[k]? = some s := ⟨_, List.getElem?_eq_getElem (by rw [HN.out]; exact hlt)⟩
      obtain ⟨e0, e1, e2, e3, e4, e5, e6, e7, e8, e9⟩ := rowS_cells HX.out.row hs
      have c0 := HX.out.box.cell
      have HS := hidW hs
      have he := eqS v s
      rw [Slo.same_comm] at he
      have HD := fun q => hidW (HX.out.drewN q)
      clear HX hs
      cases hm : s.same v
      · rw [hm] at he
        have HQ2 := hidW (ix_no HS.out HQ.out hm)
        clear HQ HS hm
        go_wp2
        go_quiet (fail)
        go_wp2
        go_roundw
        case rel => exact ⟨k + 1, by omega, by go_num, HQ2.out, (HD _).out⟩
        case measure => simp [intOf]; omega
      · rw [hm] at he
        have HQ2 := hidW (ix_yes HS.out HQ.out hm)
        clear HQ HS hm
        go_wp2
        go_quiet (fail)
        go_wp2
        go_ret
        exact ⟨by unfold ixI; rw [HQ2.out]; rfl, (HD _).out.bel⟩
    · obtain rfl : k = n := by omega
      have HQ2 : Hid (ixF L v = none) := by
        have := HQ.out
        rw [← HN.out, List.take_length] at this
        exact hidW this
      clear HQ
      go_wp2
      go_ret
      exact ⟨by unfold ixI; rw [HQ2.out]; rfl, HX.out.bel⟩
theorem tmod_rest (x : Int) (n : Nat) (h : 1 ≤ n) : -(n : Int) < x.tmod n ∧ x.tmod n < n ∧ x % n = (if x.tmod n < 0 then x.tmod n + n else x.tmod n) := by
  have hn : (n : Int) ≠ 0 := by omega
  by_cases h0 : 0 ≤ x
  · have e := Int.tmod_eq_emod_of_nonneg h0 (b := (n : Int))
    have h1 := Int.emod_nonneg x hn
    have h2 := Int.emod_lt_of_pos x (show (0 : Int) < n by omega)
    rw [e]
    refine ⟨by omega, by omega, ?_⟩
    rw [if_neg (by omega)]
  · have e : x.tmod n = -((-x) % n) := by
      have e1 := Int.neg_tmod (-x) (n : Int)
      rw [Int.neg_neg] at e1
      rw [e1, Int.tmod_eq_emod_of_nonneg (by omega)]
    have h1 := Int.emod_nonneg (-x) hn
    have h2 := Int.emod_lt_of_pos (-x) (show (0 : Int) < n by omega)
    have h3 := Int.emod_nonneg x hn
    have h4 := Int.emod_lt_of_pos x (show (0 : Int) < n by omega)
    have h5 := Int.mul_ediv_add_emod x n
    have h6 := Int.mul_ediv_add_emod (-x) n
    rw [e]
    refine ⟨by omega, by omega, ?_⟩
    have h7 : (n : Int) * (x / n + -x / n) = -(x % n + -x % n) := by rw [Int.mul_add]; omega
    have h8 : x / n + -x / n = 0 ∨ x / n + -x / n = -1 := by
      generalize x / (n : Int) + -x / n = z at h7
      have a1 : z < 1 := by
        by_cases hz : z < 1
        · exact hz
        · exfalso
          have : (n : Int) * 1 ≤ n * z := Int.mul_le_mul_of_nonneg_left (by omega) (by omega)
          omega
      have a2 : -2 < z := by
        by_cases hz : -2 < z
        · exact hz
        · exfalso
          have : (n : Int) * z ≤ n * (-2) := Int.mul_le_mul_of_nonneg_left (by omega) (by omega)
          omega
      omega
    rcases h8 with h8 | h8 <;> rw [h8] at h7 <;> split <;> omega
set_option maxRecDepth 100000 in
theorem rest_any (x : Int) (n : Nat) (w : World) (h1 : 1 ≤ n) (h2 : n ≤ 64) : Calls Tryd.prog 60 #[.int .i64 x, .int .i64 n] w fun e w' => e = .returned (.int .i64 (x % n)) ∧ w = w' := by
  obtain ⟨a1, a2, a3⟩ := tmod_rest x n h1
  rw [a3]
  have hn : ¬ (n : Int) = 0 := by omega
  have hw : IntKind.i64.wrap (x.tmod n) = x.tmod n := by rw [IntKind.wrap_i64]; omega
  have hw2 : IntKind.i64.wrap (x.tmod n + n) = x.tmod n + n := by rw [IntKind.wrap_i64]; omega
  clear a3
  by_cases h : x.tmod n < 0
  · rw [if_pos h]
    go_enter Tryd.func60, Tryd.ntmps60
    go_wp2
    go_ret
    exact ⟨rfl, rfl⟩
  · rw [if_neg h]
    go_enter Tryd.func60, Tryd.ntmps60
    go_wp2
    go_ret
    exact ⟨rfl, rfl⟩
end Go.Proofs.YtbbnodhpafiplaaDoor
