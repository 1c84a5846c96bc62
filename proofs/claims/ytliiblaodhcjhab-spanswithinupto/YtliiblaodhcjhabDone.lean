import Derived.Test.YtliiblaodhcjhabTwo
import Derived.Test.YtliiblaodhcjhabScr
namespace Go.Proofs.Ytliiblaodhcjhab
open Go.RowKit
set_option linter.unusedVariables false

def layS (L : List (Sp Int)) (o : Op4) : List (Sp Int) := if o.kind = 1 then setR L o.lo o.hi o.val else if o.kind = 2 then clearR L o.lo o.hi else L
def didS (D : List Dn) (o : Op4) : List Dn := if o.kind = 1 then didR D ⟨o.lo, o.hi, true, o.val⟩ else if o.kind = 2 then didR D ⟨o.lo, o.hi, false, 0⟩ else D

theorem both_lay {L : List (Sp Int)} {D : List Dn} (h : Both L D) (hg : Good 0 none L) {o : Op4} (ha : 0 ≤ o.lo) (hb : o.hi ≤ 18446744073709551615) : Both (layS L o) (didS D o) := by
  rw [layS, didS]
  split
  · exact both_set h hg ha hb _
  · split
    · exact both_clear h hg
    · exact h

theorem MapAt.drew {W : World} {lo p : Nat} {v : Value} {L : List (Sp Int)} (h : MapAt W lo p v L) : MapAt W.drew lo p v L := h.keep (grown_below (grownBy_drew W none))
theorem RefAt.drew {W : World} {lo p : Nat} {v : Value} {D : List Dn} (h : RefAt W lo p v D) : RefAt W.drew lo p v D := h.keep (grown_below (grownBy_drew W none))

/-- A cell of a block that is neither map's. -/
theorem Turn.apart {W W' : World} {lo p b j : Nat} {v x : Value} {L : List (Sp Int)} (t : Turn W W' p v) (hm : MapAt W lo p v L) {cur : Array Value} (hb : W.heap[b]? = some (.cells cur 34 (0, 0))) (hc : W.cell? ⟨b, j, none⟩ = some x) : W'.cell? ⟨b, j, none⟩ = some x := by
  rw [t.cell (Array.getElem?_eq_some_iff.1 hb).1 (block_ne hb hm.box (by decide)) (fun e => by obtain ⟨c2, hc2⟩ := own_type hm.own e.symm; exact block_ne hb hc2 (by decide) rfl)]
  exact hc
theorem Turn.apartB {W W' : World} {lo p b : Nat} {v : Value} {L : List (Sp Int)} (t : Turn W W' p v) (hm : MapAt W lo p v L) {cur : Array Value} (hb : W.heap[b]? = some (.cells cur 34 (0, 0))) : W'.heap[b]? = some (.cells cur 34 (0, 0)) := by
  rw [t.block b (Array.getElem?_eq_some_iff.1 hb).1 (block_ne hb hm.box (by decide)) (fun e => by obtain ⟨c2, hc2⟩ := own_type hm.own e.symm; exact block_ne hb hc2 (by decide) rfl)]
  exact hb
theorem Turn.apartR {W W' : World} {lo p b : Nat} {v : Value} {D : List Dn} (t : Turn W W' p v) (hm : RefAt W lo p v D) {cur : Array Value} (hb : W.heap[b]? = some (.cells cur 34 (0, 0))) : W'.heap[b]? = some (.cells cur 34 (0, 0)) := by
  rw [t.block b (Array.getElem?_eq_some_iff.1 hb).1 (block_ne hb hm.box (by decide)) (fun e => by obtain ⟨c2, hc2⟩ := own_type hm.own e.symm; exact block_ne hb hc2 (by decide) rfl)]
  exact hb

/-- The cells of a call that lies in a block. -/
theorem op_cells {W : World} {b : Nat} {o : Op4} (h : W.heap[b]? = some (.cells #[.int .i64 o.kind, .int .u64 o.lo, .int .u64 o.hi, .int .i64 o.val] 34 (0, 0))) : W.cell? ⟨b, 1, none⟩ = some (.int .u64 o.lo) ∧ W.cell? ⟨b, 2, none⟩ = some (.int .u64 o.hi) ∧ W.cell? ⟨b, 3, none⟩ = some (.int .i64 o.val) := by
  simp [World.cell?, h]

set_option maxHeartbeats 6000000 in
set_option maxRecDepth 100000 in
theorem done_set (W0 W : World) (hB : Below W0.heap.size W0 W) (lo p q : Nat) (v u : Value) (L : List (Sp Int)) (D : List Dn) (o : Op4) (hM : MapAt W lo p v L) (hR : RefAt W lo q u D) (hlo : W0.heap.size ≤ lo) (hsz : (L.length + 4) * 24 ≤ 140737488355328) (hs : D.length ≤ 2097152) (r1 : 0 ≤ o.lo) (r4 : o.hi ≤ 18446744073709551615) (hk : o.kind = 1) :
    Calls Try.prog 28 #[.pointer (some ⟨p, 0, none⟩), .pointer (some ⟨q, 0, none⟩), .agg #[.int .i64 o.kind, .int .u64 o.lo, .int .u64 o.hi, .int .i64 o.val]] W fun e W' => e = .returned (.bool true) ∧ (∃ v' u', MapAt W' lo p v' (setR L o.lo o.hi o.val) ∧ RefAt W' lo q u' (didR D ⟨o.lo, o.hi, true, o.val⟩)) ∧ Below W0.heap.size W0 W' := by
  obtain ⟨W1, hW1⟩ : ∃ W1, W1 = (W.alloc (.cells #[.int .i64 o.kind, .int .u64 o.lo, .int .u64 o.hi, .int .i64 o.val] 34)).drew := ⟨_, rfl⟩
  have hb0 : Below W.heap.size W W1 := by rw [hW1]; exact (below_alloc (Below.refl _ W) _).drew
  have hM1 := hM.keep hb0
  have hR1 := hR.keep hb0
  have hB1 := below_go hB hb0
  have hx1 : W1.heap[W.heap.size]? = some (.cells #[.int .i64 o.kind, .int .u64 o.lo, .int .u64 o.hi, .int .i64 o.val] 34 (0, 0)) := by rw [hW1]; exact heap_alloc_new W _
  have hk1 : (o.kind == 1) = true := by simp [hk]
  rw [hW1] at hM1 hR1 hB1 hx1
  clear hM hR hk hb0 hW1
  go_enter Try.func28, Try.ntmps28
  go_wp2
  go_region_held3 (fun w' => w'.cell? ⟨W.heap.size, 1, none⟩ = some (.int .u64 o.lo) ∧ w'.cell? ⟨W.heap.size, 2, none⟩ = some (.int .u64 o.hi) ∧ w'.cell? ⟨W.heap.size, 3, none⟩ = some (.int .i64 o.val)) (first | go_keep | exact op_cells hxC | exact op_cells hxA | exact op_cells hxB)
    ((first
      | (go_at_call 29; refine (set_any _ _ p v L o.lo o.hi o.val hM1 hsz r1 r4).mono ?_; rintro e wA ⟨rfl, vA, hMA, hTA, _⟩; have hRA := hR1.turn hM1 hTA; have hBA := turn_below hB1 hM1 hlo hTA; have hxA := hTA.apartB hM1 hx1)
      | (go_at_call 52; refine (rset_any _ _ q u D o.lo o.hi o.val hRA hs r1 r4).mono ?_; rintro e wC ⟨rfl, uC, hRC, hTC, _⟩; have hMC := hMA.turn hRA hTC; have hBC := rturn_below hBA hRA hlo hTC; have hxC := hTC.apartR hRA hxA)
      | (go_at_call 52; refine (rset_any _ _ q u D o.lo o.hi o.val hR1 hs r1 r4).mono ?_; rintro e wB ⟨rfl, uB, hRB, hTB, _⟩; have hMB := hM1.turn hR1 hTB; have hBB := rturn_below hB1 hR1 hlo hTB; have hxB := hTB.apartR hR1 hx1)
      | (go_at_call 29; refine (set_any _ _ p v L o.lo o.hi o.val hMB hsz r1 r4).mono ?_; rintro e wC ⟨rfl, vC, hMC, hTC, _⟩; have hRC := hRB.turn hMB hTC; have hBC := turn_below hBB hMB hlo hTC; have hxC := hTC.apartB hMB hxB)
      | (go_at_call 17; refine (no_any _ _).mono ?_; rintro e wN ⟨rfl, rfl⟩)))
  all_goals go_wp2
  all_goals go_ret
  all_goals exact ⟨by first | rfl | simp, ⟨_, _, hMC, hRC⟩, hBC⟩
set_option maxHeartbeats 6000000 in
set_option maxRecDepth 100000 in
theorem done_clear (W0 W : World) (hB : Below W0.heap.size W0 W) (lo p q : Nat) (v u : Value) (L : List (Sp Int)) (D : List Dn) (o : Op4) (hM : MapAt W lo p v L) (hR : RefAt W lo q u D) (hlo : W0.heap.size ≤ lo) (hsz : (L.length + 4) * 24 ≤ 140737488355328) (hs : D.length ≤ 2097152) (r1 : 0 ≤ o.lo) (r4 : o.hi ≤ 18446744073709551615) (hk : o.kind = 2) :
    Calls Try.prog 28 #[.pointer (some ⟨p, 0, none⟩), .pointer (some ⟨q, 0, none⟩), .agg #[.int .i64 o.kind, .int .u64 o.lo, .int .u64 o.hi, .int .i64 o.val]] W fun e W' => e = .returned (.bool true) ∧ (∃ v' u', MapAt W' lo p v' (clearR L o.lo o.hi) ∧ RefAt W' lo q u' (didR D ⟨o.lo, o.hi, false, 0⟩)) ∧ Below W0.heap.size W0 W' := by
  obtain ⟨W1, hW1⟩ : ∃ W1, W1 = (W.alloc (.cells #[.int .i64 o.kind, .int .u64 o.lo, .int .u64 o.hi, .int .i64 o.val] 34)).drew := ⟨_, rfl⟩
  have hb0 : Below W.heap.size W W1 := by rw [hW1]; exact (below_alloc (Below.refl _ W) _).drew
  have hM1 := hM.keep hb0
  have hR1 := hR.keep hb0
  have hB1 := below_go hB hb0
  have hx1 : W1.heap[W.heap.size]? = some (.cells #[.int .i64 o.kind, .int .u64 o.lo, .int .u64 o.hi, .int .i64 o.val] 34 (0, 0)) := by rw [hW1]; exact heap_alloc_new W _
  have hk1 : (o.kind == 1) = false := by simp [hk]
  have hk2 : (o.kind == 2) = true := by simp [hk]
  rw [hW1] at hM1 hR1 hB1 hx1
  clear hM hR hk hb0 hW1
  go_enter Try.func28, Try.ntmps28
  go_wp2
  go_region_held3 (fun w' => w'.cell? ⟨W.heap.size, 1, none⟩ = some (.int .u64 o.lo) ∧ w'.cell? ⟨W.heap.size, 2, none⟩ = some (.int .u64 o.hi)) (first | go_keep | exact ⟨(op_cells hxC).1, (op_cells hxC).2.1⟩ | exact ⟨(op_cells hxA).1, (op_cells hxA).2.1⟩ | exact ⟨(op_cells hxB).1, (op_cells hxB).2.1⟩)
    ((first
      | (go_at_call 18; refine (clear_any _ _ p v L o.lo o.hi hM1 hsz r1 r4).mono ?_; rintro e wA ⟨rfl, vA, hMA, hTA, _⟩; have hRA := hR1.turn hM1 hTA; have hBA := turn_below hB1 hM1 hlo hTA; have hxA := hTA.apartB hM1 hx1)
      | (go_at_call 53; refine (rclear_any _ _ q u D o.lo o.hi hRA hs r1 r4).mono ?_; rintro e wC ⟨rfl, uC, hRC, hTC, _⟩; have hMC := hMA.turn hRA hTC; have hBC := rturn_below hBA hRA hlo hTC; have hxC := hTC.apartR hRA hxA)
      | (go_at_call 53; refine (rclear_any _ _ q u D o.lo o.hi hR1 hs r1 r4).mono ?_; rintro e wB ⟨rfl, uB, hRB, hTB, _⟩; have hMB := hM1.turn hR1 hTB; have hBB := rturn_below hB1 hR1 hlo hTB; have hxB := hTB.apartR hR1 hx1)
      | (go_at_call 18; refine (clear_any _ _ p v L o.lo o.hi hMB hsz r1 r4).mono ?_; rintro e wC ⟨rfl, vC, hMC, hTC, _⟩; have hRC := hRB.turn hMB hTC; have hBC := turn_below hBB hMB hlo hTC; have hxC := hTC.apartB hMB hxB)
      | (go_at_call 17; refine (no_any _ _).mono ?_; rintro e wN ⟨rfl, rfl⟩)))
  all_goals go_wp2
  all_goals go_ret
  all_goals exact ⟨by first | rfl | simp, ⟨_, _, hMC, hRC⟩, hBC⟩
set_option maxHeartbeats 1000000 in
theorem done_none (W : World) (p q : Nat) (o : Op4) (h1 : ¬ o.kind = 1) (h2 : ¬ o.kind = 2) :
    Calls Try.prog 28 #[.pointer (some ⟨p, 0, none⟩), .pointer (some ⟨q, 0, none⟩), .agg #[.int .i64 o.kind, .int .u64 o.lo, .int .u64 o.hi, .int .i64 o.val]] W fun e W' => e = .returned (.bool true) ∧ Below W.heap.size W W' := by
  have k1 : (o.kind == 1) = false := by simp [h1]
  have k2 : (o.kind == 2) = false := by simp [h2]
  clear h1 h2
  go_enter Try.func28, Try.ntmps28
  go_wp2
  go_ret
  exact ⟨rfl, below_alloc (Below.refl _ W) _⟩

theorem done_any (W0 W : World) (hB : Below W0.heap.size W0 W) (lo p q : Nat) (v u : Value) (L : List (Sp Int)) (D : List Dn) (o : Op4) (hM : MapAt W lo p v L) (hR : RefAt W lo q u D) (hlo : W0.heap.size ≤ lo) (hsz : (L.length + 4) * 24 ≤ 140737488355328) (hs : D.length ≤ 2097152) (r1 : 0 ≤ o.lo) (r4 : o.hi ≤ 18446744073709551615) :
    Calls Try.prog 28 #[.pointer (some ⟨p, 0, none⟩), .pointer (some ⟨q, 0, none⟩), .agg #[.int .i64 o.kind, .int .u64 o.lo, .int .u64 o.hi, .int .i64 o.val]] W fun e W' => e = .returned (.bool true) ∧ (∃ v' u', MapAt W' lo p v' (layS L o) ∧ RefAt W' lo q u' (didS D o)) ∧ Below W0.heap.size W0 W' := by
  by_cases h1 : o.kind = 1
  · rw [layS, if_pos h1, didS, if_pos h1]
    exact done_set W0 W hB lo p q v u L D o hM hR hlo hsz hs r1 r4 h1
  · by_cases h2 : o.kind = 2
    · rw [layS, if_neg h1, if_pos h2, didS, if_neg h1, if_pos h2]
      exact done_clear W0 W hB lo p q v u L D o hM hR hlo hsz hs r1 r4 h2
    · rw [layS, if_neg h1, if_neg h2, didS, if_neg h1, if_neg h2]
      refine (done_none W p q o h1 h2).mono ?_
      rintro e W' ⟨rfl, hb⟩
      exact ⟨rfl, ⟨v, u, hM.keep hb, hR.keep hb⟩, below_go hB hb⟩
end Go.Proofs.Ytliiblaodhcjhab
