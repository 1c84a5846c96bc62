import Derived.Test.YtliiblaodhcjhaaTKindP
namespace Go.Proofs.Ytliiblaodhcjhaa.T
open Go.RowKit
set_option linter.unusedVariables false

/-- A map of tags, the reference, and a call in a box of its own. -/
structure KS (W0 W : World) (lo p q b : Nat) (L : List (Sp (Int × Bool))) (D : List Dn) (o : Op4) : Prop where
  map : ∃ v, MapAt W lo p v L
  ref : ∃ u, RefAt W lo q u D
  low : W0.heap.size ≤ lo
  bel : Below W0.heap.size W0 W
  box : W.heap[b]? = some (.cells #[.int .i64 o.kind, .int .u64 o.lo, .int .u64 o.hi, .int .i64 o.val] 28 (0, 0))

theorem KS.lt {W0 W : World} {lo p q b : Nat} {L : List (Sp (Int × Bool))} {D : List Dn} {o : Op4} (h : KS W0 W lo p q b L D o) : b < W.heap.size := (Array.getElem?_eq_some_iff.1 h.box).1
theorem KS.good {W0 W : World} {lo p q b : Nat} {L : List (Sp (Int × Bool))} {D : List Dn} {o : Op4} (h : KS W0 W lo p q b L D o) : Good 0 none L := by
  obtain ⟨v, h⟩ := h.map
  exact h.good
theorem KS.cells {W0 W : World} {lo p q b : Nat} {L : List (Sp (Int × Bool))} {D : List Dn} {o : Op4} (h : KS W0 W lo p q b L D o) : W.cell? ⟨b, 0, none⟩ = some (.int .i64 o.kind) ∧ W.cell? ⟨b, 1, none⟩ = some (.int .u64 o.lo) ∧ W.cell? ⟨b, 2, none⟩ = some (.int .u64 o.hi) ∧ W.cell? ⟨b, 3, none⟩ = some (.int .i64 o.val) := by
  simp [World.cell?, h.box]
theorem KS.cells3 {W0 W : World} {lo p q b : Nat} {L : List (Sp (Int × Bool))} {D : List Dn} {o : Op4} (h : KS W0 W lo p q b L D o) : W.cell? ⟨b, 1, none⟩ = some (.int .u64 o.lo) ∧ W.cell? ⟨b, 2, none⟩ = some (.int .u64 o.hi) ∧ W.cell? ⟨b, 3, none⟩ = some (.int .i64 o.val) := h.cells.2
theorem KS.cells2 {W0 W : World} {lo p q b : Nat} {L : List (Sp (Int × Bool))} {D : List Dn} {o : Op4} (h : KS W0 W lo p q b L D o) : W.cell? ⟨b, 1, none⟩ = some (.int .u64 o.lo) ∧ W.cell? ⟨b, 2, none⟩ = some (.int .u64 o.hi) := ⟨h.cells.2.1, h.cells.2.2.1⟩

theorem KS.keep {W0 W W' : World} {lo p q b : Nat} {L : List (Sp (Int × Bool))} {D : List Dn} {o : Op4} (h : KS W0 W lo p q b L D o) (hb : Below W.heap.size W W') : KS W0 W' lo p q b L D o := by
  obtain ⟨v, hm⟩ := h.map
  obtain ⟨u, hr⟩ := h.ref
  exact ⟨⟨v, hm.keep hb⟩, ⟨u, hr.keep hb⟩, h.low, below_go h.bel hb, by rw [hb.block b h.lt]; exact h.box⟩

theorem tag_ks {W0 W : World} {lo p q b : Nat} {L : List (Sp (Int × Bool))} {D : List Dn} {o : Op4} (h : KS W0 W lo p q b L D o) (n : Int) :
    Calls Try.prog 31 #[.int .i64 n] W fun e W' => e = .returned (.agg #[.int .i64 (tagF n).1, .bool (tagF n).2]) ∧ KS W0 W' lo p q b L D o := by
  refine (tag_any n W).mono ?_
  rintro e W' ⟨rfl, hb⟩
  exact ⟨rfl, h.keep hb⟩

theorem set_ks {W0 W : World} {lo p q b : Nat} {L : List (Sp (Int × Bool))} {D : List Dn} {o : Op4} (h : KS W0 W lo p q b L D o) (a c : Int) (x : Int × Bool) (hsz : (L.length + 4) * 32 ≤ 140737488355328) (ha : 0 ≤ a) (hc : c ≤ 18446744073709551615) :
    Calls Try.prog 30 #[.pointer (some ⟨p, 0, none⟩), .int .u64 a, .int .u64 c, .agg #[.int .i64 x.1, .bool x.2]] W fun e W' => e = .returned (.int .i64 (errC a c)) ∧ KS W0 W' lo p q b (setR L a c x) D o := by
  obtain ⟨v, hm⟩ := h.map
  obtain ⟨u, hr⟩ := h.ref
  refine (set_any W lo p v L a c x hm hsz ha hc).mono ?_
  rintro e W' ⟨rfl, v', h1, t, _⟩
  exact ⟨rfl, ⟨v', h1⟩, ⟨u, refTurn hr hm t⟩, h.low, turn_below h.bel hm h.low t, t.other hm h.box⟩

theorem clear_ks {W0 W : World} {lo p q b : Nat} {L : List (Sp (Int × Bool))} {D : List Dn} {o : Op4} (h : KS W0 W lo p q b L D o) (a c : Int) (hsz : (L.length + 4) * 32 ≤ 140737488355328) (ha : 0 ≤ a) (hc : c ≤ 18446744073709551615) :
    Calls Try.prog 33 #[.pointer (some ⟨p, 0, none⟩), .int .u64 a, .int .u64 c] W fun e W' => e = .returned (.int .i64 (errC a c)) ∧ KS W0 W' lo p q b (clearR L a c) D o := by
  obtain ⟨v, hm⟩ := h.map
  obtain ⟨u, hr⟩ := h.ref
  refine (clear_any W lo p v L a c hm hsz ha hc).mono ?_
  rintro e W' ⟨rfl, v', h1, t, _⟩
  exact ⟨rfl, ⟨v', h1⟩, ⟨u, refTurn hr hm t⟩, h.low, turn_below h.bel hm h.low t, t.other hm h.box⟩

theorem rset_ks {W0 W : World} {lo p q b : Nat} {L : List (Sp (Int × Bool))} {D : List Dn} {o : Op4} (h : KS W0 W lo p q b L D o) (a c x : Int) (hs : D.length ≤ 2097152) (ha : 0 ≤ a) (hc : c ≤ 18446744073709551615) :
    Calls Try.prog 32 #[.pointer (some ⟨q, 0, none⟩), .int .u64 a, .int .u64 c, .int .i64 x] W fun e W' => e = .returned (.int .i64 (errC a c)) ∧ KS W0 W' lo p q b L (didR D ⟨a, c, true, x⟩) o := by
  obtain ⟨v, hm⟩ := h.map
  obtain ⟨u, hr⟩ := h.ref
  refine (rset_any W lo q u D a c x hr hs ha hc).mono ?_
  rintro e W' ⟨rfl, u', h1, t, _⟩
  exact ⟨rfl, ⟨v, mapTurn hm hr t⟩, ⟨u', h1⟩, h.low, rturn_below h.bel hr h.low t, otherR t hr h.box⟩

theorem rclear_ks {W0 W : World} {lo p q b : Nat} {L : List (Sp (Int × Bool))} {D : List Dn} {o : Op4} (h : KS W0 W lo p q b L D o) (a c : Int) (hs : D.length ≤ 2097152) (ha : 0 ≤ a) (hc : c ≤ 18446744073709551615) :
    Calls Try.prog 34 #[.pointer (some ⟨q, 0, none⟩), .int .u64 a, .int .u64 c] W fun e W' => e = .returned (.int .i64 (errC a c)) ∧ KS W0 W' lo p q b L (didR D ⟨a, c, false, 0⟩) o := by
  obtain ⟨v, hm⟩ := h.map
  obtain ⟨u, hr⟩ := h.ref
  refine (rclear_any W lo q u D a c hr hs ha hc).mono ?_
  rintro e W' ⟨rfl, u', h1, t, _⟩
  exact ⟨rfl, ⟨v, mapTurn hm hr t⟩, ⟨u', h1⟩, h.low, rturn_below h.bel hr h.low t, otherR t hr h.box⟩

theorem get_ks {W0 W : World} {lo p q b : Nat} {L : List (Sp (Int × Bool))} {D : List Dn} {o : Op4} (h : KS W0 W lo p q b L D o) (k : Int) (hsz : L.length < 4611686018427387904) :
    Calls Try.prog 35 #[.pointer (some ⟨p, 0, none⟩), .int .u64 k] W fun e W' => e = .returned (getV (get L k)) ∧ KS W0 W' lo p q b L D o ∧ Below W.heap.size W W' := by
  obtain ⟨v, hm⟩ := h.map
  refine (get_any W lo p v L k hm hsz).mono ?_
  rintro e W' ⟨rfl, hb⟩
  exact ⟨rfl, h.keep hb, hb⟩

theorem rget_ks {W0 W : World} {lo p q b : Nat} {L : List (Sp (Int × Bool))} {D : List Dn} {o : Op4} (h : KS W0 W lo p q b L D o) (k : Int) (hs : D.length ≤ 1048576) :
    Calls Try.prog 36 #[.pointer (some ⟨q, 0, none⟩), .int .u64 k] W fun e W' => e = .returned (Go.Proofs.Ytliiblaodhcjhaa.getV (refG D k)) ∧ KS W0 W' lo p q b L D o ∧ Below W.heap.size W W' := by
  obtain ⟨u, hr⟩ := h.ref
  refine (rget_any W lo q u D k hr hs).mono ?_
  rintro e W' ⟨rfl, hb⟩
  exact ⟨rfl, h.keep hb, hb⟩
end Go.Proofs.Ytliiblaodhcjhaa.T
