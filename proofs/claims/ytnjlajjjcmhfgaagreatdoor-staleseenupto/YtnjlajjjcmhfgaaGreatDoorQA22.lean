import Derived.Test.YtnjlajjjcmhfgaaGreatDoorQA16
import Derived.Deep.MidRow
import Derived.Laws.MakeOwn
import Derived.OwnWalk
namespace Go.Proofs.YtnjlajjjcmhfgaaGreatDoor
open Go.RowKit
set_option linter.unusedVariables false
set_option linter.unusedSimpArgs false
/-- A block, a place, a dropping, a call. -/
structure Blo where
  asid : Int
  t : Tra
structure Slo where
  full : Bool
  b : Blo
structure Dro where
  kind : Int
  va : Int
  asid : Int
def bZ : Blo := ⟨0, tZ⟩
def sZ : Slo := ⟨false, bZ⟩
def Blo.same (a b : Blo) : Bool := a.asid == b.asid && a.t.same b.t
def Slo.same (a b : Slo) : Bool := a.full == b.full && a.b.same b.b
theorem Blo.same_iff (a b : Blo) : a.same b = true ↔ a = b := by
  obtain ⟨a1, a2⟩ := a
  obtain ⟨b1, b2⟩ := b
  simp [Blo.same, Tra.same_iff]
theorem Slo.same_iff (a b : Slo) : a.same b = true ↔ a = b := by
  obtain ⟨a1, a2⟩ := a
  obtain ⟨b1, b2⟩ := b
  simp [Slo.same, Blo.same_iff]
theorem Blo.same_self (a : Blo) : a.same a = true := (Blo.same_iff a a).2 rfl
theorem Slo.same_self (a : Slo) : a.same a = true := (Slo.same_iff a a).2 rfl
theorem Blo.same_comm (a b : Blo) : a.same b = b.same a := by
  rw [Bool.eq_iff_iff, Blo.same_iff, Blo.same_iff]
  exact ⟨Eq.symm, Eq.symm⟩
theorem Slo.same_comm (a b : Slo) : a.same b = b.same a := by
  rw [Bool.eq_iff_iff, Slo.same_iff, Slo.same_iff]
  exact ⟨Eq.symm, Eq.symm⟩
def asF (n : Int) : Bool := decide (0 ≤ n) && decide (n ≤ 255)
/-- A right block. -/
def bR (b : Blo) : Bool := if riF b.t then (if b.t.ng then asF b.asid else b.asid == -1) else false
/-- It lies over an address, and holds for an ASID. -/
def liF (b : Blo) (va : Int) : Bool := decide (b.t.va ≤ va) && decide (va - b.t.va < byN b.t.size)
def hoF (b : Blo) (asid : Int) : Bool := b.asid == asid || b.asid == -1
def maF (b : Blo) (va asid : Int) : Bool := liF b va && hoF b asid
def ovF (b : Blo) (va asid : Int) : Bool := bR b && maF b va asid
/-- What a dropping takes. -/
def pkF (d : Dro) (b : Blo) : Bool :=
  if (d.kind == 1 && (d.va == 0 && d.asid == 0)) = true then true
  else if (d.kind == 2 && asF d.asid) = true then maF b d.va d.asid
  else if (d.kind == 3 && (d.va == 0 && asF d.asid)) = true then b.asid == d.asid
  else if (d.kind == 4 && d.asid == 0) = true then liF b d.va
  else false
def tkF (d : Dro) (b : Blo) : Bool := bR b && pkF d b
/-- The numbers are such as they can be. -/
structure BOk (b : Blo) : Prop where
  va : 0 ≤ b.t.va ∧ b.t.va < 4294967296
  pa : 0 ≤ b.t.pa ∧ b.t.pa < 18446744073709551616
  bits : 0 ≤ b.t.bits ∧ b.t.bits < 4294967296
theorem BOk.zero : BOk bZ := ⟨by decide, by decide, by decide⟩
/-- A place that is kept right. -/
structure SOk (s : Slo) : Prop where
  ok : BOk s.b
  yes : s.full = true → bR s.b = true
  no : s.full = false → s = sZ
theorem SOk.zero : SOk sZ := ⟨BOk.zero, by decide, fun _ => rfl⟩
abbrev LOk (L : List Slo) : Prop := ∀ s ∈ L, SOk s
theorem LOk.at {L : List Slo} (h : LOk L) {k : Nat} {s : Slo} (hs : L[k]? = some s) : SOk s := h s (List.mem_of_getElem? hs)
theorem LOk.set {L : List Slo} (h : LOk L) (k : Nat) {s : Slo} (hs : SOk s) : LOk (L.set k s) := fun x hx => by
  rcases List.mem_or_eq_of_mem_set hx with h1 | h1
  · exact h x h1
  · rw [h1]; exact hs
theorem LOk.zeros (n : Nat) : LOk (List.replicate n sZ) := fun s hs => by rw [(List.mem_replicate.1 hs).2]; exact SOk.zero
/-- Look. -/
def lkS (va asid : Int) (r : Blo × Nat) (s : Slo) : Blo × Nat := if (s.full && ovF s.b va asid) = true then (s.b, r.2 + 1) else r
def lkP (L : List Slo) (va asid : Int) : Blo × Nat := L.foldl (lkS va asid) (bZ, 0)
def lkF (L : List Slo) (va asid : Int) : Blo × Nat := if (lkP L va asid).2 = 1 then lkP L va asid else (bZ, (lkP L va asid).2)
theorem foldl_take {α β : Type} (f : β → α → β) (z : β) {L : List α} {k : Nat} {s : α} (h : L[k]? = some s) : (L.take (k + 1)).foldl f z = f ((L.take k).foldl f z) s := by
  rw [List.take_add_one, h]
  simp
theorem lkP_take {L : List Slo} {k : Nat} {s : Slo} (h : L[k]? = some s) (va asid : Int) : lkP (L.take (k + 1)) va asid = lkS va asid (lkP (L.take k) va asid) s := foldl_take _ _ h
theorem lkP_le (va asid : Int) (L : List Slo) : (lkP L va asid).2 ≤ L.length := by
  unfold lkP
  suffices h : ∀ (L : List Slo) (r : Blo × Nat), (L.foldl (lkS va asid) r).2 ≤ r.2 + L.length by simpa using h L (bZ, 0)
  intro L
  induction L with
  | nil => intro r; simp
  | cons s L ih =>
    intro r
    have h1 := ih (lkS va asid r s)
    have h2 : (lkS va asid r s).2 ≤ r.2 + 1 := by unfold lkS; split <;> simp
    simp only [List.foldl_cons, List.length_cons]
    omega
/-- Len. -/
def leN (L : List Slo) : Nat := L.countP (·.full)
theorem countP_take {α : Type} (p : α → Bool) {L : List α} {k : Nat} {s : α} (h : L[k]? = some s) : (L.take (k + 1)).countP p = (L.take k).countP p + (if p s = true then 1 else 0) := by
  rw [List.take_add_one, h]
  simp [List.countP_append, List.countP_singleton]
/-- Put. -/
def ixF (L : List Slo) (s : Slo) : Option Nat := L.findIdx? (fun x => x.same s)
def puF (L : List Slo) (b : Blo) (pick : Int) : (Nat × Int) × List Slo :=
  if bR b then
    match ixF L ⟨true, b⟩ with
    | some i => ((i, 0), L)
    | none =>
      match ixF L sZ with
      | some i => ((i, 0), L.set i ⟨true, b⟩)
      | none => (((pick % (L.length : Int)).toNat, 0), L.set (pick % (L.length : Int)).toNat ⟨true, b⟩)
  else ((0, 101), L)
/-- Evict. -/
def evF (L : List Slo) (i : Int) : Bool × List Slo := if 0 ≤ i ∧ i < (L.length : Int) then ((L.getD i.toNat sZ).full, L.set i.toNat sZ) else (false, L)
/-- Flush. -/
def fkF (d : Dro) (s : Slo) : Bool := s.full && tkF d s.b
def flF (L : List Slo) (d : Dro) : Nat × List Slo := (L.countP (fkF d), L.map fun s => if fkF d s = true then sZ else s)
theorem puF_len (L : List Slo) (b : Blo) (pick : Int) : (puF L b pick).2.length = L.length := by
  unfold puF
  split
  · split
    · rfl
    · split <;> simp
  · rfl
theorem evF_len (L : List Slo) (i : Int) : (evF L i).2.length = L.length := by
  unfold evF
  split <;> simp
theorem flF_len (L : List Slo) (d : Dro) : (flF L d).2.length = L.length := by simp [flF]
theorem puF_ok {L : List Slo} (h : LOk L) {b : Blo} (hb : BOk b) (pick : Int) : LOk (puF L b pick).2 := by
  unfold puF
  split
  · rename_i hr
    have hs : SOk ⟨true, b⟩ := ⟨hb, fun _ => hr, fun h => by cases h⟩
    split
    · exact h
    · split
      · exact h.set _ hs
      · exact h.set _ hs
  · exact h
theorem evF_ok {L : List Slo} (h : LOk L) (i : Int) : LOk (evF L i).2 := by
  unfold evF
  split
  · exact h.set _ SOk.zero
  · exact h
theorem flF_ok {L : List Slo} (h : LOk L) (d : Dro) : LOk (flF L d).2 := by
  intro s hs
  simp only [flF, List.mem_map] at hs
  obtain ⟨x, hx, rfl⟩ := hs
  split
  · exact SOk.zero
  · exact h x hx
end Go.Proofs.YtnjlajjjcmhfgaaGreatDoor
namespace Go.Proofs.YtnjlajjjcmhfgaaGreatDoor
open Go.RowKit
open Mm (Turn)
set_option linter.unusedVariables false
set_option linter.unusedSimpArgs false
theorem Mm.Turn.then {S : Nat → Prop} {a b c : World} (h : Turn S a b) (k : Turn S b c) : Turn S a c := h.trans k (fun _ hx => .inl hx)
theorem Mm.Turn.drew {S : Nat → Prop} {a b : World} (h : Turn S a b) : Turn S a b.drew := ⟨h.os, h.tape, h.output, h.size, h.block⟩
theorem Bl.turn {S : Nat → Prop} {w w' : World} {b : Nat} {t : TypeId} {l : List Value} (h : Bl w b t l) (hb : Turn S w w') (hn : ¬ S b) : Bl w' b t l := (hb.block b h.lt hn).trans h
theorem Bl.drewN {w : World} {b : Nat} {t : TypeId} {l : List Value} (h : Bl w b t l) (q : Nat) : Bl (w.drewN q) b t l := h
theorem Bl.range {w : World} {b : Nat} {t : TypeId} {l : List Value} (h : Bl w b t l) : w.rangeAt b 0 l := fun j v hv => by rw [Nat.zero_add, h.cell, hv]
theorem Bl.set {w : World} {b : Nat} {t : TypeId} {l : List Value} (h : Bl w b t l) (j : Nat) (v : Value) : Bl (w.setCell ⟨b, j, none⟩ v) b t (l.set j v) := by
  show (w.heap.modify b _)[b]? = _
  rw [Array.getElem?_modify, if_pos rfl, show w.heap[b]? = _ from h]
  simp
theorem Bl.setO {w : World} {b k : Nat} {t : TypeId} {l : List Value} (h : Bl w b t l) (hk : b ≠ k) (j : Nat) (v : Value) : Bl (w.setCell ⟨k, j, none⟩ v) b t l := by
  show (w.heap.modify k _)[b]? = _
  rw [Array.getElem?_modify, if_neg (Ne.symm hk)]
  exact h
theorem Bl.ty {w : World} {g : Nat} {e e' : TypeId} {c c' : List Value} (h : Bl w g e c) (h' : Bl w g e' c') : e = e' := by
  have h1 : w.heap[g]? = _ := h
  rw [show w.heap[g]? = _ from h'] at h1
  injection h1 with h1
  injection h1 with _ h2 _
  exact h2.symm
theorem Bl.ne {w : World} {g k : Nat} {e e' : TypeId} {c c' : List Value} (h : Bl w g e c) (h' : Bl w k e' c') (hne : e ≠ e') : g ≠ k := fun e => hne (by subst e; exact h.ty h')
/-- The cells of a place, of a row of places. -/
def encS (s : Slo) : List Value := [.bool s.full, .int .i64 s.b.asid, .int .i64 s.b.t.size, .int .u32 s.b.t.va, .int .u64 s.b.t.pa, .int .i64 s.b.t.dom, .int .i64 s.b.t.ap, .int .u32 s.b.t.bits, .bool s.b.t.ng, .bool s.b.t.xn]
def rowS (l : List Slo) : List Value := l.flatMap encS
theorem rowS_cons (x : Slo) (l : List Slo) : rowS (x :: l) = encS x ++ rowS l := rfl
theorem rowS_len (l : List Slo) : (rowS l).length = l.length * 10 := by
  induction l with
  | nil => rfl
  | cons x l ih => rw [rowS_cons, List.length_append, ih, List.length_cons]; show 10 + _ = _; omega
theorem rowS_at {l : List Slo} {i : Nat} {x : Slo} (h : l[i]? = some x) (j : Nat) (hj : j < 10) : (rowS l)[i * 10 + j]? = (encS x)[j]? := by
  induction l generalizing i with
  | nil => simp at h
  | cons y l ih =>
    have hy : (encS y).length = 10 := rfl
    cases i with
    | zero =>
      simp at h; subst h
      rw [rowS_cons, List.getElem?_append_left (by omega), Nat.zero_mul, Nat.zero_add]
    | succ i =>
      simp at h
      rw [rowS_cons, List.getElem?_append_right (by omega), hy, show (i + 1) * 10 + j - 10 = i * 10 + j by omega]
      exact ih h
theorem rowS_set (l : List Slo) (k : Nat) (b : Slo) (hk : k < l.length) :
    (((((((((((rowS l).set (k * 10) (.bool b.full)).set (k * 10 + 1) (.int .i64 b.b.asid)).set (k * 10 + 2) (.int .i64 b.b.t.size)).set (k * 10 + 3) (.int .u32 b.b.t.va)).set (k * 10 + 4) (.int .u64 b.b.t.pa)).set (k * 10 + 5) (.int .i64 b.b.t.dom)).set (k * 10 + 6) (.int .i64 b.b.t.ap)).set (k * 10 + 7) (.int .u32 b.b.t.bits)).set (k * 10 + 8) (.bool b.b.t.ng)).set (k * 10 + 9) (.bool b.b.t.xn)) = rowS (l.set k b) := by
  induction l generalizing k with
  | nil => simp at hk
  | cons y l ih =>
    have hy : (encS y).length = 10 := rfl
    cases k with
    | zero => rfl
    | succ k =>
      have hk' : k < l.length := by simpa using hk
      have hs : ∀ (X : List Value) (j : Nat) (v : Value), (encS y ++ X).set ((k + 1) * 10 + j) v = encS y ++ X.set (k * 10 + j) v := fun X j v => by
        rw [List.set_append_right _ _ (by omega), hy, show (k + 1) * 10 + j - 10 = k * 10 + j by omega]
      have hs0 : ∀ (X : List Value) (v : Value), (encS y ++ X).set ((k + 1) * 10) v = encS y ++ X.set (k * 10) v := fun X v => hs X 0 v
      rw [rowS_cons, hs0, hs, hs, hs, hs, hs, hs, hs, hs, hs, ih k hk', List.set_cons_succ, rowS_cons]
theorem rowS_cells {w : World} {g : Nat} {t : TypeId} {l : List Slo} (h : Bl w g t (rowS l)) {k : Nat} {x : Slo} (hx : l[k]? = some x) :
    w.cell? ⟨g, k * 10, none⟩ = some (.bool x.full) ∧ w.cell? ⟨g, k * 10 + 1, none⟩ = some (.int .i64 x.b.asid) ∧ w.cell? ⟨g, k * 10 + 2, none⟩ = some (.int .i64 x.b.t.size) ∧ w.cell? ⟨g, k * 10 + 3, none⟩ = some (.int .u32 x.b.t.va) ∧ w.cell? ⟨g, k * 10 + 4, none⟩ = some (.int .u64 x.b.t.pa) ∧ w.cell? ⟨g, k * 10 + 5, none⟩ = some (.int .i64 x.b.t.dom) ∧ w.cell? ⟨g, k * 10 + 6, none⟩ = some (.int .i64 x.b.t.ap) ∧ w.cell? ⟨g, k * 10 + 7, none⟩ = some (.int .u32 x.b.t.bits) ∧ w.cell? ⟨g, k * 10 + 8, none⟩ = some (.bool x.b.t.ng) ∧ w.cell? ⟨g, k * 10 + 9, none⟩ = some (.bool x.b.t.xn) := by
  have e : ∀ j, j < 10 → w.cell? ⟨g, k * 10 + j, none⟩ = (encS x)[j]? := fun j hj => by
    rw [h.cell]
    exact rowS_at hx j hj
  exact ⟨e 0 (by omega), e 1 (by omega), e 2 (by omega), e 3 (by omega), e 4 (by omega), e 5 (by omega), e 6 (by omega), e 7 (by omega), e 8 (by omega), e 9 (by omega)⟩
theorem rowS_put {w : World} {g : Nat} {t : TypeId} {l : List Slo} (h : Bl w g t (rowS l)) (k : Nat) (b : Slo) (hk : k < l.length) :
    Bl ((((((((((w.setCell ⟨g, k * 10, none⟩ (.bool b.full)).setCell ⟨g, k * 10 + 1, none⟩ (.int .i64 b.b.asid)).setCell ⟨g, k * 10 + 2, none⟩ (.int .i64 b.b.t.size)).setCell ⟨g, k * 10 + 3, none⟩ (.int .u32 b.b.t.va)).setCell ⟨g, k * 10 + 4, none⟩ (.int .u64 b.b.t.pa)).setCell ⟨g, k * 10 + 5, none⟩ (.int .i64 b.b.t.dom)).setCell ⟨g, k * 10 + 6, none⟩ (.int .i64 b.b.t.ap)).setCell ⟨g, k * 10 + 7, none⟩ (.int .u32 b.b.t.bits)).setCell ⟨g, k * 10 + 8, none⟩ (.bool b.b.t.ng)).setCell ⟨g, k * 10 + 9, none⟩ (.bool b.b.t.xn)) g t (rowS (l.set k b)) := by
  rw [← rowS_set l k b hk]
  exact (((((((((h.set _ _).set _ _).set _ _).set _ _).set _ _).set _ _).set _ _).set _ _).set _ _).set _ _
theorem rowS_one (l : List Slo) : ∀ v ∈ rowS l, v.oneCell' = true := by
  intro v hv
  simp only [rowS, List.mem_flatMap] at hv
  obtain ⟨s, _, hs⟩ := hv
  simp [encS] at hs
  rcases hs with rfl | rfl | rfl | rfl | rfl | rfl | rfl | rfl | rfl | rfl <;> rfl
theorem infoS : (Tryz.prog.info? 135).map (fun i => (i.zero, i.size, i.bytes)) = some (some (.agg #[.bool false, .int .i64 0, .int .i64 0, .int .u32 0, .int .u64 0, .int .i64 0, .int .i64 0, .int .u32 0, .bool false, .bool false]), 10, 64) := by kernel_rfl
theorem zeros_row (n : Nat) : madeCells (Value.agg #[.bool false, .int .i64 0, .int .i64 0, .int .u32 0, .int .u64 0, .int .i64 0, .int .i64 0, .int .u32 0, .bool false, .bool false]).cells (n * 10) = (rowS (List.replicate n sZ)).toArray := by
  apply Array.ext'
  apply List.ext_getElem?
  intro i
  by_cases hi : i < n * 10
  · have h1 : (List.replicate n sZ)[i / 10]? = some sZ := by rw [List.getElem?_replicate, if_pos (by omega)]
    have h2 := rowS_at h1 (i % 10) (by omega)
    rw [show i / 10 * 10 + i % 10 = i by omega] at h2
    rw [List.toList_toArray, h2]
    have h3 : (Value.agg #[.bool false, .int .i64 0, .int .i64 0, .int .u32 0, .int .u64 0, .int .i64 0, .int .i64 0, .int .u32 0, .bool false, .bool false]).cells = (encS sZ).toArray := rfl
    rw [h3]
    have h4 : (encS sZ).length = 10 := rfl
    simp [madeCells, hi, h4]
    rw [List.getElem?_eq_getElem (show i % 10 < (encS sZ).length by omega)]
    rfl
  · rw [List.getElem?_eq_none (by rw [Array.length_toList, size_madeCells]; omega), List.getElem?_eq_none (by simp [rowS_len]; omega)]
theorem makeS (W : World) (n : Nat) (hn : n ≤ 64) : (Instr.makeSlice 131 (.int .i64 (n : Int)) (.int .i64 (n : Int))).run Tryz.prog W = .ok (.slice (some ⟨W.heap.size, 0, none⟩) n n) (W.alloc (.cells (rowS (List.replicate n sZ)).toArray 135)) := by
  obtain ⟨i, hi, hz, h1, h2⟩ := info_parts infoS
  have := run_make (P := Tryz.prog) W 131 135 i _ Tryz.underlying131 hi hz .i64 .i64 n n (by omega) (Int.le_refl _) (by rw [h2]; omega) (by omega)
  rw [h1, Int.toNat_natCast, zeros_row] at this
  exact this
/-- A block whose first cell is no number is no table. -/
def NoTab (w : World) (x : Nat) : Prop := ∃ v, w.cell? ⟨x, 0, none⟩ = some v ∧ ∀ k i, v ≠ .int k i
theorem Tb.turnN {k : IntKind} {S : Nat → Prop} {w w' : World} {g : Nat} {a : Int} {l : List Int} (h : Tb k w g (a :: l)) (hT : Turn S w w') (hS : ∀ x, S x → x < w.heap.size → NoTab w x) : Tb k w' g (a :: l) := by
  have h0 := h 0 a rfl
  have hlt := cell_lt h0
  have hn : ¬ S g := fun hs => by
    obtain ⟨v, h1, h2⟩ := hS g hs hlt
    rw [h0] at h1
    exact h2 k a (by injection h1 with h1; exact h1.symm)
  intro i v hv
  rw [← h i v hv, World.cell?, World.cell?, hT.block g hlt hn]
theorem TR.turnN {S : Nat → Prop} {w w' : World} (h : TR w) (hT : Turn S w w') (hS : ∀ x, S x → x < w.heap.size → NoTab w x) : TR w' :=
  ⟨⟨⟨⟨Tb.turnN h.first hT hS, Tb.turnN h.second hT hS, Tb.turnN h.base hT hS, Tb.turnN h.leaf hT hS⟩, Tb.turnN h.tags hT hS⟩, Tb.turnN h.size hT hS⟩, Tb.turnN h.kind hT hS⟩
/-- A TLB: of the program's type or of the reference's. -/
structure PT (T : TypeId) (w : World) (p g : Nat) (L : List Slo) : Prop where
  box : Bl w p T [.slice (some ⟨g, 0, none⟩) L.length L.length]
  row : Bl w g 135 (rowS L)
  ok : LOk L
  lo : 1 ≤ L.length
  hi : L.length ≤ 64
  ne : T ≠ 135
section
variable {T : TypeId} {w w' : World} {p g : Nat} {L : List Slo} {S : Nat → Prop}
theorem PT.apart (h : PT T w p g L) : p ≠ g := h.box.ne h.row h.ne
theorem PT.below (h : PT T w p g L) (hb : Below w.heap.size w w') : PT T w' p g L := ⟨h.box.below hb, h.row.below hb, h.ok, h.lo, h.hi, h.ne⟩
theorem PT.turn (h : PT T w p g L) (hb : Turn S w w') (h1 : ¬ S p) (h2 : ¬ S g) : PT T w' p g L := ⟨h.box.turn hb h1, h.row.turn hb h2, h.ok, h.lo, h.hi, h.ne⟩
theorem PT.drew (h : PT T w p g L) : PT T w.drew p g L := ⟨h.box, h.row, h.ok, h.lo, h.hi, h.ne⟩
theorem PT.drewN (h : PT T w p g L) (q : Nat) : PT T (w.drewN q) p g L := ⟨h.box, h.row, h.ok, h.lo, h.hi, h.ne⟩
theorem PT.cell (h : PT T w p g L) : w.cell? ⟨p, 0, none⟩ = some (.slice (some ⟨g, 0, none⟩) L.length L.length) := h.box.cell 0
theorem PT.put (h : PT T w p g L) (k : Nat) (b : Slo) (hk : k < L.length) (hb : SOk b) : PT T ((((((((((w.setCell ⟨g, k * 10, none⟩ (.bool b.full)).setCell ⟨g, k * 10 + 1, none⟩ (.int .i64 b.b.asid)).setCell ⟨g, k * 10 + 2, none⟩ (.int .i64 b.b.t.size)).setCell ⟨g, k * 10 + 3, none⟩ (.int .u32 b.b.t.va)).setCell ⟨g, k * 10 + 4, none⟩ (.int .u64 b.b.t.pa)).setCell ⟨g, k * 10 + 5, none⟩ (.int .i64 b.b.t.dom)).setCell ⟨g, k * 10 + 6, none⟩ (.int .i64 b.b.t.ap)).setCell ⟨g, k * 10 + 7, none⟩ (.int .u32 b.b.t.bits)).setCell ⟨g, k * 10 + 8, none⟩ (.bool b.b.t.ng)).setCell ⟨g, k * 10 + 9, none⟩ (.bool b.b.t.xn)) p g (L.set k b) := by
  have hl : (L.set k b).length = L.length := List.length_set
  have hn := h.apart
  refine ⟨?_, rowS_put h.row k b hk, h.ok.set k hb, by rw [hl]; exact h.lo, by rw [hl]; exact h.hi, h.ne⟩
  rw [hl]
  exact (((((((((h.box.setO hn _ _).setO hn _ _).setO hn _ _).setO hn _ _).setO hn _ _).setO hn _ _).setO hn _ _).setO hn _ _).setO hn _ _).setO hn _ _
theorem turn_put (h : g < w.heap.size) (hS : S g) (k : Nat) (b : Slo) : Turn S w ((((((((((w.setCell ⟨g, k * 10, none⟩ (.bool b.full)).setCell ⟨g, k * 10 + 1, none⟩ (.int .i64 b.b.asid)).setCell ⟨g, k * 10 + 2, none⟩ (.int .i64 b.b.t.size)).setCell ⟨g, k * 10 + 3, none⟩ (.int .u32 b.b.t.va)).setCell ⟨g, k * 10 + 4, none⟩ (.int .u64 b.b.t.pa)).setCell ⟨g, k * 10 + 5, none⟩ (.int .i64 b.b.t.dom)).setCell ⟨g, k * 10 + 6, none⟩ (.int .i64 b.b.t.ap)).setCell ⟨g, k * 10 + 7, none⟩ (.int .u32 b.b.t.bits)).setCell ⟨g, k * 10 + 8, none⟩ (.bool b.b.t.ng)).setCell ⟨g, k * 10 + 9, none⟩ (.bool b.b.t.xn)) :=
  ((((((((((Turn.refl S w).setCell (p := ⟨g, k * 10, none⟩) (.inl hS) _).setCell (p := ⟨g, k * 10 + 1, none⟩) (.inl hS) _).setCell (p := ⟨g, k * 10 + 2, none⟩) (.inl hS) _).setCell (p := ⟨g, k * 10 + 3, none⟩) (.inl hS) _).setCell (p := ⟨g, k * 10 + 4, none⟩) (.inl hS) _).setCell (p := ⟨g, k * 10 + 5, none⟩) (.inl hS) _).setCell (p := ⟨g, k * 10 + 6, none⟩) (.inl hS) _).setCell (p := ⟨g, k * 10 + 7, none⟩) (.inl hS) _).setCell (p := ⟨g, k * 10 + 8, none⟩) (.inl hS) _).setCell (p := ⟨g, k * 10 + 9, none⟩) (.inl hS) _
theorem PT.putT (h : PT T w p g L) (k : Nat) (b : Blo) (hk : k < L.length) (hb : SOk ⟨true, b⟩) : PT T ((((((((((w.setCell ⟨g, k * 10, none⟩ (.bool true)).setCell ⟨g, k * 10 + 1, none⟩ (.int .i64 b.asid)).setCell ⟨g, k * 10 + 2, none⟩ (.int .i64 b.t.size)).setCell ⟨g, k * 10 + 3, none⟩ (.int .u32 b.t.va)).setCell ⟨g, k * 10 + 4, none⟩ (.int .u64 b.t.pa)).setCell ⟨g, k * 10 + 5, none⟩ (.int .i64 b.t.dom)).setCell ⟨g, k * 10 + 6, none⟩ (.int .i64 b.t.ap)).setCell ⟨g, k * 10 + 7, none⟩ (.int .u32 b.t.bits)).setCell ⟨g, k * 10 + 8, none⟩ (.bool b.t.ng)).setCell ⟨g, k * 10 + 9, none⟩ (.bool b.t.xn)) p g (L.set k ⟨true, b⟩) := h.put k ⟨true, b⟩ hk hb
theorem turn_putT (hS : S g) (k : Nat) (b : Blo) (h : g < w.heap.size) : Turn S w ((((((((((w.setCell ⟨g, k * 10, none⟩ (.bool true)).setCell ⟨g, k * 10 + 1, none⟩ (.int .i64 b.asid)).setCell ⟨g, k * 10 + 2, none⟩ (.int .i64 b.t.size)).setCell ⟨g, k * 10 + 3, none⟩ (.int .u32 b.t.va)).setCell ⟨g, k * 10 + 4, none⟩ (.int .u64 b.t.pa)).setCell ⟨g, k * 10 + 5, none⟩ (.int .i64 b.t.dom)).setCell ⟨g, k * 10 + 6, none⟩ (.int .i64 b.t.ap)).setCell ⟨g, k * 10 + 7, none⟩ (.int .u32 b.t.bits)).setCell ⟨g, k * 10 + 8, none⟩ (.bool b.t.ng)).setCell ⟨g, k * 10 + 9, none⟩ (.bool b.t.xn)) := turn_put h hS k ⟨true, b⟩
theorem PT.putZ (h : PT T w p g L) (k : Nat) (hk : k < L.length) : PT T ((((((((((w.setCell ⟨g, k * 10, none⟩ (.bool false)).setCell ⟨g, k * 10 + 1, none⟩ (.int .i64 0)).setCell ⟨g, k * 10 + 2, none⟩ (.int .i64 0)).setCell ⟨g, k * 10 + 3, none⟩ (.int .u32 0)).setCell ⟨g, k * 10 + 4, none⟩ (.int .u64 0)).setCell ⟨g, k * 10 + 5, none⟩ (.int .i64 0)).setCell ⟨g, k * 10 + 6, none⟩ (.int .i64 0)).setCell ⟨g, k * 10 + 7, none⟩ (.int .u32 0)).setCell ⟨g, k * 10 + 8, none⟩ (.bool false)).setCell ⟨g, k * 10 + 9, none⟩ (.bool false)) p g (L.set k sZ) := h.put k sZ hk SOk.zero
theorem turn_putZ (hS : S g) (k : Nat) (h : g < w.heap.size) : Turn S w ((((((((((w.setCell ⟨g, k * 10, none⟩ (.bool false)).setCell ⟨g, k * 10 + 1, none⟩ (.int .i64 0)).setCell ⟨g, k * 10 + 2, none⟩ (.int .i64 0)).setCell ⟨g, k * 10 + 3, none⟩ (.int .u32 0)).setCell ⟨g, k * 10 + 4, none⟩ (.int .u64 0)).setCell ⟨g, k * 10 + 5, none⟩ (.int .i64 0)).setCell ⟨g, k * 10 + 6, none⟩ (.int .i64 0)).setCell ⟨g, k * 10 + 7, none⟩ (.int .u32 0)).setCell ⟨g, k * 10 + 8, none⟩ (.bool false)).setCell ⟨g, k * 10 + 9, none⟩ (.bool false)) := turn_put h hS k sZ
theorem PT.at (h : PT T w p g L) {k : Nat} (hk : k < L.length) : ∃ s, L[k]? = some s ∧ SOk s ∧ w.cell? ⟨g, k * 10, none⟩ = some (.bool s.full) ∧ w.cell? ⟨g, k * 10 + 1, none⟩ = some (.int .i64 s.b.asid) ∧ w.cell? ⟨g, k * 10 + 2, none⟩ = some (.int .i64 s.b.t.size) ∧ w.cell? ⟨g, k * 10 + 3, none⟩ = some (.int .u32 s.b.t.va) ∧ w.cell? ⟨g, k * 10 + 4, none⟩ = some (.int .u64 s.b.t.pa) ∧ w.cell? ⟨g, k * 10 + 5, none⟩ = some (.int .i64 s.b.t.dom) ∧ w.cell? ⟨g, k * 10 + 6, none⟩ = some (.int .i64 s.b.t.ap) ∧ w.cell? ⟨g, k * 10 + 7, none⟩ = some (.int .u32 s.b.t.bits) ∧ w.cell? ⟨g, k * 10 + 8, none⟩ = some (.bool s.b.t.ng) ∧ w.cell? ⟨g, k * 10 + 9, none⟩ = some (.bool s.b.t.xn) := by
  refine ⟨L[k], List.getElem?_eq_getElem hk, h.ok.at (List.getElem?_eq_getElem hk), ?_⟩
  exact rowS_cells h.row (List.getElem?_eq_getElem hk)
theorem PT.noTab (h : PT T w p g L) : NoTab w g := by
  obtain ⟨s, hs, hok, e0, _⟩ := h.at (k := 0) h.lo
  exact ⟨_, by simpa using e0, by simp⟩
theorem PT.tr (h : PT T w p g L) (ht : TR w) (hT : Turn (· = g) w w') : TR w' := ht.turnN hT (fun x hx _ => by rw [hx]; exact h.noTab)
end
end Go.Proofs.YtnjlajjjcmhfgaaGreatDoor
namespace Go.Proofs.YtnjlajjjcmhfgaaGreatDoor
open Go.RowKit
open Mm (Turn)
set_option linter.unusedVariables false
set_option linter.unusedSimpArgs false
set_option maxRecDepth 100000 in
theorem isAsid_any (n : Int) (w : World) : Calls Tryz.prog 76 #[.int .i64 n] w fun e w' => e = .returned (.bool (asF n)) ∧ w = w' := by
  unfold asF
  by_cases h1 : 0 ≤ n
  · have q : decide (0 ≤ n) = true := decide_eq_true h1
    go_enter Tryz.func76, Tryz.ntmps76
    go_wp2
    go_ret
    exact ⟨by simp [h1], rfl⟩
  · have q : decide (0 ≤ n) = false := decide_eq_false h1
    go_enter Tryz.func76, Tryz.ntmps76
    go_wp2
    go_ret
    exact ⟨by simp [h1], rfl⟩
/-- A box of a block, all else new. -/
structure BX1 (W w : World) (b : Blo) : Prop where
  bel : Below W.heap.size W w
  box : Bl w W.heap.size 45 ([.int .i64 b.asid, .int .i64 b.t.size, .int .u32 b.t.va, .int .u64 b.t.pa, .int .i64 b.t.dom, .int .i64 b.t.ap, .int .u32 b.t.bits, .bool b.t.ng, .bool b.t.xn])
theorem BX1.new (W : World) (b : Blo) : BX1 W (W.alloc (.cells ([.int .i64 b.asid, .int .i64 b.t.size, .int .u32 b.t.va, .int .u64 b.t.pa, .int .i64 b.t.dom, .int .i64 b.t.ap, .int .u32 b.t.bits, .bool b.t.ng, .bool b.t.xn]).toArray 45)) b := ⟨below_new _ _, Bl.new _ _ _⟩
theorem BX1.step {W w w' : World} {b : Blo} (h : BX1 W w b) (hb : Below w.heap.size w w') : BX1 W w' b := ⟨Below.step h.bel hb, h.box.below hb⟩
theorem BX1.drewN {W w : World} {b : Blo} (h : BX1 W w b) (q : Nat) : BX1 W (w.drewN q) b := ⟨below_drewN h.bel q, h.box.drewN q⟩
set_option maxRecDepth 100000 in
set_option maxHeartbeats 4000000 in
theorem tright_any (b : Blo) (W : World) (ht : TR W) (hO : BOk b) : Calls Tryz.prog 44 #[.agg #[.int .i64 b.asid, .int .i64 b.t.size, .int .u32 b.t.va, .int .u64 b.t.pa, .int .i64 b.t.dom, .int .i64 b.t.ap, .int .u32 b.t.bits, .bool b.t.ng, .bool b.t.xn]] W fun e w' => e = .returned (.bool (bR b)) ∧ Below W.heap.size W w' := by
  have HR : Hid (∀ w, Below W.heap.size W w → Calls Tryz.prog 51 #[.agg #[.int .i64 (b.t).size, .int .u32 (b.t).va, .int .u64 (b.t).pa, .int .i64 (b.t).dom, .int .i64 (b.t).ap, .int .u32 (b.t).bits, .bool (b.t).ng, .bool (b.t).xn]] w fun r w' => r = .returned (.bool (riF b.t)) ∧ Below w.heap.size w w') := fun w h => right_any b.t w (ht.below h) hO.va ⟨hO.pa, hO.bits⟩
  have HX : Hid (BX1 W (W.alloc (.cells ([.int .i64 b.asid, .int .i64 b.t.size, .int .u32 b.t.va, .int .u64 b.t.pa, .int .i64 b.t.dom, .int .i64 b.t.ap, .int .u32 b.t.bits, .bool b.t.ng, .bool b.t.xn]).toArray 45)) b) := BX1.new W b
  have HA := isAsid_any
  clear ht hO
  obtain ⟨aid, sz, va, pa, dm, ap, bi, ng, xn⟩ := b
  cases hr : riF ⟨sz, va, pa, dm, ap, bi, ng, xn⟩
  · have hf : bR ⟨aid, ⟨sz, va, pa, dm, ap, bi, ng, xn⟩⟩ = false := by simp [bR, hr]
    rw [hf]
    rw [hr] at HR
    clear hr hf
    go_enter Tryz.func44, Tryz.ntmps44
    go_wp2_with (fail)
    go_at_call 51
    refine (HR.out _ HX.out.bel).mono ?_
    rintro e w1 ⟨rfl, hb⟩
    have HX1 := hidW (HX.out.step hb)
    clear hb HX HR
    go_wp2
    go_ret
    exact ⟨rfl, HX1.out.bel⟩
  · rw [hr] at HR
    cases ng
    · have hf : bR ⟨aid, ⟨sz, va, pa, dm, ap, bi, false, xn⟩⟩ = (aid == -1) := by simp [bR, hr]
      rw [hf]
      clear hr hf
      go_enter Tryz.func44, Tryz.ntmps44
      go_wp2_with (fail)
      go_at_call 51
      refine (HR.out _ HX.out.bel).mono ?_
      rintro e w1 ⟨rfl, hb⟩
      have HX1 := hidW (HX.out.step hb)
      clear hb HX HR
      have c0 := HX1.out.box.cell
      go_wp2
      go_ret
      exact ⟨rfl, HX1.out.bel⟩
    · have hf : bR ⟨aid, ⟨sz, va, pa, dm, ap, bi, true, xn⟩⟩ = asF aid := by simp [bR, hr]
      rw [hf]
      clear hr hf
      go_enter Tryz.func44, Tryz.ntmps44
      go_wp2_with (fail)
      go_at_call 51
      refine (HR.out _ HX.out.bel).mono ?_
      rintro e w1 ⟨rfl, hb⟩
      have HX1 := hidW (HX.out.step hb)
      clear hb HX HR
      have c0 := HX1.out.box.cell
      go_wp2_with (go_at_call 76; refine (HA _ _).mono ?_; rintro e w' ⟨rfl, rfl⟩)
      go_ret
      exact ⟨rfl, HX1.out.bel⟩
set_option maxRecDepth 100000 in
set_option maxHeartbeats 4000000 in
theorem holds_any (b : Blo) (asid : Int) (W : World) : Calls Tryz.prog 97 #[.agg #[.int .i64 b.asid, .int .i64 b.t.size, .int .u32 b.t.va, .int .u64 b.t.pa, .int .i64 b.t.dom, .int .i64 b.t.ap, .int .u32 b.t.bits, .bool b.t.ng, .bool b.t.xn], .int .i64 asid] W fun e w' => e = .returned (.bool (hoF b asid)) ∧ Below W.heap.size W w' := by
  obtain ⟨aid, sz, va, pa, dm, ap, bi, ng, xn⟩ := b
  unfold hoF
  by_cases h : aid = asid
  · have q : (aid == asid) = true := by simp [h]
    subst h
    go_enter Tryz.func97, Tryz.ntmps97
    go_wp2
    go_ret
    exact ⟨by simp, below_new _ _⟩
  · have q : (aid == asid) = false := by simp [h]
    go_enter Tryz.func97, Tryz.ntmps97
    go_wp2
    go_ret
    exact ⟨by simp [h], below_new _ _⟩
set_option maxRecDepth 100000 in
set_option maxHeartbeats 4000000 in
theorem lies_any (b : Blo) (va : Int) (W : World) (ht : TB W) (hO : BOk b) (hv : 0 ≤ va ∧ va < 4294967296) : Calls Tryz.prog 81 #[.agg #[.int .i64 b.asid, .int .i64 b.t.size, .int .u32 b.t.va, .int .u64 b.t.pa, .int .i64 b.t.dom, .int .i64 b.t.ap, .int .u32 b.t.bits, .bool b.t.ng, .bool b.t.xn], .int .u32 va] W fun e w' => e = .returned (.bool (liF b va)) ∧ Below W.heap.size W w' := by
  have HY : Hid (∀ w, Below W.heap.size W w → Calls Tryz.prog 53 #[.int .i64 b.t.size] w fun r w' => r = .returned (.int .u64 (byN b.t.size)) ∧ w' = w) := fun w h => (bytes_any _ _ (ht.below h)).mono fun _ _ h => ⟨h.1, h.2.symm⟩
  have HX : Hid (BX1 W (W.alloc (.cells ([.int .i64 b.asid, .int .i64 b.t.size, .int .u32 b.t.va, .int .u64 b.t.pa, .int .i64 b.t.dom, .int .i64 b.t.ap, .int .u32 b.t.bits, .bool b.t.ng, .bool b.t.xn]).toArray 45)) b) := BX1.new W b
  have h0 := hO.va
  clear ht hO
  obtain ⟨aid, sz, v0, pa, dm, ap, bi, ng, xn⟩ := b
  unfold liF
  dsimp only at *
  by_cases h : v0 ≤ va
  · have q : decide (v0 ≤ va) = true := by simp [h]
    rw [q]
    go_enter Tryz.func81, Tryz.ntmps81
    go_wp2
    generalize W.alloc _ = wr at *
    have c0 := HX.out.box.cell
    have HZ := fun q => hidW (HX.out.drewN q)
    clear HX
    go_quiet ((go_at_call 53; exact Calls.quiet_of_same (HY.out _ (HZ _).out.bel)))
    go_wp2
    go_ret
    exact ⟨by simp, (HZ _).out.bel⟩
  · have q : decide (v0 ≤ va) = false := by simp [h]
    rw [q]
    go_enter Tryz.func81, Tryz.ntmps81
    go_wp2
    generalize W.alloc _ = wr at *
    have c0 := HX.out.box.cell
    have HZ := fun q => hidW (HX.out.drewN q)
    clear HX
    go_quiet ((go_at_call 53; exact Calls.quiet_of_same (HY.out _ (HZ _).out.bel)))
    go_wp2
    go_ret
    exact ⟨by simp, (HZ _).out.bel⟩
set_option maxRecDepth 100000 in
set_option maxHeartbeats 4000000 in
theorem match_any (b : Blo) (va asid : Int) (W : World) (ht : TB W) (hO : BOk b) (hv : 0 ≤ va ∧ va < 4294967296) : Calls Tryz.prog 59 #[.agg #[.int .i64 b.asid, .int .i64 b.t.size, .int .u32 b.t.va, .int .u64 b.t.pa, .int .i64 b.t.dom, .int .i64 b.t.ap, .int .u32 b.t.bits, .bool b.t.ng, .bool b.t.xn], .int .u32 va, .int .i64 asid] W fun e w' => e = .returned (.bool (maF b va asid)) ∧ Below W.heap.size W w' := by
  have HL : Hid (∀ w, Below W.heap.size W w → Calls Tryz.prog 81 #[.agg #[.int .i64 b.asid, .int .i64 b.t.size, .int .u32 b.t.va, .int .u64 b.t.pa, .int .i64 b.t.dom, .int .i64 b.t.ap, .int .u32 b.t.bits, .bool b.t.ng, .bool b.t.xn], .int .u32 va] w fun e w' => e = .returned (.bool (liF b va)) ∧ Below w.heap.size w w') := fun w h => lies_any b va w (ht.below h) hO hv
  have HH : Hid (∀ w, Calls Tryz.prog 97 #[.agg #[.int .i64 b.asid, .int .i64 b.t.size, .int .u32 b.t.va, .int .u64 b.t.pa, .int .i64 b.t.dom, .int .i64 b.t.ap, .int .u32 b.t.bits, .bool b.t.ng, .bool b.t.xn], .int .i64 asid] w fun e w' => e = .returned (.bool (hoF b asid)) ∧ Below w.heap.size w w') := fun w => holds_any b asid w
  have HX : Hid (BX1 W (W.alloc (.cells ([.int .i64 b.asid, .int .i64 b.t.size, .int .u32 b.t.va, .int .u64 b.t.pa, .int .i64 b.t.dom, .int .i64 b.t.ap, .int .u32 b.t.bits, .bool b.t.ng, .bool b.t.xn]).toArray 45)) b) := BX1.new W b
  unfold maF
  generalize liF b va = l at *
  generalize hoF b asid = h at *
  clear ht hO
  obtain ⟨aid, sz, v0, pa, dm, ap, bi, ng, xn⟩ := b
  cases l
  · go_enter Tryz.func59, Tryz.ntmps59
    go_wp2_with (fail)
    go_at_call 81
    refine (HL.out _ HX.out.bel).mono ?_
    rintro e w1 ⟨rfl, hb⟩
    have HX1 := hidW (HX.out.step hb)
    clear hb HX HL
    go_wp2
    go_ret
    exact ⟨rfl, HX1.out.bel⟩
  · go_enter Tryz.func59, Tryz.ntmps59
    go_wp2_with (fail)
    go_at_call 81
    refine (HL.out _ HX.out.bel).mono ?_
    rintro e w1 ⟨rfl, hb⟩
    have HX1 := hidW (HX.out.step hb)
    clear hb HX HL
    have c0 := HX1.out.box.cell
    go_wp2_with (fail)
    go_at_call 97
    refine (HH.out _).mono ?_
    rintro e w2 ⟨rfl, hb⟩
    have HX2 := hidW (HX1.out.step hb)
    clear hb HX1 HH c0
    go_wp2
    go_ret
    exact ⟨by simp, HX2.out.bel⟩
set_option maxRecDepth 100000 in
set_option maxHeartbeats 4000000 in
theorem over_any (b : Blo) (va asid : Int) (W : World) (ht : TR W) (hO : BOk b) (hv : 0 ≤ va ∧ va < 4294967296) : Calls Tryz.prog 34 #[.agg #[.int .i64 b.asid, .int .i64 b.t.size, .int .u32 b.t.va, .int .u64 b.t.pa, .int .i64 b.t.dom, .int .i64 b.t.ap, .int .u32 b.t.bits, .bool b.t.ng, .bool b.t.xn], .int .u32 va, .int .i64 asid] W fun e w' => e = .returned (.bool (ovF b va asid)) ∧ Below W.heap.size W w' := by
  have HL : Hid (∀ w, Below W.heap.size W w → Calls Tryz.prog 44 #[.agg #[.int .i64 b.asid, .int .i64 b.t.size, .int .u32 b.t.va, .int .u64 b.t.pa, .int .i64 b.t.dom, .int .i64 b.t.ap, .int .u32 b.t.bits, .bool b.t.ng, .bool b.t.xn]] w fun e w' => e = .returned (.bool (bR b)) ∧ Below w.heap.size w w') := fun w h => tright_any b w (ht.below h) hO
  have HH : Hid (∀ w, Below W.heap.size W w → Calls Tryz.prog 59 #[.agg #[.int .i64 b.asid, .int .i64 b.t.size, .int .u32 b.t.va, .int .u64 b.t.pa, .int .i64 b.t.dom, .int .i64 b.t.ap, .int .u32 b.t.bits, .bool b.t.ng, .bool b.t.xn], .int .u32 va, .int .i64 asid] w fun e w' => e = .returned (.bool (maF b va asid)) ∧ Below w.heap.size w w') := fun w h => match_any b va asid w (ht.tb.below h) hO hv
  have HX : Hid (BX1 W (W.alloc (.cells ([.int .i64 b.asid, .int .i64 b.t.size, .int .u32 b.t.va, .int .u64 b.t.pa, .int .i64 b.t.dom, .int .i64 b.t.ap, .int .u32 b.t.bits, .bool b.t.ng, .bool b.t.xn]).toArray 45)) b) := BX1.new W b
  unfold ovF
  generalize bR b = l at *
  generalize maF b va asid = h at *
  clear ht hO
  obtain ⟨aid, sz, v0, pa, dm, ap, bi, ng, xn⟩ := b
  cases l
  · go_enter Tryz.func34, Tryz.ntmps34
    go_wp2_with (fail)
    go_at_call 44
    refine (HL.out _ HX.out.bel).mono ?_
    rintro e w1 ⟨rfl, hb⟩
    have HX1 := hidW (HX.out.step hb)
    clear hb HX HL
    go_wp2
    go_ret
    exact ⟨rfl, HX1.out.bel⟩
  · go_enter Tryz.func34, Tryz.ntmps34
    go_wp2_with (fail)
    go_at_call 44
    refine (HL.out _ HX.out.bel).mono ?_
    rintro e w1 ⟨rfl, hb⟩
    have HX1 := hidW (HX.out.step hb)
    clear hb HX HL
    have c0 := HX1.out.box.cell
    go_wp2_with (fail)
    go_at_call 59
    refine (HH.out _ HX1.out.bel).mono ?_
    rintro e w2 ⟨rfl, hb⟩
    have HX2 := hidW (HX1.out.step hb)
    clear hb HX1 HH c0
    go_wp2
    go_ret
    exact ⟨by simp, HX2.out.bel⟩
end Go.Proofs.YtnjlajjjcmhfgaaGreatDoor
namespace Go.Proofs.YtnjlajjjcmhfgaaGreatDoor
open Go.RowKit
open Mm (Turn)
set_option linter.unusedVariables false
set_option linter.unusedSimpArgs false
/-- What is new, and a TLB. -/
structure NX (T : TypeId) (W wr : World) (p g : Nat) (L : List Slo) : Prop where
  bel : Below W.heap.size W wr
  pt : PT T wr p g L
section
variable {T : TypeId} {W wr w' : World} {p g : Nat} {L : List Slo}
theorem NX.step (h : NX T W wr p g L) (hb : Below wr.heap.size wr w') : NX T W w' p g L := ⟨Below.step h.bel hb, h.pt.below hb⟩
theorem NX.alloc (h : NX T W wr p g L) (o : Obj) : NX T W (wr.alloc o) p g L := h.step (below_new _ _)
theorem NX.drewN (h : NX T W wr p g L) (q : Nat) : NX T W (wr.drewN q) p g L := ⟨below_drewN h.bel q, h.pt.drewN q⟩
theorem NX.start (h : PT T W p g L) : NX T W W p g L := ⟨Below.refl _ _, h⟩
end
end Go.Proofs.YtnjlajjjcmhfgaaGreatDoor
