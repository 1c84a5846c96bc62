import Derived.Test.YtfdjfhhjfgdbaaaGreatDoorBp
namespace Go.Proofs.YtfdjfhhjfgdbaaaGreatDoor
open Go.RowKit
set_option linter.unusedVariables false
set_option linter.unusedSimpArgs false
theorem below_new (w : World) (o : Obj) : Below w.heap.size w (w.alloc o) := (Below.refl _ _).alloc (Nat.le_refl _) o
/-- What has turned lies in S, or is new. -/
structure Turn (S : Nat → Prop) (w w' : World) : Prop where
  os : w'.os = w.os
  tape : w'.tape = w.tape
  output : w'.output = w.output
  size : w.heap.size ≤ w'.heap.size
  block : ∀ k, k < w.heap.size → ¬ S k → w'.heap[k]? = w.heap[k]?
theorem Turn.refl (S : Nat → Prop) (w : World) : Turn S w w := ⟨rfl, rfl, rfl, Nat.le_refl _, fun _ _ _ => rfl⟩
theorem Turn.trans {S S' : Nat → Prop} {a b c : World} (h : Turn S a b) (k : Turn S' b c) (hS : ∀ x, S' x → S x ∨ a.heap.size ≤ x) : Turn S a c :=
  ⟨k.os.trans h.os, k.tape.trans h.tape, k.output.trans h.output, Nat.le_trans h.size k.size, fun i hi hn =>
    (k.block i (Nat.lt_of_lt_of_le hi h.size) (fun hs => by rcases hS i hs with h1 | h1; exact hn h1; omega)).trans (h.block i hi hn)⟩
theorem Turn.then {S : Nat → Prop} {a b c : World} (h : Turn S a b) (k : Turn S b c) : Turn S a c := h.trans k (fun _ hx => .inl hx)
theorem Turn.below {S : Nat → Prop} {a b : World} (h : Below a.heap.size a b) : Turn S a b := ⟨h.os, h.tape, h.output, h.size, fun i hi _ => h.block i hi⟩
theorem Turn.to {S : Nat → Prop} {a b : World} {B : Nat} (h : Turn S a b) (hS : ∀ x, S x → B ≤ x) (hB : B ≤ a.heap.size) : Below B a b :=
  ⟨h.os, h.tape, h.output, h.size, fun i hi => h.block i (by omega) (fun hs => by have := hS i hs; omega)⟩
theorem Turn.alloc {S : Nat → Prop} {a b : World} (h : Turn S a b) (o : Obj) : Turn S a (b.alloc o) :=
  h.trans (S' := fun _ => False) ⟨rfl, rfl, rfl, by simp, fun i hi _ => Below.heap_alloc _ _ _ hi⟩ (fun _ h => h.elim)
theorem Turn.setCell {S : Nat → Prop} {a b : World} (h : Turn S a b) {p : Addr} (hp : S p.block ∨ a.heap.size ≤ p.block) (u : Value) : Turn S a (b.setCell p u) :=
  h.trans (S' := fun x => x = p.block) ⟨rfl, rfl, rfl, by simp [World.setCell], fun i hi hn => Below.heap_setCell _ _ _ _ hn⟩ (fun x hx => by subst hx; exact hp)
theorem Turn.drewN {S : Nat → Prop} {a b : World} (h : Turn S a b) (n : Nat) : Turn S a (b.drewN n) := ⟨h.os, h.tape, h.output, h.size, h.block⟩
theorem Turn.drew {S : Nat → Prop} {a b : World} (h : Turn S a b) : Turn S a b.drew := ⟨h.os, h.tape, h.output, h.size, h.block⟩
theorem Bl.turn {S : Nat → Prop} {w w' : World} {b : Nat} {t : TypeId} {l : List Value} (h : Bl w b t l) (hb : Turn S w w') (hn : ¬ S b) : Bl w' b t l := (hb.block b h.lt hn).trans h
theorem Bl.drewN {w : World} {b : Nat} {t : TypeId} {l : List Value} (h : Bl w b t l) (q : Nat) : Bl (w.drewN q) b t l := h
theorem Bl.range {w : World} {b : Nat} {t : TypeId} {l : List Value} (h : Bl w b t l) : w.rangeAt b 0 l := fun j v hv => by rw [Nat.zero_add, h.cell, hv]
theorem Bl.set {w : World} {b : Nat} {t : TypeId} {l : List Value} (h : Bl w b t l) (j : Nat) (v : Value) : Bl (w.setCell ⟨b, j, none⟩ v) b t (l.set j v) := by
  show (w.heap.modify b _)[b]? = _
  rw [Array.getElem?_modify, if_pos rfl, show w.heap[b]? = _ from h]
  simp
theorem Bl.setO {w : World} {b k : Nat} {t : TypeId} {l : List Value} (h : Bl w b t l) (hk : b ≠ k) (j : Nat) (v : Value) : Bl (w.setCell ⟨k, j, none⟩ v) b t l := by
  show (w.heap.modify k _)[b]? = _
  rw [Array.getElem?_modify, if_neg (Ne.symm hk)]
  exact h
theorem Bl.ty {w : World} {g : Nat} {e e' : TypeId} {c c' : List Value} (h : Bl w g e c) (h' : Bl w g e' c') : e = e' := by
  have h1 : w.heap[g]? = _ := h
  rw [show w.heap[g]? = _ from h'] at h1
  injection h1 with h1
  injection h1 with _ h2 _
  exact h2.symm
theorem Bl.ne {w : World} {g k : Nat} {e e' : TypeId} {c c' : List Value} (h : Bl w g e c) (h' : Bl w k e' c') (hne : e ≠ e') : g ≠ k := fun e => hne (by subst e; exact h.ty h')
/-- What is hidden from the walk. -/
theorem hidW {p : Prop} (h : p) : Hid p := h
/-- The cells of a place, of a row of places. -/
def encS (s : Slo) : List Value := [.bool s.full, .int .i64 s.b.asid, .int .i64 s.b.t.size, .int .u32 s.b.t.va, .int .u64 s.b.t.pa, .int .i64 s.b.t.dom, .int .i64 s.b.t.ap, .int .u32 s.b.t.bits, .bool s.b.t.ng, .bool s.b.t.xn]
def rowS (l : List Slo) : List Value := l.flatMap encS
theorem rowS_cons (x : Slo) (l : List Slo) : rowS (x :: l) = encS x ++ rowS l := rfl
theorem rowS_len (l : List Slo) : (rowS l).length = l.length * 10 := by
  induction l with
  | nil => rfl
  | cons x l ih => rw [rowS_cons, List.length_append, ih, List.length_cons]; show 10 + _ = _; omega
theorem rowS_at {l : List Slo} {i : Nat} {x : Slo} (h : l[i]? = some x) (j : Nat) (hj : j < 10) : (rowS l)[i * 10 + j]? = (encS x)[j]? := by
  induction l generalizing i with
  | nil => simp at h
  | cons y l ih =>
    have hy : (encS y).length = 10 := rfl
    cases i with
    | zero =>
      simp at h; subst h
      rw [rowS_cons, List.getElem?_append_left (by omega), Nat.zero_mul, Nat.zero_add]
    | succ i =>
      simp at h
      rw [rowS_cons, List.getElem?_append_right (by omega), hy, show (i + 1) * 10 + j - 10 = i * 10 + j by omega]
      exact ih h
theorem rowS_set (l : List Slo) (k : Nat) (b : Slo) (hk : k < l.length) :
    (((((((((((rowS l).set (k * 10) (.bool b.full)).set (k * 10 + 1) (.int .i64 b.b.asid)).set (k * 10 + 2) (.int .i64 b.b.t.size)).set (k * 10 + 3) (.int .u32 b.b.t.va)).set (k * 10 + 4) (.int .u64 b.b.t.pa)).set (k * 10 + 5) (.int .i64 b.b.t.dom)).set (k * 10 + 6) (.int .i64 b.b.t.ap)).set (k * 10 + 7) (.int .u32 b.b.t.bits)).set (k * 10 + 8) (.bool b.b.t.ng)).set (k * 10 + 9) (.bool b.b.t.xn)) = rowS (l.set k b) := by
  induction l generalizing k with
  | nil => simp at hk
  | cons y l ih =>
    have hy : (encS y).length = 10 := rfl
    cases k with
    | zero => rfl
    | succ k =>
      have hk' : k < l.length := by simpa using hk
      have hs : ∀ (X : List Value) (j : Nat) (v : Value), (encS y ++ X).set ((k + 1) * 10 + j) v = encS y ++ X.set (k * 10 + j) v := fun X j v => by
        rw [List.set_append_right _ _ (by omega), hy, show (k + 1) * 10 + j - 10 = k * 10 + j by omega]
      have hs0 : ∀ (X : List Value) (v : Value), (encS y ++ X).set ((k + 1) * 10) v = encS y ++ X.set (k * 10) v := fun X v => hs X 0 v
      rw [rowS_cons, hs0, hs, hs, hs, hs, hs, hs, hs, hs, hs, ih k hk', List.set_cons_succ, rowS_cons]
theorem rowS_cells {w : World} {g : Nat} {t : TypeId} {l : List Slo} (h : Bl w g t (rowS l)) {k : Nat} {x : Slo} (hx : l[k]? = some x) :
    w.cell? ⟨g, k * 10, none⟩ = some (.bool x.full) ∧ w.cell? ⟨g, k * 10 + 1, none⟩ = some (.int .i64 x.b.asid) ∧ w.cell? ⟨g, k * 10 + 2, none⟩ = some (.int .i64 x.b.t.size) ∧ w.cell? ⟨g, k * 10 + 3, none⟩ = some (.int .u32 x.b.t.va) ∧ w.cell? ⟨g, k * 10 + 4, none⟩ = some (.int .u64 x.b.t.pa) ∧ w.cell? ⟨g, k * 10 + 5, none⟩ = some (.int .i64 x.b.t.dom) ∧ w.cell? ⟨g, k * 10 + 6, none⟩ = some (.int .i64 x.b.t.ap) ∧ w.cell? ⟨g, k * 10 + 7, none⟩ = some (.int .u32 x.b.t.bits) ∧ w.cell? ⟨g, k * 10 + 8, none⟩ = some (.bool x.b.t.ng) ∧ w.cell? ⟨g, k * 10 + 9, none⟩ = some (.bool x.b.t.xn) := by
  have e : ∀ j, j < 10 → w.cell? ⟨g, k * 10 + j, none⟩ = (encS x)[j]? := fun j hj => by
    rw [h.cell]
    exact rowS_at hx j hj
  exact ⟨e 0 (by omega), e 1 (by omega), e 2 (by omega), e 3 (by omega), e 4 (by omega), e 5 (by omega), e 6 (by omega), e 7 (by omega), e 8 (by omega), e 9 (by omega)⟩
theorem rowS_put {w : World} {g : Nat} {t : TypeId} {l : List Slo} (h : Bl w g t (rowS l)) (k : Nat) (b : Slo) (hk : k < l.length) :
    Bl ((((((((((w.setCell ⟨g, k * 10, none⟩ (.bool b.full)).setCell ⟨g, k * 10 + 1, none⟩ (.int .i64 b.b.asid)).setCell ⟨g, k * 10 + 2, none⟩ (.int .i64 b.b.t.size)).setCell ⟨g, k * 10 + 3, none⟩ (.int .u32 b.b.t.va)).setCell ⟨g, k * 10 + 4, none⟩ (.int .u64 b.b.t.pa)).setCell ⟨g, k * 10 + 5, none⟩ (.int .i64 b.b.t.dom)).setCell ⟨g, k * 10 + 6, none⟩ (.int .i64 b.b.t.ap)).setCell ⟨g, k * 10 + 7, none⟩ (.int .u32 b.b.t.bits)).setCell ⟨g, k * 10 + 8, none⟩ (.bool b.b.t.ng)).setCell ⟨g, k * 10 + 9, none⟩ (.bool b.b.t.xn)) g t (rowS (l.set k b)) := by
  rw [← rowS_set l k b hk]
  exact (((((((((h.set _ _).set _ _).set _ _).set _ _).set _ _).set _ _).set _ _).set _ _).set _ _).set _ _
theorem rowS_one (l : List Slo) : ∀ v ∈ rowS l, v.oneCell' = true := by
  intro v hv
  simp only [rowS, List.mem_flatMap] at hv
  obtain ⟨s, _, hs⟩ := hv
  simp [encS] at hs
  rcases hs with rfl | rfl | rfl | rfl | rfl | rfl | rfl | rfl | rfl | rfl <;> rfl
theorem infoS : (Tryz.prog.info? 116).map (fun i => (i.zero, i.size, i.bytes)) = some (some (.agg #[.bool false, .int .i64 0, .int .i64 0, .int .u32 0, .int .u64 0, .int .i64 0, .int .i64 0, .int .u32 0, .bool false, .bool false]), 10, 64) := by kernel_rfl
theorem zeros_row (n : Nat) : madeCells (Value.agg #[.bool false, .int .i64 0, .int .i64 0, .int .u32 0, .int .u64 0, .int .i64 0, .int .i64 0, .int .u32 0, .bool false, .bool false]).cells (n * 10) = (rowS (List.replicate n sZ)).toArray := by
  apply Array.ext'
  apply List.ext_getElem?
  intro i
  by_cases hi : i < n * 10
  · have h1 : (List.replicate n sZ)[i / 10]? = some sZ := by rw [List.getElem?_replicate, if_pos (by omega)]
    have h2 := rowS_at h1 (i % 10) (by omega)
    rw [show i / 10 * 10 + i % 10 = i by omega] at h2
    rw [List.toList_toArray, h2]
    have h3 : (Value.agg #[.bool false, .int .i64 0, .int .i64 0, .int .u32 0, .int .u64 0, .int .i64 0, .int .i64 0, .int .u32 0, .bool false, .bool false]).cells = (encS sZ).toArray := rfl
    rw [h3]
    have h4 : (encS sZ).length = 10 := rfl
    simp [madeCells, hi, h4]
    rw [List.getElem?_eq_getElem (show i % 10 < (encS sZ).length by omega)]
    rfl
  · rw [List.getElem?_eq_none (by rw [Array.length_toList, size_madeCells]; omega), List.getElem?_eq_none (by simp [rowS_len]; omega)]
theorem makeS (W : World) (n : Nat) (hn : n ≤ 64) : (Instr.makeSlice 66 (.int .i64 (n : Int)) (.int .i64 (n : Int))).run Tryz.prog W = .ok (.slice (some ⟨W.heap.size, 0, none⟩) n n) (W.alloc (.cells (rowS (List.replicate n sZ)).toArray 116)) := by
  obtain ⟨i, hi, hz, h1, h2⟩ := info_parts infoS
  have := run_make (P := Tryz.prog) W 66 116 i _ Tryz.underlying66 hi hz .i64 .i64 n n (by omega) (Int.le_refl _) (by rw [h2]; omega) (by omega)
  rw [h1, Int.toNat_natCast, zeros_row] at this
  exact this
/-- A block whose first cell is no number is no table. -/
def NoTab (w : World) (x : Nat) : Prop := ∃ v, w.cell? ⟨x, 0, none⟩ = some v ∧ ∀ k i, v ≠ .int k i
/-- A TLB: of the program's type or of the reference's. -/
structure PT (T : TypeId) (w : World) (p g : Nat) (L : List Slo) : Prop where
  box : Bl w p T [.slice (some ⟨g, 0, none⟩) L.length L.length]
  row : Bl w g 116 (rowS L)
  ok : LOk L
  lo : 1 ≤ L.length
  hi : L.length ≤ 64
  ne : T ≠ 116
section
variable {T : TypeId} {w w' : World} {p g : Nat} {L : List Slo} {S : Nat → Prop}
theorem PT.apart (h : PT T w p g L) : p ≠ g := h.box.ne h.row h.ne
theorem PT.below (h : PT T w p g L) (hb : Below w.heap.size w w') : PT T w' p g L := ⟨h.box.below hb, h.row.below hb, h.ok, h.lo, h.hi, h.ne⟩
theorem PT.turn (h : PT T w p g L) (hb : Turn S w w') (h1 : ¬ S p) (h2 : ¬ S g) : PT T w' p g L := ⟨h.box.turn hb h1, h.row.turn hb h2, h.ok, h.lo, h.hi, h.ne⟩
theorem PT.drew (h : PT T w p g L) : PT T w.drew p g L := ⟨h.box, h.row, h.ok, h.lo, h.hi, h.ne⟩
theorem PT.drewN (h : PT T w p g L) (q : Nat) : PT T (w.drewN q) p g L := ⟨h.box, h.row, h.ok, h.lo, h.hi, h.ne⟩
theorem PT.cell (h : PT T w p g L) : w.cell? ⟨p, 0, none⟩ = some (.slice (some ⟨g, 0, none⟩) L.length L.length) := h.box.cell 0
theorem PT.put (h : PT T w p g L) (k : Nat) (b : Slo) (hk : k < L.length) (hb : SOk b) : PT T ((((((((((w.setCell ⟨g, k * 10, none⟩ (.bool b.full)).setCell ⟨g, k * 10 + 1, none⟩ (.int .i64 b.b.asid)).setCell ⟨g, k * 10 + 2, none⟩ (.int .i64 b.b.t.size)).setCell ⟨g, k * 10 + 3, none⟩ (.int .u32 b.b.t.va)).setCell ⟨g, k * 10 + 4, none⟩ (.int .u64 b.b.t.pa)).setCell ⟨g, k * 10 + 5, none⟩ (.int .i64 b.b.t.dom)).setCell ⟨g, k * 10 + 6, none⟩ (.int .i64 b.b.t.ap)).setCell ⟨g, k * 10 + 7, none⟩ (.int .u32 b.b.t.bits)).setCell ⟨g, k * 10 + 8, none⟩ (.bool b.b.t.ng)).setCell ⟨g, k * 10 + 9, none⟩ (.bool b.b.t.xn)) p g (L.set k b) := by
  have hl : (L.set k b).length = L.length := List.length_set
  have hn := h.apart
  refine ⟨?_, rowS_put h.row k b hk, h.ok.set k hb, by rw [hl]; exact h.lo, by rw [hl]; exact h.hi, h.ne⟩
  rw [hl]
  exact (((((((((h.box.setO hn _ _).setO hn _ _).setO hn _ _).setO hn _ _).setO hn _ _).setO hn _ _).setO hn _ _).setO hn _ _).setO hn _ _).setO hn _ _
theorem turn_put (h : g < w.heap.size) (hS : S g) (k : Nat) (b : Slo) : Turn S w ((((((((((w.setCell ⟨g, k * 10, none⟩ (.bool b.full)).setCell ⟨g, k * 10 + 1, none⟩ (.int .i64 b.b.asid)).setCell ⟨g, k * 10 + 2, none⟩ (.int .i64 b.b.t.size)).setCell ⟨g, k * 10 + 3, none⟩ (.int .u32 b.b.t.va)).setCell ⟨g, k * 10 + 4, none⟩ (.int .u64 b.b.t.pa)).setCell ⟨g, k * 10 + 5, none⟩ (.int .i64 b.b.t.dom)).setCell ⟨g, k * 10 + 6, none⟩ (.int .i64 b.b.t.ap)).setCell ⟨g, k * 10 + 7, none⟩ (.int .u32 b.b.t.bits)).setCell ⟨g, k * 10 + 8, none⟩ (.bool b.b.t.ng)).setCell ⟨g, k * 10 + 9, none⟩ (.bool b.b.t.xn)) :=
  ((((((((((Turn.refl S w).setCell (p := ⟨g, k * 10, none⟩) (.inl hS) _).setCell (p := ⟨g, k * 10 + 1, none⟩) (.inl hS) _).setCell (p := ⟨g, k * 10 + 2, none⟩) (.inl hS) _).setCell (p := ⟨g, k * 10 + 3, none⟩) (.inl hS) _).setCell (p := ⟨g, k * 10 + 4, none⟩) (.inl hS) _).setCell (p := ⟨g, k * 10 + 5, none⟩) (.inl hS) _).setCell (p := ⟨g, k * 10 + 6, none⟩) (.inl hS) _).setCell (p := ⟨g, k * 10 + 7, none⟩) (.inl hS) _).setCell (p := ⟨g, k * 10 + 8, none⟩) (.inl hS) _).setCell (p := ⟨g, k * 10 + 9, none⟩) (.inl hS) _
theorem PT.putT (h : PT T w p g L) (k : Nat) (b : Blo) (hk : k < L.length) (hb : SOk ⟨true, b⟩) : PT T ((((((((((w.setCell ⟨g, k * 10, none⟩ (.bool true)).setCell ⟨g, k * 10 + 1, none⟩ (.int .i64 b.asid)).setCell ⟨g, k * 10 + 2, none⟩ (.int .i64 b.t.size)).setCell ⟨g, k * 10 + 3, none⟩ (.int .u32 b.t.va)).setCell ⟨g, k * 10 + 4, none⟩ (.int .u64 b.t.pa)).setCell ⟨g, k * 10 + 5, none⟩ (.int .i64 b.t.dom)).setCell ⟨g, k * 10 + 6, none⟩ (.int .i64 b.t.ap)).setCell ⟨g, k * 10 + 7, none⟩ (.int .u32 b.t.bits)).setCell ⟨g, k * 10 + 8, none⟩ (.bool b.t.ng)).setCell ⟨g, k * 10 + 9, none⟩ (.bool b.t.xn)) p g (L.set k ⟨true, b⟩) := h.put k ⟨true, b⟩ hk hb
theorem turn_putT (hS : S g) (k : Nat) (b : Blo) (h : g < w.heap.size) : Turn S w ((((((((((w.setCell ⟨g, k * 10, none⟩ (.bool true)).setCell ⟨g, k * 10 + 1, none⟩ (.int .i64 b.asid)).setCell ⟨g, k * 10 + 2, none⟩ (.int .i64 b.t.size)).setCell ⟨g, k * 10 + 3, none⟩ (.int .u32 b.t.va)).setCell ⟨g, k * 10 + 4, none⟩ (.int .u64 b.t.pa)).setCell ⟨g, k * 10 + 5, none⟩ (.int .i64 b.t.dom)).setCell ⟨g, k * 10 + 6, none⟩ (.int .i64 b.t.ap)).setCell ⟨g, k * 10 + 7, none⟩ (.int .u32 b.t.bits)).setCell ⟨g, k * 10 + 8, none⟩ (.bool b.t.ng)).setCell ⟨g, k * 10 + 9, none⟩ (.bool b.t.xn)) := turn_put h hS k ⟨true, b⟩
theorem PT.putZ (h : PT T w p g L) (k : Nat) (hk : k < L.length) : PT T ((((((((((w.setCell ⟨g, k * 10, none⟩ (.bool false)).setCell ⟨g, k * 10 + 1, none⟩ (.int .i64 0)).setCell ⟨g, k * 10 + 2, none⟩ (.int .i64 0)).setCell ⟨g, k * 10 + 3, none⟩ (.int .u32 0)).setCell ⟨g, k * 10 + 4, none⟩ (.int .u64 0)).setCell ⟨g, k * 10 + 5, none⟩ (.int .i64 0)).setCell ⟨g, k * 10 + 6, none⟩ (.int .i64 0)).setCell ⟨g, k * 10 + 7, none⟩ (.int .u32 0)).setCell ⟨g, k * 10 + 8, none⟩ (.bool false)).setCell ⟨g, k * 10 + 9, none⟩ (.bool false)) p g (L.set k sZ) := h.put k sZ hk SOk.zero
theorem turn_putZ (hS : S g) (k : Nat) (h : g < w.heap.size) : Turn S w ((((((((((w.setCell ⟨g, k * 10, none⟩ (.bool false)).setCell ⟨g, k * 10 + 1, none⟩ (.int .i64 0)).setCell ⟨g, k * 10 + 2, none⟩ (.int .i64 0)).setCell ⟨g, k * 10 + 3, none⟩ (.int .u32 0)).setCell ⟨g, k * 10 + 4, none⟩ (.int .u64 0)).setCell ⟨g, k * 10 + 5, none⟩ (.int .i64 0)).setCell ⟨g, k * 10 + 6, none⟩ (.int .i64 0)).setCell ⟨g, k * 10 + 7, none⟩ (.int .u32 0)).setCell ⟨g, k * 10 + 8, none⟩ (.bool false)).setCell ⟨g, k * 10 + 9, none⟩ (.bool false)) := turn_put h hS k sZ
theorem PT.at (h : PT T w p g L) {k : Nat} (hk : k < L.length) : ∃ s, L[k]? = some s ∧ SOk s ∧ w.cell? ⟨g, k * 10, none⟩ = some (.bool s.full) ∧ w.cell? ⟨g, k * 10 + 1, none⟩ = some (.int .i64 s.b.asid) ∧ w.cell? ⟨g, k * 10 + 2, none⟩ = some (.int .i64 s.b.t.size) ∧ w.cell? ⟨g, k * 10 + 3, none⟩ = some (.int .u32 s.b.t.va) ∧ w.cell? ⟨g, k * 10 + 4, none⟩ = some (.int .u64 s.b.t.pa) ∧ w.cell? ⟨g, k * 10 + 5, none⟩ = some (.int .i64 s.b.t.dom) ∧ w.cell? ⟨g, k * 10 + 6, none⟩ = some (.int .i64 s.b.t.ap) ∧ w.cell? ⟨g, k * 10 + 7, none⟩ = some (.int .u32 s.b.t.bits) ∧ w.cell? ⟨g, k * 10 + 8, none⟩ = some (.bool s.b.t.ng) ∧ w.cell? ⟨g, k * 10 + 9, none⟩ = some (.bool s.b.t.xn) := by
  refine ⟨L[k], List.getElem?_eq_getElem hk, h.ok.at (List.getElem?_eq_getElem hk), ?_⟩
  exact rowS_cells h.row (List.getElem?_eq_getElem hk)
theorem PT.noTab (h : PT T w p g L) : NoTab w g := by
  obtain ⟨s, hs, hok, e0, _⟩ := h.at (k := 0) h.lo
  exact ⟨_, by simpa using e0, by simp⟩
end
set_option maxRecDepth 100000 in
theorem eqB (a b : Blo) (w : World) : (Op.equalIn 10000 114 (.agg #[.int .i64 a.asid, .int .i64 a.t.size, .int .u32 a.t.va, .int .u64 a.t.pa, .int .i64 a.t.dom, .int .i64 a.t.ap, .int .u32 a.t.bits, .bool a.t.ng, .bool a.t.xn]) (.agg #[.int .i64 b.asid, .int .i64 b.t.size, .int .u32 b.t.va, .int .u64 b.t.pa, .int .i64 b.t.dom, .int .i64 b.t.ap, .int .u32 b.t.bits, .bool b.t.ng, .bool b.t.xn])).run Tryz.prog w = .ok (a.same b) w := by
  obtain ⟨a0, a1, a2, a3, a4, a5, a6, a7, a8⟩ := a
  obtain ⟨b0, b1, b2, b3, b4, b5, b6, b7, b8⟩ := b
  go_simp
  simp only [Blo.same, Tra.same]
  repeat' split
  all_goals simp_all
set_option maxRecDepth 100000 in
theorem eqS (a b : Slo) (w : World) : (Op.equalIn 10000 116 (.agg #[.bool a.full, .int .i64 a.b.asid, .int .i64 a.b.t.size, .int .u32 a.b.t.va, .int .u64 a.b.t.pa, .int .i64 a.b.t.dom, .int .i64 a.b.t.ap, .int .u32 a.b.t.bits, .bool a.b.t.ng, .bool a.b.t.xn]) (.agg #[.bool b.full, .int .i64 b.b.asid, .int .i64 b.b.t.size, .int .u32 b.b.t.va, .int .u64 b.b.t.pa, .int .i64 b.b.t.dom, .int .i64 b.b.t.ap, .int .u32 b.b.t.bits, .bool b.b.t.ng, .bool b.b.t.xn])).run Tryz.prog w = .ok (a.same b) w := by
  obtain ⟨af, a0, a1, a2, a3, a4, a5, a6, a7, a8⟩ := a
  obtain ⟨bf, b0, b1, b2, b3, b4, b5, b6, b7, b8⟩ := b
  go_simp
  simp only [Slo.same, Blo.same, Tra.same]
  repeat' split
  all_goals simp_all
end Go.Proofs.YtfdjfhhjfgdbaaaGreatDoor
