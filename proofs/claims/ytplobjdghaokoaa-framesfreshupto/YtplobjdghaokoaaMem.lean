import Derived.Test.YtplobjdghaokoaaRx
import Derived.Test.YtplobjdghaokoaaPl
import Derived.Test.YtplobjdghaokoaaRows
namespace Go.Proofs.Ytplobjdghaokoaa
open Go.RowKit
set_option linter.unusedVariables false

/-- What has turned lies in S, or is new. -/
structure Turn (S : Nat → Prop) (w w' : World) : Prop where
  os : w'.os = w.os
  tape : w'.tape = w.tape
  output : w'.output = w.output
  size : w.heap.size ≤ w'.heap.size
  block : ∀ k, k < w.heap.size → ¬ S k → w'.heap[k]? = w.heap[k]?

theorem Turn.refl (S : Nat → Prop) (w : World) : Turn S w w := ⟨rfl, rfl, rfl, Nat.le_refl _, fun _ _ _ => rfl⟩
theorem Turn.trans {S S' : Nat → Prop} {a b c : World} (h : Turn S a b) (k : Turn S' b c) (hS : ∀ x, S' x → S x ∨ a.heap.size ≤ x) : Turn S a c :=
  ⟨k.os.trans h.os, k.tape.trans h.tape, k.output.trans h.output, Nat.le_trans h.size k.size, fun i hi hn =>
    (k.block i (Nat.lt_of_lt_of_le hi h.size) (fun hs => by rcases hS i hs with h1 | h1; exact hn h1; omega)).trans (h.block i hi hn)⟩
theorem Turn.mono {S S' : Nat → Prop} {a b : World} (h : Turn S a b) (hS : ∀ x, x < a.heap.size → S x → S' x) : Turn S' a b :=
  ⟨h.os, h.tape, h.output, h.size, fun i hi hn => h.block i hi (fun hs => hn (hS i hi hs))⟩
theorem Turn.grown {S : Nat → Prop} {a b : World} {row : Option Nat} (h : a.grownBy b row) (hS : ∀ k, row = some k → S k ∨ a.heap.size ≤ k) : Turn S a b :=
  ⟨h.os, h.tape, h.output, h.size, fun i hi hn => h.block i hi (fun e => by rcases hS i e.symm with h1 | h1; exact hn h1; omega)⟩
theorem Turn.below {S : Nat → Prop} {a b : World} (h : Below a.heap.size a b) : Turn S a b := ⟨h.os, h.tape, h.output, h.size, fun i hi _ => h.block i hi⟩
theorem Turn.to {S : Nat → Prop} {a b : World} {B : Nat} (h : Turn S a b) (hS : ∀ x, S x → B ≤ x) (hB : B ≤ a.heap.size) : Below B a b :=
  ⟨h.os, h.tape, h.output, h.size, fun i hi => h.block i (by omega) (fun hs => by have := hS i hs; omega)⟩
theorem Turn.alloc {S : Nat → Prop} {a b : World} (h : Turn S a b) (o : Obj) : Turn S a (b.alloc o) :=
  h.trans (S' := fun _ => False) ⟨rfl, rfl, rfl, by simp, fun i hi _ => Below.heap_alloc _ _ _ hi⟩ (fun _ h => h.elim)
theorem Turn.setCell {S : Nat → Prop} {a b : World} (h : Turn S a b) {p : Addr} (hp : S p.block ∨ a.heap.size ≤ p.block) (u : Value) : Turn S a (b.setCell p u) :=
  h.trans (S' := fun x => x = p.block) ⟨rfl, rfl, rfl, by simp [World.setCell], fun i hi hn => Below.heap_setCell _ _ _ _ hn⟩ (fun x hx => by subst hx; exact hp)
theorem Turn.drewN {S : Nat → Prop} {a b : World} (h : Turn S a b) (n : Nat) : Turn S a (b.drewN n) := ⟨h.os, h.tape, h.output, h.size, h.block⟩
theorem Turn.cell {S : Nat → Prop} {a b : World} (h : Turn S a b) {k : Nat} (hk : k < a.heap.size) (hn : ¬ S k) (o : Nat) : b.cell? ⟨k, o, none⟩ = a.cell? ⟨k, o, none⟩ := World.cell?_of_block (w := a) (h.block k hk hn)
theorem Turn.frozen {S : Nat → Prop} {a b : World} (h : Turn S a b) {k : Nat} (hk : k < a.heap.size) (hn : ¬ S k) (o : Nat) : b.frozen? ⟨k, o, none⟩ = a.frozen? ⟨k, o, none⟩ := World.frozen?_of_block (w := a) (h.block k hk hn)
theorem RowAt.turn {S : Nat → Prop} {W W' : World} {g : Nat} {e : TypeId} {cur : List Value} (h : RowAt W g e cur) (T : Turn S W W') (hn : ¬ S g) : RowAt W' g e cur := by
  show W'.heap[g]? = _
  rw [T.block g h.lt hn]; exact h
theorem own_turn {W W' : World} {S' : Nat → Prop} {lo n size : Nat} {e : TypeId} {v : Value} {xs : List Value} (h : W.ownsRow lo e size v n xs) (T : Turn S' W W') (hd : ∀ b, v.ownBlock = some b → ¬ S' b) : W'.ownsRow lo e size v n xs := by
  rcases row_of_own h with ⟨rfl, rfl, rfl⟩ | ⟨g, cap, cur, rfl, a, b, c, d, e1, f⟩
  · exact World.ownsRow_nil _ _ _ _
  · exact own_of_row (g := g) (cur := cur) (b.turn T (hd g rfl)) a c d e1 f
theorem RowAt.set {W : World} {g : Nat} {e : TypeId} {cur : List Value} (h : RowAt W g e cur) (j : Nat) (v : Value) : RowAt (W.setCell ⟨g, j, none⟩ v) g e (cur.set j v) := by
  show (W.heap.modify g _)[g]? = _
  rw [Array.getElem?_modify, if_pos rfl, show W.heap[g]? = _ from h]
  simp
theorem RowAt.setO {W : World} {g k : Nat} {e : TypeId} {cur : List Value} (h : RowAt W g e cur) (hk : g ≠ k) (j : Nat) (v : Value) : RowAt (W.setCell ⟨k, j, none⟩ v) g e cur := by
  show (W.heap.modify k _)[g]? = _
  rw [Array.getElem?_modify, if_neg (Ne.symm hk)]
  exact h
theorem RowAt.drewN {W : World} {g : Nat} {e : TypeId} {cur : List Value} (h : RowAt W g e cur) (q : Nat) : RowAt (W.drewN q) g e cur := h
theorem RowAt.ty {W : World} {g : Nat} {e e' : TypeId} {c c' : List Value} (h : RowAt W g e c) (h' : RowAt W g e' c') : e = e' := by
  have h1 : W.heap[g]? = _ := h
  rw [show W.heap[g]? = _ from h'] at h1
  injection h1 with h1
  injection h1 with _ h2 _
  exact h2.symm
theorem RowAt.ne {W : World} {g k : Nat} {e e' : TypeId} {c c' : List Value} (h : RowAt W g e c) (h' : RowAt W k e' c') (hne : e ≠ e') : g ≠ k := fun e => hne (by subst e; exact h.ty h')
theorem row_new (w : World) (l : List Value) (t : TypeId) : RowAt (w.alloc (.cells l.toArray t)) w.heap.size t l := by
  show _ = _
  rw [heap_alloc_new]
def gr (S : Nat → Prop) (w w' : World) (b : Nat) : Prop := S b ∨ (w.heap.size ≤ b ∧ b < w'.heap.size)

/-! ### the program's pool -/
def encU (u : List Nat) : List Value := u.map fun (x : Nat) => .int .u8 (x : Int)
theorem encU_len (u : List Nat) : (encU u).length = u.length := by simp [encU]
theorem encU_at {u : List Nat} {i x : Nat} (h : u[i]? = some x) : (encU u)[i]? = some (.int .u8 (x : Int)) := by simp [encU, h]
theorem encU_set (u : List Nat) (i x : Nat) : (encU u).set i (.int .u8 (x : Int)) = encU (u.set i x) := by simp [encU, List.map_set]
structure PPx (W : World) (p ub f0 : Nat) (u : List Nat) (low : Nat) : Prop where
  box : RowAt W p 73 [.int .i64 f0, .slice (some ⟨ub, 0, none⟩) u.length u.length, .int .i64 (zeros u), .int .i64 low]
  row : RowAt W ub 5 (encU u)
  lows : low ≤ u.length ∧ ∀ i, i < low → u[i]? ≠ some 0
  le : ∀ x ∈ u, x ≤ 255
  n1 : u.length ≤ 1048576
  n2 : f0 + u.length ≤ 268435456
def PP (W : World) (p ub f0 : Nat) (u : List Nat) : Prop := ∃ low, PPx W p ub f0 u low
section
variable {W W' : World} {S : Nat → Prop} {p ub f0 low : Nat} {u : List Nat}
theorem PPx.ne (h : PPx W p ub f0 u low) : p ≠ ub := h.box.ne h.row (by decide)
theorem PPx.c0 (h : PPx W p ub f0 u low) : W.cell? ⟨p, 0, none⟩ = some (.int .i64 f0) := by rw [h.box.cell]; rfl
theorem PPx.c1 (h : PPx W p ub f0 u low) : W.cell? ⟨p, 1, none⟩ = some (.slice (some ⟨ub, 0, none⟩) u.length u.length) := by rw [h.box.cell]; rfl
theorem PPx.c2 (h : PPx W p ub f0 u low) : W.cell? ⟨p, 2, none⟩ = some (.int .i64 (zeros u)) := by rw [h.box.cell]; rfl
theorem PPx.c3 (h : PPx W p ub f0 u low) : W.cell? ⟨p, 3, none⟩ = some (.int .i64 low) := by rw [h.box.cell]; rfl
theorem PPx.cu (h : PPx W p ub f0 u low) {i x : Nat} (hi : u[i]? = some x) : W.cell? ⟨ub, i, none⟩ = some (.int .u8 x) := by rw [h.row.cell]; exact encU_at hi
theorem PPx.keep (h : PPx W p ub f0 u low) (T : Turn S W W') (h1 : ¬ S p) (h2 : ¬ S ub) : PPx W' p ub f0 u low := ⟨h.box.turn T h1, h.row.turn T h2, h.lows, h.le, h.n1, h.n2⟩
theorem PPx.drewN (h : PPx W p ub f0 u low) (q : Nat) : PPx (W.drewN q) p ub f0 u low := ⟨h.box, h.row, h.lows, h.le, h.n1, h.n2⟩
theorem PP.keep (h : PP W p ub f0 u) (T : Turn S W W') (h1 : ¬ S p) (h2 : ¬ S ub) : PP W' p ub f0 u := by obtain ⟨low, h⟩ := h; exact ⟨low, h.keep T h1 h2⟩
theorem PP.drewN (h : PP W p ub f0 u) (q : Nat) : PP (W.drewN q) p ub f0 u := by obtain ⟨low, h⟩ := h; exact ⟨low, h.drewN q⟩
theorem PP.lt (h : PP W p ub f0 u) : p < W.heap.size ∧ ub < W.heap.size := by obtain ⟨low, h⟩ := h; exact ⟨h.box.lt, h.row.lt⟩
theorem PP.ne (h : PP W p ub f0 u) : p ≠ ub := by obtain ⟨low, h⟩ := h; exact h.ne
theorem PP.n1 (h : PP W p ub f0 u) : u.length ≤ 1048576 := by obtain ⟨low, h⟩ := h; exact h.n1
theorem PP.n2 (h : PP W p ub f0 u) : f0 + u.length ≤ 268435456 := by obtain ⟨low, h⟩ := h; exact h.n2
theorem PP.le (h : PP W p ub f0 u) : ∀ x ∈ u, x ≤ 255 := by obtain ⟨low, h⟩ := h; exact h.le
end
/-- The blocks of a pool. -/
def Two (p ub : Nat) (b : Nat) : Prop := b = p ∨ b = ub
end Go.Proofs.Ytplobjdghaokoaa
