import Derived.Test.YtilhceajhlaojaaGreatDoorProg
import Derived.WalkKit
import Derived.ProofKit
import Derived.Outline
import Derived.Deep.QuietTactic
import Derived.BigQuiet
import Derived.LoopTactic
import Derived.Deep.RegionHeld3
import Derived.Laws.BitsAllLaws
import Derived.Laws.EntriesVeiled
import Derived.Deep.MidRow
import Derived.Handy
namespace Go.Proofs.YtilhceajhlaojaaGreatDoor
open Go.RowKit
set_option linter.unusedVariables false

theorem below_drewN {B : Nat} {a w : World} (h : Below B a w) (q : Nat) : Below B a (w.drewN q) := ⟨h.os, h.tape, h.output, h.size, h.block⟩
theorem below_drew {B : Nat} {a w : World} (h : Below B a w) : Below B a w.drew := ⟨h.os, h.tape, h.output, h.size, h.block⟩
theorem below_new (w : World) (o : Obj) : Below w.heap.size w (w.alloc o) := (Below.refl _ _).alloc (Nat.le_refl _) o
theorem Below.step {w w1 w2 : World} (h1 : Below w.heap.size w w1) (h2 : Below w1.heap.size w1 w2) : Below w.heap.size w w2 := h1.trans (h2.mono h1.size)
theorem cell_lt {w : World} {p : Addr} {v : Value} (h : w.cell? p = some v) : p.block < w.heap.size := by
  cases hb : w.heap[p.block]? with
  | none => simp [World.cell?, hb] at h
  | some o => exact (Array.getElem?_eq_some_iff.1 hb).1
theorem pow_nat (n : Nat) : ((2 ^ n : Nat) : Int) = 2 ^ n := Int.natCast_pow 2 n
theorem pow_pos (n : Nat) : (0 : Int) < 2 ^ n := by have := Nat.two_pow_pos n; have := pow_nat n; omega
theorem shr_range (x : Int) (n : Nat) (hx : 0 ≤ x ∧ x < 4294967296) : 0 ≤ x / 2 ^ n ∧ x / 2 ^ n < 4294967296 := by
  have h := pow_pos n
  refine ⟨Int.ediv_nonneg hx.1 (by omega), ?_⟩
  have := Int.ediv_le_self (2 ^ n) hx.1
  omega
/-- The lowest bits of a word. -/
theorem band_mod (k : Nat) (m x : Int) (hm : m = 2 ^ k - 1) (hk : k ≤ 32) (hx : 0 ≤ x ∧ x < 4294967296) : bits .and .u32 x m = x % 2 ^ k := by
  have hp : (2 : Int) ^ k = ((2 ^ k : Nat) : Int) := (pow_nat k).symm
  have hp2 : 2 ^ k ≤ 4294967296 := by simpa using Nat.pow_le_pow_right (n := 2) (by decide) hk
  have hp1 : 0 < 2 ^ k := Nat.two_pow_pos k
  rw [u32_and x m hx.1 hx.2 (by omega) (by omega)]
  have : m.toNat = 2 ^ k - 1 := by omega
  obtain ⟨X, rfl⟩ := Int.eq_ofNat_of_zero_le hx.1
  rw [this, Nat.and_two_pow_sub_one_eq_mod, hp, Int.toNat_natCast]
  rfl
theorem band1 (x : Int) (hx : 0 ≤ x ∧ x < 4294967296) : bits .and .u32 x 1 = x % 2 := band_mod 1 1 x (by decide) (by decide) hx
/-- What has turned lies in S, or is new. -/
structure Turn (S : Nat → Prop) (w w' : World) : Prop where
  os : w'.os = w.os
  tape : w'.tape = w.tape
  output : w'.output = w.output
  size : w.heap.size ≤ w'.heap.size
  block : ∀ k, k < w.heap.size → ¬ S k → w'.heap[k]? = w.heap[k]?
theorem Turn.refl (S : Nat → Prop) (w : World) : Turn S w w := ⟨rfl, rfl, rfl, Nat.le_refl _, fun _ _ _ => rfl⟩
theorem Turn.trans {S S' : Nat → Prop} {a b c : World} (h : Turn S a b) (k : Turn S' b c) (hS : ∀ x, S' x → S x ∨ a.heap.size ≤ x) : Turn S a c :=
  ⟨k.os.trans h.os, k.tape.trans h.tape, k.output.trans h.output, Nat.le_trans h.size k.size, fun i hi hn =>
    (k.block i (Nat.lt_of_lt_of_le hi h.size) (fun hs => by rcases hS i hs with h1 | h1; exact hn h1; omega)).trans (h.block i hi hn)⟩
theorem Turn.then {S : Nat → Prop} {a b c : World} (h : Turn S a b) (k : Turn S b c) : Turn S a c := h.trans k (fun _ hx => .inl hx)
theorem Turn.below {S : Nat → Prop} {a b : World} (h : Below a.heap.size a b) : Turn S a b := ⟨h.os, h.tape, h.output, h.size, fun i hi _ => h.block i hi⟩
theorem Turn.to {S : Nat → Prop} {a b : World} {B : Nat} (h : Turn S a b) (hS : ∀ x, S x → B ≤ x) (hB : B ≤ a.heap.size) : Below B a b :=
  ⟨h.os, h.tape, h.output, h.size, fun i hi => h.block i (by omega) (fun hs => by have := hS i hs; omega)⟩
theorem Turn.alloc {S : Nat → Prop} {a b : World} (h : Turn S a b) (o : Obj) : Turn S a (b.alloc o) :=
  h.trans (S' := fun _ => False) ⟨rfl, rfl, rfl, by simp, fun i hi _ => Below.heap_alloc _ _ _ hi⟩ (fun _ h => h.elim)
theorem Turn.setCell {S : Nat → Prop} {a b : World} (h : Turn S a b) {p : Addr} (hp : S p.block ∨ a.heap.size ≤ p.block) (u : Value) : Turn S a (b.setCell p u) :=
  h.trans (S' := fun x => x = p.block) ⟨rfl, rfl, rfl, by simp [World.setCell], fun i hi hn => Below.heap_setCell _ _ _ _ hn⟩ (fun x hx => by subst hx; exact hp)
theorem Turn.drewN {S : Nat → Prop} {a b : World} (h : Turn S a b) (n : Nat) : Turn S a (b.drewN n) := ⟨h.os, h.tape, h.output, h.size, h.block⟩
theorem Turn.drew {S : Nat → Prop} {a b : World} (h : Turn S a b) : Turn S a b.drew := ⟨h.os, h.tape, h.output, h.size, h.block⟩
/-- A block of cells. -/
def Bl (w : World) (b : Nat) (t : TypeId) (l : List Value) : Prop := w.heap[b]? = some (.cells l.toArray t (0, 0))
theorem Bl.new (w : World) (t : TypeId) (l : List Value) : Bl (w.alloc (.cells l.toArray t)) w.heap.size t l := heap_alloc_new w (.cells l.toArray t)
theorem Bl.lt {w : World} {b : Nat} {t : TypeId} {l : List Value} (h : Bl w b t l) : b < w.heap.size := (Array.getElem?_eq_some_iff.1 h).1
theorem Bl.below {w w' : World} {b : Nat} {t : TypeId} {l : List Value} (h : Bl w b t l) (hb : Below w.heap.size w w') : Bl w' b t l := (hb.block b h.lt).trans h
theorem Bl.alloc {w : World} {b : Nat} {t : TypeId} {l : List Value} (h : Bl w b t l) (o : Obj) : Bl (w.alloc o) b t l := h.below (below_new w o)
theorem Bl.drew {w : World} {b : Nat} {t : TypeId} {l : List Value} (h : Bl w b t l) : Bl w.drew b t l := h
theorem Bl.cell {w : World} {b : Nat} {t : TypeId} {l : List Value} (h : Bl w b t l) (j : Nat) : w.cell? ⟨b, j, none⟩ = l[j]? := by
  rw [World.cell?, show w.heap[b]? = _ from h]
  simp
theorem Bl.frozen {w : World} {b : Nat} {t : TypeId} {l : List Value} (h : Bl w b t l) (j : Nat) : w.frozen? ⟨b, j, none⟩ = false := by
  simp [World.frozen?, show w.heap[b]? = _ from h]
theorem Bl.set {w : World} {b : Nat} {t : TypeId} {l : List Value} (h : Bl w b t l) (j : Nat) (v : Value) : Bl (w.setCell ⟨b, j, none⟩ v) b t (l.set j v) := by
  have h1 : w.heap[b]? = some (.cells l.toArray t (0, 0)) := h
  have hb : b < w.heap.size := h.lt
  show (w.setCell ⟨b, j, none⟩ v).heap[b]? = _
  simp [World.setCell, Array.getElem?_modify, h1]
theorem Bl.set_ne {w : World} {b b' : Nat} {t : TypeId} {l : List Value} (h : Bl w b t l) (hn : b ≠ b') (j : Nat) (v : Value) : Bl (w.setCell ⟨b', j, none⟩ v) b t l := by
  show (w.setCell ⟨b', j, none⟩ v).heap[b]? = _
  rw [Below.heap_setCell _ _ _ _ hn]
  exact h
theorem Bl.turn {S : Nat → Prop} {w w' : World} {b : Nat} {t : TypeId} {l : List Value} (h : Bl w b t l) (hb : Turn S w w') (hn : ¬ S b) : Bl w' b t l := (hb.block b h.lt hn).trans h
theorem Bl.drewN {w : World} {b : Nat} {t : TypeId} {l : List Value} (h : Bl w b t l) (q : Nat) : Bl (w.drewN q) b t l := h
theorem Bl.range {w : World} {b : Nat} {t : TypeId} {l : List Value} (h : Bl w b t l) : w.rangeAt b 0 l := fun j v hv => by rw [Nat.zero_add, h.cell, hv]
theorem Bl.there {w : World} {b : Nat} {T : TypeId} {l : List Value} (h : Bl w b T l) (n : Nat) (hn : n = l.length) : w.there b 0 n := by
  subst hn
  intro j hj
  rw [Nat.zero_add]
  exact ⟨by rw [h.cell j, List.getElem?_eq_getElem hj]; rfl, h.frozen j⟩
theorem setCells_bl {T : TypeId} {b : Nat} : ∀ (new : List Value) (o : Nat) (w : World) (l : List Value), Bl w b T l → o + new.length ≤ l.length → Bl (w.setCells b o new) b T (l.take o ++ new ++ l.drop (o + new.length))
  | [], o, w, l, h, hl => by
    rw [World.setCells]
    simpa using h
  | v :: vs, o, w, l, h, hl => by
    rw [World.setCells]
    simp only [List.length_cons] at hl
    have := setCells_bl vs (o + 1) (w.setCell ⟨b, o, none⟩ v) (l.set o v) (h.set o v) (by simp; omega)
    have e : (l.set o v).take (o + 1) ++ vs ++ (l.set o v).drop (o + 1 + vs.length) = l.take o ++ v :: vs ++ l.drop (o + (v :: vs).length) := by
      rw [List.drop_set_of_lt (by omega), List.take_set, List.take_succ_eq_append_getElem (by omega)]
      rw [List.set_append_right _ _ (by simp; omega)]
      have : o - (List.take o l).length = 0 := by simp; omega
      rw [this]
      simp
      congr 1
      omega
    rw [e] at this
    exact this
theorem set_all {w : World} {b : Nat} {T : TypeId} {l new : List Value} (h : Bl w b T l) (hl : new.length = l.length) : Bl (w.setCells b 0 new) b T new := by
  have := setCells_bl new 0 w l h (by omega)
  simpa [hl] using this
/-- One block alone has turned. -/
abbrev TA (g : Nat) (w w' : World) : Prop := Turn (fun b => b = g) w w'
theorem TA.set {g : Nat} {w w' : World} (h : TA g w w') (o : Nat) (u : Value) : TA g w (w'.setCell ⟨g, o, none⟩ u) := Turn.setCell (S := fun b => b = g) (p := ⟨g, o, none⟩) h (.inl rfl) u
theorem TA.of {g : Nat} {w w' : World} (h : Below w.heap.size w w') : TA g w w' := Turn.below h
theorem set_turn {b : Nat} : ∀ (new : List Value) (o : Nat) (w0 w : World), TA b w0 w → TA b w0 (w.setCells b o new)
  | [], o, w0, w, h => by rw [World.setCells]; exact h
  | v :: vs, o, w0, w, h => by rw [World.setCells]; exact set_turn vs (o + 1) w0 _ (h.set o v)
theorem cell_keep {w w' : World} {p : Addr} {v : Value} (h : w.cell? p = some v) (hb : Below w.heap.size w w') : w'.cell? p = some v := (hb.cell (cell_lt h)).trans h
theorem hidW {p : Prop} (h : p) : Hid p := h
/-- The four flags. -/
structure Fl where
  n : Bool
  z : Bool
  c : Bool
  v : Bool
/-- Four cells and their marks. -/
theorem Bl.four {w : World} {b : Nat} {t : TypeId} {x0 x1 x2 x3 : Value} (h : Bl w b t [x0, x1, x2, x3]) :
    (w.cell? ⟨b, 0, none⟩ = some x0 ∧ w.cell? ⟨b, 1, none⟩ = some x1 ∧ w.cell? ⟨b, 2, none⟩ = some x2 ∧ w.cell? ⟨b, 3, none⟩ = some x3) ∧ w.frozen? ⟨b, 0, none⟩ = false ∧ w.frozen? ⟨b, 1, none⟩ = false ∧ w.frozen? ⟨b, 2, none⟩ = false ∧ w.frozen? ⟨b, 3, none⟩ = false :=
  ⟨⟨h.cell 0, h.cell 1, h.cell 2, h.cell 3⟩, h.frozen 0, h.frozen 1, h.frozen 2, h.frozen 3⟩
/-- Four cells stored in a row, beside another block. -/
theorem put4 {w : World} {b c : Nat} {t t' : TypeId} {x0 x1 x2 x3 : Value} {l : List Value} (hb : Bl w b t [x0, x1, x2, x3]) (hc : Bl w c t' l) (hn : c ≠ b) (v0 v1 v2 v3 : Value) :
    Bl ((((w.setCell ⟨b, 0, none⟩ v0).setCell ⟨b, 1, none⟩ v1).setCell ⟨b, 2, none⟩ v2).setCell ⟨b, 3, none⟩ v3) b t [v0, v1, v2, v3] ∧ Bl ((((w.setCell ⟨b, 0, none⟩ v0).setCell ⟨b, 1, none⟩ v1).setCell ⟨b, 2, none⟩ v2).setCell ⟨b, 3, none⟩ v3) c t' l ∧
    ∀ B a, B ≤ b → Below B a w → Below B a ((((w.setCell ⟨b, 0, none⟩ v0).setCell ⟨b, 1, none⟩ v1).setCell ⟨b, 2, none⟩ v2).setCell ⟨b, 3, none⟩ v3) :=
  ⟨(((hb.set 0 v0).set 1 v1).set 2 v2).set 3 v3, (((hc.set_ne hn 0 v0).set_ne hn 1 v1).set_ne hn 2 v2).set_ne hn 3 v3, fun B a hB h => (((h.setCell hB v0).setCell hB v1).setCell hB v2).setCell hB v3⟩
end Go.Proofs.YtilhceajhlaojaaGreatDoor
namespace Go.Proofs.YtilhceajhlaojaaGreatDoor.Al
set_option linter.unusedVariables false
/-- A shift by one, of the document's. -/
def oneW (k x : Nat) (c : Bool) : Nat :=
  if k = 0 then x * 2 % 4294967296 else if k = 1 then x / 2 else if k = 2 then x / 2 + x / 2147483648 * 2147483648
  else if k = 3 then x / 2 + x % 2 * 2147483648 else x / 2 + (if c then 2147483648 else 0)
def oneC (k x : Nat) : Bool := if k = 0 then decide (x / 2147483648 % 2 = 1) else decide (x % 2 = 1)
/-- n shifts by one. -/
def iterS (k : Nat) : Nat → Nat → Bool → Nat × Bool
  | 0, x, c => (x, c)
  | n + 1, x, c => let r := iterS k n x c; (oneW k r.1 r.2, oneC k r.1)
theorem oneW_lt (k x : Nat) (c : Bool) (h : x < 4294967296) : oneW k x c < 4294967296 := by
  unfold oneW
  repeat' split
  all_goals omega
theorem iterS_lt (k n x : Nat) (c : Bool) (h : x < 4294967296) : (iterS k n x c).1 < 4294967296 := by
  induction n with
  | zero => exact h
  | succ n ih => exact oneW_lt k _ _ ih
theorem two_pow_split {n m : Nat} (h : m ≤ n) : 2 ^ n = 2 ^ m * 2 ^ (n - m) := by rw [← Nat.pow_add]; congr 1; omega
theorem lsl_iter (n x : Nat) (c : Bool) (h : x < 4294967296) : (iterS 0 n x c).1 = x * 2 ^ n % 4294967296 := by
  induction n with
  | zero => simp [iterS]; omega
  | succ n ih =>
    show oneW 0 (iterS 0 n x c).1 (iterS 0 n x c).2 = _
    rw [ih]
    unfold oneW
    rw [if_pos rfl, Nat.pow_succ, ← Nat.mul_assoc]
    rw [Nat.mul_mod, Nat.mod_mod, ← Nat.mul_mod]
theorem lsr_iter (n x : Nat) (c : Bool) : (iterS 1 n x c).1 = x / 2 ^ n := by
  induction n with
  | zero => simp [iterS]
  | succ n ih =>
    show oneW 1 (iterS 1 n x c).1 (iterS 1 n x c).2 = _
    rw [ih]
    unfold oneW
    rw [if_neg (by decide), if_pos rfl, Nat.pow_succ, Nat.div_div_eq_div_mul]
/-- n times shifted right, the highest bit coming in. -/
def asrN (n x : Nat) : Nat := if x < 2147483648 then x / 2 ^ n else 4294967295 - (4294967295 - x) / 2 ^ n
theorem asr_iter (n x : Nat) (c : Bool) (h : x < 4294967296) : (iterS 2 n x c).1 = asrN n x := by
  induction n with
  | zero => simp [iterS, asrN]; omega
  | succ n ih =>
    show oneW 2 (iterS 2 n x c).1 (iterS 2 n x c).2 = _
    rw [ih]
    unfold oneW asrN
    rw [if_neg (by decide), if_neg (by decide), if_pos rfl, Nat.pow_succ]
    by_cases hx : x < 2147483648
    · rw [if_pos hx, if_pos hx, ← Nat.div_div_eq_div_mul]
      have : x / 2 ^ n ≤ x := Nat.div_le_self _ _
      omega
    · rw [if_neg hx, if_neg hx, ← Nat.div_div_eq_div_mul]
      have hy : (4294967295 - x) / 2 ^ n ≤ 4294967295 - x := Nat.div_le_self _ _
      generalize (4294967295 - x) / 2 ^ n = y at *
      have he : (4294967295 - y) / 2147483648 = 1 := by omega
      rw [he]
      omega
/-- Turned right by k below 32. -/
def rorK (k x : Nat) : Nat := x / 2 ^ k + x % 2 ^ k * 2 ^ (32 - k)
theorem rorK_lt (k x : Nat) (hk : k ≤ 32) (h : x < 4294967296) : rorK k x < 4294967296 := by
  unfold rorK
  have hs : 4294967296 = 2 ^ k * 2 ^ (32 - k) := by rw [← Nat.pow_add, show k + (32 - k) = 32 by omega]
  have hp : 0 < 2 ^ k := Nat.two_pow_pos k
  have h1 : x / 2 ^ k < 2 ^ (32 - k) := by rw [Nat.div_lt_iff_lt_mul hp, Nat.mul_comm, ← hs]; exact h
  have h2 : x % 2 ^ k + 1 ≤ 2 ^ k := Nat.mod_lt _ hp
  have h3 : (x % 2 ^ k + 1) * 2 ^ (32 - k) ≤ 2 ^ k * 2 ^ (32 - k) := Nat.mul_le_mul_right _ h2
  rw [Nat.add_mul, Nat.one_mul] at h3
  omega
theorem rorK_succ (k x : Nat) (hk : k < 32) (h : x < 4294967296) : rorK k x / 2 + rorK k x % 2 * 2147483648 = rorK (k + 1) x := by
  unfold rorK
  have e1 : 2 ^ (32 - k) = 2 * 2 ^ (31 - k) := by rw [show 32 - k = (31 - k) + 1 by omega, Nat.pow_succ]; omega
  have e2 : 32 - (k + 1) = 31 - k := by omega
  have e3 : 2147483648 = 2 ^ k * 2 ^ (31 - k) := by rw [← Nat.pow_add, show k + (31 - k) = 31 by omega]
  have e4 : x % 2 ^ (k + 1) = x % 2 ^ k + 2 ^ k * (x / 2 ^ k % 2) := Nat.mod_pow_succ
  rw [e2, e4, Nat.pow_succ, ← Nat.div_div_eq_div_mul, e1, Nat.add_mul]
  have e5 : x % 2 ^ k * (2 * 2 ^ (31 - k)) = 2 * (x % 2 ^ k * 2 ^ (31 - k)) := by rw [Nat.mul_left_comm]
  have e6 : 2 ^ k * (x / 2 ^ k % 2) * 2 ^ (31 - k) = (x / 2 ^ k % 2) * 2147483648 := by rw [e3, Nat.mul_comm (2 ^ k), Nat.mul_assoc]
  rw [e5, e6]
  omega
theorem rorK_32 (x : Nat) (h : x < 4294967296) : rorK 32 x = x := by
  unfold rorK
  rw [Nat.div_eq_of_lt (by simpa using h), Nat.mod_eq_of_lt (by simpa using h)]
  simp
theorem rorK_0 (x : Nat) : rorK 0 x = x := by
  unfold rorK
  simp
  omega
theorem ror_iter (n x : Nat) (c : Bool) (h : x < 4294967296) : (iterS 3 n x c).1 = rorK (n % 32) x := by
  induction n with
  | zero => rw [Nat.zero_mod, rorK_0]; rfl
  | succ n ih =>
    show oneW 3 (iterS 3 n x c).1 (iterS 3 n x c).2 = _
    rw [ih]
    unfold oneW
    rw [if_neg (by decide), if_neg (by decide), if_neg (by decide), if_pos rfl, rorK_succ _ _ (Nat.mod_lt _ (by decide)) h]
    by_cases hn : n % 32 = 31
    · rw [hn, show (n + 1) % 32 = 0 by omega, rorK_32 x h, rorK_0]
    · rw [show (n + 1) % 32 = n % 32 + 1 by omega]
/-- The carry of a turn is the highest bit of what comes out. -/
theorem ror_top (y : Nat) (h : y < 4294967296) : decide (y % 2 = 1) = decide (2147483648 ≤ y / 2 + y % 2 * 2147483648) := by
  by_cases hy : y % 2 = 1
  · rw [decide_eq_true hy, decide_eq_true (by omega)]
  · rw [decide_eq_false hy, decide_eq_false (by omega)]
theorem ror_carry (n x : Nat) (c : Bool) (hn : 0 < n) (h : x < 4294967296) : (iterS 3 n x c).2 = decide (2147483648 ≤ rorK (n % 32) x) := by
  obtain ⟨m, rfl⟩ : ∃ m, n = m + 1 := ⟨n - 1, by omega⟩
  rw [← ror_iter (m + 1) x c h]
  show oneC 3 (iterS 3 m x c).1 = decide (2147483648 ≤ oneW 3 (iterS 3 m x c).1 (iterS 3 m x c).2)
  unfold oneC oneW
  rw [if_neg (by decide), if_neg (by decide), if_neg (by decide), if_neg (by decide), if_pos rfl]
  exact ror_top _ (iterS_lt 3 m x c h)
theorem lsl_carry (n x : Nat) (c : Bool) (h : x < 4294967296) : (iterS 0 (n + 1) x c).2 = decide (x * 2 ^ n / 2147483648 % 2 = 1) := by
  show oneC 0 (iterS 0 n x c).1 = _
  unfold oneC
  rw [if_pos rfl, lsl_iter n x c h]
  congr 1
  generalize x * 2 ^ n = y
  have : y % 4294967296 / 2147483648 % 2 = y / 2147483648 % 2 := by omega
  rw [this]
theorem lsr_carry (n x : Nat) (c : Bool) : (iterS 1 (n + 1) x c).2 = decide (x / 2 ^ n % 2 = 1) := by
  show oneC 1 (iterS 1 n x c).1 = _
  unfold oneC
  rw [if_neg (by decide), lsr_iter n x c]
theorem asr_carry (n x : Nat) (c : Bool) (h : x < 4294967296) : (iterS 2 (n + 1) x c).2 = decide (asrN n x % 2 = 1) := by
  show oneC 2 (iterS 2 n x c).1 = _
  unfold oneC
  rw [if_neg (by decide), asr_iter n x c h]
/-- The document's words of a shift: the word. -/
def shW (k x n : Nat) (c : Bool) : Nat :=
  if 4 < k then x else if k = 4 then x / 2 + (if c then 2147483648 else 0) else
  if n % 256 = 0 then x else
  if k = 0 then (if n % 256 < 32 then x * 2 ^ (n % 256) % 4294967296 else 0) else
  if k = 1 then (if n % 256 < 32 then x / 2 ^ (n % 256) else 0) else
  if k = 2 then (if n % 256 < 32 then asrN (n % 256) x else if x < 2147483648 then 0 else 4294967295) else rorK (n % 32) x
/-- Its carry. -/
def shC (k x n : Nat) (c : Bool) : Bool :=
  if 4 < k then c else if k = 4 then decide (x % 2 = 1) else
  if n % 256 = 0 then c else
  if k = 0 then (if n % 256 ≤ 32 then decide (x / 2 ^ (32 - n % 256) % 2 = 1) else false) else
  if k = 1 then (if n % 256 ≤ 32 then decide (x / 2 ^ (n % 256 - 1) % 2 = 1) else false) else
  if k = 2 then (if n % 256 < 32 then decide (x / 2 ^ (n % 256 - 1) % 2 = 1) else decide (2147483648 ≤ x)) else decide (2147483648 ≤ rorK (n % 32) x)
theorem pow_ge {n : Nat} (h : 32 ≤ n) : 4294967296 ≤ 2 ^ n := by
  have := Nat.pow_le_pow_right (n := 2) (by decide) h
  simpa using this
theorem asr_big {n x : Nat} (hn : 31 ≤ n) (h : x < 4294967296) : asrN n x = if x < 2147483648 then 0 else 4294967295 := by
  have hp : 2147483648 ≤ 2 ^ n := by simpa using Nat.pow_le_pow_right (n := 2) (by decide) hn
  unfold asrN
  split
  · exact Nat.div_eq_of_lt (by omega)
  · rw [Nat.div_eq_of_lt (by omega)]
theorem asr_bit {m x : Nat} (hm : m < 31) (h : x < 4294967296) : asrN m x % 2 = x / 2 ^ m % 2 := by
  unfold asrN
  split
  · rfl
  · have hp : 0 < 2 ^ m := Nat.two_pow_pos m
    have e : 4294967295 = 2 ^ m * 2 ^ (32 - m) - 1 := by rw [← Nat.pow_add, show m + (32 - m) = 32 by omega]
    have e8 : 2 ^ (32 - m) = 2 * 2 ^ (31 - m) := by rw [show 32 - m = (31 - m) + 1 by omega, Nat.pow_succ]; omega
    have key : (4294967295 - x) / 2 ^ m = 2 ^ (32 - m) - 1 - x / 2 ^ m := by
      have hx := Nat.div_add_mod x (2 ^ m)
      have hr := Nat.mod_lt x hp
      have hq : x / 2 ^ m < 2 ^ (32 - m) := by
        rw [Nat.div_lt_iff_lt_mul hp, Nat.mul_comm, ← Nat.pow_add, show m + (32 - m) = 32 by omega]; simpa using h
      generalize x / 2 ^ m = q at *
      generalize x % 2 ^ m = r at *
      have : 4294967295 - x = (2 ^ m - 1 - r) + 2 ^ m * (2 ^ (32 - m) - 1 - q) := by
        rw [Nat.mul_sub, Nat.mul_sub, Nat.mul_one, e]
        have g1 : 2 ^ m * q + 2 ^ m ≤ 2 ^ m * 2 ^ (32 - m) := by rw [← Nat.mul_succ]; exact Nat.mul_le_mul_left _ hq
        omega
      rw [this, Nat.add_mul_div_left _ _ hp, Nat.div_eq_of_lt (by omega), Nat.zero_add]
    rw [key, e8]
    have hq : x / 2 ^ m < 2 ^ (32 - m) := by
      rw [Nat.div_lt_iff_lt_mul hp, Nat.mul_comm, ← Nat.pow_add, show m + (32 - m) = 32 by omega]; simpa using h
    rw [e8] at hq
    have h9 : 2 ^ (32 - m) ≤ 4294967296 := by simpa using Nat.pow_le_pow_right (n := 2) (by decide) (show 32 - m ≤ 32 by omega)
    rw [e8] at h9
    generalize x / 2 ^ m = q at *
    generalize 2 ^ (31 - m) = P at *
    omega
/-- Bit by bit it is what the document's words say. -/
theorem shift_iter (k x n : Nat) (c : Bool) (hk : k < 4) (h : x < 4294967296) : iterS k (n % 256) x c = (shW k x n c, shC k x n c) := by
  have h32 : n % 256 % 32 = n % 32 := by omega
  unfold shW shC
  rw [← h32]
  simp only [show ¬ (4 < k) by omega, show ¬ (k = 4) by omega, if_false]
  generalize n % 256 = m at *
  by_cases hm : m = 0
  · subst hm; rw [if_pos rfl, if_pos rfl]; rfl
  rw [if_neg hm, if_neg hm]
  obtain ⟨j, rfl⟩ : ∃ j, m = j + 1 := ⟨m - 1, by omega⟩
  have hk' : k = 0 ∨ k = 1 ∨ k = 2 ∨ k = 3 := by omega
  rcases hk' with rfl | rfl | rfl | rfl
  · simp only [if_true]
    refine Prod.ext ?_ ?_
    · dsimp only
      rw [lsl_iter _ _ _ h]
      split
      · rfl
      · have e : 2 ^ (j + 1) = 4294967296 * 2 ^ (j + 1 - 32) := by rw [two_pow_split (show 32 ≤ j + 1 by omega)]
        rw [e, Nat.mul_left_comm, Nat.mul_mod_right]
    · dsimp only
      rw [lsl_carry _ _ _ h]
      by_cases hj : j + 1 ≤ 32
      · rw [if_pos hj]
        congr 1
        have e : 2147483648 = 2 ^ (31 - j) * 2 ^ j := by rw [← Nat.pow_add, show 31 - j + j = 31 by omega]
        rw [show 32 - (j + 1) = 31 - j by omega, e, Nat.mul_div_mul_right _ _ (Nat.two_pow_pos j)]
      · rw [if_neg hj]
        have e : 2 ^ j = 2147483648 * (2 * 2 ^ (j - 32)) := by
          rw [two_pow_split (show 32 ≤ j by omega), ← Nat.mul_assoc]
        apply decide_eq_false
        rw [e, ← Nat.mul_assoc, Nat.mul_comm x, Nat.mul_assoc, Nat.mul_div_cancel_left _ (by decide), Nat.mul_left_comm, Nat.mul_mod_right]
        decide
  · simp only [show ¬ ((1 : Nat) = 0) by decide, if_false, if_true]
    refine Prod.ext ?_ ?_
    · dsimp only
      rw [lsr_iter]
      split
      · rfl
      · exact Nat.div_eq_of_lt (Nat.lt_of_lt_of_le h (pow_ge (by omega)))
    · dsimp only
      rw [lsr_carry, show j + 1 - 1 = j by omega]
      split
      · rfl
      · apply decide_eq_false
        rw [Nat.div_eq_of_lt (Nat.lt_of_lt_of_le h (pow_ge (by omega)))]
        decide
  · simp only [show ¬ ((2 : Nat) = 0) by decide, show ¬ ((2 : Nat) = 1) by decide, if_false, if_true]
    refine Prod.ext ?_ ?_
    · dsimp only
      rw [asr_iter _ _ _ h]
      split
      · rfl
      · exact asr_big (by omega) h
    · dsimp only
      rw [asr_carry _ _ _ h, show j + 1 - 1 = j by omega]
      by_cases hj : j < 31
      · rw [if_pos (by omega), asr_bit hj h]
      · rw [asr_big (by omega) h]
        by_cases h31 : j + 1 < 32
        · omega
        · rw [if_neg h31]
          split
          · rw [decide_eq_false (by omega), decide_eq_false (by omega)]
          · rw [decide_eq_true (by omega), decide_eq_true (by omega)]
  · simp only [show ¬ ((3 : Nat) = 0) by decide, show ¬ ((3 : Nat) = 1) by decide, show ¬ ((3 : Nat) = 2) by decide, if_false]
    refine Prod.ext ?_ ?_
    · exact ror_iter _ _ _ h
    · exact ror_carry _ _ _ (by omega) h
/-- Turned and turned back. -/
theorem rorK_back (k x : Nat) (hk : k ≤ 32) (h : x < 4294967296) : rorK (32 - k) (rorK k x) = x := by
  have hs : 4294967296 = 2 ^ k * 2 ^ (32 - k) := by rw [← Nat.pow_add, show k + (32 - k) = 32 by omega]
  have hp : 0 < 2 ^ k := Nat.two_pow_pos k
  have hq : 0 < 2 ^ (32 - k) := Nat.two_pow_pos _
  have h1 : x / 2 ^ k < 2 ^ (32 - k) := by rw [Nat.div_lt_iff_lt_mul hp, Nat.mul_comm, ← hs]; exact h
  have h2 := Nat.div_add_mod x (2 ^ k)
  unfold rorK
  rw [show 32 - (32 - k) = k by omega, Nat.add_mul_div_right _ _ hq, Nat.div_eq_of_lt h1, Nat.zero_add, Nat.add_mul_mod_self_right, Nat.mod_eq_of_lt h1, Nat.mul_comm]
  omega
theorem rorK_iff (k x b : Nat) (hk : k ≤ 32) (h : x < 4294967296) (hb : b < 4294967296) : rorK k b = x ↔ rorK (32 - k) x = b := by
  constructor
  · rintro rfl
    exact rorK_back k b hk hb
  · rintro rfl
    have := rorK_back (32 - k) x (by omega) h
    rwa [show 32 - (32 - k) = k by omega] at this
/-- The word of twelve bits. -/
def expW (i : Nat) : Nat := rorK (2 * (i / 256 % 16)) (i % 256)
theorem expW_lt (i : Nat) : expW i < 4294967296 := rorK_lt _ _ (by omega) (by omega)
/-- x turned left by 2 r. -/
def rolR (r x : Nat) : Nat := rorK (32 - 2 * r) x
theorem expW_iff (r b x : Nat) (hr : r < 16) (hb : b < 256) (h : x < 4294967296) : expW (r * 256 + b) = x ↔ rolR r x = b := by
  unfold expW rolR
  rw [show (r * 256 + b) / 256 % 16 = r by omega, show (r * 256 + b) % 256 = b by omega]
  exact rorK_iff _ _ _ (by omega) h (by omega)
/-- The least r from r on (f of them tried) by which x is below 256. -/
def packF (x : Nat) : Nat → Nat → Option Nat
  | 0, _ => none
  | f + 1, r => if rolR r x < 256 then some (r * 256 + rolR r x) else packF x f (r + 1)
def packX (x : Nat) : Option Nat := packF x 16 0
theorem packF_none (x f r : Nat) (hf : f + r ≤ 16) (h : packF x f r = none) : ∀ s, r ≤ s → s < r + f → 256 ≤ rolR s x := by
  induction f generalizing r with
  | zero => intro s h1 h2; omega
  | succ f ih =>
    unfold packF at h
    split at h
    · exact absurd h (by simp)
    · intro s h1 h2
      by_cases hs : s = r
      · subst hs; omega
      · exact ih (r + 1) (by omega) h s (by omega) (by omega)
theorem packF_some (x f r p : Nat) (hf : f + r ≤ 16) (h : packF x f r = some p) : ∃ s, r ≤ s ∧ s < r + f ∧ rolR s x < 256 ∧ p = s * 256 + rolR s x ∧ ∀ t, r ≤ t → t < s → 256 ≤ rolR t x := by
  induction f generalizing r with
  | zero => exact absurd h (by simp [packF])
  | succ f ih =>
    unfold packF at h
    split at h
    next hlt =>
      injection h with h
      exact ⟨r, by omega, by omega, hlt, h.symm, fun t h1 h2 => by omega⟩
    next hge =>
      obtain ⟨s, h1, h2, h3, h4, h5⟩ := ih (r + 1) (by omega) h
      refine ⟨s, by omega, by omega, h3, h4, ?_⟩
      intro t ht1 ht2
      by_cases hs : t = r
      · subst hs; omega
      · exact h5 t (by omega) ht2
theorem packX_none (x : Nat) (hx : x < 4294967296) (h : packX x = none) (i : Nat) (hi : i < 4096) : expW i ≠ x := by
  intro e
  have hr := packF_none x 16 0 (by decide) h (i / 256) (by omega) (by omega)
  have hi2 : i = i / 256 * 256 + i % 256 := by omega
  rw [hi2, expW_iff _ _ _ (by omega) (by omega) hx] at e
  omega
theorem packX_some (x p : Nat) (hx : x < 4294967296) (h : packX x = some p) : p < 4096 ∧ expW p = x ∧ ∀ i, i < p → expW i ≠ x := by
  obtain ⟨s, h1, h2, h3, h4, h5⟩ := packF_some x 16 0 p (by decide) h
  refine ⟨by omega, ?_, ?_⟩
  · rw [h4, expW_iff _ _ _ (by omega) h3 hx]
  · intro i hi e
    have hi2 : i = i / 256 * 256 + i % 256 := by omega
    rw [hi2, expW_iff _ _ _ (by omega) (by omega) hx] at e
    by_cases hs : i / 256 = s
    · rw [hs] at e; omega
    · have := h5 (i / 256) (by omega) (by omega)
      omega
/-- A product by columns. -/
theorem col_succ (a b i : Nat) : a * (b % 2 ^ (i + 1)) = a * (b % 2 ^ i) + (if b / 2 ^ i % 2 = 1 then a * 2 ^ i else 0) := by
  rw [Nat.mod_pow_succ, Nat.mul_add]
  congr 1
  split
  · rename_i h; rw [h, Nat.mul_one]
  · rename_i h
    have : b / 2 ^ i % 2 = 0 := by omega
    rw [this, Nat.mul_zero, Nat.mul_zero]
theorem col_end (a b : Nat) (hb : b < 4294967296) : a * (b % 2 ^ 32) = a * b := by rw [Nat.mod_eq_of_lt (by simpa using hb)]
/-- A word as a number with sign. -/
def sgn (x : Int) : Int := if x < 2147483648 then x else x - 4294967296
/-- The flags of a sum. -/
theorem sum_v (x y c : Int) (hx : 0 ≤ x ∧ x < 4294967296) (hy : 0 ≤ y ∧ y < 4294967296) (hc : c = 0 ∨ c = 1) :
    (sgn x + sgn y + c ≠ sgn ((x + y + c) % 4294967296)) ↔ ((2147483648 ≤ x ↔ 2147483648 ≤ y) ∧ ¬ (2147483648 ≤ x ↔ 2147483648 ≤ (x + y + c) % 4294967296)) := by
  unfold sgn
  repeat' split
  all_goals omega
/-- The signed product, by 64 bits. -/
theorem smul_mod (a b : Int) (ha : 0 ≤ a ∧ a < 4294967296) (hb : 0 ≤ b ∧ b < 4294967296) :
    (sgn a * sgn b) % 18446744073709551616 = (a * b - (if 2147483648 ≤ a then b * 4294967296 else 0) - (if 2147483648 ≤ b then a * 4294967296 else 0)) % 18446744073709551616 := by
  unfold sgn
  by_cases h1 : 2147483648 ≤ a <;> by_cases h2 : 2147483648 ≤ b
  · rw [if_neg (by omega), if_neg (by omega), if_pos h1, if_pos h2]
    have : (a - 4294967296) * (b - 4294967296) = a * b - b * 4294967296 - a * 4294967296 + 18446744073709551616 := by
      rw [Int.sub_mul, Int.mul_sub, Int.mul_sub]; omega
    rw [this]; omega
  · rw [if_neg (by omega), if_pos (by omega), if_pos h1, if_neg h2]
    have : (a - 4294967296) * b = a * b - b * 4294967296 := by rw [Int.sub_mul]; omega
    rw [this]; omega
  · rw [if_pos (by omega), if_neg (by omega), if_neg h1, if_pos h2]
    have : a * (b - 4294967296) = a * b - a * 4294967296 := by rw [Int.mul_sub]
    rw [this]; omega
  · rw [if_pos (by omega), if_pos (by omega), if_neg h1, if_neg h2]; omega
end Go.Proofs.YtilhceajhlaojaaGreatDoor.Al
namespace Go.Proofs.YtilhceajhlaojaaGreatDoor.Al
open Go.RowKit
set_option linter.unusedVariables false
set_option linter.unusedSimpArgs false
/-- A bit of a word. -/
def bt (x : Int) (i : Nat) : Bool := x / 2 ^ i % 2 == 1
theorem and_top (x : Nat) (h : x < 4294967296) : x &&& 2147483648 = x / 2147483648 * 2147483648 := by
  apply Nat.eq_of_testBit_eq
  intro j
  have h2 : (2147483648 : Nat).testBit j = decide (31 = j) := by
    have := Nat.testBit_two_pow (n := 31) (m := j)
    simpa using this
  have h3 : (x / 2147483648 * 2147483648).testBit j = (decide (31 ≤ j) && x.testBit j) := by
    have := Nat.testBit_mul_two_pow (x / 2147483648) j 31
    rw [show (2 : Nat) ^ 31 = 2147483648 by decide] at this
    rw [this]
    by_cases hj : 31 ≤ j
    · have e := Nat.testBit_div_two_pow (n := 31) x (j - 31)
      rw [show (2 : Nat) ^ 31 = 2147483648 by decide] at e
      rw [e, show j - 31 + 31 = j by omega]
    · simp [hj]
  rw [Nat.testBit_and, h2, h3]
  by_cases hj : 31 = j
  · subst hj; simp
  · by_cases hk : 31 ≤ j
    · have : x.testBit j = false := Nat.testBit_lt_two_pow (Nat.lt_of_lt_of_le h (by simpa using Nat.pow_le_pow_right (n := 2) (by decide) (show 32 ≤ j by omega)))
      simp [this]
    · simp [hj, hk]
theorem or_high (i a b : Nat) (h : b < 2 ^ i) : b ||| 2 ^ i * a = b + 2 ^ i * a := by
  rw [Nat.or_comm, ← Nat.two_pow_add_eq_or_of_lt h, Nat.add_comm]
theorem or_low (i : Nat) (x y a : Int) (hx : x = 2 ^ i * a) (ha : 0 ≤ a) (h1 : x < 4294967296) (y0 : 0 ≤ y) (y1 : y < 2 ^ i) (hi : i ≤ 32) : bits .or .u32 x y = x + y := by
  obtain ⟨A, rfl⟩ := Int.eq_ofNat_of_zero_le ha
  obtain ⟨Y, rfl⟩ := Int.eq_ofNat_of_zero_le y0
  rw [← pow_nat] at hx y1
  have hp : 2 ^ i ≤ 4294967296 := by simpa using Nat.pow_le_pow_right (n := 2) (by decide) hi
  have hX : x = ((2 ^ i * A : Nat) : Int) := by rw [hx]; simp
  rw [hX] at h1 ⊢
  rw [u32_or_nat (2 ^ i * A) Y (by omega) (by omega), ← Nat.two_pow_add_eq_or_of_lt (by omega)]
  simp
theorem asr_one (x : Nat) (h : x < 4294967296) : bits .or .u32 ((x : Int) / 2) (bits .and .u32 (x : Int) 2147483648) = ((x / 2 + x / 2147483648 * 2147483648 : Nat) : Int) := by
  rw [show (2147483648 : Int) = ((2147483648 : Nat) : Int) by rfl, u32_and_nat x 2147483648 h (by decide), and_top x h, show ((x : Int) / 2) = ((x / 2 : Nat) : Int) by simp, u32_or_nat _ _ (by omega) (by omega)]
  have := or_high 31 (x / 2147483648) (x / 2) (by simp; omega)
  rw [show (2 : Nat) ^ 31 = 2147483648 by decide, Nat.mul_comm] at this
  rw [this]
theorem bt_nat (x i : Nat) : bt (x : Int) i = decide (x / 2 ^ i % 2 = 1) := by
  unfold bt
  rw [← pow_nat, show ((x : Int) / ((2 ^ i : Nat) : Int)) % 2 = ((x / 2 ^ i % 2 : Nat) : Int) by simp]
  by_cases h : x / 2 ^ i % 2 = 1
  · rw [h]; simp
  · rw [decide_eq_false h]
    have : ((x / 2 ^ i % 2 : Nat) : Int) ≠ 1 := by omega
    simpa using this
theorem i64_and255 (n : Int) : bits .and .i64 n 255 = n % 256 := by
  have h255 : (BitVec.ofInt 64 255).toNat = 2 ^ 8 - 1 := by decide
  have key : (BitVec.ofInt 64 n &&& BitVec.ofInt 64 255).toNat = (n % ((2 ^ 64 : Nat) : Int)).toNat % 2 ^ 8 := by
    rw [BitVec.toNat_and, BitVec.toNat_ofInt, h255, Nat.and_two_pow_sub_one_eq_mod]
  show IntKind.i64.wrap ((BitVec.ofInt 64 n &&& BitVec.ofInt 64 255).toNat : Nat) = n % 256
  rw [key, IntKind.wrap_i64]
  omega
/-- What a shift answers. -/
def shX (k : Int) (x : Nat) (n : Int) (c : Bool) : Nat × Bool :=
  if k < 0 ∨ 4 < k then (x, c) else (shW k.toNat x (n % 256).toNat c, shC k.toNat x (n % 256).toNat c)
/-- Does a condition hold? -/
def paF (c : Int) (n z cc v : Bool) : Bool :=
  if c = 0 then z else if c = 1 then !z else if c = 2 then cc else if c = 3 then !cc else if c = 4 then n else if c = 5 then !n else if c = 6 then v else if c = 7 then !v else
  if c = 8 then cc && !z else if c = 9 then !cc || z else if c = 10 then n == v else if c = 11 then !(n == v) else if c = 12 then !z && n == v else if c = 13 then z || !(n == v) else decide (c = 14)
/-- How a shift by a constant is meant. -/
def deF (k n : Int) : Int × Int := if k < 0 ∨ 3 < k ∨ n < 0 ∨ 31 < n then (0, 0) else if 0 < n ∨ k = 0 then (k, n) else if k = 3 then (4, 1) else (k, 32)
/-- A bit of a word, as a number. -/
def fb (x i : Nat) : Bool := decide (x / 2 ^ i % 2 = 1)
/-- A word as a number with sign. -/
def sgN (x : Nat) : Int := if x < 2147483648 then x else (x : Int) - 4294967296
theorem sgn_nat (x : Nat) : sgn (x : Int) = sgN x := by unfold sgn sgN; split <;> split <;> omega
theorem sgn_range (x : Int) (h0 : 0 ≤ x) (h : x < 4294967296) : -2147483648 ≤ sgn x ∧ sgn x < 2147483648 := by
  unfold sgn; split <;> omega
/-- A carry as a number; a sum's word and flags. -/
def cI (c : Bool) : Int := if c then 1 else 0
def suW (x y : Int) (c : Bool) : Int := (x + y + cI c) % 4294967296
def suF (x y : Int) (c : Bool) : Fl := ⟨decide (2147483648 ≤ suW x y c), suW x y c == 0, decide (4294967296 ≤ x + y + cI c), sgn x + sgn y + cI c != sgn (suW x y c)⟩
theorem suW_range (x y : Int) (c : Bool) : 0 ≤ suW x y c ∧ suW x y c < 4294967296 := by unfold suW; omega
/-- A word turned over. -/
def nt (b : Int) : Int := 4294967295 - b
theorem nt_range (b : Int) (b0 : 0 ≤ b) (b1 : b < 4294967296) : 0 ≤ nt b ∧ nt b < 4294967296 := by unfold nt; omega
theorem xor_all (b : Nat) (h : b < 4294967296) : 4294967295 ^^^ b = 4294967295 - b := by
  apply Nat.eq_of_testBit_eq
  intro i
  have e1 : (4294967295 : Nat).testBit i = decide (i < 32) := by
    have := Nat.testBit_two_pow_sub_one 32 i
    simpa using this
  have e2 : (4294967295 - b).testBit i = (decide (i < 32) && !b.testBit i) := by
    have := Nat.testBit_two_pow_sub_succ (x := b) (n := 32) (by simpa using h) i
    rw [show 2 ^ 32 - (b + 1) = 4294967295 - b by omega] at this
    exact this
  rw [Nat.testBit_xor, e1, e2]
  by_cases hi : i < 32
  · simp [hi]
  · have : b.testBit i = false := Nat.testBit_lt_two_pow (Nat.lt_of_lt_of_le h (by simpa using Nat.pow_le_pow_right (n := 2) (by decide) (show 32 ≤ i by omega)))
    simp [hi, this]
theorem xor_nt (b : Int) (b0 : 0 ≤ b) (b1 : b < 4294967296) : bits .xor .u32 IntKind.u32.max b = nt b := by
  rw [show IntKind.u32.max = 4294967295 by decide, u32_xor 4294967295 b (by decide) (by decide) b0 b1, show (4294967295 : Int).toNat = 4294967295 by decide, xor_all _ (by omega)]
  unfold nt
  omega
theorem u32_range (o : BinOp) (a b : Int) (h : bits o .u32 a b = IntKind.u32.wrap (bits o .u32 a b)) : 0 ≤ bits o .u32 a b ∧ bits o .u32 a b < 4294967296 := by
  rw [h, IntKind.wrap_u32']; omega
/-- The operations without a sum: the word. -/
def lgW (op a b : Int) : Int :=
  if op = 1 ∨ op = 9 then bits .and .u32 a b else if op = 2 ∨ op = 10 then bits .xor .u32 a b else if op = 13 then bits .or .u32 a b else if op = 14 then b else if op = 15 then bits .andNot .u32 a b else nt b
/-- What an operation answers: the word, the flags. -/
def doA (op a : Int) : Int := if op = 4 ∨ op = 8 then nt a else a
def doB (op b : Int) : Int := if op = 3 ∨ op = 11 ∨ op = 7 then nt b else b
def doC (op : Int) (c : Bool) : Bool := if op = 3 ∨ op = 11 ∨ op = 4 then true else if op = 5 ∨ op = 12 then false else c
def isS (op : Int) : Prop := (3 ≤ op ∧ op ≤ 8) ∨ op = 11 ∨ op = 12
def doW (op a b : Int) (f : Fl) : Int := if (3 ≤ op ∧ op ≤ 8) ∨ op = 11 ∨ op = 12 then suW (doA op a) (doB op b) (doC op f.c) else lgW op a b
def doF (op a b : Int) (sh : Bool) (f : Fl) : Fl := if (3 ≤ op ∧ op ≤ 8) ∨ op = 11 ∨ op = 12 then suF (doA op a) (doB op b) (doC op f.c) else ⟨decide (2147483648 ≤ lgW op a b), lgW op a b == 0, sh, f.v⟩
def doR (op : Int) : Bool := decide (op < 9 ∨ 12 < op)
theorem and_range (a b : Int) (a0 : 0 ≤ a) (a1 : a < 4294967296) (b0 : 0 ≤ b) (b1 : b < 4294967296) : 0 ≤ bits .and .u32 a b ∧ bits .and .u32 a b < 4294967296 := by
  rw [u32_and a b a0 a1 b0 b1]
  have : a.toNat &&& b.toNat < 2 ^ 32 := Nat.and_lt_two_pow _ (by simp; omega)
  omega
theorem or_range (a b : Int) (a0 : 0 ≤ a) (a1 : a < 4294967296) (b0 : 0 ≤ b) (b1 : b < 4294967296) : 0 ≤ bits .or .u32 a b ∧ bits .or .u32 a b < 4294967296 := by
  rw [u32_or a b a0 a1 b0 b1]
  have : a.toNat ||| b.toNat < 2 ^ 32 := Nat.or_lt_two_pow (by simp; omega) (by simp; omega)
  omega
theorem xor_range (a b : Int) (a0 : 0 ≤ a) (a1 : a < 4294967296) (b0 : 0 ≤ b) (b1 : b < 4294967296) : 0 ≤ bits .xor .u32 a b ∧ bits .xor .u32 a b < 4294967296 := by
  rw [u32_xor a b a0 a1 b0 b1]
  have : a.toNat ^^^ b.toNat < 2 ^ 32 := Nat.xor_lt_two_pow (by simp; omega) (by simp; omega)
  omega
theorem andNot_range (a b : Int) (a0 : 0 ≤ a) (a1 : a < 4294967296) (b0 : 0 ≤ b) (b1 : b < 4294967296) : 0 ≤ bits .andNot .u32 a b ∧ bits .andNot .u32 a b < 4294967296 := by
  rw [u32_andNot a b a0 a1 b0 b1]
  have : a.toNat &&& (4294967295 - b.toNat) < 2 ^ 32 := Nat.and_lt_two_pow _ (by simp; omega)
  omega
/-- What Do answers, for every number. -/
def dxW (op a b : Int) (f : Fl) : Int := if op < 1 ∨ 16 < op then 0 else doW op a b f
def dxR (op : Int) : Bool := if op < 1 ∨ 16 < op then false else doR op
def dxF (op a b : Int) (sh : Bool) (f : Fl) : Fl := if op < 1 ∨ 16 < op then f else doF op a b sh f
theorem col_bound (a b i : Nat) (ha : a < 4294967296) (hi : i ≤ 32) : a * (b % 2 ^ i) < 18446744073709551616 := by
  have h1 : b % 2 ^ i < 2 ^ i := Nat.mod_lt _ (Nat.two_pow_pos i)
  have h2 : 2 ^ i ≤ 4294967296 := by simpa using Nat.pow_le_pow_right (n := 2) (by decide) hi
  have h3 : a * (b % 2 ^ i) ≤ 4294967295 * 4294967295 := Nat.mul_le_mul (by omega) (by omega)
  omega
theorem col_wrap (a b j : Nat) (ha : a < 4294967296) (hj : j < 32) (hbit : b / 2 ^ j % 2 = 1) : IntKind.u64.wrap ((a : Int) * ((b : Int) % 2 ^ j) + IntKind.u64.wrap ((a : Int) * 2 ^ j)) = ((a * (b % 2 ^ (j + 1)) : Nat) : Int) := by
  have e1 : (a : Int) * ((b : Int) % 2 ^ j) = ((a * (b % 2 ^ j) : Nat) : Int) := by rw [← pow_nat]; simp
  have e2 : (a : Int) * 2 ^ j = ((a * 2 ^ j : Nat) : Int) := by rw [← pow_nat]; simp
  have h2 : 2 ^ j ≤ 4294967296 := by simpa using Nat.pow_le_pow_right (n := 2) (by decide) (show j ≤ 32 by omega)
  have h3 : a * 2 ^ j ≤ 4294967295 * 4294967296 := Nat.mul_le_mul (by omega) h2
  have h4 := col_bound a b (j + 1) ha (by omega)
  rw [col_succ, if_pos hbit] at h4 ⊢
  rw [e1, e2, IntKind.wrap_u64, IntKind.wrap_u64]
  generalize a * 2 ^ j = P at *
  generalize a * (b % 2 ^ j) = Q at *
  omega
/-- The product with sign, by 64 bits; what a product answers. -/
def spP (m s : Int) : Int := (m * s - (if 2147483648 ≤ m then s * 4294967296 else 0) - (if 2147483648 ≤ s then m * 4294967296 else 0)) % 18446744073709551616
def acP (h l : Int) : Int := h * 4294967296 + l
/-- What a product answers: the number of 64 bits; high; low. -/
def loQ (op m s h l : Int) : Int :=
  if op = 22 then (m * s + acP h l) % 18446744073709551616 else if op = 23 then spP m s else if op = 24 then (spP m s + acP h l) % 18446744073709551616 else m * s
def loH (op m s h l : Int) : Int := if 21 ≤ op ∧ op ≤ 24 then loQ op m s h l / 4294967296 else 0
def loL (op m s h l : Int) : Int := if op = 19 then m * s % 4294967296 else if op = 20 then (m * s + l) % 4294967296 else if 21 ≤ op ∧ op ≤ 24 then loQ op m s h l % 4294967296 else 0
def loO (op : Int) : Bool := decide (19 ≤ op ∧ op ≤ 24)
theorem iterS3_c (j x : Nat) (c : Bool) : oneW 3 (iterS 3 j x c).1 false = (iterS 3 (j + 1) x c).1 ∧ oneC 3 (iterS 3 j x c).1 = (iterS 3 (j + 1) x c).2 := ⟨rfl, rfl⟩
/-- The carry of twelve bits. -/
def expC (i : Nat) (c : Bool) : Bool := if i / 256 % 16 = 0 then c else decide (2147483648 ≤ expW i)
theorem exp_iter (i : Nat) (c : Bool) : iterS 3 (2 * (i / 256 % 16)) (i % 256) c = (expW i, expC i c) := by
  refine Prod.ext ?_ ?_
  · rw [ror_iter _ _ _ (by omega), Nat.mod_eq_of_lt (by omega)]; rfl
  · unfold expC
    by_cases h : i / 256 % 16 = 0
    · rw [if_pos h, h]; rfl
    · rw [if_neg h, ror_carry _ _ _ (by omega) (by omega), Nat.mod_eq_of_lt (by omega)]; rfl
/-- The twelve bits of a word, or none. -/
def pkW (x : Nat) : Nat := (packX x).getD 0
def pkO (x : Nat) : Bool := (packX x).isSome
theorem pk_first (x j : Nat) (hx : x < 4294967296) (hj : j < 4096) (hn : ∀ i, i < j → expW i ≠ x) (he : expW j = x) : pkW x = j ∧ pkO x = true := by
  cases h : packX x with
  | none => exact absurd he (packX_none x hx h j hj)
  | some p =>
    obtain ⟨h1, h2, h3⟩ := packX_some x p hx h
    have : p = j := by
      rcases Nat.lt_trichotomy p j with hl | hl | hl
      · exact absurd h2 (hn p hl)
      · exact hl
      · exact absurd he (h3 j hl)
    simp [pkW, pkO, h, this]
theorem pk_none (x : Nat) (hx : x < 4294967296) (hn : ∀ i, i < 4096 → expW i ≠ x) : pkW x = 0 ∧ pkO x = false := by
  cases h : packX x with
  | none => simp [pkW, pkO, h]
  | some p =>
    obtain ⟨h1, h2, h3⟩ := packX_some x p hx h
    exact absurd h2 (hn p h1)
def bI (b : Bool) (k : Int) : Int := if b then k else 0
/-- The flags as bits, the first few of them. -/
def wdP (f : Fl) (j : Nat) : Int := (if 0 < j then bI f.v 268435456 else 0) + (if 1 < j then bI f.c 536870912 else 0) + (if 2 < j then bI f.z 1073741824 else 0) + (if 3 < j then bI f.n 2147483648 else 0)
def wdW (f : Fl) : Int := bI f.v 268435456 + bI f.c 536870912 + bI f.z 1073741824 + bI f.n 2147483648
theorem or_bit (i : Nat) (x m : Int) (hm : m = 2 ^ i) (h0 : 0 ≤ x) (h1 : x < m) (hi : i < 32) : bits .or .u32 x m = x + m := by
  obtain ⟨X, rfl⟩ := Int.eq_ofNat_of_zero_le h0
  have hp : 2 ^ i ≤ 2147483648 := by simpa using Nat.pow_le_pow_right (n := 2) (by decide) (show i ≤ 31 by omega)
  rw [← pow_nat] at hm
  subst hm
  rw [u32_or_nat X (2 ^ i) (by omega) (by omega)]
  have := or_high i 1 X (by omega)
  rw [Nat.mul_one] at this
  rw [this]
  omega
theorem bI_range (b : Bool) (k : Int) (h : 0 ≤ k) : 0 ≤ bI b k ∧ bI b k ≤ k := by cases b <;> simp [bI] <;> omega
theorem i64_and3 (n : Int) : bits .and .i64 n 3 = n % 4 := by
  have h3 : (BitVec.ofInt 64 3).toNat = 2 ^ 2 - 1 := by decide
  have key : (BitVec.ofInt 64 n &&& BitVec.ofInt 64 3).toNat = (n % ((2 ^ 64 : Nat) : Int)).toNat % 2 ^ 2 := by
    rw [BitVec.toNat_and, BitVec.toNat_ofInt, h3, Nat.and_two_pow_sub_one_eq_mod]
  show IntKind.i64.wrap ((BitVec.ofInt 64 n &&& BitVec.ofInt 64 3).toNat : Nat) = n % 4
  rw [key, IntKind.wrap_i64]
  omega
/-- x turned right by bytes. -/
def trN (x : Nat) (turn : Int) : Nat := rorK (8 * (turn % 4).toNat) x
theorem shX_tr (x : Nat) (turn : Int) (c : Bool) : (shX 3 x (8 * (turn % 4)) c).1 = trN x turn := by
  unfold shX trN
  rw [if_neg (by omega)]
  unfold shW
  rw [if_neg (by decide), if_neg (by decide)]
  generalize hr : turn % 4 = r
  have h1 : (8 * r % 256).toNat = 8 * r.toNat := by omega
  rw [h1]
  by_cases h0 : r = 0
  · subst h0; simp [rorK_0]
  · rw [if_neg (by omega), if_neg (by decide), if_neg (by decide), if_neg (by decide), Nat.mod_eq_of_lt (by omega)]
theorem trN_lt (x : Nat) (turn : Int) (h : x < 4294967296) : trN x turn < 4294967296 := rorK_lt _ _ (by omega) h
/-- How many of the highest bits are 0. -/
def lzN (x : Nat) : Nat := if x = 0 then 32 else 31 - Nat.log2 x
theorem lz_le (x : Nat) : lzN x ≤ 32 := by unfold lzN; split <;> omega
theorem lz_bit (x j : Nat) (hx : x < 4294967296) (hj : j < lzN x) : x / 2 ^ (31 - j) % 2 = 0 := by
  unfold lzN at hj
  split at hj
  · rename_i h; subst h; simp
  · rename_i h
    rw [Nat.div_eq_of_lt]
    have : Nat.log2 x < 31 - j := by omega
    exact (Nat.log2_lt h).1 this
theorem lz_end (x : Nat) (hx : x < 4294967296) (h32 : lzN x < 32) : x / 2 ^ (31 - lzN x) % 2 = 1 := by
  unfold lzN at h32 ⊢
  split at h32
  · omega
  · rename_i h
    rw [if_neg h]
    have hl : Nat.log2 x < 32 := (Nat.log2_lt h).2 (by simpa using hx)
    rw [show 31 - (31 - Nat.log2 x) = Nat.log2 x by omega]
    have h1 : 2 ^ Nat.log2 x ≤ x := Nat.log2_self_le h
    have h2 : x < 2 ^ (Nat.log2 x + 1) := (Nat.log2_lt h).1 (by omega)
    have h3 : x / 2 ^ Nat.log2 x = 1 := by
      rw [Nat.pow_succ] at h2
      exact Nat.div_eq_of_lt_le (by omega) (by omega)
    rw [h3]
/-- What the small ones answer. -/
def smW (op : Int) (x : Nat) (turn : Int) : Int :=
  if op = 25 then (lzN x : Nat) else if op = 26 then (x : Int) % 256 * 16777216 + (x : Int) / 256 % 256 * 65536 + (x : Int) / 65536 % 256 * 256 + (x : Int) / 16777216 else
  if op = 27 then (trN x turn : Int) % 256 else if op = 28 then (trN x turn : Int) % 65536 else
  if op = 29 then (if (trN x turn : Int) % 256 < 128 then (trN x turn : Int) % 256 else (trN x turn : Int) % 256 + 4294967040) else
  if op = 30 then (if (trN x turn : Int) % 65536 < 32768 then (trN x turn : Int) % 65536 else (trN x turn : Int) % 65536 + 4294901760) else 0
def smO (op : Int) : Bool := decide (25 ≤ op ∧ op ≤ 30)
end Go.Proofs.YtilhceajhlaojaaGreatDoor.Al
