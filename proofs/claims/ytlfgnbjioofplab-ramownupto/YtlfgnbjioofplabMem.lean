import Derived.Test.YtlfgnbjioofplabRx
import Derived.Test.YtlfgnbjioofplabPl
import Derived.Test.YtlfgnbjioofplabRows
import Derived.Maps.RangeWalk
namespace Go.Proofs.Ytlfgnbjioofplab
open Go.RowKit
set_option linter.unusedVariables false

/-- What has turned lies in S, or is new. -/
structure Turn (S : Nat → Prop) (w w' : World) : Prop where
  os : w'.os = w.os
  tape : w'.tape = w.tape
  output : w'.output = w.output
  size : w.heap.size ≤ w'.heap.size
  block : ∀ k, k < w.heap.size → ¬ S k → w'.heap[k]? = w.heap[k]?

theorem Turn.refl (S : Nat → Prop) (w : World) : Turn S w w := ⟨rfl, rfl, rfl, Nat.le_refl _, fun _ _ _ => rfl⟩
theorem Turn.trans {S S' : Nat → Prop} {a b c : World} (h : Turn S a b) (k : Turn S' b c) (hS : ∀ x, S' x → S x ∨ a.heap.size ≤ x) : Turn S a c :=
  ⟨k.os.trans h.os, k.tape.trans h.tape, k.output.trans h.output, Nat.le_trans h.size k.size, fun i hi hn =>
    (k.block i (Nat.lt_of_lt_of_le hi h.size) (fun hs => by rcases hS i hs with h1 | h1; exact hn h1; omega)).trans (h.block i hi hn)⟩
theorem Turn.mono {S S' : Nat → Prop} {a b : World} (h : Turn S a b) (hS : ∀ x, x < a.heap.size → S x → S' x) : Turn S' a b :=
  ⟨h.os, h.tape, h.output, h.size, fun i hi hn => h.block i hi (fun hs => hn (hS i hi hs))⟩
theorem Turn.grown {S : Nat → Prop} {a b : World} {row : Option Nat} (h : a.grownBy b row) (hS : ∀ k, row = some k → S k ∨ a.heap.size ≤ k) : Turn S a b :=
  ⟨h.os, h.tape, h.output, h.size, fun i hi hn => h.block i hi (fun e => by rcases hS i e.symm with h1 | h1; exact hn h1; omega)⟩
theorem Turn.below {S : Nat → Prop} {a b : World} (h : Below a.heap.size a b) : Turn S a b := ⟨h.os, h.tape, h.output, h.size, fun i hi _ => h.block i hi⟩
theorem Turn.to {S : Nat → Prop} {a b : World} {B : Nat} (h : Turn S a b) (hS : ∀ x, S x → B ≤ x) (hB : B ≤ a.heap.size) : Below B a b :=
  ⟨h.os, h.tape, h.output, h.size, fun i hi => h.block i (by omega) (fun hs => by have := hS i hs; omega)⟩
theorem Turn.alloc {S : Nat → Prop} {a b : World} (h : Turn S a b) (o : Obj) : Turn S a (b.alloc o) :=
  h.trans (S' := fun _ => False) ⟨rfl, rfl, rfl, by simp, fun i hi _ => Below.heap_alloc _ _ _ hi⟩ (fun _ h => h.elim)
theorem Turn.setCell {S : Nat → Prop} {a b : World} (h : Turn S a b) {p : Addr} (hp : S p.block ∨ a.heap.size ≤ p.block) (u : Value) : Turn S a (b.setCell p u) :=
  h.trans (S' := fun x => x = p.block) ⟨rfl, rfl, rfl, by simp [World.setCell], fun i hi hn => Below.heap_setCell _ _ _ _ hn⟩ (fun x hx => by subst hx; exact hp)
theorem Turn.drewN {S : Nat → Prop} {a b : World} (h : Turn S a b) (n : Nat) : Turn S a (b.drewN n) := ⟨h.os, h.tape, h.output, h.size, h.block⟩
theorem Turn.cell {S : Nat → Prop} {a b : World} (h : Turn S a b) {k : Nat} (hk : k < a.heap.size) (hn : ¬ S k) (o : Nat) : b.cell? ⟨k, o, none⟩ = a.cell? ⟨k, o, none⟩ := World.cell?_of_block (w := a) (h.block k hk hn)
theorem Turn.frozen {S : Nat → Prop} {a b : World} (h : Turn S a b) {k : Nat} (hk : k < a.heap.size) (hn : ¬ S k) (o : Nat) : b.frozen? ⟨k, o, none⟩ = a.frozen? ⟨k, o, none⟩ := World.frozen?_of_block (w := a) (h.block k hk hn)
theorem RowAt.turn {S : Nat → Prop} {W W' : World} {g : Nat} {e : TypeId} {cur : List Value} (h : RowAt W g e cur) (T : Turn S W W') (hn : ¬ S g) : RowAt W' g e cur := by
  show W'.heap[g]? = _
  rw [T.block g h.lt hn]; exact h

/-! ### the program's memory -/
/-- How a pointer to a frame is read: the number of its block. -/
def Rf (v : Value) : Option (DataW Unit × List MemPlace) :=
  match v with
  | .pointer (some a) => if a.off = 0 ∧ a.spot = none then some (.lit (.int .i64 a.block), []) else none
  | .pointer none => some (.nil, [])
  | _ => none
theorem Rf_some (b : Nat) : Rf (.pointer (some ⟨b, 0, none⟩)) = some (.lit (.int .i64 b), []) := rfl
theorem Rf_none : Rf (.pointer none) = some (.nil, []) := rfl
theorem Rf_inv {v : Value} {b : Nat} {ps : List MemPlace} (h : Rf v = some (.lit (.int .i64 b), ps)) : v = .pointer (some ⟨b, 0, none⟩) := by
  unfold Rf at h
  split at h
  · rename_i a
    split at h
    · rename_i hc
      obtain ⟨block, off, spot⟩ := a
      simp at h hc
      obtain ⟨rfl, rfl⟩ := hc
      rw [show block = b by omega]
    · cases h
  · cases h
  · cases h
theorem Rf_inv_nil {v : Value} {ps : List MemPlace} (h : Rf v = some (.nil, ps)) : v = .pointer none := by
  unfold Rf at h
  split at h
  · split at h <;> cases h
  · rfl
  · cases h

def lk (k : Nat) : Lit := .int .i64 (k : Int)
theorem lk_inj {a b : Nat} (h : lk a = lk b) : a = b := by unfold lk at h; injection h; omega
theorem lk_ne {a b : Nat} (h : a ≠ b) : lk a ≠ lk b := fun e => h (lk_inj e)

def View (N : Nat) (D : DataW Unit) (g : Nat → Option Nat) : Prop :=
  (∀ k, Maps.has D (lk k) = (g k).isSome) ∧ (∀ k fb, g k = some fb → k < N ∧ ∀ zd, D.atKey (lk k) zd = .lit (.int .i64 fb)) ∧ (∀ kl, Maps.has D kl = true → ∃ k, k < N ∧ kl = lk k)
def setG (g : Nat → Option Nat) (n : Nat) (o : Option Nat) : Nat → Option Nat := fun k => if k = n then o else g k

theorem View.empty (N : Nat) : View N (.map []) (fun _ => none) := by
  refine ⟨fun _ => rfl, ?_, ?_⟩
  · intro k fb h
    cases h
  · intro kl h
    cases h
theorem lk_key (n : Nat) : WideAt.IsKeyLit (lk n) := by unfold lk; trivial
theorem View.del {N : Nat} {D : DataW Unit} {g : Nat → Option Nat} (h : View N D g) (n : Nat) : View N (D.del (lk n)) (setG g n none) := by
  obtain ⟨h1, h2, h3⟩ := h
  refine ⟨fun k => ?_, fun k fb hk => ?_, fun kl hk => ?_⟩
  · unfold setG
    by_cases e : k = n
    · subst e; rw [if_pos rfl]; exact Maps.has_del_same
    · rw [if_neg e, Maps.has_del_other (lk_ne e)]; exact h1 k
  · unfold setG at hk
    by_cases e : k = n
    · subst e; rw [if_pos rfl] at hk; cases hk
    · rw [if_neg e] at hk
      exact ⟨(h2 k fb hk).1, fun zd => by rw [Maps.atKey_del_other (lk_ne e)]; exact (h2 k fb hk).2 zd⟩
  · by_cases e : kl = lk n
    · subst e; rw [Maps.has_del_same] at hk; cases hk
    · rw [Maps.has_del_other e] at hk; exact h3 kl hk
theorem View.put {N : Nat} {D : DataW Unit} {g : Nat → Option Nat} (h : View N D g) (hD : Maps.IsMap D) (n fb : Nat) (hn : n < N) : View N (D.put (lk n) (.lit (.int .i64 fb))) (setG g n (some fb)) := by
  obtain ⟨h1, h2, h3⟩ := h
  refine ⟨fun k => ?_, fun k fb' hk => ?_, fun kl hk => ?_⟩
  · unfold setG
    by_cases e : k = n
    · subst e; rw [if_pos rfl]; exact Maps.has_put_same hD (lk_key _) _
    · rw [if_neg e, Maps.has_put_other (lk_ne e)]; exact h1 k
  · unfold setG at hk
    by_cases e : k = n
    · subst e; rw [if_pos rfl] at hk; cases hk
      exact ⟨hn, fun zd => Maps.atKey_put_same hD (lk_key _) _ _⟩
    · rw [if_neg e] at hk
      exact ⟨(h2 k fb' hk).1, fun zd => by rw [Maps.atKey_put_other (lk_ne e)]; exact (h2 k fb' hk).2 zd⟩
  · by_cases e : kl = lk n
    · exact ⟨n, hn, e⟩
    · rw [Maps.has_put_other e] at hk; exact h3 kl hk
theorem View.size {N : Nat} {D : DataW Unit} {g : Nat → Option Nat} (h : View N D g) (hD : Maps.Tidy D) (hK : ∃ es, D = .map es ∧ ∀ p ∈ es, ∃ x, p.1 = .int .i64 x) : Maps.size D ≤ N := by
  obtain ⟨es, rfl, hp⟩ := hD
  obtain ⟨es', he, hK⟩ := hK
  injection he with he
  subst he
  obtain ⟨_, _, h3⟩ := h
  have hk : ∀ p ∈ es, ∃ k, k < N ∧ p.1 = lk k := fun p hp' => h3 p.1 (by
    rw [Maps.has_eq, List.any_eq_true]
    refine ⟨p, hp', ?_⟩
    obtain ⟨x, hx⟩ := hK p hp'
    rw [hx]
    simp [Lit.sameKey])
  let f : Lit × DataW Unit → Nat := fun p => match p.1 with | .int _ a => a.toNat | _ => 0
  have hf : ∀ p ∈ es, f p < N ∧ p.1 = lk (f p) := fun p hp' => by
    obtain ⟨k, hkN, e⟩ := hk p hp'
    have : f p = k := by simp only [f, e, lk]; omega
    rw [this]; exact ⟨hkN, e⟩
  rw [Maps.size_eq, ← List.length_map (f := f)]
  refine nodup_below N _ ?_ ?_
  · refine List.pairwise_map.2 (hp.imp_of_mem fun {p q} hp' hq' hne e => hne ?_)
    rw [(hf p hp').2, (hf q hq').2, e]
  · intro x hx
    obtain ⟨p, hp', rfl⟩ := List.mem_map.1 hx
    exact (hf p hp').1
theorem own_keys {P : Program} {k : TypeId} {R : Value → Option (DataW Unit × List MemPlace)} {w : World} {b n : Nat} {D : DataW Unit} (h : w.ownsMap P k R b n D) (hk : P.underlying k = some (.int .i64)) : ∃ es, D = .map es ∧ ∀ p ∈ es, ∃ x, p.1 = .int .i64 x := by
  obtain ⟨es, clock, _, F, _, rfl⟩ := h
  exact ⟨_, rfl, fun p hp => by
    obtain ⟨v, hv⟩ := Maps.fit_keys F p (mem_sorted.1 hp)
    obtain ⟨x, _, hx, _⟩ := Maps.keyOf_int_inv hk hv
    exact ⟨x, hx⟩⟩
theorem ownsMap_tight {P : Program} {k : TypeId} {R : Value → Option (DataW Unit × List MemPlace)} {w : World} {b n : Nat} {D : DataW Unit} (h : w.ownsMap P k R b n D) {N : Nat} (hN : Maps.size D ≤ N) : w.ownsMap P k R b N D := by
  obtain ⟨es, clock, h1, h2, h3, rfl⟩ := h
  exact ⟨es, clock, h1, h2, by simpa [Maps.size, length_sorted] using hN, rfl⟩

def encF (l : List Int) : List Value := l.map (Value.int .u8) ++ [.int .i64 (cnt l)]
theorem encF_len (m : Nat → Int) (n : Nat) : (encF (fr m n)).length = 4097 := by rw [encF, List.length_append, List.length_map, fr_len]; rfl

structure PMx (W : World) (S : Nat → Prop) (p N : Nat) (m : Nat → Int) (mb : Nat) (D : DataW Unit) (g : Nat → Option Nat) : Prop where
  box : W.heap[p]? = some (.cells #[.int .i64 N, .map (some mb)] 71 (0, 0))
  own : W.ownsMap Try.prog 3 Rf mb N D
  view : View N D g
  frm : ∀ n fb, g n = some fb → RowAt W fb 74 (encF (fr m n)) ∧ cnt (fr m n) ≠ 0 ∧ S fb
  out : ∀ n, n < N → g n = none → cnt (fr m n) = 0
  inj : ∀ n k fb, g n = some fb → g k = some fb → n = k
  Sp : S p
  Sm : S mb
  byts : Byts m
  n1 : 1 ≤ N
  n2 : N ≤ 65536
  low : ∀ b, S b → b < W.heap.size
def PM (W : World) (S : Nat → Prop) (p N : Nat) (m : Nat → Int) : Prop := ∃ mb D g, PMx W S p N m mb D g

section
variable {W W' : World} {S S' : Nat → Prop} {p N mb : Nat} {m m' : Nat → Int} {D : DataW Unit} {g : Nat → Option Nat}
theorem PMx.lt (h : PMx W S p N m mb D g) : p < W.heap.size := h.low p h.Sp
theorem PMx.cell0 (h : PMx W S p N m mb D g) : W.cell? ⟨p, 0, none⟩ = some (.int .i64 N) := by simp [World.cell?, h.box]
theorem PMx.cell1 (h : PMx W S p N m mb D g) : W.cell? ⟨p, 1, none⟩ = some (.map (some mb)) := by simp [World.cell?, h.box]
theorem PMx.keep (h : PMx W S p N m mb D g) (T : Turn S' W W') (hd : ∀ b, S b → ¬ S' b) : PMx W' S p N m mb D g := by
  refine ⟨by rw [T.block p h.lt (hd p h.Sp)]; exact h.box, ?_, h.view, fun n fb hg => ?_, h.out, h.inj, h.Sp, h.Sm, h.byts, h.n1, h.n2, fun b hb => Nat.lt_of_lt_of_le (h.low b hb) T.size⟩
  · obtain ⟨es, clock, hb, r⟩ := h.own
    exact ⟨es, clock, by rw [T.block mb (h.low mb h.Sm) (hd mb h.Sm)]; exact hb, r⟩
  · obtain ⟨h1, h2, h3⟩ := h.frm n fb hg
    exact ⟨h1.turn T (hd fb h3), h2, h3⟩
theorem PMx.mono (h : PMx W S p N m mb D g) (hS : ∀ b, S b → S' b) (hl : ∀ b, S' b → b < W.heap.size) : PMx W S' p N m mb D g :=
  ⟨h.box, h.own, h.view, fun n fb hg => ⟨(h.frm n fb hg).1, (h.frm n fb hg).2.1, hS _ (h.frm n fb hg).2.2⟩, h.out, h.inj, hS _ h.Sp, hS _ h.Sm, h.byts, h.n1, h.n2, hl⟩
/-- One frame has turned. -/
theorem PMx.build (h : PMx W S p N m mb D g) {D' : DataW Unit} {g' : Nat → Option Nat} (n : Nat) (hn : n < N) (hm : ∀ k, k ≠ n → fr m' k = fr m k) (hb : Byts m') (hS : ∀ b, S b → S' b) (hl : ∀ b, S' b → b < W'.heap.size)
    (hp : W'.heap[p]? = W.heap[p]?) (own : W'.ownsMap Try.prog 3 Rf mb N D') (view : View N D' g') (hg : ∀ k, k ≠ n → g' k = g k) (hk : ∀ k fb, k ≠ n → g k = some fb → W'.heap[fb]? = W.heap[fb]?)
    (hf : ∀ fb, g' n = some fb → RowAt W' fb 74 (encF (fr m' n)) ∧ cnt (fr m' n) ≠ 0 ∧ S' fb ∧ ∀ k, k ≠ n → g k ≠ some fb) (ho : g' n = none → cnt (fr m' n) = 0) : PMx W' S' p N m' mb D' g' := by
  refine ⟨by rw [hp]; exact h.box, own, view, fun k fb hgk => ?_, fun k hkN hgk => ?_, fun a b fb ha hb' => ?_, hS _ h.Sp, hS _ h.Sm, hb, h.n1, h.n2, hl⟩
  · by_cases e : k = n
    · subst e
      obtain ⟨a, b, c, _⟩ := hf fb hgk
      exact ⟨a, b, c⟩
    · rw [hg k e] at hgk
      obtain ⟨a, b, c⟩ := h.frm k fb hgk
      rw [hm k e]
      exact ⟨by show W'.heap[fb]? = _; rw [hk k fb e hgk]; exact a, b, hS _ c⟩
  · by_cases e : k = n
    · subst e; exact ho hgk
    · rw [hg k e] at hgk; rw [hm k e]; exact h.out k hkN hgk
  · by_cases e1 : a = n
    · by_cases e2 : b = n
      · rw [e1, e2]
      · subst e1
        rw [hg b e2] at hb'
        exact absurd hb' ((hf fb ha).2.2.2 b e2)
    · by_cases e2 : b = n
      · subst e2
        rw [hg a e1] at ha
        exact absurd ha ((hf fb hb').2.2.2 a e1)
      · rw [hg a e1] at ha
        rw [hg b e2] at hb'
        exact h.inj a b fb ha hb'
theorem PMx.fne (h : PMx W S p N m mb D g) {n fb : Nat} (hg : g n = some fb) : fb ≠ p ∧ fb ≠ mb := by
  obtain ⟨h1, _, _⟩ := h.frm n fb hg
  constructor
  · intro e
    have hb := h.box
    rw [← e, show W.heap[fb]? = _ from h1] at hb
    injection hb with hb
    injection hb with _ hb _
    cases hb
  · intro e
    obtain ⟨es, clock, hb, _⟩ := h.own
    rw [← e, show W.heap[fb]? = _ from h1] at hb
    cases hb
theorem PMx.mne (h : PMx W S p N m mb D g) : mb ≠ p := by
  intro e
  obtain ⟨es, clock, hb, _⟩ := h.own
  have hb2 := h.box
  rw [← e, hb] at hb2
  cases hb2

/-! ### the reference's memory -/
end
def encR (x : Nat × Nat) : List Value := [.int .i64 (x.1 : Int), .slice (some ⟨x.2, 0, none⟩) 4096 4096]
structure RMx (W : World) (S : Nat → Prop) (r N : Nat) (m : Nat → Int) (v : Value) (fs : List (Nat × Nat)) : Prop where
  box : W.heap[r]? = some (.cells #[.int .i64 N, v] 80 (0, 0))
  own : W.ownsRow 0 83 2 v fs.length (fs.flatMap encR)
  vS : ∀ b, v.ownBlock = some b → S b
  frm : ∀ x ∈ fs, x.1 < N ∧ RowAt W x.2 5 ((fr m x.1).map (Value.int .u8)) ∧ S x.2
  nod1 : (fs.map (·.1)).Nodup
  nod2 : (fs.map (·.2)).Nodup
  out : ∀ n, n < N → (∀ x ∈ fs, x.1 ≠ n) → cnt (fr m n) = 0
  Sr : S r
  byts : Byts m
  n1 : 1 ≤ N
  n2 : N ≤ 65536
  low : ∀ b, S b → b < W.heap.size
def RM (W : World) (S : Nat → Prop) (r N : Nat) (m : Nat → Int) : Prop := ∃ v fs, RMx W S r N m v fs
section
variable {W W' : World} {S S' : Nat → Prop} {r N : Nat} {m m' : Nat → Int} {v : Value} {fs : List (Nat × Nat)}
theorem RMx.lt (h : RMx W S r N m v fs) : r < W.heap.size := h.low r h.Sr
theorem RMx.cell0 (h : RMx W S r N m v fs) : W.cell? ⟨r, 0, none⟩ = some (.int .i64 N) := by simp [World.cell?, h.box]
theorem RMx.cell1 (h : RMx W S r N m v fs) : W.cell? ⟨r, 1, none⟩ = some v := by simp [World.cell?, h.box]
theorem RMx.frozen1 (h : RMx W S r N m v fs) : W.frozen? ⟨r, 1, none⟩ = false := by simp [World.frozen?, h.box]
theorem RMx.len (h : RMx W S r N m v fs) : fs.length ≤ N := by
  rw [← List.length_map (f := (·.1))]
  refine nodup_below N _ h.nod1 fun x hx => ?_
  obtain ⟨y, hy, rfl⟩ := List.mem_map.1 hx
  exact (h.frm y hy).1
theorem own_turn {lo n size : Nat} {e : TypeId} {v : Value} {xs : List Value} (h : W.ownsRow lo e size v n xs) (T : Turn S' W W') (hd : ∀ b, v.ownBlock = some b → ¬ S' b) : W'.ownsRow lo e size v n xs := by
  rcases row_of_own h with ⟨rfl, rfl, rfl⟩ | ⟨g, cap, cur, rfl, a, b, c, d, e1, f⟩
  · exact World.ownsRow_nil _ _ _ _
  · exact own_of_row (g := g) (cur := cur) (b.turn T (hd g rfl)) a c d e1 f
theorem RMx.keep (h : RMx W S r N m v fs) (T : Turn S' W W') (hd : ∀ b, S b → ¬ S' b) : RMx W' S r N m v fs := by
  refine ⟨by rw [T.block r h.lt (hd r h.Sr)]; exact h.box, own_turn h.own T (fun b hb => hd b (h.vS b hb)), h.vS, fun x hx => ?_, h.nod1, h.nod2, h.out, h.Sr, h.byts, h.n1, h.n2, fun b hb => Nat.lt_of_lt_of_le (h.low b hb) T.size⟩
  obtain ⟨h1, h2, h3⟩ := h.frm x hx
  exact ⟨h1, h2.turn T (hd _ h3), h3⟩
theorem RMx.mono (h : RMx W S r N m v fs) (hS : ∀ b, S b → S' b) (hl : ∀ b, S' b → b < W.heap.size) : RMx W S' r N m v fs :=
  ⟨h.box, h.own, fun b hb => hS _ (h.vS b hb), fun x hx => ⟨(h.frm x hx).1, (h.frm x hx).2.1, hS _ (h.frm x hx).2.2⟩, h.nod1, h.nod2, h.out, hS _ h.Sr, h.byts, h.n1, h.n2, hl⟩
/-- The shape of the list, and its cells. -/
theorem RMx.view (h : RMx W S r N m v fs) : ∃ a cap, v = .slice a fs.length cap ∧ ∀ i x, fs[i]? = some x → ∃ gb, a = some ⟨gb, 0, none⟩ ∧ S gb ∧ W.cell? ⟨gb, i * 2, none⟩ = some (.int .i64 (x.1 : Int)) ∧ W.cell? ⟨gb, i * 2 + 1, none⟩ = some (.slice (some ⟨x.2, 0, none⟩) 4096 4096) := by
  have ho := h.own
  rcases row_of_own ho with ⟨rfl, h1, h2⟩ | ⟨gb, cap, cur, rfl, a, b, c, d, e, f⟩
  · refine ⟨none, 0, by rw [h1], fun i x hx => ?_⟩
    rw [List.eq_nil_of_length_eq_zero h1] at hx
    simp at hx
  · refine ⟨some ⟨gb, 0, none⟩, cap, rfl, fun i x hx => ⟨gb, rfl, h.vS gb rfl, ?_⟩⟩
    have hlt : i < fs.length := (List.getElem?_eq_some_iff.1 hx).1
    have hc : ∀ j, j < 2 → W.cell? ⟨gb, i * 2 + j, none⟩ = (encR x)[j]? := fun j hj => by
      rw [World.ownsRow.cellAt ho (i * 2 + j) (by omega)]
      exact cat_at encR 2 (fun _ => rfl) hx j hj
    exact ⟨hc 0 (by omega), hc 1 (by omega)⟩
end
end Go.Proofs.Ytlfgnbjioofplab
