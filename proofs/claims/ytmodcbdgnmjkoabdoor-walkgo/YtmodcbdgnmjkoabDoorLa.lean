import Derived.Test.YtmodcbdgnmjkoabDoorVf
namespace Go.Proofs.YtmodcbdgnmjkoabDoor
open Go.RowKit
open Mm (Turn gr PM RM valV errV Byts setV)
set_option linter.unusedVariables false
set_option linter.unusedSimpArgs false
/-- A script of words to be put. -/
structure Pt where
  pa : Int
  w : Int
structure PutsAt (W : World) (a : Option Addr) (ps : List Pt) : Prop where
  lies : ∀ k p, ps[k]? = some p → ∃ b off, a = some ⟨b, off, none⟩ ∧ b < W.heap.size ∧ W.cell? ⟨b, off + k * 2, none⟩ = some (.int .u64 p.pa) ∧ W.cell? ⟨b, off + k * 2 + 1, none⟩ = some (.int .u32 p.w)
  oks : ∀ p ∈ ps, (0 ≤ p.pa ∧ p.pa < 18446744073709551616) ∧ 0 ≤ p.w ∧ p.w < 4294967296
/-- Addresses in a slice. -/
structure Ws (W : World) (a : Option Addr) (l : List Int) : Prop where
  lies : ∀ k v, l[k]? = some v → ∃ b off, a = some ⟨b, off, none⟩ ∧ b < W.heap.size ∧ W.cell? ⟨b, off + k, none⟩ = some (.int .u32 v)
  oks : ∀ v ∈ l, 0 ≤ v ∧ v < 4294967296
/-- The bytes behind the first k of them. -/
def pm (N : Nat) (ps : List Pt) (k : Nat) : Nat → Int := (ps.take k).foldl (fun m p => setV N m p.pa.toNat 4 p.w) (fun _ => 0)
theorem pm_step {N : Nat} {ps : List Pt} {k : Nat} {p : Pt} (h : ps[k]? = some p) : pm N ps (k + 1) = setV N (pm N ps k) p.pa.toNat 4 p.w := by
  unfold pm
  obtain ⟨hk, rfl⟩ := List.getElem?_eq_some_iff.1 h
  rw [List.take_add_one, List.getElem?_eq_getElem hk, Option.toList_some, List.foldl_append]
  rfl
/-- Both memories, one beside the other. -/
structure Two (W wr : World) (p r N : Nat) (m : Nat → Int) : Prop where
  mem : ∃ S1 S2, PM wr S1 p N m ∧ RM wr S2 r N m ∧ (∀ b, S1 b → ¬ S2 b) ∧ (∀ b, S1 b → W.heap.size ≤ b) ∧ (∀ b, S2 b → W.heap.size ≤ b)
  bel : Below W.heap.size W wr
theorem Two.below {W wr wn : World} {p r N : Nat} {m : Nat → Int} (h : Two W wr p r N m) (hb : Below wr.heap.size wr wn) : Two W wn p r N m := by
  obtain ⟨⟨S1, S2, h1, h2, h3, h4, h5⟩, h6⟩ := h
  exact ⟨⟨S1, S2, h1.keep (S' := fun _ => False) (Turn.below hb) (fun _ _ h => h), h2.keep (S' := fun _ => False) (Turn.below hb) (fun _ _ h => h), h3, h4, h5⟩, Below.step h6 hb⟩
theorem Two.new {W w1 w2 : World} {p r N : Nat} (h1 : PM w1 (gr (fun _ => False) W w1) p N (fun _ => 0)) (T1 : Turn (fun _ => False) W w1) (h2 : RM w2 (gr (fun _ => False) w1 w2) r N (fun _ => 0)) (T2 : Turn (fun _ => False) w1 w2) : Two W w2 p r N (fun _ => 0) := by
  refine ⟨⟨_, _, h1.keep T2 (fun _ _ h => h), h2, ?_, ?_, ?_⟩, ?_⟩
  · rintro b (h | ⟨_, h⟩) (h' | ⟨h', _⟩)
    · exact h
    · exact h
    · exact h'
    · omega
  · rintro b (h | ⟨h, _⟩)
    · exact h.elim
    · exact h
  · rintro b (h | ⟨h, _⟩)
    · exact h.elim
    · have := T1.size; omega
  · exact (T1.trans T2 (fun _ h => h.elim)).to (fun _ h => h.elim) (Nat.le_refl _)
/-- A word has been put into the program's memory, then into the reference's. -/
theorem Two.put {W wr : World} {p r N : Nat} {m : Nat → Int} (h : Two W wr p r N m) (pa : Nat) (v : Int) (hp : pa < 18446744073709551616) (hv0 : 0 ≤ v) (hv1 : v < 4294967296) :
    Calls Tryd.prog 12 #[.pointer (some ⟨p, 0, none⟩), .int .u64 pa, .int .u32 v] wr fun e w1 => e = .returned (.int .i64 (errV N pa 4)) ∧ Below W.heap.size W w1 ∧
      Calls Tryd.prog 13 #[.pointer (some ⟨r, 0, none⟩), .int .u64 pa, .int .u32 v] w1 fun e w2 => e = .returned (.int .i64 (errV N pa 4)) ∧ Two W w2 p r N (setV N m pa 4 v) := by
  obtain ⟨⟨S1, S2, h1, h2, h3, h4, h5⟩, h6⟩ := h
  refine (Mm.setWord_any wr S1 p N m pa v h1 hp hv0 hv1).mono ?_
  rintro e w1 ⟨rfl, g1, T1⟩
  have h2' := h2.keep T1 (fun b hb hx => h3 b hx hb)
  have b1 : Below W.heap.size W w1 := h6.trans (T1.to h4 h6.size)
  refine ⟨rfl, b1, (Mm.rSetWord_any w1 S2 r N m pa v h2' hp hv0 hv1).mono ?_⟩
  rintro e w2 ⟨rfl, g2, T2⟩
  have l2 := h2.low
  refine ⟨rfl, ⟨⟨_, _, g1.keep T2 ?_, g2, ?_, ?_, ?_⟩, b1.trans (T2.to h5 b1.size)⟩⟩
  · rintro b (hb | ⟨hb, _⟩) hx
    · exact h3 b hb hx
    · have := l2 b hx; omega
  · rintro b (hb | ⟨hb, hb2⟩) (hx | ⟨hx, _⟩)
    · exact h3 b hb hx
    · have := h1.low b hb; have := T1.size; omega
    · have := l2 b hx; omega
    · omega
  · rintro b (hb | ⟨hb, _⟩)
    · exact h4 b hb
    · have := h6.size; omega
  · rintro b (hb | ⟨hb, _⟩)
    · exact h5 b hb
    · have := b1.size; omega
theorem Two.low {W wr : World} {p r N : Nat} {m : Nat → Int} (h : Two W wr p r N m) : 1 ≤ N ∧ N ≤ 65536 := by
  obtain ⟨⟨S1, S2, h1, _⟩, _⟩ := h
  exact ⟨h1.n1, h1.n2⟩
end Go.Proofs.YtmodcbdgnmjkoabDoor
