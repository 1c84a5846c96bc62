import Derived.Test.YtmodcbdgnmjkoabDoorWp
import Derived.Handy
namespace Go.Proofs.YtmodcbdgnmjkoabDoor
open Go.RowKit
open Mm (Turn gr PM)
set_option linter.unusedVariables false
set_option linter.unusedSimpArgs false
theorem hidW {p : Prop} (h : p) : Hid p := h
/-- The tables. -/
structure TW (w : World) : Prop where
  r : TT w
theorem Tb.turn {k : IntKind} {w w' : World} {g : Nat} {l : List Int} {X : Nat → Prop} (h : Tb k w g l) (T : Turn X w w') (hn : ¬ X g) : Tb k w' g l := fun i v hv => (T.cell (cell_lt (h i v hv)) hn i).trans (h i v hv)
/-- Their blocks. -/
def tbl (b : Nat) : Prop := b = 2 ∨ b = 3 ∨ b = 1 ∨ b = 8 ∨ b = 5 ∨ b = 0
theorem TW.low {w : World} (h : TW w) {b : Nat} (hb : tbl b) : b < w.heap.size := by
  rcases hb with rfl | rfl | rfl | rfl | rfl | rfl
  · exact cell_lt (h.r.first 0 _ rfl)
  · exact cell_lt (h.r.second 0 _ rfl)
  · exact cell_lt (h.r.base 0 _ rfl)
  · exact cell_lt (h.r.leaf 0 _ rfl)
  · exact cell_lt (h.r.tags 0 _ rfl)
  · exact cell_lt (h.r.size 0 _ rfl)
theorem TW.turn {w w' : World} {X : Nat → Prop} (h : TW w) (T : Turn X w w') (hn : ∀ b, tbl b → ¬ X b) : TW w' :=
  ⟨⟨⟨⟨h.r.first.turn T (hn _ (by simp [tbl])), h.r.second.turn T (hn _ (by simp [tbl])), h.r.base.turn T (hn _ (by simp [tbl])), h.r.leaf.turn T (hn _ (by simp [tbl]))⟩, h.r.tags.turn T (hn _ (by simp [tbl]))⟩, h.r.size.turn T (hn _ (by simp [tbl]))⟩⟩
theorem TW.below {w w' : World} (h : TW w) (hb : Below w.heap.size w w') : TW w' := h.turn (X := fun _ => False) (Turn.below hb) (fun _ _ h => h)
/-- Of what may turn in a call that asks the memory. -/
def hot (H : Nat) (Z : Nat → Prop) : Nat → Prop := fun b => Z b ∧ H ≤ b
/-- A memory that is asked through an interface: its state tells what it was asked for; Z: the blocks that are its own. -/
structure Asker (H : Nat) (M : Mo) (iv : Value) (St : List Int → (Nat → Prop) → World → Prop) : Prop where
  ok : M.Ok
  ask : ∀ L Z w pa, L.length ≤ 8 → 0 ≤ pa → pa < 18446744073709551616 → St L Z w → Calls Tryd.prog 58 #[iv, .int .u64 pa] w fun e w' => e = .returned (.tuple #[.int .u32 (M.wd pa), .int .i64 (M.er pa)]) ∧ St (L ++ [pa]) (gr Z w w') w' ∧ Turn (hot H Z) w w'
  keep : ∀ {L Z w X w'}, St L Z w → Turn X w w' → (∀ b, X b → ¬ Z b) → St L Z w'
  low : ∀ {L Z w}, St L Z w → ∀ b, Z b → b < w.heap.size
  mono : ∀ {L Z Z' w}, St L Z w → (∀ b, Z b → Z' b) → (∀ b, Z' b → b < w.heap.size) → St L Z' w
  tab : ∀ {L Z w}, St L Z w → TW w
/-- Within a call: from w, with Z, on. -/
structure Fw (H : Nat) (St : List Int → (Nat → Prop) → World → Prop) (w : World) (Z : Nat → Prop) (L : List Int) (wr : World) (Zr : Nat → Prop) : Prop where
  st : St L Zr wr
  trn : Turn (hot H Z) w wr
  up : ∀ b, Z b → Zr b
  old : ∀ b, Zr b → b < w.heap.size → Z b
section
variable {H : Nat} {M : Mo} {iv : Value} {St : List Int → (Nat → Prop) → World → Prop} {w wr wn : World} {Z Zr : Nat → Prop} {L L' : List Int}
theorem Fw.start (h : St L Z w) : Fw H St w Z L w Z := ⟨h, Turn.refl _ _, fun _ h => h, fun _ h _ => h⟩
theorem Fw.below (A : Asker H M iv St) (h : Fw H St w Z L wr Zr) (hb : Below wr.heap.size wr wn) : Fw H St w Z L wn Zr :=
  ⟨A.keep h.st (Turn.below (S := fun _ => False) hb) (fun _ h => h.elim), h.trn.trans (S' := fun _ => False) (Turn.below hb) (fun _ h => h.elim), h.up, h.old⟩
theorem Fw.set (A : Asker H M iv St) (h : Fw H St w Z L wr Zr) {b : Nat} (hn : ¬ Zr b) (hb : w.heap.size ≤ b) (j : Nat) (v : Value) : Fw H St w Z L (wr.setCell ⟨b, j, none⟩ v) Zr :=
  ⟨A.keep (X := fun x => x = b) h.st ((Turn.refl (fun x => x = b) wr).setCell (p := ⟨b, j, none⟩) (.inl rfl) v) (fun x hx => by subst hx; exact hn), h.trn.setCell (p := ⟨b, j, none⟩) (.inr hb) v, h.up, h.old⟩
theorem Fw.call (h : Fw H St w Z L wr Zr) (hs : St L' (gr Zr wr wn) wn) (T : Turn (hot H Zr) wr wn) : Fw H St w Z L' wn (gr Zr wr wn) :=
  ⟨hs, h.trn.trans T (fun x hx => by
    by_cases hl : x < w.heap.size
    · exact .inl ⟨h.old x hx.1 hl, hx.2⟩
    · exact .inr (by omega)), fun b hb => .inl (h.up b hb), fun b hb hl => by
    rcases hb with hb | ⟨hb, _⟩
    · exact h.old b hb hl
    · have := h.trn.size; omega⟩
theorem Fw.fin (A : Asker H M iv St) (h : Fw H St w Z L wr Zr) : St L (gr Z w wr) wr ∧ Turn (hot H Z) w wr :=
  ⟨A.mono h.st (fun b hb => by
    by_cases hl : b < w.heap.size
    · exact .inl (h.old b hb hl)
    · exact .inr ⟨by omega, A.low h.st b hb⟩) (fun b hb => by
    rcases hb with hb | ⟨_, hb⟩
    · exact A.low h.st b (h.up b hb)
    · exact hb), h.trn⟩
/-- A box of the call's own. -/
structure Bx (wr : World) (Zr : Nat → Prop) (b : Nat) (t : TypeId) (l : List Value) : Prop where
  bl : Bl wr b t l
  nz : ¬ Zr b
theorem Bx.below {b : Nat} {t : TypeId} {l : List Value} (h : Bx wr Zr b t l) (hb : Below wr.heap.size wr wn) : Bx wn Zr b t l := ⟨h.bl.below hb, h.nz⟩
theorem Bx.call {b : Nat} {t : TypeId} {l : List Value} (h : Bx wr Zr b t l) (T : Turn (hot H Zr) wr wn) : Bx wn (gr Zr wr wn) b t l :=
  ⟨(T.block b h.bl.lt (fun hh => h.nz hh.1)).trans h.bl, fun hh => by
    rcases hh with hh | ⟨hh, _⟩
    · exact h.nz hh
    · have := h.bl.lt; omega⟩
theorem Bx.other {b b' : Nat} {t : TypeId} {l : List Value} (h : Bx wr Zr b t l) (hn : b ≠ b') (j : Nat) (v : Value) : Bx (wr.setCell ⟨b', j, none⟩ v) Zr b t l := by
  refine ⟨?_, h.nz⟩
  show (wr.setCell ⟨b', j, none⟩ v).heap[b]? = _
  rw [Below.heap_setCell _ _ _ _ hn]
  exact h.bl
theorem Bx.new (A : Asker H M iv St) (h : Fw H St w Z L wr Zr) (t : TypeId) (l : List Value) : Bx (wr.alloc (.cells l.toArray t)) Zr wr.heap.size t l :=
  ⟨Bl.new wr t l, fun hh => by have := A.low h.st _ hh; omega⟩
end
end Go.Proofs.YtmodcbdgnmjkoabDoor
