import Derived.Test.YtmodcbdgnmjkoabGreatDoorWg
import Derived.Test.YtmodcbdgnmjkoabGreatDoorMX
namespace Go.Proofs.YtmodcbdgnmjkoabGreatDoor
open Go.RowKit
open Mm (Turn gr valV errV Byts RowAt)
set_option linter.unusedVariables false
set_option linter.unusedSimpArgs false
def encU (l : List Int) : List Value := l.map (Value.int .u64)
theorem infoU : (Tryz.prog.info? 22).map (fun i => (i.zero, i.size, i.bytes)) = some (some (.int .u64 0), 1, 8) := by kernel_rfl
/-- append of one address to a list of one's own. -/
theorem appU (wr : World) (lo : Nat) (v : Value) (l : List Int) (b : Int) (h : wr.ownsRow lo 22 1 v l.length (encU l)) (hlo : lo ≤ wr.heap.size) (hk : l.length ≤ 268435456) :
    ∃ v' w', (∀ ty, (Builtin.append_ #[36, 36] ty #[v, .slice (some ⟨wr.heap.size, 0, none⟩) 1 1]).run Tryz.prog (wr.alloc (.cells #[.int .u64 b] 22)) = .ok v' w') ∧ w'.ownsRow lo 22 1 v' (l.length + 1) (encU (l ++ [b])) ∧ Turn (fun x => v.ownBlock = some x) wr w' ∧ (∀ g, v'.ownBlock = some g → v.ownBlock = some g ∨ wr.heap.size ≤ g) := by
  obtain ⟨i0, hi, hz0, hz1, hz2⟩ := info_parts infoU
  have hB := Mm.row_new wr [.int .u64 b] 22
  have ho := Mm.own_turn h (((Turn.refl (fun _ => False) wr).alloc (.cells #[.int .u64 b] 22))) (fun _ _ h => h)
  obtain ⟨v', w', hr, ho', hg, hb⟩ := Mm.append_any (P := Tryz.prog) (wr.alloc (.cells #[.int .u64 b] 22)) 36 22 i0 _ Tryz.underlying36 hi hz0 (by rw [hz1]; rfl) lo l.length 1 v (.slice (some ⟨wr.heap.size, 0, none⟩) 1 1) (encU l) [.int .u64 b] (by rw [hz1]; exact ho)
    (by rw [hz1]; exact Src.ofSlice _ Tryz.underlying36 ⟨wr.heap.size, 0, none⟩ 1 1 _ rfl (fun j u hj => by rw [Addr.add_lit, Nat.zero_add]; exact (hB.cell j).trans hj) (fun u hu => by simp at hu; subst hu; rfl)) (by simp; omega) (by unfold maxLen; omega) (by rw [hz2]; omega)
  rw [hz1] at ho'
  refine ⟨v', w', hr, by simpa [encU] using ho', ((Turn.refl _ wr).alloc _).trans (S' := fun x => v.ownBlock = some x) (Turn.grown hg (fun x hx => .inl hx)) (fun x hx => .inl hx), fun g hg => ?_⟩
  rcases hb g hg with h1 | h1
  · exact .inl h1
  · simp at h1; exact .inr (by omega)
theorem Bl.put' {w : World} {b : Nat} {t : TypeId} {l : List Value} (h : Bl w b t l) (i : Nat) (v : Value) : Bl (w.setCell ⟨b, i, none⟩ v) b t (l.set i v) := by
  unfold Bl at h ⊢
  simp only [World.setCell, Array.getElem?_modify, h, if_true]
  simp
/-- The trail: what is behind it, and what it was asked for. -/
structure Tl (S : Nat → Prop) (iv : Value) (M : Mo) (H tb : Nat) (L : List Int) (Z : Nat → Prop) (w : World) : Prop where
  mem : MemP w S iv M
  sz : ∀ b, S b → Z b ∧ b < H
  tz : ∀ b, tbl b → Z b ∧ b < H
  low : ∀ b, Z b → b < w.heap.size
  tab : TW w
  hH : H ≤ tb
  ztb : Z tb
  row : ∃ v, Bl w tb 61 [iv, v] ∧ w.ownsRow (tb + 1) 22 1 v L.length (encU L) ∧ ∀ g, v.ownBlock = some g → Z g
theorem Tl.keep {S : Nat → Prop} {iv : Value} {M : Mo} {H tb : Nat} {L : List Int} {Z X : Nat → Prop} {w w' : World} (h : Tl S iv M H tb L Z w) (T : Turn X w w') (hX : ∀ b, X b → ¬ Z b) : Tl S iv M H tb L Z w' := by
  obtain ⟨v, h1, h2, h3⟩ := h.row
  exact ⟨h.mem.keep T (fun b hb hx => hX b hx (h.sz b hb).1), h.sz, h.tz, fun b hb => Nat.lt_of_lt_of_le (h.low b hb) T.size, h.tab.turn T (fun b hb hx => hX b hx (h.tz b hb).1), h.hH, h.ztb,
    v, (T.block tb h1.lt (fun hx => hX tb hx h.ztb)).trans h1, Mm.own_turn h2 T (fun b hb hx => hX b hx (h3 b hb)), h3⟩
theorem Tl.mono {S : Nat → Prop} {iv : Value} {M : Mo} {H tb : Nat} {L : List Int} {Z Z' : Nat → Prop} {w : World} (h : Tl S iv M H tb L Z w) (hZ : ∀ b, Z b → Z' b) (hl : ∀ b, Z' b → b < w.heap.size) : Tl S iv M H tb L Z' w := by
  obtain ⟨v, h1, h2, h3⟩ := h.row
  exact ⟨h.mem, fun b hb => ⟨hZ b (h.sz b hb).1, (h.sz b hb).2⟩, fun b hb => ⟨hZ b (h.tz b hb).1, (h.tz b hb).2⟩, hl, h.tab, h.hH, hZ _ h.ztb, v, h1, h2, fun g hg => hZ g (h3 g hg)⟩
/-- One address more. -/
theorem Tl.add {S : Nat → Prop} {iv : Value} {M : Mo} {H tb : Nat} {L : List Int} {Z : Nat → Prop} {w : World} (h : Tl S iv M H tb L Z w) (pa : Int) (hL : L.length ≤ 8) :
    ∃ v v' w1, Bl w tb 61 [iv, v] ∧ (∀ ty, (Builtin.append_ #[36, 36] ty #[v, .slice (some ⟨w.heap.size, 0, none⟩) 1 1]).run Tryz.prog (w.alloc (.cells #[.int .u64 pa] 22)) = .ok v' w1) ∧ Bl w1 tb 61 [iv, v] ∧ (∃ g cap, v' = .slice (some ⟨g, 0, none⟩) (L.length + 1) cap) ∧
      Tl S iv M H tb (L ++ [pa]) (gr Z w (w1.setCell ⟨tb, 1, none⟩ v')) (w1.setCell ⟨tb, 1, none⟩ v') ∧ Turn (hot H Z) w (w1.setCell ⟨tb, 1, none⟩ v') := by
  obtain ⟨v, h1, h2, h3⟩ := h.row
  obtain ⟨v', w1, hr, ho, T, hg⟩ := appU w (tb + 1) v L pa h2 (by have := h1.lt; omega) (by omega)
  have hne : ∀ g, v.ownBlock = some g → g ≠ tb := fun g hg => by have := (World.ownsRow.lt h2 g hg).1; omega
  have hb1 : Bl w1 tb 61 [iv, v] := (T.block tb h1.lt (fun hx => hne tb hx rfl)).trans h1
  have T2 : Turn (fun x => v.ownBlock = some x ∨ x = tb) w (w1.setCell ⟨tb, 1, none⟩ v') := (T.mono (fun x _ hx => .inl hx)).setCell (p := ⟨tb, 1, none⟩) (.inl (.inr rfl)) _
  have hs1 : (w1.setCell ⟨tb, 1, none⟩ v').heap.size = w1.heap.size := by simp
  have hX : ∀ b, b < H → ¬ (v.ownBlock = some b ∨ b = tb) := fun b hb hx => by
    rcases hx with hx | rfl
    · have := (World.ownsRow.lt h2 b hx).1; have := h.hH; omega
    · have := h.hH; omega
  refine ⟨v, v', w1, h1, hr, hb1, ?_, ⟨?_, fun b hb => ⟨.inl (h.sz b hb).1, (h.sz b hb).2⟩, fun b hb => ⟨.inl (h.tz b hb).1, (h.tz b hb).2⟩, ?_, ?_, h.hH, .inl h.ztb, v', ?_, ?_, ?_⟩, ?_⟩
  · rcases Mm.row_of_own ho with ⟨_, h2, _⟩ | ⟨g, cap, cur, rfl, _⟩
    · omega
    · exact ⟨g, cap, rfl⟩
  · exact h.mem.keep T2 (fun b hb => hX b (h.sz b hb).2)
  · intro b hb
    rcases hb with hb | ⟨_, hb⟩
    · have := h.low b hb; have := T2.size; omega
    · exact hb
  · exact h.tab.turn T2 (fun b hb => hX b (h.tz b hb).2)
  · have := hb1.put' 1 v'
    simpa using this
  · have ho2 := Mm.own_turn ho ((Turn.refl (fun x => x = tb) w1).setCell (p := ⟨tb, 1, none⟩) (.inl rfl) v') (fun b hb hx => by have := (World.ownsRow.lt ho b hb).1; omega)
    simpa using ho2
  · intro g hg'
    rcases hg g hg' with h4 | h4
    · exact .inl (h3 g h4)
    · exact .inr ⟨h4, by have := (World.ownsRow.lt ho g hg').2; rw [hs1]; exact this⟩
  · refine T2.mono (fun x _ hx => ?_)
    rcases hx with hx | rfl
    · exact ⟨h3 x hx, by have := (World.ownsRow.lt h2 x hx).1; have := h.hH; omega⟩
    · exact ⟨h.ztb, h.hH⟩
end Go.Proofs.YtmodcbdgnmjkoabGreatDoor
