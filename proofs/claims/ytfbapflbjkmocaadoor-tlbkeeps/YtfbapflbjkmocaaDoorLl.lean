import Derived.Test.YtfbapflbjkmocaaDoorLc
namespace Go.Proofs.YtfbapflbjkmocaaDoor
open Go.RowKit
set_option linter.unusedVariables false
set_option linter.unusedSimpArgs false
theorem LV.rs {W wr : World} {p g : Nat} {L : List Slo} (h : LV W wr p g L) : Rs wr g L := h.pt.rs
/-- A TLB of one's own, a list of its places, a block. -/
structure MX (W wr : World) (p g P B : Nat) (L : List Slo) (b : Blo) : Prop where
  lv : LV W wr p g L
  row : Bl wr P 49 (rowS L)
  box : Bl wr B 29 ([.int .i64 b.asid, .int .i64 b.t.size, .int .u32 b.t.va, .int .u64 b.t.pa, .int .i64 b.t.dom, .int .i64 b.t.ap, .int .u32 b.t.bits, .bool b.t.ng, .bool b.t.xn])
  hB : W.heap.size ≤ B
  tw : TR W
section
variable {W wr w' : World} {p g P B : Nat} {L : List Slo} {b : Blo}
theorem MX.step (h : MX W wr p g P B L b) (hb : Below wr.heap.size wr w') : MX W w' p g P B L b := ⟨h.lv.step hb, h.row.below hb, h.box.below hb, h.hB, h.tw⟩
theorem MX.put (h : MX W wr p g P B L b) (c : Blo) : MX W (((((((((wr.setCell ⟨B, 0, none⟩ (.int .i64 c.asid)).setCell ⟨B, 1, none⟩ (.int .i64 c.t.size)).setCell ⟨B, 2, none⟩ (.int .u32 c.t.va)).setCell ⟨B, 3, none⟩ (.int .u64 c.t.pa)).setCell ⟨B, 4, none⟩ (.int .i64 c.t.dom)).setCell ⟨B, 5, none⟩ (.int .i64 c.t.ap)).setCell ⟨B, 6, none⟩ (.int .u32 c.t.bits)).setCell ⟨B, 7, none⟩ (.bool c.t.ng)).setCell ⟨B, 8, none⟩ (.bool c.t.xn)) p g P B L c := by
  have hB := h.hB
  have hT : Turn (fun x => x = B) wr (((((((((wr.setCell ⟨B, 0, none⟩ (.int .i64 c.asid)).setCell ⟨B, 1, none⟩ (.int .i64 c.t.size)).setCell ⟨B, 2, none⟩ (.int .u32 c.t.va)).setCell ⟨B, 3, none⟩ (.int .u64 c.t.pa)).setCell ⟨B, 4, none⟩ (.int .i64 c.t.dom)).setCell ⟨B, 5, none⟩ (.int .i64 c.t.ap)).setCell ⟨B, 6, none⟩ (.int .u32 c.t.bits)).setCell ⟨B, 7, none⟩ (.bool c.t.ng)).setCell ⟨B, 8, none⟩ (.bool c.t.xn)) := (((((((((Turn.refl (fun x => x = B) wr).setCell (p := ⟨B, 0, none⟩) (.inl rfl) _).setCell (p := ⟨B, 1, none⟩) (.inl rfl) _).setCell (p := ⟨B, 2, none⟩) (.inl rfl) _).setCell (p := ⟨B, 3, none⟩) (.inl rfl) _).setCell (p := ⟨B, 4, none⟩) (.inl rfl) _).setCell (p := ⟨B, 5, none⟩) (.inl rfl) _).setCell (p := ⟨B, 6, none⟩) (.inl rfl) _).setCell (p := ⟨B, 7, none⟩) (.inl rfl) _).setCell (p := ⟨B, 8, none⟩) (.inl rfl) _
  have hf := (((((((((h.box.set 0 (.int .i64 c.asid)).set 1 (.int .i64 c.t.size)).set 2 (.int .u32 c.t.va)).set 3 (.int .u64 c.t.pa)).set 4 (.int .i64 c.t.dom)).set 5 (.int .i64 c.t.ap)).set 6 (.int .u32 c.t.bits)).set 7 (.bool c.t.ng)).set 8 (.bool c.t.xn))
  have hp : p ≠ B := h.lv.pt.box.ne h.box (by decide)
  have hg : g ≠ B := h.lv.pt.row.ne h.box (by decide)
  have hP : P ≠ B := h.row.ne h.box (by decide)
  have hbel : Below W.heap.size W (((((((((wr.setCell ⟨B, 0, none⟩ (.int .i64 c.asid)).setCell ⟨B, 1, none⟩ (.int .i64 c.t.size)).setCell ⟨B, 2, none⟩ (.int .u32 c.t.va)).setCell ⟨B, 3, none⟩ (.int .u64 c.t.pa)).setCell ⟨B, 4, none⟩ (.int .i64 c.t.dom)).setCell ⟨B, 5, none⟩ (.int .i64 c.t.ap)).setCell ⟨B, 6, none⟩ (.int .u32 c.t.bits)).setCell ⟨B, 7, none⟩ (.bool c.t.ng)).setCell ⟨B, 8, none⟩ (.bool c.t.xn)) := ((Turn.below (S := fun x => x = B) h.lv.bel).trans hT (fun x hx => .inl hx)).to (fun x hx => by rw [hx]; exact hB) (Nat.le_refl _)
  exact ⟨⟨hbel, h.lv.pt.turn hT hp hg, h.tw.below hbel, h.lv.new⟩, h.row.turn hT hP, hf, h.hB, h.tw⟩
end
end Go.Proofs.YtfbapflbjkmocaaDoor
