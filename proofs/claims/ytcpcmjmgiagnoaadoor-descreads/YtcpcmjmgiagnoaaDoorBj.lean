import Derived.Test.YtcpcmjmgiagnoaaDoorBi
import Derived.Laws.CopyRow
import Derived.Laws.OwnMore
namespace Go.Proofs.YtcpcmjmgiagnoaaDoor
open Go.RowKit
set_option linter.unusedVariables false
set_option linter.unusedSimpArgs false
/-- Storing an array of bits. -/
theorem storeB (W : World) (b : Nat) (g : Nat → Int) (cur : List Value) (h : Bl W b 54 cur) (hc : cur.length = 32) : (Instr.storeAt 54 (Value.pointer (some ⟨b, 0, none⟩)) (.agg (encB g).toArray)).run Tryd.prog W = .ok () (W.setRow b (encB g).toArray) := by
  have hl := run_storeCells_at Tryd.prog b 0 54 (encB g) 0 cur.toArray W h (by rw [encB_len]; simp [hc]) (by
    intro v hv
    obtain ⟨i, _, rfl⟩ := List.mem_map.1 hv
    rfl)
  have e : (cur.take 0 ++ encB g ++ cur.drop (0 + (encB g).length)) = encB g := by
    rw [List.take_zero, List.nil_append, Nat.zero_add, encB_len, List.drop_eq_nil_of_le (by omega), List.append_nil]
  have hsz : (encB g).toArray.size = 32 := by rw [List.size_toArray, encB_len]
  simp only [Nat.add_zero] at hl
  rw [e] at hl
  simp [Instr.storeAt, Instr.sureAddr, storeVar, Value.cells, Tryd.sizeOf54, hsz, encB_len]
  exact hl
theorem storeB_bl (W : World) (b : Nat) (g : Nat → Int) (cur : List Value) (h : Bl W b 54 cur) : Bl (W.setRow b (encB g).toArray) b 54 (encB g) := setRow_heap W b _ _ _ _ h
theorem Below.setRow {B : Nat} {a w : World} (h : Below B a w) (b : Nat) (hb : B ≤ b) (c : Array Value) : Below B a (w.setRow b c) :=
  h.trans ⟨rfl, rfl, rfl, by simp [World.setRow], fun k hk => setRow_other w b k c (by omega)⟩
end Go.Proofs.YtcpcmjmgiagnoaaDoor
