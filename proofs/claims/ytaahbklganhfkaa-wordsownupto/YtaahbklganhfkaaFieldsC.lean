import Derived.Test.YtaahbklganhfkaaFieldsB
import Derived.Test.YtaahbklganhfkaaSame
namespace Go.Proofs.Ytaahbklganhfkaa
open Go.RowKit
set_option linter.unusedVariables false

theorem fieldsFrom_len (t : ByteArray) : ∀ (f pos : Nat) (st : Int), st ≤ pos → -1 ≤ st → (fieldsFrom t f pos st).length ≤ f + 1
  | 0, pos, st, _, _ => by
    unfold fieldsFrom
    split <;> simp
  | f + 1, pos, st, h, h0 => by
    unfold fieldsFrom
    split
    · split
      · have := fieldsFrom_len t f (pos + (Utf8.decode t pos).2) (-1) (by omega) (by omega)
        split <;> simp <;> omega
      · have := fieldsFrom_len t f (pos + (Utf8.decode t pos).2) (if 0 ≤ st then st else pos) (by split <;> omega) (by split <;> omega)
        omega
    · split <;> simp

theorem fieldsB_len (s : ByteArray) : (fieldsB (ahead s)).length ≤ s.size + 1 := by
  have := fieldsFrom_len (ahead s) (ahead s).size 0 (-1) (by omega) (by omega)
  have h1 := ahead_size s
  have h2 := hpos_le s
  unfold fieldsB
  omega

set_option maxRecDepth 100000 in
set_option maxHeartbeats 400000 in
/-- atlaslaw01.WordsFields. -/
theorem law_fields (s : ByteArray) (w : World) (hs : s.size ≤ 2097152) :
    Calls Try.prog 6 #[.string s] w fun e w' => e = .returned (.bool true) ∧ Below w.heap.size w w' := by
  have hlen := fieldsB_len s
  go_enter Try.func6, Try.ntmps6
  go_wp2_with fail
  refine (fields_any s _ hs).mono ?_
  rintro e w1 ⟨v1, rfl, o1, b1⟩
  go_wp2_with fail
  refine (refFields_any s _ hs).mono ?_
  rintro e w2 ⟨v2, rfl, o2, b2⟩
  have o3 := owns_below o1 b2
  go_wp2_with fail
  refine (same_eq _ _ _ _ _ _ o3 o2 (by omega)).mono ?_
  rintro e w3 ⟨rfl, q, rfl⟩
  go_wp2
  go_ret
  exact ⟨rfl, below_drewN (b1.trans (b2.mono b1.size)) q⟩
end Go.Proofs.Ytaahbklganhfkaa
