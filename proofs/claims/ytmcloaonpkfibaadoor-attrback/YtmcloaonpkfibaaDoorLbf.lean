import Derived.Test.YtmcloaonpkfibaaDoorLb
import Derived.Test.YtmcloaonpkfibaaDoorSp
namespace Go.Proofs.YtmcloaonpkfibaaDoor
open Go.RowKit
set_option linter.unusedVariables false
set_option linter.unusedSimpArgs false
theorem law_back_full (m : Mem) (s : ByteArray) (w : World) (hT : TA w) (hs : s.size ≤ 4611686018427387904) :
    Calls Tryd.prog 4 #[.agg #[.int .i64 m.t, .int .i64 m.i, .int .i64 m.o, .int .i64 m.s], .string s] w fun e w' => e = .returned (.bool true) ∧ Below w.heap.size w w' := by
  have S := fun w hw => show_any m w hw
  have R := fun w hw => read_full s w hs hw
  have E := rd_err s
  by_cases h : K m
  · simp only [if_pos h] at S
    have D := fun w hw => read_any (tx m) w tx_size hw
    rw [rd_tx h] at D
    rcases E with e | e
    · have e1 : rd s = (0, (rd s).2) := by rw [← e]
      obtain ⟨k1, k2⟩ := rd_ok e1
      rw [e] at R
      have S2 := fun w hw => show_any (rd s).2 w hw
      simp only [if_pos k1, k2] at S2
      exact back_11 m s w hT _ _ S D R S2
    · rw [e] at R
      exact back_10 m s w hT _ S D R
  · simp only [if_neg h] at S
    have D := fun w hw => read_any ⟨#[]⟩ w (by decide) hw
    rw [show rd ⟨#[]⟩ = (62, mZ) by kernel_rfl] at D
    rcases E with e | e
    · have e1 : rd s = (0, (rd s).2) := by rw [← e]
      obtain ⟨k1, k2⟩ := rd_ok e1
      rw [e] at R
      have S2 := fun w hw => show_any (rd s).2 w hw
      simp only [if_pos k1, k2] at S2
      exact back_01 m s w hT _ S D R S2
    · rw [e] at R
      exact back_00 m s w hT S D R
end Go.Proofs.YtmcloaonpkfibaaDoor
