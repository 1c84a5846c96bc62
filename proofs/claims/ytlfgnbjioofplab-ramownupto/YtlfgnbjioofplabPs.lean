import Derived.Test.YtlfgnbjioofplabPb
namespace Go.Proofs.Ytlfgnbjioofplab
open Go.RowKit
set_option linter.unusedVariables false

/-- A piece of a frame's bytes. -/
theorem sliceF (W : World) (fb r : Nat) (q : Int) (hr : r < 4096) (h1 : (r : Int) ≤ q) (h2 : q ≤ 4096) :
    (Instr.sliceAt 72 (Value.pointer (some ⟨fb, 0, none⟩)) (some (Value.int .i64 (r : Int))) (some (Value.int .i64 q)) none).run Try.prog W = .ok (.slice (some ⟨fb, r, none⟩) (q.toNat - r) (4096 - r)) W := by
  have hq0 : 0 ≤ q := by omega
  have hne : ¬ 4096 = r := by omega
  simp [Instr.sliceAt, Instr.sliceBounds, Instr.sliceBound, Instr.sureAddr, run_underlying Try.underlying72, asIntOf, go_sem, hq0, h1, h2, hne]
/-- A piece of an array of four bytes. -/
theorem slice4 (W : World) (fb : Nat) (q : Nat) (h2 : q ≤ 4) :
    (Instr.sliceAt 117 (Value.pointer (some ⟨fb, 0, none⟩)) none (some (Value.int .i64 (q : Int))) none).run Try.prog W = .ok (.slice (some ⟨fb, 0, none⟩) q 4) W := by
  simp [Instr.sliceAt, Instr.sliceBounds, Instr.sliceBound, Instr.sureAddr, run_underlying Try.underlying117, asIntOf, go_sem]
  intro h
  omega
end Go.Proofs.Ytlfgnbjioofplab
