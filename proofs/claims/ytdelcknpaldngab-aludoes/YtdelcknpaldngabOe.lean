import Derived.Test.YtdelcknpaldngabBa
import Derived.Test.YtdelcknpaldngabRows
import Derived.ChangeSame
import Derived.WalkKit
import Derived.ProofKit
import Derived.OpenShut
namespace Go.Proofs.Ytdelcknpaldngab
open Go.ChangeShapes Go.WideShapes Go.ChangeAt Go.RowKit
set_option linter.unusedVariables false
set_option linter.unusedSimpArgs false
theorem cells_bool : Try.prog.cellsOf 4 = 1 := by kernel_rfl
theorem cells_flags : Try.prog.cellsOf 28 = 4 := by kernel_rfl
theorem bounds_u32 {x : Int} (h : (Lit.int .u32 x).wf = true) : 0 ≤ x ∧ x < 4294967296 := by
  simp [Lit.wf, IntKind.min, IntKind.max, IntKind.bits, IntKind.signed] at h
  omega
theorem bounds_u64 {x : Int} (h : (Lit.int .u64 x).wf = true) : 0 ≤ x ∧ x < 18446744073709551616 := by
  simp [Lit.wf, IntKind.min, IntKind.max, IntKind.bits, IntKind.signed] at h
  omega
theorem u32_nat {x : Int} (h : (Lit.int .u32 x).wf = true) : ∃ n : Nat, x = n ∧ n < 4294967296 := ⟨x.toNat, by have := bounds_u32 h; omega, by have := bounds_u32 h; omega⟩
variable {H : Type} {enc : TypeId × Value → H} {w : World} {base : Nat} {sp : Nat → Bool} {held : Bool}
/-- What it reads as. -/
def flagsD (m : Fl) : DataW H := .agg [.lit (.bool m.n), .lit (.bool m.z), .lit (.bool m.c), .lit (.bool m.v)]
theorem shut_flags {m : Fl} : DataW.Trod enc Try.prog w base sp held 28 (.agg #[.bool m.n, .bool m.z, .bool m.c, .bool m.v]) (flagsD m) [] := by
  exact ⟨2, by simp [DataW.trod, Value.cells, Try.underlying28, Try.underlying4, cells_flags, cells_bool, flagsD]⟩
theorem open_flags {r : Reach} {b0 : Nat} {v : Value} {d : DataW H} {ps : List MemPlace} (hv : Value.okWide Try.prog w r b0 28 v) (h : DataW.Trod enc Try.prog w base sp held 28 v d ps) :
    ∃ m : Fl, v = .agg #[.bool m.n, .bool m.z, .bool m.c, .bool m.v] ∧ d = flagsD m ∧ ps = [] := by
  obtain ⟨cs, rfl, hsz⟩ := okWide_struct Try.underlying28 hv
  obtain ⟨v0, v1, v2, v3, rfl⟩ : ∃ v0 v1 v2 v3, cs = #[v0, v1, v2, v3] := by
    obtain ⟨l⟩ := cs
    match l, hsz.trans cells_flags with
    | [v0, v1, v2, v3], _ => exact ⟨v0, v1, v2, v3, rfl⟩
  obtain ⟨fuel, hf⟩ := h
  obtain ⟨xs, n, _, hx, _, hlen, hq⟩ := DataW.trod_struct Try.underlying28 hf
  obtain ⟨y0, y1, y2, y3, rfl⟩ : ∃ y0 y1 y2 y3, xs = [y0, y1, y2, y3] := by
    match xs, hlen with
    | [y0, y1, y2, y3], _ => exact ⟨y0, y1, y2, y3, rfl⟩
  have h0 : DataW.trod enc Try.prog w base sp held n 4 [v0] = some y0 := by simpa [Value.cells, cells_bool] using hq 0 _ rfl
  have h1 : DataW.trod enc Try.prog w base sp held n 4 [v1] = some y1 := by simpa [Value.cells, cells_bool] using hq 1 _ rfl
  have h2 : DataW.trod enc Try.prog w base sp held n 4 [v2] = some y2 := by simpa [Value.cells, cells_bool] using hq 2 _ rfl
  have h3 : DataW.trod enc Try.prog w base sp held n 4 [v3] = some y3 := by simpa [Value.cells, cells_bool] using hq 3 _ rfl
  obtain ⟨i0, e0, r0⟩ := DataW.trod_bool Try.underlying4 h0
  obtain ⟨i1, e1, r1⟩ := DataW.trod_bool Try.underlying4 h1
  obtain ⟨i2, e2, r2⟩ := DataW.trod_bool Try.underlying4 h2
  obtain ⟨i3, e3, r3⟩ := DataW.trod_bool Try.underlying4 h3
  simp only [List.cons.injEq, and_true] at e0 e1 e2 e3
  subst e0 e1 e2 e3 r0 r1 r2 r3
  obtain ⟨hd, hp⟩ := Prod.mk.inj hx
  exact ⟨⟨i0, i1, i2, i3⟩, rfl, hd, hp⟩
end Go.Proofs.Ytdelcknpaldngab
