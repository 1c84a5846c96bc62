import Derived.Test.YtmodcbdgnmjkoaaDoorOa
namespace Go.Proofs.YtmodcbdgnmjkoaaDoor
open Go.ChangeShapes Go.WideShapes Go.ChangeAt Go.RowKit Go.Deep
set_option linter.unusedVariables false
set_option linter.unusedSimpArgs false
variable {H : Type} {enc : TypeId × Value → H} {w : World} {base : Nat} {sp : Nat → Bool} {held : Bool}
/-- What it reads as. -/
def putD (m : Pt) : DataW H := .agg [.lit (.int .u64 m.pa), .lit (.int .u32 m.w)]
structure PtWf (m : Pt) : Prop where
  pa : (Lit.int .u64 m.pa).wf = true
  w : (Lit.int .u32 m.w).wf = true
set_option maxRecDepth 100000 in
theorem shut_put {m : Pt} (h : PtWf m) : DataW.Trod enc Tryd.prog w base sp held 28 (.agg #[.int .u64 m.pa, .int .u32 m.w]) (putD m) [] := by
  obtain ⟨h0, h1⟩ := h
  exact ⟨2, by simp [DataW.trod, Value.cells, Tryd.underlying28, Tryd.underlying24, Tryd.underlying23, cells_put, cells_int, cells_bool, cells_u32, cells_u64, h0, h1, putD]⟩
set_option maxRecDepth 100000 in
theorem open_put {r : Reach} {b0 : Nat} {v : Value} {d : DataW H} {ps : List MemPlace} (hv : Value.okWide Tryd.prog w r b0 28 v) (h : DataW.Trod enc Tryd.prog w base sp held 28 v d ps) :
    ∃ m : Pt, v = .agg #[.int .u64 m.pa, .int .u32 m.w] ∧ d = putD m ∧ ps = [] ∧ PtWf m := by
  obtain ⟨cs, rfl, hsz⟩ := okWide_struct Tryd.underlying28 hv
  obtain ⟨v0, v1, rfl⟩ : ∃ v0 v1, cs = #[v0, v1] := by
    obtain ⟨l⟩ := cs
    match l, hsz.trans cells_put with
    | [v0, v1], _ => exact ⟨v0, v1, rfl⟩
  obtain ⟨fuel, hf⟩ := h
  obtain ⟨xs, n, _, hx, _, hlen, hq⟩ := DataW.trod_struct Tryd.underlying28 hf
  obtain ⟨y0, y1, rfl⟩ : ∃ y0 y1, xs = [y0, y1] := by
    match xs, hlen with
    | [y0, y1], _ => exact ⟨y0, y1, rfl⟩
  have h0 : DataW.trod enc Tryd.prog w base sp held n 23 [v0] = some y0 := by simpa [Value.cells, cells_u64] using hq 0 _ rfl
  have h1 : DataW.trod enc Tryd.prog w base sp held n 24 [v1] = some y1 := by simpa [Value.cells, cells_u32] using hq 1 _ rfl
  obtain ⟨i0, e0, r0, w0⟩ := DataW.trod_int Tryd.underlying23 h0
  obtain ⟨i1, e1, r1, w1⟩ := DataW.trod_int Tryd.underlying24 h1
  simp only [List.cons.injEq, and_true] at e0 e1
  subst e0 e1 r0 r1
  obtain ⟨hd, hp⟩ := Prod.mk.inj hx
  exact ⟨⟨i0, i1⟩, rfl, hd, hp, ⟨w0, w1⟩⟩
theorem PtWf.ok {q : Pt} (h : PtWf q) : (0 ≤ q.pa ∧ q.pa < 18446744073709551616) ∧ 0 ≤ q.w ∧ q.w < 4294967296 := by
  have h1 := bounds_u64 h.pa
  have h2 := bounds_u32 h.w
  exact ⟨by omega, by omega⟩
end Go.Proofs.YtmodcbdgnmjkoaaDoor
