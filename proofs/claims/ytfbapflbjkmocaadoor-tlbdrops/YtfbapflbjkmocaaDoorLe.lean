import Derived.Test.YtfbapflbjkmocaaDoorLd1
import Derived.Test.YtfbapflbjkmocaaDoorLd2
import Derived.Test.YtfbapflbjkmocaaDoorLd3
namespace Go.Proofs.YtfbapflbjkmocaaDoor
open Go.RowKit
set_option linter.unusedVariables false
set_option linter.unusedSimpArgs false
theorem law_drops (W : World) (b : Blo) (va asid off : Int) (ht : TR W) (hO : BOk b) (hv : 0 ≤ va ∧ va < 4294967296) (ho : 0 ≤ off ∧ off < 4294967296) :
    Calls Tryd.prog 3 #[.agg #[.int .i64 b.asid, .int .i64 b.t.size, .int .u32 b.t.va, .int .u64 b.t.pa, .int .i64 b.t.dom, .int .i64 b.t.ap, .int .u32 b.t.bits, .bool b.t.ng, .bool b.t.xn], .int .u32 va, .int .i64 asid, .int .u32 off] W fun e w' => e = .returned (.bool true) ∧ Below W.heap.size W w' := by
  cases hr : bR b
  · exact drops_no W b va asid off ht hO hv hr
  · have hq := as_of hr
    obtain ⟨aid, sz, v0, pa, dm, ap, bi, ng, xn⟩ := b
    dsimp only at hq
    have h24 : (asF asid && maF ⟨aid, sz, v0, pa, dm, ap, bi, ng, xn⟩ va asid) = true → liF ⟨aid, sz, v0, pa, dm, ap, bi, ng, xn⟩ va = true := fun h => by
      simp [maF] at h
      exact h.2.1
    have h3 : (asF asid && (aid == asid)) = true → ¬ aid = -1 ∧ aid = asid := fun h => by
      simp [asF] at h
      omega
    cases hm2 : (asF asid && maF ⟨aid, sz, v0, pa, dm, ap, bi, ng, xn⟩ va asid)
    · cases hm4 : liF ⟨aid, sz, v0, pa, dm, ap, bi, ng, xn⟩ va
      · cases hm3 : (asF asid && (aid == asid))
        · rcases hq with hq | hq
          · subst hq; exact drops_1c W sz v0 pa dm ap bi ng xn va asid off ht hO hv ho hr hm2 hm4 hm3
          · exact drops_1b W aid sz v0 pa dm ap bi ng xn va asid off ht hO hv ho hr hq hm2 hm4 hm3
        · exact drops_1a W aid sz v0 pa dm ap bi ng xn va asid off ht hO hv ho hr (by rcases hq with hq | hq; exact absurd hq (h3 hm3).1; exact hq) hm2 hm4 hm3 (h3 hm3).2
      · cases hm3 : (asF asid && (aid == asid))
        · rcases hq with hq | hq
          · subst hq; exact drops_2c W sz v0 pa dm ap bi ng xn va asid off ht hO hv ho hr hm2 hm4 hm3
          · exact drops_2b W aid sz v0 pa dm ap bi ng xn va asid off ht hO hv ho hr hq hm2 hm4 hm3
        · exact drops_2a W aid sz v0 pa dm ap bi ng xn va asid off ht hO hv ho hr (by rcases hq with hq | hq; exact absurd hq (h3 hm3).1; exact hq) hm2 hm4 hm3 (h3 hm3).2
    · have hm4 := h24 hm2
      cases hm3 : (asF asid && (aid == asid))
      · rcases hq with hq | hq
        · subst hq; exact drops_3c W sz v0 pa dm ap bi ng xn va asid off ht hO hv ho hr hm2 hm4 hm3
        · exact drops_3b W aid sz v0 pa dm ap bi ng xn va asid off ht hO hv ho hr hq hm2 hm4 hm3
      · exact drops_3a W aid sz v0 pa dm ap bi ng xn va asid off ht hO hv ho hr (by rcases hq with hq | hq; exact absurd hq (h3 hm3).1; exact hq) hm2 hm4 hm3 (h3 hm3).2
end Go.Proofs.YtfbapflbjkmocaaDoor
