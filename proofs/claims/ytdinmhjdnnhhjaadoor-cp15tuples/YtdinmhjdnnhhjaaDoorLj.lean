import Derived.Test.YtdinmhjdnnhhjaaDoorLk
import Derived.Test.YtdinmhjdnnhhjaaDoorOf
namespace Go.Proofs.YtdinmhjdnnhhjaaDoor
open Go.RowKit
set_option linter.unusedVariables false
set_option linter.unusedSimpArgs false
/-- A call of the script, where it lies in a later world. -/
theorem Scr.at {W wr : World} {a : Option Addr} {ops : List Opr} (h : Scr W a ops) (hb : Below W.heap.size W wr) {k : Nat} (hk : k < ops.length) :
    ∃ (o : Opr) (b off : Nat), a = some ⟨b, off, none⟩ ∧ b < W.heap.size ∧ o.w < 4294967296 ∧ wr.cell? ⟨b, off + k * 8, none⟩ = some (.int .i64 o.k) ∧ wr.cell? ⟨b, off + k * 8 + 1, none⟩ = some (.int .i64 o.t.a) ∧ wr.cell? ⟨b, off + k * 8 + 2, none⟩ = some (.int .i64 o.t.b) ∧ wr.cell? ⟨b, off + k * 8 + 3, none⟩ = some (.int .i64 o.t.c) ∧ wr.cell? ⟨b, off + k * 8 + 4, none⟩ = some (.int .i64 o.t.d) ∧ wr.cell? ⟨b, off + k * 8 + 5, none⟩ = some (.bool o.priv) ∧ wr.cell? ⟨b, off + k * 8 + 6, none⟩ = some (.int .u32 (o.w : Nat)) ∧ wr.cell? ⟨b, off + k * 8 + 7, none⟩ = some (.int .i64 o.reg) := by
  obtain ⟨o, ho⟩ : ∃ o, ops[k]? = some o := ⟨_, List.getElem?_eq_getElem hk⟩
  obtain ⟨b, off, e1, e2, e3⟩ := h.lies k o ho
  have c : ∀ j v, ([.int .i64 o.k, .int .i64 o.t.a, .int .i64 o.t.b, .int .i64 o.t.c, .int .i64 o.t.d, .bool o.priv, .int .u32 (o.w : Nat), .int .i64 o.reg])[j]? = some v → wr.cell? ⟨b, off + k * 8 + j, none⟩ = some v := fun j v hv => (hb.cell (p := ⟨b, off + k * 8 + j, none⟩) e2).trans (e3 j v hv)
  exact ⟨o, b, off, e1, e2, h.oks o (List.mem_of_getElem? ho), c 0 _ rfl, c 1 _ rfl, c 2 _ rfl, c 3 _ rfl, c 4 _ rfl, c 5 _ rfl, c 6 _ rfl, c 7 _ rfl⟩
/-- What has been put into the second file. -/
def Put2 (F G : List Nat) (m : Nat) : Prop := ∀ j, m ≤ j → cxR j → G.getD j 0 = F.getD j 0
theorem Put2.step {F G : List Nat} {m : Nat} (h : Put2 F G (m + 1)) (hK : Kp F) (hG : G.length = 13) (hm : m < 13) (v : Nat) (hv : cxR m → v = F.getD m 0) : Put2 F (G.set m (keepW m v)) m := by
  intro j hj hc
  rw [getD_set G m j _ hG hm]
  split
  · rename_i e
    subst e
    rw [hv hc]
    exact hK m hm
  · exact h j (by omega) hc
end Go.Proofs.YtdinmhjdnnhhjaaDoor
