import Derived.Test.YtmmocnejacflmabDoorIt
namespace Go.Proofs.YtmmocnejacflmabDoor
open Go.RowKit
set_option linter.unusedVariables false
set_option linter.unusedSimpArgs false
/-- What the faults' texts begin with. -/
def lTx : List ByteArray := [⟨#[110, 111, 110, 101]⟩, ⟨#[97, 108, 105, 103, 110, 109, 101, 110, 116]⟩, ⟨#[119, 97, 108, 107, 32, 49]⟩, ⟨#[116, 114, 97, 110, 115, 108, 97, 116, 105, 111, 110, 32, 49]⟩, ⟨#[119, 97, 108, 107, 32, 50]⟩, ⟨#[116, 114, 97, 110, 115, 108, 97, 116, 105, 111, 110, 32, 50]⟩, ⟨#[99, 111, 110, 102, 108, 105, 99, 116]⟩, ⟨#[97, 99, 99, 101, 115, 115]⟩, ⟨#[100, 111, 109, 97, 105, 110]⟩, ⟨#[112, 101, 114, 109, 105, 115, 115, 105, 111, 110]⟩, ⟨#[98, 117, 115]⟩]
/-- The tables that a text needs. -/
structure TX (w : World) : Prop where
  f : TF w
  t : ∀ i v, lTx[i]? = some v → w.cell? ⟨0, i, none⟩ = some (.string v)
theorem TX.below {w w' : World} (h : TX w) (hb : Below w.heap.size w w') : TX w' := ⟨h.f.below hb, fun i v hv => (hb.cell (cell_lt (h.t i v hv))).trans (h.t i v hv)⟩
/-- A right fault's text. -/
def txR (k l d : Int) : ByteArray :=
  let a := lTx.getD k.toNat ⟨#[]⟩
  let b := if 0 < l then a ++ ((⟨#[32]⟩ : ByteArray) ++ itS l) else a
  if (foF k).dm then b ++ ((⟨#[32, 100, 111, 109, 97, 105, 110, 32]⟩ : ByteArray) ++ itS d) else b
def txF (f : Fa) : ByteArray := if f.same fZ then ⟨#[110, 111, 110, 101]⟩ else if rtF f then txR f.k f.l f.d else ⟨#[]⟩
theorem itS_size (d : Int) (h : 0 ≤ d ∧ d < 16) : (itS d).size ≤ 2 := by
  rcases (show d = 0 ∨ d = 1 ∨ d = 2 ∨ d = 3 ∨ d = 4 ∨ d = 5 ∨ d = 6 ∨ d = 7 ∨ d = 8 ∨ d = 9 ∨ d = 10 ∨ d = 11 ∨ d = 12 ∨ d = 13 ∨ d = 14 ∨ d = 15 by omega) with rfl | rfl | rfl | rfl | rfl | rfl | rfl | rfl | rfl | rfl | rfl | rfl | rfl | rfl | rfl | rfl <;> decide
end Go.Proofs.YtmmocnejacflmabDoor
