import Derived.Test.YtmodcbdgnmjkoabDoorTp
namespace Go.Proofs.YtmodcbdgnmjkoabDoor
open Go.RowKit
set_option linter.unusedVariables false
theorem below_new (w : World) (o : Obj) : Below w.heap.size w (w.alloc o) := (Below.refl _ _).alloc (Nat.le_refl _) o
/-- A fault. -/
structure Fa where
  k : Int
  l : Int
  d : Int
def fZ : Fa := ⟨0, 0, 0⟩
def Fa.same (a b : Fa) : Bool := a.k == b.k && (a.l == b.l && a.d == b.d)
theorem Fa.same_iff (a b : Fa) : a.same b = true ↔ a = b := by
  obtain ⟨a1, a2, a3⟩ := a
  obtain ⟨b1, b2, b3⟩ := b
  simp [Fa.same]
theorem Fa.same_self (a : Fa) : a.same a = true := (Fa.same_iff a a).2 rfl
/-- A context. -/
structure Ctx where
  on : Bool
  tre : Bool
  afe : Bool
  n : Int
  pd0 : Bool
  pd1 : Bool
  b0 : Int
  b1 : Int
  dacr : Int
  prrr : Int
  nmrr : Int
  asid : Int
end Go.Proofs.YtmodcbdgnmjkoabDoor
