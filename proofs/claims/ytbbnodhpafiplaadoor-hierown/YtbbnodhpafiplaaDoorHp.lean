import Derived.Test.YtbbnodhpafiplaaDoorBp
namespace Go.Proofs.YtbbnodhpafiplaaDoor
open Go.RowKit
set_option linter.unusedVariables false
set_option linter.unusedSimpArgs false
/-- A call. -/
structure Opr where
  kind : Int
  asid : Int
  pick : Int
  which : Int
  va : Int
  fetch : Bool
  mfirst : Bool
  b : Blo
  d : Dro
/-- A call's numbers are such as they can be. -/
structure OOk (o : Opr) : Prop where
  va : 0 ≤ o.va ∧ o.va < 4294967296
  b : BOk o.b
  dva : 0 ≤ o.d.va ∧ o.d.va < 4294967296
/-- Three TLBs' places. -/
structure Hi where
  i : List Slo
  d : List Slo
  m : List Slo
def Hi.sm (X : Hi) (f : Bool) : List Slo := if f = true then X.i else X.d
def Hi.setS (X : Hi) (f : Bool) (L : List Slo) : Hi := if f = true then ⟨L, X.d, X.m⟩ else ⟨X.i, L, X.m⟩
/-- A block goes where none matches. -/
def filF (L : List Slo) (b : Blo) (va asid pick : Int) : List Slo := if (lkF L va asid).2 = 0 then (puF L b pick).2 else L
/-- Find. -/
def fiC (X : Hi) (va asid : Int) (f mf : Bool) : Bool := if mf = true then decide (0 < (lkF X.m va asid).2) else decide ((lkF (X.sm f) va asid).2 = 0)
def fiF (X : Hi) (va asid : Int) (f : Bool) (pick : Int) (mf : Bool) : (Blo × Nat) × Hi :=
  if fiC X va asid f mf = true then (((lkF X.m va asid).1, min (lkF X.m va asid).2 2), if (lkF X.m va asid).2 = 1 ∧ (lkF (X.sm f) va asid).2 = 0 then X.setS f (puF (X.sm f) (lkF X.m va asid).1 pick).2 else X)
  else (((lkF (X.sm f) va asid).1, min (lkF (X.sm f) va asid).2 2), X)
/-- Keep. -/
def keF (X : Hi) (b : Blo) (va asid : Int) (f : Bool) (pick : Int) : Int × Hi :=
  if ovF b va asid = true then (0, (⟨X.i, X.d, filF X.m b va asid pick⟩ : Hi).setS f (filF (X.sm f) b va asid pick)) else (101, X)
/-- Evict. -/
def evH (X : Hi) (which i : Int) : Bool × Hi :=
  if which = 1 then ((evF X.i i).1, ⟨(evF X.i i).2, X.d, X.m⟩)
  else if which = 2 then ((evF X.d i).1, ⟨X.i, (evF X.d i).2, X.m⟩)
  else if which = 3 then ((evF X.m i).1, ⟨X.i, X.d, (evF X.m i).2⟩)
  else (false, X)
/-- Drop. -/
def drH (X : Hi) (d : Dro) : Nat × Hi := ((flF X.i d).1 + (flF X.d d).1 + (flF X.m d).1, ⟨(flF X.i d).2, (flF X.d d).2, (flF X.m d).2⟩)
/-- Places. -/
def plH (X : Hi) (which : Int) : List Slo := if which = 1 then X.i else if which = 2 then X.d else if which = 3 then X.m else []
/-- What a call leaves. -/
def stF (X : Hi) (o : Opr) : Hi :=
  if o.kind = 1 then (fiF X o.va o.asid o.fetch o.pick o.mfirst).2
  else if o.kind = 2 then (keF X o.b o.va o.asid o.fetch o.pick).2
  else if o.kind = 3 then (evH X o.which o.pick).2
  else if o.kind = 4 then (drH X o.d).2
  else X
end Go.Proofs.YtbbnodhpafiplaaDoor
