import Derived.Test.YtfdjfhhjfgdbaaaGreatDoorCi
namespace Go.Proofs.YtfdjfhhjfgdbaaaGreatDoor
open Go.RowKit
set_option linter.unusedVariables false
set_option linter.unusedSimpArgs false
/-- A call. -/
structure Opr where
  kind : Int
  asid : Int
  pick : Int
  which : Int
  va : Int
  fetch : Bool
  mfirst : Bool
  b : Blo
  d : Dro
/-- A call's numbers are such as they can be. -/
structure OOk (o : Opr) : Prop where
  va : 0 ≤ o.va ∧ o.va < 4294967296
  b : BOk o.b
  dva : 0 ≤ o.d.va ∧ o.d.va < 4294967296
/-- Three TLBs' places. -/
structure Hi where
  i : List Slo
  d : List Slo
  m : List Slo
def Hi.sm (X : Hi) (f : Bool) : List Slo := if f = true then X.i else X.d
def Hi.setS (X : Hi) (f : Bool) (L : List Slo) : Hi := if f = true then ⟨L, X.d, X.m⟩ else ⟨X.i, L, X.m⟩
/-- A block goes where none matches. -/
def filF (L : List Slo) (b : Blo) (va asid pick : Int) : List Slo := if (lkF L va asid).2 = 0 then (puF L b pick).2 else L
/-- Find. -/
def fiC (X : Hi) (va asid : Int) (f mf : Bool) : Bool := if mf = true then decide (0 < (lkF X.m va asid).2) else decide ((lkF (X.sm f) va asid).2 = 0)
def fiF (X : Hi) (va asid : Int) (f : Bool) (pick : Int) (mf : Bool) : (Blo × Nat) × Hi :=
  if fiC X va asid f mf = true then (((lkF X.m va asid).1, min (lkF X.m va asid).2 2), if (lkF X.m va asid).2 = 1 ∧ (lkF (X.sm f) va asid).2 = 0 then X.setS f (puF (X.sm f) (lkF X.m va asid).1 pick).2 else X)
  else (((lkF (X.sm f) va asid).1, min (lkF (X.sm f) va asid).2 2), X)
/-- Keep. -/
def keF (X : Hi) (b : Blo) (va asid : Int) (f : Bool) (pick : Int) : Int × Hi :=
  if ovF b va asid = true then (0, (⟨X.i, X.d, filF X.m b va asid pick⟩ : Hi).setS f (filF (X.sm f) b va asid pick)) else (101, X)
/-- Evict. -/
def evH (X : Hi) (which i : Int) : Bool × Hi :=
  if which = 1 then ((evF X.i i).1, ⟨(evF X.i i).2, X.d, X.m⟩)
  else if which = 2 then ((evF X.d i).1, ⟨X.i, (evF X.d i).2, X.m⟩)
  else if which = 3 then ((evF X.m i).1, ⟨X.i, X.d, (evF X.m i).2⟩)
  else (false, X)
/-- Drop. -/
def drH (X : Hi) (d : Dro) : Nat × Hi := ((flF X.i d).1 + (flF X.d d).1 + (flF X.m d).1, ⟨(flF X.i d).2, (flF X.d d).2, (flF X.m d).2⟩)
/-- Places. -/
def plH (X : Hi) (which : Int) : List Slo := if which = 1 then X.i else if which = 2 then X.d else if which = 3 then X.m else []
/-- What a call leaves. -/
def stF (X : Hi) (o : Opr) : Hi :=
  if o.kind = 1 then (fiF X o.va o.asid o.fetch o.pick o.mfirst).2
  else if o.kind = 2 then (keF X o.b o.va o.asid o.fetch o.pick).2
  else if o.kind = 3 then (evH X o.which o.pick).2
  else if o.kind = 4 then (drH X o.d).2
  else X
/-- Where three TLBs lie. -/
structure Ad where
  h : Nat
  pi : Nat
  gi : Nat
  pd : Nat
  gd : Nat
  pm : Nat
  gm : Nat
def Ad.S (A : Ad) (x : Nat) : Prop := x = A.gi ∨ x = A.gd ∨ x = A.gm
/-- Three TLBs: of the program's types, or the reference's. -/
structure PH (TH T : TypeId) (z : List Value) (w : World) (A : Ad) (X : Hi) : Prop where
  box : Bl w A.h TH (z ++ [.pointer (some ⟨A.pi, 0, none⟩), .pointer (some ⟨A.pd, 0, none⟩), .pointer (some ⟨A.pm, 0, none⟩)])
  ti : PT T w A.pi A.gi X.i
  td : PT T w A.pd A.gd X.d
  tm : PT T w A.pm A.gm X.m
  n1 : A.gi ≠ A.gd
  n2 : A.gi ≠ A.gm
  n3 : A.gd ≠ A.gm
  ne : TH ≠ 116
section
variable {TH T : TypeId} {z : List Value} {w w' : World} {A : Ad} {X : Hi} {L : List Slo} {S : Nat → Prop}
theorem PH.below (h : PH TH T z w A X) (hb : Below w.heap.size w w') : PH TH T z w' A X := ⟨h.box.below hb, h.ti.below hb, h.td.below hb, h.tm.below hb, h.n1, h.n2, h.n3, h.ne⟩
theorem PH.drew (h : PH TH T z w A X) : PH TH T z w.drew A X := ⟨h.box, h.ti.drew, h.td.drew, h.tm.drew, h.n1, h.n2, h.n3, h.ne⟩
theorem PH.drewN (h : PH TH T z w A X) (q : Nat) : PH TH T z (w.drewN q) A X := ⟨h.box, h.ti.drewN q, h.td.drewN q, h.tm.drewN q, h.n1, h.n2, h.n3, h.ne⟩
/-- What turns other rows of places leaves all three. -/
theorem PH.turn (h : PH TH T z w A X) (hT : Turn S w w') (hS : ∀ x, S x → ¬ A.S x) (hr : ∀ x, S x → ∃ c, Bl w x 116 c) : PH TH T z w' A X := by
  have f : ∀ {p : Nat} {t : TypeId} {c : List Value}, Bl w p t c → t ≠ 116 → ¬ S p := fun hp ht hs => by
    obtain ⟨c, hc⟩ := hr _ hs
    exact hp.ne hc ht rfl
  have g1 : ¬ S A.gi := fun hs => hS _ hs (.inl rfl)
  have g2 : ¬ S A.gd := fun hs => hS _ hs (.inr (.inl rfl))
  have g3 : ¬ S A.gm := fun hs => hS _ hs (.inr (.inr rfl))
  exact ⟨h.box.turn hT (f h.box h.ne), h.ti.turn hT (f h.ti.box h.ti.ne) g1, h.td.turn hT (f h.td.box h.td.ne) g2, h.tm.turn hT (f h.tm.box h.tm.ne) g3, h.n1, h.n2, h.n3, h.ne⟩
theorem PH.setI (h : PH TH T z w A X) (hp : PT T w' A.pi A.gi L) (hT : Turn (· = A.gi) w w') : PH TH T z w' A ⟨L, X.d, X.m⟩ :=
  ⟨h.box.turn hT (h.box.ne h.ti.row h.ne), hp, h.td.turn hT (h.td.box.ne h.ti.row h.td.ne) (fun e => h.n1 e.symm), h.tm.turn hT (h.tm.box.ne h.ti.row h.tm.ne) (fun e => h.n2 e.symm), h.n1, h.n2, h.n3, h.ne⟩
theorem PH.setD (h : PH TH T z w A X) (hp : PT T w' A.pd A.gd L) (hT : Turn (· = A.gd) w w') : PH TH T z w' A ⟨X.i, L, X.m⟩ :=
  ⟨h.box.turn hT (h.box.ne h.td.row h.ne), h.ti.turn hT (h.ti.box.ne h.td.row h.ti.ne) h.n1, hp, h.tm.turn hT (h.tm.box.ne h.td.row h.tm.ne) (fun e => h.n3 e.symm), h.n1, h.n2, h.n3, h.ne⟩
theorem PH.setM (h : PH TH T z w A X) (hp : PT T w' A.pm A.gm L) (hT : Turn (· = A.gm) w w') : PH TH T z w' A ⟨X.i, X.d, L⟩ :=
  ⟨h.box.turn hT (h.box.ne h.tm.row h.ne), h.ti.turn hT (h.ti.box.ne h.tm.row h.ti.ne) h.n2, h.td.turn hT (h.td.box.ne h.tm.row h.td.ne) h.n3, hp, h.n1, h.n2, h.n3, h.ne⟩
theorem PH.row (h : PH TH T z w A X) : ∀ x, A.S x → ∃ c, Bl w x 116 c := fun x hx => by
  rcases hx with rfl | rfl | rfl
  · exact ⟨_, h.ti.row⟩
  · exact ⟨_, h.td.row⟩
  · exact ⟨_, h.tm.row⟩
theorem PH.noTab (h : PH TH T z w A X) : ∀ x, A.S x → NoTab w x := fun x hx => by
  rcases hx with rfl | rfl | rfl
  · exact h.ti.noTab
  · exact h.td.noTab
  · exact h.tm.noTab
theorem PH.lt (h : PH TH T z w A X) : ∀ x, A.S x → x < w.heap.size := fun x hx => by
  obtain ⟨c, hc⟩ := h.row x hx
  exact hc.lt
theorem PH.lenS (h : PH TH T z w A X) (f : Bool) : (X.sm f).length ≤ 64 := by
  cases f
  · exact h.td.hi
  · exact h.ti.hi
end
theorem turn_setB (w : World) (B : Nat) (c : Blo) : Turn (· = B) w (((((((((w.setCell ⟨B, 0, none⟩ (.int .i64 c.asid)).setCell ⟨B, 1, none⟩ (.int .i64 c.t.size)).setCell ⟨B, 2, none⟩ (.int .u32 c.t.va)).setCell ⟨B, 3, none⟩ (.int .u64 c.t.pa)).setCell ⟨B, 4, none⟩ (.int .i64 c.t.dom)).setCell ⟨B, 5, none⟩ (.int .i64 c.t.ap)).setCell ⟨B, 6, none⟩ (.int .u32 c.t.bits)).setCell ⟨B, 7, none⟩ (.bool c.t.ng)).setCell ⟨B, 8, none⟩ (.bool c.t.xn)) := (((((((((Turn.refl (fun x => x = B) w).setCell (p := ⟨B, 0, none⟩) (.inl rfl) _).setCell (p := ⟨B, 1, none⟩) (.inl rfl) _).setCell (p := ⟨B, 2, none⟩) (.inl rfl) _).setCell (p := ⟨B, 3, none⟩) (.inl rfl) _).setCell (p := ⟨B, 4, none⟩) (.inl rfl) _).setCell (p := ⟨B, 5, none⟩) (.inl rfl) _).setCell (p := ⟨B, 6, none⟩) (.inl rfl) _).setCell (p := ⟨B, 7, none⟩) (.inl rfl) _).setCell (p := ⟨B, 8, none⟩) (.inl rfl) _
theorem bl_setB {w : World} {B : Nat} {b : Blo} (h : Bl w B 114 ([.int .i64 b.asid, .int .i64 b.t.size, .int .u32 b.t.va, .int .u64 b.t.pa, .int .i64 b.t.dom, .int .i64 b.t.ap, .int .u32 b.t.bits, .bool b.t.ng, .bool b.t.xn])) (c : Blo) : Bl (((((((((w.setCell ⟨B, 0, none⟩ (.int .i64 c.asid)).setCell ⟨B, 1, none⟩ (.int .i64 c.t.size)).setCell ⟨B, 2, none⟩ (.int .u32 c.t.va)).setCell ⟨B, 3, none⟩ (.int .u64 c.t.pa)).setCell ⟨B, 4, none⟩ (.int .i64 c.t.dom)).setCell ⟨B, 5, none⟩ (.int .i64 c.t.ap)).setCell ⟨B, 6, none⟩ (.int .u32 c.t.bits)).setCell ⟨B, 7, none⟩ (.bool c.t.ng)).setCell ⟨B, 8, none⟩ (.bool c.t.xn)) B 114 ([.int .i64 c.asid, .int .i64 c.t.size, .int .u32 c.t.va, .int .u64 c.t.pa, .int .i64 c.t.dom, .int .i64 c.t.ap, .int .u32 c.t.bits, .bool c.t.ng, .bool c.t.xn]) :=
  (((((((((h.set 0 (.int .i64 c.asid)).set 1 (.int .i64 c.t.size)).set 2 (.int .u32 c.t.va)).set 3 (.int .u64 c.t.pa)).set 4 (.int .i64 c.t.dom)).set 5 (.int .i64 c.t.ap)).set 6 (.int .u32 c.t.bits)).set 7 (.bool c.t.ng)).set 8 (.bool c.t.xn))
end Go.Proofs.YtfdjfhhjfgdbaaaGreatDoor
