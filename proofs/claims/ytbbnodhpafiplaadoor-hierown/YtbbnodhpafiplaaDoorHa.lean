import Derived.Test.YtbbnodhpafiplaaDoorHp
import Derived.Test.YtbbnodhpafiplaaDoorCi
import Derived.Test.YtbbnodhpafiplaaDoorUd
namespace Go.Proofs.YtbbnodhpafiplaaDoor
open Go.RowKit
set_option linter.unusedVariables false
set_option linter.unusedSimpArgs false
/-- Where three TLBs lie. -/
structure Ad where
  h : Nat
  pi : Nat
  gi : Nat
  pd : Nat
  gd : Nat
  pm : Nat
  gm : Nat
def Ad.S (A : Ad) (x : Nat) : Prop := x = A.gi ∨ x = A.gd ∨ x = A.gm
/-- Three TLBs: of the program's types, or the reference's. -/
structure PH (TH T : TypeId) (z : List Value) (w : World) (A : Ad) (X : Hi) : Prop where
  box : Bl w A.h TH (z ++ [.pointer (some ⟨A.pi, 0, none⟩), .pointer (some ⟨A.pd, 0, none⟩), .pointer (some ⟨A.pm, 0, none⟩)])
  ti : PT T w A.pi A.gi X.i
  td : PT T w A.pd A.gd X.d
  tm : PT T w A.pm A.gm X.m
  n1 : A.gi ≠ A.gd
  n2 : A.gi ≠ A.gm
  n3 : A.gd ≠ A.gm
  ne : TH ≠ 57
section
variable {TH T : TypeId} {z : List Value} {w w' : World} {A : Ad} {X : Hi} {L : List Slo} {S : Nat → Prop}
theorem PH.below (h : PH TH T z w A X) (hb : Below w.heap.size w w') : PH TH T z w' A X := ⟨h.box.below hb, h.ti.below hb, h.td.below hb, h.tm.below hb, h.n1, h.n2, h.n3, h.ne⟩
theorem PH.drew (h : PH TH T z w A X) : PH TH T z w.drew A X := ⟨h.box, h.ti.drew, h.td.drew, h.tm.drew, h.n1, h.n2, h.n3, h.ne⟩
theorem PH.drewN (h : PH TH T z w A X) (q : Nat) : PH TH T z (w.drewN q) A X := ⟨h.box, h.ti.drewN q, h.td.drewN q, h.tm.drewN q, h.n1, h.n2, h.n3, h.ne⟩
/-- What turns other rows of places leaves all three. -/
theorem PH.turn (h : PH TH T z w A X) (hT : Turn S w w') (hS : ∀ x, S x → ¬ A.S x) (hr : ∀ x, S x → ∃ c, Bl w x 57 c) : PH TH T z w' A X := by
  have f : ∀ {p : Nat} {t : TypeId} {c : List Value}, Bl w p t c → t ≠ 57 → ¬ S p := fun hp ht hs => by
    obtain ⟨c, hc⟩ := hr _ hs
    exact hp.ne hc ht rfl
  have g1 : ¬ S A.gi := fun hs => hS _ hs (.inl rfl)
  have g2 : ¬ S A.gd := fun hs => hS _ hs (.inr (.inl rfl))
  have g3 : ¬ S A.gm := fun hs => hS _ hs (.inr (.inr rfl))
  exact ⟨h.box.turn hT (f h.box h.ne), h.ti.turn hT (f h.ti.box h.ti.ne) g1, h.td.turn hT (f h.td.box h.td.ne) g2, h.tm.turn hT (f h.tm.box h.tm.ne) g3, h.n1, h.n2, h.n3, h.ne⟩
theorem PH.setI (h : PH TH T z w A X) (hp : PT T w' A.pi A.gi L) (hT : Turn (· = A.gi) w w') : PH TH T z w' A ⟨L, X.d, X.m⟩ :=
  ⟨h.box.turn hT (h.box.ne h.ti.row h.ne), hp, h.td.turn hT (h.td.box.ne h.ti.row h.td.ne) (fun e => h.n1 e.symm), h.tm.turn hT (h.tm.box.ne h.ti.row h.tm.ne) (fun e => h.n2 e.symm), h.n1, h.n2, h.n3, h.ne⟩
theorem PH.setD (h : PH TH T z w A X) (hp : PT T w' A.pd A.gd L) (hT : Turn (· = A.gd) w w') : PH TH T z w' A ⟨X.i, L, X.m⟩ :=
  ⟨h.box.turn hT (h.box.ne h.td.row h.ne), h.ti.turn hT (h.ti.box.ne h.td.row h.ti.ne) h.n1, hp, h.tm.turn hT (h.tm.box.ne h.td.row h.tm.ne) (fun e => h.n3 e.symm), h.n1, h.n2, h.n3, h.ne⟩
theorem PH.setM (h : PH TH T z w A X) (hp : PT T w' A.pm A.gm L) (hT : Turn (· = A.gm) w w') : PH TH T z w' A ⟨X.i, X.d, L⟩ :=
  ⟨h.box.turn hT (h.box.ne h.tm.row h.ne), h.ti.turn hT (h.ti.box.ne h.tm.row h.ti.ne) h.n2, h.td.turn hT (h.td.box.ne h.tm.row h.td.ne) h.n3, hp, h.n1, h.n2, h.n3, h.ne⟩
theorem PH.row (h : PH TH T z w A X) : ∀ x, A.S x → ∃ c, Bl w x 57 c := fun x hx => by
  rcases hx with rfl | rfl | rfl
  · exact ⟨_, h.ti.row⟩
  · exact ⟨_, h.td.row⟩
  · exact ⟨_, h.tm.row⟩
theorem PH.noTab (h : PH TH T z w A X) : ∀ x, A.S x → NoTab w x := fun x hx => by
  rcases hx with rfl | rfl | rfl
  · exact h.ti.noTab
  · exact h.td.noTab
  · exact h.tm.noTab
theorem PH.tr (h : PH TH T z w A X) (ht : TR w) (hT : Turn A.S w w') : TR w' := ht.turn hT (fun x hx _ => h.noTab x hx)
theorem PH.lt (h : PH TH T z w A X) : ∀ x, A.S x → x < w.heap.size := fun x hx => by
  obtain ⟨c, hc⟩ := h.row x hx
  exact hc.lt
theorem PH.lenS (h : PH TH T z w A X) (f : Bool) : (X.sm f).length ≤ 64 := by
  cases f
  · exact h.td.hi
  · exact h.ti.hi
end
theorem turn_setB (w : World) (B : Nat) (c : Blo) : Turn (· = B) w (((((((((w.setCell ⟨B, 0, none⟩ (.int .i64 c.asid)).setCell ⟨B, 1, none⟩ (.int .i64 c.t.size)).setCell ⟨B, 2, none⟩ (.int .u32 c.t.va)).setCell ⟨B, 3, none⟩ (.int .u64 c.t.pa)).setCell ⟨B, 4, none⟩ (.int .i64 c.t.dom)).setCell ⟨B, 5, none⟩ (.int .i64 c.t.ap)).setCell ⟨B, 6, none⟩ (.int .u32 c.t.bits)).setCell ⟨B, 7, none⟩ (.bool c.t.ng)).setCell ⟨B, 8, none⟩ (.bool c.t.xn)) := (((((((((Turn.refl (fun x => x = B) w).setCell (p := ⟨B, 0, none⟩) (.inl rfl) _).setCell (p := ⟨B, 1, none⟩) (.inl rfl) _).setCell (p := ⟨B, 2, none⟩) (.inl rfl) _).setCell (p := ⟨B, 3, none⟩) (.inl rfl) _).setCell (p := ⟨B, 4, none⟩) (.inl rfl) _).setCell (p := ⟨B, 5, none⟩) (.inl rfl) _).setCell (p := ⟨B, 6, none⟩) (.inl rfl) _).setCell (p := ⟨B, 7, none⟩) (.inl rfl) _).setCell (p := ⟨B, 8, none⟩) (.inl rfl) _
theorem bl_setB {w : World} {B : Nat} {b : Blo} (h : Bl w B 38 ([.int .i64 b.asid, .int .i64 b.t.size, .int .u32 b.t.va, .int .u64 b.t.pa, .int .i64 b.t.dom, .int .i64 b.t.ap, .int .u32 b.t.bits, .bool b.t.ng, .bool b.t.xn])) (c : Blo) : Bl (((((((((w.setCell ⟨B, 0, none⟩ (.int .i64 c.asid)).setCell ⟨B, 1, none⟩ (.int .i64 c.t.size)).setCell ⟨B, 2, none⟩ (.int .u32 c.t.va)).setCell ⟨B, 3, none⟩ (.int .u64 c.t.pa)).setCell ⟨B, 4, none⟩ (.int .i64 c.t.dom)).setCell ⟨B, 5, none⟩ (.int .i64 c.t.ap)).setCell ⟨B, 6, none⟩ (.int .u32 c.t.bits)).setCell ⟨B, 7, none⟩ (.bool c.t.ng)).setCell ⟨B, 8, none⟩ (.bool c.t.xn)) B 38 ([.int .i64 c.asid, .int .i64 c.t.size, .int .u32 c.t.va, .int .u64 c.t.pa, .int .i64 c.t.dom, .int .i64 c.t.ap, .int .u32 c.t.bits, .bool c.t.ng, .bool c.t.xn]) :=
  (((((((((h.set 0 (.int .i64 c.asid)).set 1 (.int .i64 c.t.size)).set 2 (.int .u32 c.t.va)).set 3 (.int .u64 c.t.pa)).set 4 (.int .i64 c.t.dom)).set 5 (.int .i64 c.t.ap)).set 6 (.int .u32 c.t.bits)).set 7 (.bool c.t.ng)).set 8 (.bool c.t.xn))
theorem TR.setB {w : World} (h : TR w) {B : Nat} {b : Blo} {W : World} (hb : Below W.heap.size W w) (hW : TR W) (hB : W.heap.size ≤ B) (c : Blo) : TR (((((((((w.setCell ⟨B, 0, none⟩ (.int .i64 c.asid)).setCell ⟨B, 1, none⟩ (.int .i64 c.t.size)).setCell ⟨B, 2, none⟩ (.int .u32 c.t.va)).setCell ⟨B, 3, none⟩ (.int .u64 c.t.pa)).setCell ⟨B, 4, none⟩ (.int .i64 c.t.dom)).setCell ⟨B, 5, none⟩ (.int .i64 c.t.ap)).setCell ⟨B, 6, none⟩ (.int .u32 c.t.bits)).setCell ⟨B, 7, none⟩ (.bool c.t.ng)).setCell ⟨B, 8, none⟩ (.bool c.t.xn)) :=
  hW.below (((Turn.below (S := (· = B)) hb).trans (turn_setB w B c) (fun x hx => .inl hx)).to (fun x hx => by rw [hx]; exact hB) (Nat.le_refl _))
/-- The tables stay where rows of places turn. -/
theorem TR.rows {S : Nat → Prop} {w w' : World} (h : TR w) (hT : Turn S w w') (hS : ∀ x, S x → x < w.heap.size → NoTab w x) : TR w' := h.turn hT hS
end Go.Proofs.YtbbnodhpafiplaaDoor
