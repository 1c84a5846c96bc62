import Derived.Test.YtdinmhjdnnhhjaaDoorLq
import Derived.Test.YtdinmhjdnnhhjaaDoorRj
import Derived.Test.YtdinmhjdnnhhjaaDoorLc
namespace Go.Proofs.YtdinmhjdnnhhjaaDoor
open Go.RowKit
set_option linter.unusedVariables false
set_option linter.unusedSimpArgs false
/-- The program's file and the reference's, side by side. -/
structure Bx (w : World) (p q : Nat) (F : List Nat) : Prop where
  f : Fi 63 w p F
  g : Fi 77 w q F
  tr : TR w
theorem Bx.ne {w : World} {p q : Nat} {F : List Nat} (h : Bx w p q F) : p ≠ q := h.f.row.ne h.g.row (by decide)
theorem Bx.step {w w' : World} {p q : Nat} {F : List Nat} (h : Bx w p q F) (hb : Below w.heap.size w w') : Bx w' p q F := ⟨h.f.below hb, h.g.below hb, h.tr.below hb⟩
/-- Halfway: the program's has turned, the reference's not yet. -/
structure Hx2 (w : World) (p q : Nat) (F G : List Nat) : Prop where
  f : Fi 63 w p G
  g : Fi 77 w q F
  tr : TR w
theorem Bx.half {w w' : World} {p q : Nat} {F G : List Nat} (h : Bx w p q F) (hf : Fi 63 w' p G) (ht : Turn (· = p) w w') : Hx2 w' p q F G :=
  ⟨hf, h.g.turn ht (fun e => h.ne e.symm), h.tr.turn ht (fun e => (h.tr.ne h.f) e.symm)⟩
theorem Hx2.ne {w : World} {p q : Nat} {F G : List Nat} (h : Hx2 w p q F G) : p ≠ q := h.f.row.ne h.g.row (by decide)
theorem Hx2.step {w w' : World} {p q : Nat} {F G : List Nat} (h : Hx2 w p q F G) (hb : Below w.heap.size w w') : Hx2 w' p q F G := ⟨h.f.below hb, h.g.below hb, h.tr.below hb⟩
theorem Hx2.full {w w' : World} {p q : Nat} {F G : List Nat} (h : Hx2 w p q F G) (hf : Fi 77 w' q G) (ht : Turn (· = q) w w') : Bx w' p q G :=
  ⟨h.f.turn ht h.ne, hf, h.tr.turn ht (fun e => (h.tr.ne h.g) e.symm)⟩
def asF (F : List Nat) (o : Opr) : List Nat := if o.k = 2 then (wrF F o.t o.priv o.w).2.2 else if o.k = 4 then ptF F o.reg o.w else F
def PQ (p q x : Nat) : Prop := x = p ∨ x = q
theorem Turn.onP {w w' : World} {p q : Nat} (h : Turn (· = p) w w') : Turn (PQ p q) w w' := ⟨h.os, h.tape, h.output, h.size, fun k hk hn => h.block k hk (fun e => hn (.inl e))⟩
theorem Turn.onQ {w w' : World} {p q : Nat} (h : Turn (· = q) w w') : Turn (PQ p q) w w' := ⟨h.os, h.tape, h.output, h.size, fun k hk hn => h.block k hk (fun e => hn (.inr e))⟩
abbrev AskGoal (p q : Nat) (o : Opr) (F : List Nat) (w : World) : Prop :=
  Calls Tryd.prog 22 #[.pointer (some ⟨p, 0, none⟩), .pointer (some ⟨q, 0, none⟩), .agg #[.int .i64 o.k, .int .i64 o.t.a, .int .i64 o.t.b, .int .i64 o.t.c, .int .i64 o.t.d, .bool o.priv, .int .u32 (o.w : Nat), .int .i64 o.reg]] w fun e w' => e = .returned (.bool true) ∧ Bx w' p q (asF F o) ∧ Turn (PQ p q) w w'
set_option maxRecDepth 100000 in
set_option maxHeartbeats 4000000 in
theorem asked_1 (p q : Nat) (o : Opr) (F : List Nat) (w : World) (hB : Bx w p q F) (hk : o.k = 1) : AskGoal p q o F w := by
  have HB0 : Hid (Bx (w.alloc (.cells ([.int .i64 o.k, .int .i64 o.t.a, .int .i64 o.t.b, .int .i64 o.t.c, .int .i64 o.t.d, .bool o.priv, .int .u32 (o.w : Nat), .int .i64 o.reg]).toArray 30)) p q F) := hB.step (below_new _ _)
  have HT0 : Hid (Below w.heap.size w (w.alloc (.cells ([.int .i64 o.k, .int .i64 o.t.a, .int .i64 o.t.b, .int .i64 o.t.c, .int .i64 o.t.d, .bool o.priv, .int .u32 (o.w : Nat), .int .i64 o.reg]).toArray 30))) := below_new _ _
  have HO0 : Hid (Bl (w.alloc (.cells ([.int .i64 o.k, .int .i64 o.t.a, .int .i64 o.t.b, .int .i64 o.t.c, .int .i64 o.t.d, .bool o.priv, .int .u32 (o.w : Nat), .int .i64 o.reg]).toArray 30)) w.heap.size 30 ([.int .i64 o.k, .int .i64 o.t.a, .int .i64 o.t.b, .int .i64 o.t.c, .int .i64 o.t.d, .bool o.priv, .int .u32 (o.w : Nat), .int .i64 o.reg])) := Bl.new _ _ _
  have HR1 : Hid (∀ w, Fi 63 w p F → TR w → Calls Tryd.prog 18 #[.pointer (some ⟨p, 0, none⟩), .agg #[.int .i64 (o.t).a, .int .i64 (o.t).b, .int .i64 (o.t).c, .int .i64 (o.t).d], .bool o.priv] w fun e w' => e = .returned (.tuple #[.int .u32 ((rdF F o.t o.priv).1 : Nat), .int .i64 ((rdF F o.t o.priv).2 : Nat)]) ∧ Below w.heap.size w w') := fun w h1 h2 => read_any p o.t o.priv F w h1 h2
  have HR2 : Hid (∀ w, Fi 77 w q F → Calls Tryd.prog 29 #[.pointer (some ⟨q, 0, none⟩), .agg #[.int .i64 (o.t).a, .int .i64 (o.t).b, .int .i64 (o.t).c, .int .i64 (o.t).d], .bool o.priv] w fun e w' => e = .returned (.tuple #[.int .u32 ((rdF F o.t o.priv).1 : Nat), .int .i64 ((rdF F o.t o.priv).2 : Nat)]) ∧ Below w.heap.size w w') := fun w h1 => rread_any q o.t o.priv F w h1
  have HAs : Hid (asF F o = F) := by show _ = _; simp [asF, hk]
  unfold AskGoal
  rw [HAs.out]
  have hno := no_any
  clear hB HAs
  obtain ⟨k, ⟨a1, a2, a3, a4⟩, priv, x, reg⟩ := o
  dsimp only at *
  subst hk
  generalize rdF F ⟨a1, a2, a3, a4⟩ priv = Z at *
  obtain ⟨z1, z2⟩ := Z
  go_enter Tryd.func22, Tryd.ntmps22
  go_wp2_with (fail)
  go_at_call 18
  refine (HR1.out _ HB0.out.f HB0.out.tr).mono ?_
  rintro e w1 ⟨rfl, hb⟩
  have HB1 : Hid (Bx w1 p q F) := HB0.out.step hb
  have HT1 : Hid (Below w.heap.size w w1) := Below.step HT0.out hb
  have ob0 := (HO0.out.below hb).cell
  clear hb HB0 HT0 HO0 HR1
  go_wp2_with (fail)
  go_at_call 29
  refine (HR2.out _ HB1.out.g).mono ?_
  rintro e w2 ⟨rfl, hb⟩
  have HB2 : Hid (Bx w2 p q F) := HB1.out.step hb
  have HT2 : Hid (Below w.heap.size w w2) := Below.step HT1.out hb
  clear hb HB1 HT1 HR2 ob0
  go_wp2_with (go_at_call 13; refine (hno _ _).mono ?_; rintro e w' ⟨rfl, rfl⟩)
  go_ret
  exact ⟨rfl, HB2.out, Turn.below HT2.out⟩
set_option maxRecDepth 100000 in
set_option maxHeartbeats 4000000 in
theorem asked_2 (p q : Nat) (o : Opr) (F : List Nat) (w : World) (hB : Bx w p q F) (hk : o.k = 2) (hx : o.w < 4294967296) : AskGoal p q o F w := by
  have HB0 : Hid (Bx (w.alloc (.cells ([.int .i64 o.k, .int .i64 o.t.a, .int .i64 o.t.b, .int .i64 o.t.c, .int .i64 o.t.d, .bool o.priv, .int .u32 (o.w : Nat), .int .i64 o.reg]).toArray 30)) p q F) := hB.step (below_new _ _)
  have HT0 : Hid (Below w.heap.size w (w.alloc (.cells ([.int .i64 o.k, .int .i64 o.t.a, .int .i64 o.t.b, .int .i64 o.t.c, .int .i64 o.t.d, .bool o.priv, .int .u32 (o.w : Nat), .int .i64 o.reg]).toArray 30))) := below_new _ _
  have HO0 : Hid (Bl (w.alloc (.cells ([.int .i64 o.k, .int .i64 o.t.a, .int .i64 o.t.b, .int .i64 o.t.c, .int .i64 o.t.d, .bool o.priv, .int .u32 (o.w : Nat), .int .i64 o.reg]).toArray 30)) w.heap.size 30 ([.int .i64 o.k, .int .i64 o.t.a, .int .i64 o.t.b, .int .i64 o.t.c, .int .i64 o.t.d, .bool o.priv, .int .u32 (o.w : Nat), .int .i64 o.reg])) := Bl.new _ _ _
  have hpl := hB.f.lt
  have hql := hB.g.lt
  have HR1 : Hid (∀ w, Fi 63 w p F → TR w → Calls Tryd.prog 17 #[.pointer (some ⟨p, 0, none⟩), .agg #[.int .i64 (o.t).a, .int .i64 (o.t).b, .int .i64 (o.t).c, .int .i64 (o.t).d], .bool o.priv, .int .u32 (o.w : Nat)] w fun e w' => e = .returned (.tuple #[.agg #[.int .i64 ((wrF F o.t o.priv o.w).1).k, .int .i64 ((wrF F o.t o.priv o.w).1).tk, .int .u32 (((wrF F o.t o.priv o.w).1).tva : Nat), .int .i64 (((wrF F o.t o.priv o.w).1).tas : Nat), .int .u32 (((wrF F o.t o.priv o.w).1).va : Nat), .bool ((wrF F o.t o.priv o.w).1).us, .bool ((wrF F o.t o.priv o.w).1).st], .int .i64 ((wrF F o.t o.priv o.w).2.1 : Nat)]) ∧ Fi 63 w' p (wrF F o.t o.priv o.w).2.2 ∧ Turn (· = p) w w') := fun w h1 h2 => write_any p o.w o.t o.priv F w h1 h2 hx
  have HR2 : Hid (∀ w, Fi 77 w q F → Calls Tryd.prog 30 #[.pointer (some ⟨q, 0, none⟩), .agg #[.int .i64 (o.t).a, .int .i64 (o.t).b, .int .i64 (o.t).c, .int .i64 (o.t).d], .bool o.priv, .int .u32 (o.w : Nat)] w fun e w' => e = .returned (.tuple #[.agg #[.int .i64 ((wrF F o.t o.priv o.w).1).k, .int .i64 ((wrF F o.t o.priv o.w).1).tk, .int .u32 (((wrF F o.t o.priv o.w).1).tva : Nat), .int .i64 (((wrF F o.t o.priv o.w).1).tas : Nat), .int .u32 (((wrF F o.t o.priv o.w).1).va : Nat), .bool ((wrF F o.t o.priv o.w).1).us, .bool ((wrF F o.t o.priv o.w).1).st], .int .i64 ((wrF F o.t o.priv o.w).2.1 : Nat)]) ∧ Fi 77 w' q (wrF F o.t o.priv o.w).2.2 ∧ Turn (· = q) w w') := fun w h1 => rwrite_any q o.w o.t o.priv F w h1 hx
  have HAs : Hid (asF F o = (wrF F o.t o.priv o.w).2.2) := by show _ = _; simp [asF, hk]
  unfold AskGoal
  rw [HAs.out]
  have hno := no_any
  clear hB HAs
  obtain ⟨k, ⟨a1, a2, a3, a4⟩, priv, x, reg⟩ := o
  dsimp only at *
  subst hk
  generalize wrF F ⟨a1, a2, a3, a4⟩ priv x = Z at *
  obtain ⟨a, z8, G⟩ := Z
  dsimp only at *
  have he := eqA a a
  rw [Ac.same_self] at he
  go_enter Tryd.func22, Tryd.ntmps22
  go_wp2_with (fail)
  go_at_call 17
  refine (HR1.out _ HB0.out.f HB0.out.tr).mono ?_
  rintro e w1 ⟨rfl, hf, ht⟩
  have HB1 : Hid (Hx2 (w1.alloc (.cells ([.int .i64 a.k, .int .i64 a.tk, .int .u32 (a.tva : Nat), .int .i64 (a.tas : Nat), .int .u32 (a.va : Nat), .bool a.us, .bool a.st]).toArray 36)) p q F G) := (HB0.out.half hf ht).step (below_new _ _)
  have HT1 : Hid (Turn (PQ p q) w (w1.alloc (.cells ([.int .i64 a.k, .int .i64 a.tk, .int .u32 (a.tva : Nat), .int .i64 (a.tas : Nat), .int .u32 (a.va : Nat), .bool a.us, .bool a.st]).toArray 36))) := ((Turn.below HT0.out).then ht.onP).alloc _
  have hO1 : Bl w1 w.heap.size 30 _ := HO0.out.turn ht (by omega)
  have hw1 : w.heap.size < w1.heap.size := hO1.lt
  have HO1 : Hid (Bl (w1.alloc (.cells ([.int .i64 a.k, .int .i64 a.tk, .int .u32 (a.tva : Nat), .int .i64 (a.tas : Nat), .int .u32 (a.va : Nat), .bool a.us, .bool a.st]).toArray 36)) w.heap.size 30 [.int .i64 2, .int .i64 a1, .int .i64 a2, .int .i64 a3, .int .i64 a4, .bool priv, .int .u32 (x : Nat), .int .i64 reg]) := hO1.below (below_new _ _)
  have HA1 : Hid (Bl (w1.alloc (.cells ([.int .i64 a.k, .int .i64 a.tk, .int .u32 (a.tva : Nat), .int .i64 (a.tas : Nat), .int .u32 (a.va : Nat), .bool a.us, .bool a.st]).toArray 36)) w1.heap.size 36 ([.int .i64 a.k, .int .i64 a.tk, .int .u32 (a.tva : Nat), .int .i64 (a.tas : Nat), .int .u32 (a.va : Nat), .bool a.us, .bool a.st])) := Bl.new _ _ _
  have ob0 := HO1.out.cell
  clear hf ht HB0 HT0 HO0 HR1 hO1
  go_wp2_with (fail)
  go_at_call 30
  generalize w1.alloc _ = w2 at *
  generalize w1.heap.size = A at *
  refine (HR2.out _ HB1.out.g).mono ?_
  rintro e w3 ⟨rfl, hf, ht⟩
  have HB3 : Hid (Bx (w3.alloc (.cells ([.int .i64 a.k, .int .i64 a.tk, .int .u32 (a.tva : Nat), .int .i64 (a.tas : Nat), .int .u32 (a.va : Nat), .bool a.us, .bool a.st]).toArray 36)) p q G) := (HB1.out.full hf ht).step (below_new _ _)
  have HT3 : Hid (Turn (PQ p q) w (w3.alloc (.cells ([.int .i64 a.k, .int .i64 a.tk, .int .u32 (a.tva : Nat), .int .i64 (a.tas : Nat), .int .u32 (a.va : Nat), .bool a.us, .bool a.st]).toArray 36))) := (HT1.out.then ht.onQ).alloc _
  have hA3 : Bl w3 A 36 ([.int .i64 a.k, .int .i64 a.tk, .int .u32 (a.tva : Nat), .int .i64 (a.tas : Nat), .int .u32 (a.va : Nat), .bool a.us, .bool a.st]) := HA1.out.turn ht (by omega)
  have ha0 := (hA3.below (below_new w3 (.cells ([.int .i64 a.k, .int .i64 a.tk, .int .u32 (a.tva : Nat), .int .i64 (a.tas : Nat), .int .u32 (a.va : Nat), .bool a.us, .bool a.st]).toArray 36))).cell
  have hb0 := (Bl.new w3 36 ([.int .i64 a.k, .int .i64 a.tk, .int .u32 (a.tva : Nat), .int .i64 (a.tas : Nat), .int .u32 (a.va : Nat), .bool a.us, .bool a.st])).cell
  clear hf ht HB1 HT1 HO1 HR2 ob0 hA3 HA1
  go_wp2_with (go_at_call 13; refine (hno _ _).mono ?_; rintro e w' ⟨rfl, rfl⟩)
  go_ret
  exact ⟨rfl, HB3.out, HT3.out⟩
end Go.Proofs.YtdinmhjdnnhhjaaDoor
