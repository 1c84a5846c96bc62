import Derived.Test.YtdinmhjdnnhhjaaDoorPi
import Derived.Test.YtdinmhjdnnhhjaaDoorPg
import Derived.Test.YtdinmhjdnnhhjaaDoorPd
namespace Go.Proofs.YtdinmhjdnnhhjaaDoor
open Go.RowKit
set_option linter.unusedVariables false
set_option linter.unusedSimpArgs false
/-- The boxes of a write, the file. -/
structure WX (w wr : World) (g b : Nat) (t : Tu) (F : List Nat) : Prop where
  bel : Below w.heap.size w wr
  box : Bl wr w.heap.size 27 ([.int .i64 t.a, .int .i64 t.b, .int .i64 t.c, .int .i64 t.d])
  act : Bl wr g 36 ([.int .i64 aZ.k, .int .i64 aZ.tk, .int .u32 (aZ.tva : Nat), .int .i64 (aZ.tas : Nat), .int .u32 (aZ.va : Nat), .bool aZ.us, .bool aZ.st])
  fi : Fi 63 wr b F
  tr : TR wr
  new : w.heap.size ≤ g
  old : b < w.heap.size
theorem WX.step {w wr wr' : World} {g b : Nat} {t : Tu} {F : List Nat} (h : WX w wr g b t F) (hb : Below wr.heap.size wr wr') : WX w wr' g b t F :=
  ⟨Below.step h.bel hb, h.box.below hb, h.act.below hb, h.fi.below hb, h.tr.below hb, h.new, h.old⟩
theorem WX.start (w : World) (b : Nat) (t : Tu) (F : List Nat) (hF : Fi 63 w b F) (hT : TR w) : WX w ((w.alloc (.cells ([.int .i64 t.a, .int .i64 t.b, .int .i64 t.c, .int .i64 t.d]).toArray 27)).alloc (.cells ([.int .i64 aZ.k, .int .i64 aZ.tk, .int .u32 (aZ.tva : Nat), .int .i64 (aZ.tas : Nat), .int .u32 (aZ.va : Nat), .bool aZ.us, .bool aZ.st]).toArray 36)) (w.heap.size + 1) b t F := by
  have hb : Below w.heap.size w ((w.alloc (.cells ([.int .i64 t.a, .int .i64 t.b, .int .i64 t.c, .int .i64 t.d]).toArray 27)).alloc (.cells ([.int .i64 aZ.k, .int .i64 aZ.tk, .int .u32 (aZ.tva : Nat), .int .i64 (aZ.tas : Nat), .int .u32 (aZ.va : Nat), .bool aZ.us, .bool aZ.st]).toArray 36)) := (below_new _ _).alloc (by simp) _
  refine ⟨hb, (Bl.new _ _ _).below (below_new _ _), ?_, hF.below hb, hT.below hb, by omega, hF.lt⟩
  have := Bl.new (w.alloc (.cells ([.int .i64 t.a, .int .i64 t.b, .int .i64 t.c, .int .i64 t.d]).toArray 27)) 36 ([.int .i64 aZ.k, .int .i64 aZ.tk, .int .u32 (aZ.tva : Nat), .int .i64 (aZ.tas : Nat), .int .u32 (aZ.va : Nat), .bool aZ.us, .bool aZ.st])
  simpa using this
theorem WX.end {w wr : World} {g b : Nat} {t : Tu} {F : List Nat} (h : WX w wr g b t F) : Fi 63 wr b F ∧ Turn (· = b) w wr := ⟨h.fi, Turn.below h.bel⟩
set_option maxRecDepth 100000 in
set_option maxHeartbeats 4000000 in
theorem write_reg (b x r : Nat) (t : Tu) (priv : Bool) (F : List Nat) (w : World) (hF : Fi 63 w b F) (hT : TR w) (hx : x < 4294967296) (hr : regOf t = some r) :
    Calls Tryd.prog 17 #[.pointer (some ⟨b, 0, none⟩), .agg #[.int .i64 t.a, .int .i64 t.b, .int .i64 t.c, .int .i64 t.d], .bool priv, .int .u32 (x : Int)] w fun e w' => e = .returned (.tuple #[.agg #[.int .i64 ((setF F r priv x).1).k, .int .i64 ((setF F r priv x).1).tk, .int .u32 (((setF F r priv x).1).tva : Nat), .int .i64 (((setF F r priv x).1).tas : Nat), .int .u32 (((setF F r priv x).1).va : Nat), .bool ((setF F r priv x).1).us, .bool ((setF F r priv x).1).st], .int .i64 ((setF F r priv x).2.1 : Nat)]) ∧ Fi 63 w' b (setF F r priv x).2.2 ∧ Turn (· = b) w w' := by
  have HX0 : Hid _ := WX.start w b t F hF hT
  have hreg := fun w h => register_any t w h
  rw [hr] at hreg
  have HR : Hid (r < 13) := regOf_lt hr
  have HS : Hid (∀ w, Fi 63 w b F → TR w → Calls Tryd.prog 25 #[.pointer (some ⟨b, 0, none⟩), .int .i64 (r : Int), .bool priv, .int .u32 (x : Int)] w fun e w' => e = .returned (.tuple #[.agg #[.int .i64 ((setF F r priv x).1).k, .int .i64 ((setF F r priv x).1).tk, .int .u32 (((setF F r priv x).1).tva : Nat), .int .i64 (((setF F r priv x).1).tas : Nat), .int .u32 (((setF F r priv x).1).va : Nat), .bool ((setF F r priv x).1).us, .bool ((setF F r priv x).1).st], .int .i64 ((setF F r priv x).2.1 : Nat)]) ∧ Fi 63 w' b (setF F r priv x).2.2 ∧ Turn (· = b) w w') := fun w h1 h2 => set_any b r x priv F w h1 h2 HR.out hx
  clear hF hT hr HR
  generalize setF F r priv x = Z at *
  obtain ⟨⟨z1, z2, z3, z4, z5, z6, z7⟩, z8, G⟩ := Z
  go_enter Tryd.func17, Tryd.ntmps17
  go_wp2_with (fail)
  go_at_call 12
  refine (hreg _ HX0.out.tr).mono ?_
  rintro e w1 ⟨rfl, hb⟩
  have HX1 : Hid _ := HX0.out.step hb
  clear hb HX0 hreg
  generalize w.heap.size + 1 = g at *
  go_wp2_with (fail)
  go_at_call 25
  refine (HS.out _ HX1.out.fi HX1.out.tr).mono ?_
  rintro e w2 ⟨rfl, hA, hB⟩
  have hgb : ¬ g = b := by have := HX1.out.new; have := HX1.out.old; omega
  have hact := HX1.out.act.turn hB hgb
  have n0 := hact.cell
  have n1 := hact.frozen
  have n2 := hact.lt
  have HA : Hid (Fi 63 w2 b G) := hA
  have HB : Hid (Turn (· = b) w w2) := (Turn.below HX1.out.bel).then hB
  have hn := HX1.out.new
  clear hA hB hact HS HX1
  go_wp2
  refine bodyPost_ret (v := .tuple #[.agg #[.int .i64 z1, .int .i64 z2, .int .u32 (z3 : Nat), .int .i64 (z4 : Nat), .int .u32 (z5 : Nat), .bool z6, .bool z7], .int .i64 (z8 : Nat)]) (by simp [results, Tryd.results17, go_sem, n0, n1, n2]) rfl ⟨rfl, ?_, ?_⟩
  · (repeat (with_reducible refine Fi.setO ?_ (Ne.symm hgb) _ _)); with_reducible exact HA.out
  · (repeat (with_reducible refine Turn.setCell ?_ (.inr (by simpa using hn)) _)); with_reducible exact HB.out
end Go.Proofs.YtdinmhjdnnhhjaaDoor
