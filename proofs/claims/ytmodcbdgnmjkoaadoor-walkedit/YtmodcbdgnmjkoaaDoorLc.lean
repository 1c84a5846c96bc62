import Derived.Test.YtmodcbdgnmjkoaaDoorLb
import Derived.Deep.CutRange
namespace Go.Proofs.YtmodcbdgnmjkoaaDoor
open Go.RowKit
open Mm (Turn gr PM RM valV errV Byts setV)
set_option linter.unusedVariables false
set_option linter.unusedSimpArgs false
abbrev zT : List Value := [.int .i64 0, .int .u32 0, .int .u64 0, .int .i64 0, .int .i64 0, .int .u32 0, .bool false, .bool false]
abbrev zF : List Value := [.int .i64 0, .int .i64 0, .int .i64 0]
set_option maxRecDepth 100000 in
theorem eqF (a b : Fa) (w : World) : (Op.equalIn 10000 37 (.agg #[.int .i64 a.k, .int .i64 a.l, .int .i64 a.d]) (.agg #[.int .i64 b.k, .int .i64 b.l, .int .i64 b.d])).run Tryd.prog w = .ok (a.same b) w := by
  obtain ⟨a1, a2, a3⟩ := a
  obtain ⟨b1, b2, b3⟩ := b
  go_simp
  simp only [Fa.same]
  repeat' split
  all_goals simp_all
/-- What stands in the laws' loops: the context's box, both memories. -/
structure KL (W wr : World) (c : Ctx) (x B p r N : Nat) (m : Nat → Int) : Prop where
  bel : Below W.heap.size W wr
  C : Bl wr x 26 [.bool c.on, .bool c.tre, .bool c.afe, .int .i64 c.n, .bool c.pd0, .bool c.pd1, .int .u64 c.b0, .int .u64 c.b1, .int .u32 c.dacr, .int .u32 c.prrr, .int .u32 c.nmrr, .int .i64 c.asid]
  B : Bl wr B 63 [.pointer (some ⟨p, 0, none⟩), .pointer (some ⟨r, 0, none⟩)]
  mem : ∃ S1 S2, PM wr S1 p N m ∧ RM wr S2 r N m
  tab : TW wr
theorem KL.below {W wr wn : World} {c : Ctx} {x B p r N : Nat} {m : Nat → Int} (h : KL W wr c x B p r N m) (hb : Below wr.heap.size wr wn) : KL W wn c x B p r N m := by
  obtain ⟨S1, S2, h1, h2⟩ := h.mem
  exact ⟨Below.step h.bel hb, h.C.below hb, h.B.below hb, ⟨S1, S2, h1.keep (S' := fun _ => False) (Turn.below hb) (fun _ _ h => h), h2.keep (S' := fun _ => False) (Turn.below hb) (fun _ _ h => h)⟩, h.tab.below hb⟩
theorem KL.walk {W wr : World} {c : Ctx} {x B p r N : Nat} {m : Nat → Int} (h : KL W wr c x B p r N m) (hc : c.Ok) (va : Int) (hv : 0 ≤ va ∧ va < 4294967296) :
    Calls Tryd.prog 11 #[.iface 30 (.pointer (some ⟨p, 0, none⟩)), .agg #[.bool c.on, .bool c.tre, .bool c.afe, .int .i64 c.n, .bool c.pd0, .bool c.pd1, .int .u64 c.b0, .int .u64 c.b1, .int .u32 c.dacr, .int .u32 c.prrr, .int .u32 c.nmrr, .int .i64 c.asid], .int .u32 va] wr fun e w' => e = .returned (.tuple #[.agg #[.int .i64 ((wk (ramMo N m) c va).1).size, .int .u32 ((wk (ramMo N m) c va).1).va, .int .u64 ((wk (ramMo N m) c va).1).pa, .int .i64 ((wk (ramMo N m) c va).1).dom, .int .i64 ((wk (ramMo N m) c va).1).ap, .int .u32 ((wk (ramMo N m) c va).1).bits, .bool ((wk (ramMo N m) c va).1).ng, .bool ((wk (ramMo N m) c va).1).xn], .agg #[.int .i64 ((wk (ramMo N m) c va).2).k, .int .i64 ((wk (ramMo N m) c va).2).l, .int .i64 ((wk (ramMo N m) c va).2).d]]) ∧ Below wr.heap.size wr w' := by
  obtain ⟨S1, S2, h1, h2⟩ := h.mem
  exact walk_pure c va wr (.inl ⟨p, N, m, rfl, rfl, h1⟩) h.tab hc hv
theorem KL.vwalk {W wr : World} {c : Ctx} {x B p r N : Nat} {m : Nat → Int} (h : KL W wr c x B p r N m) (hc : c.Ok) (va : Int) (hv : 0 ≤ va ∧ va < 4294967296) :
    Calls Tryd.prog 23 #[.pointer (some ⟨r, 0, none⟩), .agg #[.bool c.on, .bool c.tre, .bool c.afe, .int .i64 c.n, .bool c.pd0, .bool c.pd1, .int .u64 c.b0, .int .u64 c.b1, .int .u32 c.dacr, .int .u32 c.prrr, .int .u32 c.nmrr, .int .i64 c.asid], .int .u32 va] wr fun e w' => e = .returned (.tuple #[.agg #[.int .i64 ((wk (ramMo N m) c va).1).size, .int .u32 ((wk (ramMo N m) c va).1).va, .int .u64 ((wk (ramMo N m) c va).1).pa, .int .i64 ((wk (ramMo N m) c va).1).dom, .int .i64 ((wk (ramMo N m) c va).1).ap, .int .u32 ((wk (ramMo N m) c va).1).bits, .bool ((wk (ramMo N m) c va).1).ng, .bool ((wk (ramMo N m) c va).1).xn], .agg #[.int .i64 ((wk (ramMo N m) c va).2).k, .int .i64 ((wk (ramMo N m) c va).2).l, .int .i64 ((wk (ramMo N m) c va).2).d]]) ∧ Below wr.heap.size wr w' := by
  obtain ⟨S1, S2, h1, h2⟩ := h.mem
  exact vwalk_any c va wr (.inl ⟨r, N, m, rfl, rfl, h2⟩) h.tab hc hv
theorem KL.new {W w1 : World} {c : Ctx} {B p r N : Nat} {m : Nat → Int} (hb : Bl w1 B 63 [.pointer (some ⟨p, 0, none⟩), .pointer (some ⟨r, 0, none⟩)]) (h : Two (W.alloc (.cells #[.bool c.on, .bool c.tre, .bool c.afe, .int .i64 c.n, .bool c.pd0, .bool c.pd1, .int .u64 c.b0, .int .u64 c.b1, .int .u32 c.dacr, .int .u32 c.prrr, .int .u32 c.nmrr, .int .i64 c.asid] 26)) w1 p r N m) (ht : TW W) : KL W w1 c W.heap.size B p r N m := by
  obtain ⟨⟨S1, S2, h1, h2, _⟩, h6⟩ := h
  exact ⟨Below.step (below_new _ _) h6, (Bl.new W 26 [.bool c.on, .bool c.tre, .bool c.afe, .int .i64 c.n, .bool c.pd0, .bool c.pd1, .int .u64 c.b0, .int .u64 c.b1, .int .u32 c.dacr, .int .u32 c.prrr, .int .u32 c.nmrr, .int .i64 c.asid]).below h6, hb, ⟨S1, S2, h1, h2⟩, (ht.below (below_new _ _)).below h6⟩
/-- A translation and a fault have been told, and lie in boxes of their own. -/
structure Got (wr wx : World) (s t : Nat) (u : Tra) (f : Fa) : Prop where
  bel : Below wr.heap.size wr wx
  T : Bl wx s 35 [.int .i64 u.size, .int .u32 u.va, .int .u64 u.pa, .int .i64 u.dom, .int .i64 u.ap, .int .u32 u.bits, .bool u.ng, .bool u.xn]
  F : Bl wx t 37 [.int .i64 f.k, .int .i64 f.l, .int .i64 f.d]
  hs : wr.heap.size ≤ s
  ht : wr.heap.size ≤ t
theorem Bl.new1 (w : World) (o : Obj) (t : TypeId) (l : List Value) : Bl ((w.alloc o).alloc (.cells l.toArray t)) (w.heap.size + 1) t l := by
  have h := Bl.new (w.alloc o) t l
  rw [show (w.alloc o).heap.size = w.heap.size + 1 by simp] at h
  exact h
theorem got1 {wr w1 : World} (h : Below wr.heap.size wr w1) (u : Tra) (f : Fa) : Got wr ((w1.alloc (.cells #[.int .i64 u.size, .int .u32 u.va, .int .u64 u.pa, .int .i64 u.dom, .int .i64 u.ap, .int .u32 u.bits, .bool u.ng, .bool u.xn] 35)).alloc (.cells #[.int .i64 f.k, .int .i64 f.l, .int .i64 f.d] 37)) w1.heap.size (w1.heap.size + 1) u f :=
  ⟨(h.alloc h.size _).alloc (by simp; have := h.size; omega) _, (Bl.new w1 _ [.int .i64 u.size, .int .u32 u.va, .int .u64 u.pa, .int .i64 u.dom, .int .i64 u.ap, .int .u32 u.bits, .bool u.ng, .bool u.xn]).below (below_new _ _), Bl.new1 _ _ _ [.int .i64 f.k, .int .i64 f.l, .int .i64 f.d], h.size, by have := h.size; omega⟩
theorem got2 {wr w1 : World} (h : Below wr.heap.size wr w1) (u : Tra) (f : Fa) : Got wr ((w1.alloc (.cells #[.int .i64 f.k, .int .i64 f.l, .int .i64 f.d] 37)).alloc (.cells #[.int .i64 u.size, .int .u32 u.va, .int .u64 u.pa, .int .i64 u.dom, .int .i64 u.ap, .int .u32 u.bits, .bool u.ng, .bool u.xn] 35)) (w1.heap.size + 1) w1.heap.size u f :=
  ⟨(h.alloc h.size _).alloc (by simp; have := h.size; omega) _, Bl.new1 _ _ _ [.int .i64 u.size, .int .u32 u.va, .int .u64 u.pa, .int .i64 u.dom, .int .i64 u.ap, .int .u32 u.bits, .bool u.ng, .bool u.xn], (Bl.new w1 _ [.int .i64 f.k, .int .i64 f.l, .int .i64 f.d]).below (below_new _ _), by have := h.size; omega, h.size⟩
theorem got3 {wr w1 : World} (h : Below wr.heap.size wr w1) (u : Tra) (f : Fa) (b : Nat) (hb : wr.heap.size ≤ b) (hT : Bl w1 b 35 zT) : Got wr ((((((((((w1.setCell ⟨b, 0, none⟩ (.int .i64 u.size)).setCell ⟨b, 1, none⟩ (.int .u32 u.va)).setCell ⟨b, 2, none⟩ (.int .u64 u.pa)).setCell ⟨b, 3, none⟩ (.int .i64 u.dom)).setCell ⟨b, 4, none⟩ (.int .i64 u.ap)).setCell ⟨b, 5, none⟩ (.int .u32 u.bits)).setCell ⟨b, 6, none⟩ (.bool u.ng)).setCell ⟨b, 7, none⟩ (.bool u.xn))).alloc (.cells #[.int .i64 f.k, .int .i64 f.l, .int .i64 f.d] 37)) b w1.heap.size u f := by
  have hN := Bl.new (((((((((w1.setCell ⟨b, 0, none⟩ (.int .i64 u.size)).setCell ⟨b, 1, none⟩ (.int .u32 u.va)).setCell ⟨b, 2, none⟩ (.int .u64 u.pa)).setCell ⟨b, 3, none⟩ (.int .i64 u.dom)).setCell ⟨b, 4, none⟩ (.int .i64 u.ap)).setCell ⟨b, 5, none⟩ (.int .u32 u.bits)).setCell ⟨b, 6, none⟩ (.bool u.ng)).setCell ⟨b, 7, none⟩ (.bool u.xn))) 37 [.int .i64 f.k, .int .i64 f.l, .int .i64 f.d]
  rw [heap8] at hN
  exact ⟨Below.alloc (Below.setCell (Below.setCell (Below.setCell (Below.setCell (Below.setCell (Below.setCell (Below.setCell (Below.setCell h hb _) hb _) hb _) hb _) hb _) hb _) hb _) hb _) (by rw [heap8]; exact h.size) _, (hT.set8 _ _ _ _ _ _ _ _).below (below_new _ _), hN, hb, h.size⟩
theorem got4 {wr w1 : World} (h : Below wr.heap.size wr w1) (u : Tra) (f : Fa) (b : Nat) (hb : wr.heap.size ≤ b) (hF : Bl w1 b 37 zF) : Got wr (((((w1.setCell ⟨b, 0, none⟩ (.int .i64 f.k)).setCell ⟨b, 1, none⟩ (.int .i64 f.l)).setCell ⟨b, 2, none⟩ (.int .i64 f.d))).alloc (.cells #[.int .i64 u.size, .int .u32 u.va, .int .u64 u.pa, .int .i64 u.dom, .int .i64 u.ap, .int .u32 u.bits, .bool u.ng, .bool u.xn] 35)) w1.heap.size b u f := by
  have hN := Bl.new ((((w1.setCell ⟨b, 0, none⟩ (.int .i64 f.k)).setCell ⟨b, 1, none⟩ (.int .i64 f.l)).setCell ⟨b, 2, none⟩ (.int .i64 f.d))) 35 [.int .i64 u.size, .int .u32 u.va, .int .u64 u.pa, .int .i64 u.dom, .int .i64 u.ap, .int .u32 u.bits, .bool u.ng, .bool u.xn]
  rw [heap3] at hN
  exact ⟨Below.alloc (Below.setCell (Below.setCell (Below.setCell h hb _) hb _) hb _) (by rw [heap3]; exact h.size) _, hN, (hF.set3 _ _ _).below (below_new _ _), h.size, hb⟩
theorem got5 {wr w1 : World} (h : Below wr.heap.size wr w1) (u : Tra) (f : Fa) (b d : Nat) (hb : wr.heap.size ≤ b) (hd : wr.heap.size ≤ d) (hn : b ≠ d) (hT : Bl w1 b 35 zT) (hF : Bl w1 d 37 zF) : Got wr ((((((((((((w1.setCell ⟨b, 0, none⟩ (.int .i64 u.size)).setCell ⟨b, 1, none⟩ (.int .u32 u.va)).setCell ⟨b, 2, none⟩ (.int .u64 u.pa)).setCell ⟨b, 3, none⟩ (.int .i64 u.dom)).setCell ⟨b, 4, none⟩ (.int .i64 u.ap)).setCell ⟨b, 5, none⟩ (.int .u32 u.bits)).setCell ⟨b, 6, none⟩ (.bool u.ng)).setCell ⟨b, 7, none⟩ (.bool u.xn)).setCell ⟨d, 0, none⟩ (.int .i64 f.k)).setCell ⟨d, 1, none⟩ (.int .i64 f.l)).setCell ⟨d, 2, none⟩ (.int .i64 f.d))) b d u f :=
  ⟨Below.setCell (Below.setCell (Below.setCell (Below.setCell (Below.setCell (Below.setCell (Below.setCell (Below.setCell (Below.setCell (Below.setCell (Below.setCell h hb _) hb _) hb _) hb _) hb _) hb _) hb _) hb _) hd _) hd _) hd _, (hT.set8 _ _ _ _ _ _ _ _).keep3 hn _ _ _, (hF.keep8 (fun e => hn e.symm) _ _ _ _ _ _ _ _).set3 _ _ _, hb, hd⟩
end Go.Proofs.YtmodcbdgnmjkoaaDoor
