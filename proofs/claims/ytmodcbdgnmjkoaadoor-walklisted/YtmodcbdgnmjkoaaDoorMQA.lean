import Derived.Test.YtmodcbdgnmjkoaaDoorMQ8
import Derived.Test.YtmodcbdgnmjkoaaDoorMQ9
import Derived.OrdersIn
import Derived.Deep.RegionHeld3
namespace Go.Proofs.YtmodcbdgnmjkoaaDoor
open Go.RowKit Go.Shelf
open Mm (Turn gr RowAt PM)
set_option linter.unusedVariables false
set_option linter.unusedSimpArgs false
/-- What is known of a block that is listed. -/
structure Lm (M : Mo) (c : Ctx) (x : Tra) : Prop where
  on : c.on = true
  fz : Fz x
  ri : riF x = true
  sz : x.size = 1 ∨ x.size = 2 ∨ x.size = 3 ∨ x.size = 4
  sm : x.size = 1 ∨ x.size = 3 → smF M c x = true
theorem Lm.of {M : Mo} {c : Ctx} {x : Tra} (hM : M.Ok) (hc : c.Ok) (h : x ∈ blL M c) : Lm M c x := by
  have hon : c.on = true := by
    cases ho : c.on with
    | true => rfl
    | false => unfold blL at h; rw [ho] at h; cases h
  obtain ⟨vb, hv, hw⟩ := (mem_blL hon x).1 h
  have hf := (found hM hc hv hw rfl).2.1
  have hft := hf.ft hv
  exact ⟨hon, ⟨hft.va, hft.pa, hft.bt⟩, hf.right, hf.sz, fun hs => sm_one hM hc hv hon hw hs⟩
/-- How the boxes of the law lie. -/
structure LO (W : World) (B bc bb br bp bt bf bm bl bn : Nat) (S : Nat → Prop) : Prop where
  h0 : W.heap.size ≤ bc
  h1 : bc < bb
  h2 : bb < br
  h3 : br < bp
  h4 : bp < bt
  h5 : bt < bf
  h6 : bf < bm
  h7 : bm < bl
  h8 : bl < bn
  h9 : bn < B
  hS : ∀ b, S b → br < b ∧ b < bp
/-- Between two rounds. -/
structure LB (W : World) (B bc bb br bp bt bf bm bl bn : Nat) (S : Nat → Prop) (p N : Nat) (m : Nat → Int) (c : Ctx) (vb : Int) (U : Tra) (F : Fa) (lt : Tra) (mt : Bool) (k : Nat) (w : World) : Prop where
  pm : PM w S p N m
  bel : Below W.heap.size W w
  ret : Bl w br 4 [.bool false]
  cx : Bl w bc 26 [.bool c.on, .bool c.tre, .bool c.afe, .int .i64 c.n, .bool c.pd0, .bool c.pd1, .int .u64 c.b0, .int .u64 c.b1, .int .u32 c.dacr, .int .u32 c.prrr, .int .u32 c.nmrr, .int .i64 c.asid]
  bb : Bl w bb 24 [.int .u32 vb]
  mp : Bl w bp 30 [.pointer (some ⟨p, 0, none⟩)]
  t : Bl w bt 35 [.int .i64 U.size, .int .u32 U.va, .int .u64 U.pa, .int .i64 U.dom, .int .i64 U.ap, .int .u32 U.bits, .bool U.ng, .bool U.xn]
  f : Bl w bf 37 [.int .i64 F.k, .int .i64 F.l, .int .i64 F.d]
  me : Bl w bm 4 [.bool mt]
  la : Bl w bl 35 [.int .i64 lt.size, .int .u32 lt.va, .int .u64 lt.pa, .int .i64 lt.dom, .int .i64 lt.ap, .int .u32 lt.bits, .bool lt.ng, .bool lt.xn]
  n : Bl w bn 3 [.int .i64 k]
/-- What a round may turn. -/
def XL (br bm bl bn : Nat) : Nat → Prop := fun b => b = br ∨ b = bm ∨ b = bl ∨ b = bn
section
variable {W : World} {B bc bb br bp bt bf bm bl bn : Nat} {S : Nat → Prop} {p N : Nat} {m : Nat → Int} {c : Ctx} {vb : Int} {U : Tra} {F : Fa} {lt lt' : Tra} {mt mt' : Bool} {k k' : Nat} {w w' : World}
theorem LB.below (h : LB W B bc bb br bp bt bf bm bl bn S p N m c vb U F lt mt k w) (hb : Below w.heap.size w w') : LB W B bc bb br bp bt bf bm bl bn S p N m c vb U F lt mt k w' :=
  ⟨h.pm.keep (S' := fun _ => False) (Turn.below hb) (fun _ _ h => h), Below.step h.bel hb, h.ret.below hb, h.cx.below hb, h.bb.below hb, h.mp.below hb, h.t.below hb, h.f.below hb, h.me.below hb, h.la.below hb, h.n.below hb⟩
theorem Bl.turn {b : Nat} {t : TypeId} {l : List Value} {Y : Nat → Prop} (h : Bl w b t l) (T : Turn Y w w') (hn : ¬ Y b) : Bl w' b t l := (T.block b h.lt hn).trans h
theorem LB.turn (o : LO W B bc bb br bp bt bf bm bl bn S) (h : LB W B bc bb br bp bt bf bm bl bn S p N m c vb U F lt mt k w) {Y : Nat → Prop} (T : Turn Y w w') (hY : ∀ b, Y b → B ≤ b) : LB W B bc bb br bp bt bf bm bl bn S p N m c vb U F lt mt k w' := by
  have hh : ∀ b, b < B → ¬ Y b := fun b hb hy => by have := hY b hy; omega
  have := o.h1; have := o.h2; have := o.h3; have := o.h4; have := o.h5; have := o.h6; have := o.h7; have := o.h8; have := o.h9; have := o.h0
  exact ⟨h.pm.keep T (fun b hb => hh b (by have := (o.hS b hb).2; omega)), h.bel.trans (T.to (fun x hx => by have := hY x hx; omega) h.bel.size), h.ret.turn T (hh _ (by omega)), h.cx.turn T (hh _ (by omega)), h.bb.turn T (hh _ (by omega)), h.mp.turn T (hh _ (by omega)), h.t.turn T (hh _ (by omega)), h.f.turn T (hh _ (by omega)), h.me.turn T (hh _ (by omega)), h.la.turn T (hh _ (by omega)), h.n.turn T (hh _ (by omega))⟩
/-- The three boxes that a round writes. -/
theorem LB.put (o : LO W B bc bb br bp bt bf bm bl bn S) (h : LB W B bc bb br bp bt bf bm bl bn S p N m c vb U F lt mt k w) (mt' : Bool) (x : Tra) (k' : Nat) :
    LB W B bc bb br bp bt bf bm bl bn S p N m c vb U F x mt' k' ((((((((((w.setCell ⟨bm, 0, none⟩ (.bool mt')).setCell ⟨bl, 0, none⟩ (.int .i64 x.size)).setCell ⟨bl, 1, none⟩ (.int .u32 x.va)).setCell ⟨bl, 2, none⟩ (.int .u64 x.pa)).setCell ⟨bl, 3, none⟩ (.int .i64 x.dom)).setCell ⟨bl, 4, none⟩ (.int .i64 x.ap)).setCell ⟨bl, 5, none⟩ (.int .u32 x.bits)).setCell ⟨bl, 6, none⟩ (.bool x.ng)).setCell ⟨bl, 7, none⟩ (.bool x.xn)).setCell ⟨bn, 0, none⟩ (.int .i64 k')) := by
  have := o.h1; have := o.h2; have := o.h3; have := o.h4; have := o.h5; have := o.h6; have := o.h7; have := o.h8; have := o.h9; have := o.h0
  have T0 : Turn (fun b => b = bm ∨ b = bl ∨ b = bn) w ((((((((((w.setCell ⟨bm, 0, none⟩ (.bool mt')).setCell ⟨bl, 0, none⟩ (.int .i64 x.size)).setCell ⟨bl, 1, none⟩ (.int .u32 x.va)).setCell ⟨bl, 2, none⟩ (.int .u64 x.pa)).setCell ⟨bl, 3, none⟩ (.int .i64 x.dom)).setCell ⟨bl, 4, none⟩ (.int .i64 x.ap)).setCell ⟨bl, 5, none⟩ (.int .u32 x.bits)).setCell ⟨bl, 6, none⟩ (.bool x.ng)).setCell ⟨bl, 7, none⟩ (.bool x.xn)).setCell ⟨bn, 0, none⟩ (.int .i64 k')) :=
    ((((((((((Turn.refl _ w).setCell (p := ⟨bm, 0, none⟩) (.inl (.inl rfl)) _).setCell (p := ⟨bl, 0, none⟩) (.inl (.inr (.inl rfl))) _).setCell (p := ⟨bl, 1, none⟩) (.inl (.inr (.inl rfl))) _).setCell (p := ⟨bl, 2, none⟩) (.inl (.inr (.inl rfl))) _).setCell (p := ⟨bl, 3, none⟩) (.inl (.inr (.inl rfl))) _).setCell (p := ⟨bl, 4, none⟩) (.inl (.inr (.inl rfl))) _).setCell (p := ⟨bl, 5, none⟩) (.inl (.inr (.inl rfl))) _).setCell (p := ⟨bl, 6, none⟩) (.inl (.inr (.inl rfl))) _).setCell (p := ⟨bl, 7, none⟩) (.inl (.inr (.inl rfl))) _).setCell (p := ⟨bn, 0, none⟩) (.inl (.inr (.inr rfl))) _
  refine ⟨h.pm.keep T0 (fun b hb hx => by have := (o.hS b hb).2; omega), h.bel.trans (T0.to (fun b hb => by omega) h.bel.size), h.ret.turn T0 (by omega), h.cx.turn T0 (by omega), h.bb.turn T0 (by omega), h.mp.turn T0 (by omega), h.t.turn T0 (by omega), h.f.turn T0 (by omega), ?_, ?_, ?_⟩
  · exact ((h.me.put' 0 (.bool mt')).keep8 (by omega) _ _ _ _ _ _ _ _).other (by omega) 0 _
  · exact ((h.la.other (by omega) 0 (.bool mt')).set8 _ _ _ _ _ _ _ _).other (by omega) 0 _
  · exact ((h.n.other (by omega) 0 (.bool mt')).keep8 (by omega) _ _ _ _ _ _ _ _).put' 0 _
theorem put_turn (br bm bl bn : Nat) (w : World) (mt' : Bool) (x : Tra) (k' : Nat) : Turn (XL br bm bl bn) w ((((((((((w.setCell ⟨bm, 0, none⟩ (.bool mt')).setCell ⟨bl, 0, none⟩ (.int .i64 x.size)).setCell ⟨bl, 1, none⟩ (.int .u32 x.va)).setCell ⟨bl, 2, none⟩ (.int .u64 x.pa)).setCell ⟨bl, 3, none⟩ (.int .i64 x.dom)).setCell ⟨bl, 4, none⟩ (.int .i64 x.ap)).setCell ⟨bl, 5, none⟩ (.int .u32 x.bits)).setCell ⟨bl, 6, none⟩ (.bool x.ng)).setCell ⟨bl, 7, none⟩ (.bool x.xn)).setCell ⟨bn, 0, none⟩ (.int .i64 k')) :=
    ((((((((((Turn.refl _ w).setCell (p := ⟨bm, 0, none⟩) (.inl (.inr (.inl rfl))) _).setCell (p := ⟨bl, 0, none⟩) (.inl (.inr (.inr (.inl rfl)))) _).setCell (p := ⟨bl, 1, none⟩) (.inl (.inr (.inr (.inl rfl)))) _).setCell (p := ⟨bl, 2, none⟩) (.inl (.inr (.inr (.inl rfl)))) _).setCell (p := ⟨bl, 3, none⟩) (.inl (.inr (.inr (.inl rfl)))) _).setCell (p := ⟨bl, 4, none⟩) (.inl (.inr (.inr (.inl rfl)))) _).setCell (p := ⟨bl, 5, none⟩) (.inl (.inr (.inr (.inl rfl)))) _).setCell (p := ⟨bl, 6, none⟩) (.inl (.inr (.inr (.inl rfl)))) _).setCell (p := ⟨bl, 7, none⟩) (.inl (.inr (.inr (.inl rfl)))) _).setCell (p := ⟨bn, 0, none⟩) (.inl (.inr (.inr (.inr rfl)))) _
theorem put_others (bm bl bn : Nat) (w : World) (mt' : Bool) (x : Tra) (k' : Nat) : KeepsOthers w ((((((((((w.setCell ⟨bm, 0, none⟩ (.bool mt')).setCell ⟨bl, 0, none⟩ (.int .i64 x.size)).setCell ⟨bl, 1, none⟩ (.int .u32 x.va)).setCell ⟨bl, 2, none⟩ (.int .u64 x.pa)).setCell ⟨bl, 3, none⟩ (.int .i64 x.dom)).setCell ⟨bl, 4, none⟩ (.int .i64 x.ap)).setCell ⟨bl, 5, none⟩ (.int .u32 x.bits)).setCell ⟨bl, 6, none⟩ (.bool x.ng)).setCell ⟨bl, 7, none⟩ (.bool x.xn)).setCell ⟨bn, 0, none⟩ (.int .i64 k')) :=
  (((((((((KeepsOthers.setCell w _ _).trans (KeepsOthers.setCell _ _ _)).trans (KeepsOthers.setCell _ _ _)).trans (KeepsOthers.setCell _ _ _)).trans (KeepsOthers.setCell _ _ _)).trans (KeepsOthers.setCell _ _ _)).trans (KeepsOthers.setCell _ _ _)).trans (KeepsOthers.setCell _ _ _)).trans (KeepsOthers.setCell _ _ _)).trans (KeepsOthers.setCell _ _ _)
theorem keeps_below {B : Nat} (hb : Below w.heap.size w w') : KeepsFrom B w w' := ⟨hb.size, fun k o _ hk ho => (hb.block k (Array.getElem?_eq_some_iff.1 hk).1).trans hk⟩
end
/-- How a round that returns leaves: with true, or out of order. -/
def LX (W : World) (br : Nat) (M : Mo) (c : Ctx) (pre : List { x : Tra // x ∈ blL M c }) (w : World) : Prop :=
  Below W.heap.size W w ∧ W.heap.size ≤ br ∧ (Bl w br 4 [.bool true] ∨ ¬ pre.map (·.1) <+: blL M c)
end Go.Proofs.YtmodcbdgnmjkoaaDoor
namespace Go.Proofs.YtmodcbdgnmjkoaaDoor
open Go.RowKit Go.Shelf
open Mm (Turn gr RowAt PM)
set_option linter.unusedVariables false
set_option linter.unusedSimpArgs false
attribute [local go_sem] Oper.semAt_some
def sq2 : Code → Code
  | .seq _ y => y
  | c => c
def sq1 : Code → Code
  | .seq x _ => x
  | c => c
def blkC : Code → Code
  | .block _ c => c
  | c => c
def rfB : Code → Code
  | .rangeFunc _ _ _ b => b
  | c => c
/-- The law's code from the loop on, the loop's body and its parts. -/
def lsF (f : Func) : Code := sq2 (sq2 (sq2 (sq2 (sq2 (sq2 (sq2 (sq2 (f.body.getD .skip))))))))
def lsB (f : Func) : Code := rfB (blkC (sq2 (sq1 (lsF f))))
def ls1 (f : Func) : Code := sq2 (blkC (lsB f))
def ls2 (f : Func) : Code := sq2 (ls1 f)
def ls3 (f : Func) : Code := sq2 (ls2 f)
set_option maxRecDepth 100000 in
set_option maxHeartbeats 8000000 in
/-- The end of a round: met, last, n. -/
theorem ls3_any {t0 t1 t2 t3 t4 t5 t6 t8 t18 t19 t20 t21 t22 t23 t24 t25 t26 t27 t28 t29 t30 t31 t32 t33 t34 t35 t36 t37 t38 t39 t40 t41 t42 t43 t44 t45 t46 t47 t48 t49 t50 t51 t52 t53 t54 t55 t56 t57 t58 t59 t60 t61 t62 t63 t64 t65 t66 t67 t68 t69 t70 t71 t72 t73 t74 t75 t76 t77 t78 t79 t80 t81 t82 t83 t84 t85 t86 t87 t88 t89 t90 t91 t92 t93 t94 t95 t96 t97 t98 t99 t100 t101 t102 t103 t104 t105 t106 t107 t108 t109 t110 t111 t112 t113 t114 t115 t116 t117 t118 t119 t120 t121 t122 t123 t124 t125 t126 t127 t128 t129 t130 t131 t132 t133 t134 t135 t136 t137 t138 t139 t140 t141 t142 t143 t144 t145 t146 t147 t148 t149 t150 t151 t152 t153 t154 t155 t156 t157 t158 t159 t160 : Value} (l n : Nat) (W : World) (B bc bb br bp bt bf bm bl bn : Nat) (S : Nat → Prop) (p N : Nat) (m : Nat → Int) (c : Ctx) (vb : Int) (U : Tra) (F : Fa) (lt : Tra) (mt : Bool) (k : Nat) (x : Tra) (bx : Nat) (w : World) (Q : Exit → Act → World → Prop) (o : LO W B bc bb br bp bt bf bm bl bn S) (h : LB W B bc bb br bp bt bf bm bl bn S p N m c vb U F lt mt k w) (hx : Bl w bx 35 [.int .i64 x.size, .int .u32 x.va, .int .u64 x.pa, .int .i64 x.dom, .int .i64 x.ap, .int .u32 x.bits, .bool x.ng, .bool x.xn]) (hxB : B ≤ bx) (hk : k ≤ 4096)
    (hn : k + 1 ≤ 4096 → ∀ a, Q .normal a ((((((((((w.setCell ⟨bm, 0, none⟩ (.bool (mt || x.same U))).setCell ⟨bl, 0, none⟩ (.int .i64 x.size)).setCell ⟨bl, 1, none⟩ (.int .u32 x.va)).setCell ⟨bl, 2, none⟩ (.int .u64 x.pa)).setCell ⟨bl, 3, none⟩ (.int .i64 x.dom)).setCell ⟨bl, 4, none⟩ (.int .i64 x.ap)).setCell ⟨bl, 5, none⟩ (.int .u32 x.bits)).setCell ⟨bl, 6, none⟩ (.bool x.ng)).setCell ⟨bl, 7, none⟩ (.bool x.xn)).setCell ⟨bn, 0, none⟩ (.int .i64 ((k : Int) + 1))))
    (hr : ¬ k + 1 ≤ 4096 → ∀ a, Q .ret a (((((((((((w.setCell ⟨bm, 0, none⟩ (.bool (mt || x.same U))).setCell ⟨bl, 0, none⟩ (.int .i64 x.size)).setCell ⟨bl, 1, none⟩ (.int .u32 x.va)).setCell ⟨bl, 2, none⟩ (.int .u64 x.pa)).setCell ⟨bl, 3, none⟩ (.int .i64 x.dom)).setCell ⟨bl, 4, none⟩ (.int .i64 x.ap)).setCell ⟨bl, 5, none⟩ (.int .u32 x.bits)).setCell ⟨bl, 6, none⟩ (.bool x.ng)).setCell ⟨bl, 7, none⟩ (.bool x.xn)).setCell ⟨bn, 0, none⟩ (.int .i64 ((k : Int) + 1))).setCell ⟨br, 0, none⟩ (.bool true))) :
    (ls3 Tryd.f7).wpIn (Fence.wide.inRound l) n Tryd.prog Q { tmps := #[t0, t1, t2, t3, t4, t5, t6, .pointer (some ⟨bc, 0, none⟩), t8, .pointer (some ⟨bb, 0, none⟩), .pointer (some ⟨br, 0, none⟩), .pointer (some ⟨bp, 0, none⟩), .pointer (some ⟨bt, 0, none⟩), .pointer (some ⟨bf, 0, none⟩), .pointer (some ⟨bm, 0, none⟩), .pointer (some ⟨bl, 0, none⟩), .pointer (some ⟨bn, 0, none⟩), .pointer (some ⟨bx, 0, none⟩), t18, t19, t20, t21, t22, t23, t24, t25, t26, t27, t28, t29, t30, t31, t32, t33, t34, t35, t36, t37, t38, t39, t40, t41, t42, t43, t44, t45, t46, t47, t48, t49, t50, t51, t52, t53, t54, t55, t56, t57, t58, t59, t60, t61, t62, t63, t64, t65, t66, t67, t68, t69, t70, t71, t72, t73, t74, t75, t76, t77, t78, t79, t80, t81, t82, t83, t84, t85, t86, t87, t88, t89, t90, t91, t92, t93, t94, t95, t96, t97, t98, t99, t100, t101, t102, t103, t104, t105, t106, t107, t108, t109, t110, t111, t112, t113, t114, t115, t116, t117, t118, t119, t120, t121, t122, t123, t124, t125, t126, t127, t128, t129, t130, t131, t132, t133, t134, t135, t136, t137, t138, t139, t140, t141, t142, t143, t144, t145, t146, t147, t148, t149, t150, t151, t152, t153, t154, t155, t156, t157, t158, t159, t160], defers := [] } w := by
  simp only [ls3, ls2, ls1, lsB, lsF, sq2, sq1, blkC, rfB, Tryd.f7, Option.getD]
  have HN := hidW hn
  have HR := hidW hr
  have o1 := o.h1; have o2 := o.h2; have o3 := o.h3; have o4 := o.h4; have o5 := o.h5; have o6 := o.h6; have o7 := o.h7; have o8 := o.h8; have o9 := o.h9
  have n1 : ¬ bm = bl := by omega
  have n2 : ¬ bm = bn := by omega
  have n3 : ¬ bl = bn := by omega
  have n4 : ¬ bm = bx := by omega
  have n5 : ¬ bl = bx := by omega
  have n6 : ¬ bx = bm := by omega
  have n7 : ¬ bn = bm := by omega
  have n8 : ¬ bl = bm := by omega
  have n9 : ¬ bn = bl := by omega
  have m1 : ¬ br = bm := by omega
  have m2 : ¬ br = bl := by omega
  have m3 : ¬ br = bn := by omega
  have cM := h.me.cell 0
  have fM := h.me.frozen 0
  have cN := h.n.cell 0
  have fN := h.n.frozen 0
  have cR := h.ret.cell 0
  have fR := h.ret.frozen 0
  have cL := h.la.cell
  have fL := h.la.frozen
  have cT := h.t.cell
  have cX := hx.cell
  simp only [List.getElem?_cons_zero] at cM cN cR
  have eT := eqT x U
  clear hn hr h hx o o1 o2 o3 o4 o5 o6 o7 o8 o9 hxB
  have hk0 : (0 : Int) ≤ k := by omega
  by_cases h4 : k + 1 ≤ 4096
  · have h4z : ¬ (4096 : Int) < (k : Int) + 1 := by omega
    cases mt with
    | true =>
      gi_wp2
      exact HN.out h4 _
    | false =>
      gi_wp2
      exact HN.out h4 _
  · have h4z : (4096 : Int) < (k : Int) + 1 := by omega
    cases mt with
    | true =>
      gi_wp2
      exact HR.out h4 _
    | false =>
      gi_wp2
      exact HR.out h4 _
end Go.Proofs.YtmodcbdgnmjkoaaDoor
namespace Go.Proofs.YtmodcbdgnmjkoaaDoor
open Go.RowKit Go.Shelf
set_option linter.unusedVariables false

theorem rows_in {n l : Nat} {P : Program} {row : String} {args : Array Value} {w : World} {R : Value → World → Prop} (h : Rows P row args w R) : RowsIn (Fence.wide.inRound l) n P row args w R :=
  fun c cs _ => let ⟨v, w', r, s⟩ := h c cs; ⟨v, w', r, stepsIn_wide.2 s⟩

/-- An operation that is no defer does within a round what it does elsewhere. -/
theorem oper_in {n l : Nat} {P : Program} {o : Oper} {a : Act} {w : World} {K K' : Act → World → Prop} {Q : Exit → Act → World → Prop} (hd : ∀ c, o.op ≠ .defer c) (hQ : ¬ LetsOut Q) (hK : ∀ a w, K a w → K' a w) (h : o.wp P a w K Q) : o.wpIn (Fence.wide.inRound l) n P a w K' Q := by
  refine ⟨fun _ _ => trivial, ?_⟩
  rw [Fence.inRound_round, Oper.semAt_some l a.eval o hd]
  unfold Oper.wp at h
  cases hr : (execOp a.eval o).run P w with
  | ok nx w' =>
    rw [hr] at h
    cases nx with
    | value v => exact hK _ _ h
    | skip => exact hK _ _ h
    | defer d => exact hK _ _ h
    | enter f args =>
      refine ⟨fun e => by simp [Fence.wide] at e, CallsIn.inRound l (callsIn_wide.2 (Calls.mono h ?_))⟩
      intro e w' he
      cases e with
      | returned v => exact hK _ _ he
      | panicked chain => exact he
      | outgrown => exact he
    | row r args => exact ⟨fun e => by simp [Fence.wide] at e, rows_in (Rows.mono h (fun v w' hv => hK _ _ hv))⟩
    | _ => exact h.elim
  | halt hl w' =>
    rw [hr] at h
    cases hl with
    | panic v => exact h
    | _ => exact h.elim

/-- A region of such operations does within a round what it does elsewhere. -/
theorem anyIn_of_held {n l : Nat} {P : Program} {md : Region.Mode} {ops : Array Oper} {Q : Exit → Act → World → Prop} {S : World → Prop} (hd : ∀ (i : Nat) o, ops[i]? = some o → ∀ c, o.op ≠ .defer c) (hQ : ¬ LetsOut Q) :
    ∀ (fuel : Nat) (listed : Array Bool) (a : Act) (w : World), wpAnyH P md ops Q S fuel listed a w → wpAnyIn (Fence.wide.inRound l) n P md ops Q fuel listed a w := by
  intro fuel
  induction fuel with
  | zero => intro listed a w h; exact h
  | succ fuel ih =>
    intro listed a w h
    refine ⟨h.1, fun i hi => ?_⟩
    have h2 := h.2 i hi
    unfold wpOp at h2
    unfold wpOpIn
    cases ho : ops[i]? with
    | none =>
      rw [ho] at h2
      exact ih _ _ _ h2.2
    | some o =>
      rw [ho] at h2
      simp only at h2 ⊢
      split
      · rename_i hw
        rw [if_pos hw] at h2
        rcases h2 with h2 | h2
        · exact oper_in (hd i o ho) hQ (fun a w h => ih _ _ _ h.2) h2
        · exact absurd h2.2 hQ
      · rename_i hw
        rw [if_neg hw] at h2
        exact ⟨fun _ _ => trivial, ih _ _ _ h2.2⟩

theorem regionIn_of_held {n l : Nat} {P : Program} {id : Nat} {ops : Array Oper} {Q : Exit → Act → World → Prop} {S : World → Prop} {a : Act} {w : World} (hm : P.follows .mixedOrders = true) (hd : ∀ (i : Nat) o, ops[i]? = some o → ∀ c, o.op ≠ .defer c) (hQ : ¬ LetsOut Q)
    (h : wpAnyH P .any ops Q S ops.size (Array.replicate ops.size false) a w.drew) : (Code.region id ops true).wpIn (Fence.wide.inRound l) n P Q a w :=
  wpIn_region_any hm (anyIn_of_held hd hQ _ _ _ _ h)

def isDefer : Op → Bool
  | .defer _ => true
  | _ => false
theorem no_defer {ops : Array Oper} (h : ops.all (fun o => !isDefer o.op) = true) : ∀ (i : Nat) o, ops[i]? = some o → ∀ c, o.op ≠ .defer c := by
  intro i o hi c e
  have h1 := Array.all_eq_true.1 h i (Array.getElem?_eq_some_iff.1 hi).1
  rw [(Array.getElem?_eq_some_iff.1 hi).2, e] at h1
  cases h1
theorem regionIn_held {n l k : Nat} {P : Program} {id : Nat} {ops : Array Oper} {Q : Exit → Act → World → Prop} (S : World → Prop) {a : Act} {w : World} (hk : ops.size = k) (hm : P.follows .mixedOrders = true) (hd : ∀ (i : Nat) o, ops[i]? = some o → ∀ c, o.op ≠ .defer c) (hQ : ¬ LetsOut Q)
    (h : wpAnyH P .any ops Q S k (Array.replicate k false) a w.drew) : (Code.region id ops true).wpIn (Fence.wide.inRound l) n P Q a w := by
  subst hk
  exact regionIn_of_held hm hd hQ h
theorem wp_parts {F : Fence} {n : Nat} {P : Program} {c : Code} {Q : Exit → Act → World → Prop} {a : Act} {w : World} (hc : ∃ x y, c = .seq x y)
    (h : ∀ K : Act → World → Prop, (∀ a w, (sq2 c).wpIn F n P Q a w → K a w) → (sq1 c).wpIn F n P (Exit.then K Q) a w) : c.wpIn F n P Q a w := by
  obtain ⟨x, y, rfl⟩ := hc
  exact wpIn_seq_k h
end Go.Proofs.YtmodcbdgnmjkoaaDoor
namespace Go.Proofs.YtmodcbdgnmjkoaaDoor
open Go.RowKit Go.Shelf
open Mm (Turn gr RowAt PM)
set_option linter.unusedVariables false
set_option linter.unusedSimpArgs false
attribute [local go_sem] Oper.semAt_some
theorem leaf_of {K : Act → World → Prop} {Q : Exit → Act → World → Prop} {a : Act} {w2 wx : World} {b1 b2 : Nat} {x : Tra} (h : Got w2 wx b1 b2 x fZ) (f : ∀ wx, Got w2 wx b1 b2 x fZ → Exit.then K Q .normal a wx) : Exit.then K Q .normal a wx := f wx h
theorem byN_rng {x : Tra} (h : x.size = 1 ∨ x.size = 2 ∨ x.size = 3 ∨ x.size = 4) : 4096 ≤ byN x.size ∧ byN x.size ≤ 16777216 := by
  rcases h with h | h | h | h <;> rw [h] <;> decide
theorem va_end {x : Tra} (hf : Fz x) (hr : riF x = true) {k : Int} (hk : 0 ≤ k ∧ k < byN x.size) : x.va + k < 4294967296 := by
  have h1 := (ri_rr hf hr).1
  have h2 := hf.va
  rcases ri_size hr with hs | hs | hs | hs <;> rw [hs] at h1 hk
  · have h1 : x.va % 4096 = 0 := h1
    have hk : 0 ≤ k ∧ k < 4096 := hk
    omega
  · have h1 : x.va % 65536 = 0 := h1
    have hk : 0 ≤ k ∧ k < 65536 := hk
    omega
  · have h1 : x.va % 1048576 = 0 := h1
    have hk : 0 ≤ k ∧ k < 1048576 := hk
    omega
  · have h1 : x.va % 16777216 = 0 := h1
    have hk : 0 ≤ k ∧ k < 16777216 := hk
    omega
set_option maxRecDepth 100000 in
set_option maxHeartbeats 16000000 in
/-- A round from its bytes on. -/
theorem ls2_any {t0 t1 t2 t3 t4 t5 t6 t8 t18 t19 t20 t21 t22 t23 t24 t25 t26 t27 t28 t29 t30 t31 t32 t33 t34 t35 t36 t37 t38 t39 t40 t41 t42 t43 t44 t45 t46 t47 t48 t49 t50 t51 t52 t53 t54 t55 t56 t57 t58 t59 t60 t61 t62 t63 t64 t65 t66 t67 t68 t69 t70 t71 t72 t73 t74 t75 t76 t77 t78 t79 t80 t81 t82 t83 t84 t85 t86 t87 t88 t89 t90 t91 t92 t93 t94 t95 t96 t97 t98 t99 t100 t101 t102 t103 t104 t105 t106 t107 t108 t109 t110 t111 t112 t113 t114 t115 t116 t117 t118 t119 t120 t121 t122 t123 t124 t125 t126 t127 t128 t129 t130 t131 t132 t133 t134 t135 t136 t137 t138 t139 t140 t141 t142 t143 t144 t145 t146 t147 t148 t149 t150 t151 t152 t153 t154 t155 t156 t157 t158 t159 t160 : Value} (l n : Nat) (W : World) (B bc bb br bp bt bf bm bl bn : Nat) (S : Nat → Prop) (p N : Nat) (m : Nat → Int) (c : Ctx) (vb : Int) (U : Tra) (F : Fa) (lt : Tra) (mt : Bool) (k : Nat) (x : Tra) (bx : Nat) (w : World) (Q : Exit → Act → World → Prop) (o : LO W B bc bb br bp bt bf bm bl bn S) (h : LB W B bc bb br bp bt bf bm bl bn S p N m c vb U F lt mt k w) (hx : Bl w bx 35 [.int .i64 x.size, .int .u32 x.va, .int .u64 x.pa, .int .i64 x.dom, .int .i64 x.ap, .int .u32 x.bits, .bool x.ng, .bool x.xn]) (hxB : B ≤ bx) (hk : k ≤ 4096)
    (hm : Lm (ramMo N m) c x) (hc : c.Ok) (hvb : 0 ≤ vb ∧ vb < 4294967296) (tW : TS W) (hQ : ∀ a w, ¬ Q .outgrown a w) (hQp : ∀ ch a w, ¬ Q (.panic ch) a w)
    (hn : k + 1 ≤ 4096 → ∀ a w', Below w.heap.size w w' → Q .normal a ((((((((((w'.setCell ⟨bm, 0, none⟩ (.bool (mt || x.same U))).setCell ⟨bl, 0, none⟩ (.int .i64 x.size)).setCell ⟨bl, 1, none⟩ (.int .u32 x.va)).setCell ⟨bl, 2, none⟩ (.int .u64 x.pa)).setCell ⟨bl, 3, none⟩ (.int .i64 x.dom)).setCell ⟨bl, 4, none⟩ (.int .i64 x.ap)).setCell ⟨bl, 5, none⟩ (.int .u32 x.bits)).setCell ⟨bl, 6, none⟩ (.bool x.ng)).setCell ⟨bl, 7, none⟩ (.bool x.xn)).setCell ⟨bn, 0, none⟩ (.int .i64 ((k : Int) + 1))))
    (hr : ¬ k + 1 ≤ 4096 → ∀ a w', Below w.heap.size w w' → Q .ret a (((((((((((w'.setCell ⟨bm, 0, none⟩ (.bool (mt || x.same U))).setCell ⟨bl, 0, none⟩ (.int .i64 x.size)).setCell ⟨bl, 1, none⟩ (.int .u32 x.va)).setCell ⟨bl, 2, none⟩ (.int .u64 x.pa)).setCell ⟨bl, 3, none⟩ (.int .i64 x.dom)).setCell ⟨bl, 4, none⟩ (.int .i64 x.ap)).setCell ⟨bl, 5, none⟩ (.int .u32 x.bits)).setCell ⟨bl, 6, none⟩ (.bool x.ng)).setCell ⟨bl, 7, none⟩ (.bool x.xn)).setCell ⟨bn, 0, none⟩ (.int .i64 ((k : Int) + 1))).setCell ⟨br, 0, none⟩ (.bool true))) :
    (ls2 Tryd.f7).wpIn (Fence.wide.inRound l) n Tryd.prog Q { tmps := #[t0, t1, t2, t3, t4, t5, t6, .pointer (some ⟨bc, 0, none⟩), t8, .pointer (some ⟨bb, 0, none⟩), .pointer (some ⟨br, 0, none⟩), .pointer (some ⟨bp, 0, none⟩), .pointer (some ⟨bt, 0, none⟩), .pointer (some ⟨bf, 0, none⟩), .pointer (some ⟨bm, 0, none⟩), .pointer (some ⟨bl, 0, none⟩), .pointer (some ⟨bn, 0, none⟩), .pointer (some ⟨bx, 0, none⟩), t18, t19, t20, t21, t22, t23, t24, t25, t26, t27, t28, t29, t30, t31, t32, t33, t34, t35, t36, t37, t38, t39, t40, t41, t42, t43, t44, t45, t46, t47, t48, t49, t50, t51, t52, t53, t54, t55, t56, t57, t58, t59, t60, t61, t62, t63, t64, t65, t66, t67, t68, t69, t70, t71, t72, t73, t74, t75, t76, t77, t78, t79, t80, t81, t82, t83, t84, t85, t86, t87, t88, t89, t90, t91, t92, t93, t94, t95, t96, t97, t98, t99, t100, t101, t102, t103, t104, t105, t106, t107, t108, t109, t110, t111, t112, t113, t114, t115, t116, t117, t118, t119, t120, t121, t122, t123, t124, t125, t126, t127, t128, t129, t130, t131, t132, t133, t134, t135, t136, t137, t138, t139, t140, t141, t142, t143, t144, t145, t146, t147, t148, t149, t150, t151, t152, t153, t154, t155, t156, t157, t158, t159, t160], defers := [] } w := by
  refine wp_parts ⟨_, _, rfl⟩ (fun K hK => ?_)
  have HK : Hid (∀ a w, (ls3 Tryd.f7).wpIn (Fence.wide.inRound l) n Tryd.prog Q a w → K a w) := hidW hK
  clear hK
  simp only [ls2, ls1, lsB, lsF, sq2, sq1, blkC, rfB, Tryd.f7, Option.getD]
  have hkb := byN_rng hm.sz
  have hmd : 0 ≤ vb % byN x.size ∧ vb % byN x.size < byN x.size := ⟨Int.emod_nonneg _ (by omega), Int.emod_lt_of_pos _ (by omega)⟩
  have hve := va_end hm.fz hm.ri hmd
  have HM : Hid ((ramMo N m).Ok) := hidW (ramMo_ok h.pm.byts)
  have HSM := hidW (fun hs => sm_at HM.out hc hm.fz hs hmd)
  have hva := hm.fz.va
  have HBY := hidW (bytes_any x.size w (tW.below h.bel).r.tb)
  have HSA := hidW (fun ww (hb : Below w.heap.size w ww) => sameP_any c x ww (S := S) (.inl ⟨p, N, m, rfl, rfl, (h.below hb).pm⟩) hm.fz (tW.below (h.below hb).bel) hc)
  have HWK := hidW (fun ww (hb : Below w.heap.size w ww) => walk_pure c (x.va + vb % byN x.size) ww (S := S) (.inl ⟨p, N, m, rfl, rfl, (h.below hb).pm⟩) (tW.below (h.below hb).bel).tw hc ⟨by omega, hve⟩)
  have H := hidW h
  have HX := hidW hx
  have HN := hidW hn
  have HR := hidW hr
  have cX := hx.cell
  have cC := h.cx.cell
  have cP := h.mp.cell 0
  have cB := h.bb.cell 0
  simp only [List.getElem?_cons_zero] at cP cB
  clear h hx hn hr
  generalize byN x.size = kb at *
  have hkz : (4096 : Int) ≤ kb := hkb.1
  have hkz0 : (0 : Int) ≤ kb := by omega
  have hmw : IntKind.u32.wrap (vb % kb) = vb % kb := by rw [IntKind.wrap_u32]; omega
  have hmx : IntKind.u32.wrap (x.va + vb % kb) = x.va + vb % kb := by rw [IntKind.wrap_u32]; omega
  have hkn : ¬ kb = 0 := by omega
  have hvw : IntKind.u64.wrap vb = vb := by rw [IntKind.wrap_u64]; omega
  have htm : vb.tmod kb = vb % kb := Int.tmod_eq_emod_of_nonneg hvb.1
  have hm0 := hmd.1
  have hv0 := hvb.1
  gi_wp2_with fail
  refine ⟨trivial, fun h => by simp [Fence.wide] at h, (CallsIn.inRound l (callsIn_wide.2 HBY.out)).mono ?_⟩
  rintro e w1 ⟨rfl, rfl⟩
  clear HBY
  gi_wp2_with fail
  refine ⟨trivial, fun h => by simp [Fence.wide] at h, (CallsIn.inRound l (callsIn_wide.2 (HSA.out _ (Below.refl _ _)))).mono ?_⟩
  rintro e w2 ⟨rfl, hb2⟩
  have HB0 := hidW hb2
  have hs2 := hb2.size
  have hxl := HX.out.lt
  have LS := hidW (fun (w' : World) (hb' : Below w.heap.size w w') => And.intro (H.out.below hb') (HX.out.below hb'))
  clear HSA cX cC cP cB hb2
  by_cases hsm : smF (ramMo N m) c x = true
  · have HWX := HSM.out hsm
    have HC : Hid (∀ ww, Below w2.heap.size w2 ww → Calls Tryd.prog 11 #[.iface 30 (.pointer (some ⟨p, 0, none⟩)), .agg #[.bool c.on, .bool c.tre, .bool c.afe, .int .i64 c.n, .bool c.pd0, .bool c.pd1, .int .u64 c.b0, .int .u64 c.b1, .int .u32 c.dacr, .int .u32 c.prrr, .int .u32 c.nmrr, .int .i64 c.asid], .int .u32 (x.va + vb % kb)] ww fun e w' => e = .returned (.tuple #[.agg #[.int .i64 x.size, .int .u32 x.va, .int .u64 x.pa, .int .i64 x.dom, .int .i64 x.ap, .int .u32 x.bits, .bool x.ng, .bool x.xn], .agg #[.int .i64 fZ.k, .int .i64 fZ.l, .int .i64 fZ.d]]) ∧ Below ww.heap.size ww w') := by
      refine hidW (fun ww hb => ?_)
      have := HWK.out ww (Below.step HB0.out hb)
      rw [HWX] at this
      exact this
    have hS : ∀ W', Below w2.heap.size w2 W' → (W'.cell? ⟨bp, 0, none⟩ = some (.pointer (some ⟨p, 0, none⟩)) ∧ W'.cell? ⟨bc, 0, none⟩ = some (.bool c.on) ∧ W'.cell? ⟨bc, 1, none⟩ = some (.bool c.tre) ∧ W'.cell? ⟨bc, 2, none⟩ = some (.bool c.afe) ∧ W'.cell? ⟨bc, 3, none⟩ = some (.int .i64 c.n) ∧ W'.cell? ⟨bc, 4, none⟩ = some (.bool c.pd0) ∧ W'.cell? ⟨bc, 5, none⟩ = some (.bool c.pd1) ∧ W'.cell? ⟨bc, 6, none⟩ = some (.int .u64 c.b0) ∧ W'.cell? ⟨bc, 7, none⟩ = some (.int .u64 c.b1) ∧ W'.cell? ⟨bc, 8, none⟩ = some (.int .u32 c.dacr) ∧ W'.cell? ⟨bc, 9, none⟩ = some (.int .u32 c.prrr) ∧ W'.cell? ⟨bc, 10, none⟩ = some (.int .u32 c.nmrr) ∧ W'.cell? ⟨bc, 11, none⟩ = some (.int .i64 c.asid) ∧ W'.cell? ⟨bx, 1, none⟩ = some (.int .u32 x.va) ∧ W'.cell? ⟨bb, 0, none⟩ = some (.int .u32 vb)) := fun W' hb => by
      obtain ⟨h1, h2⟩ := LS.out W' (Below.step HB0.out hb)
      exact ⟨h1.mp.cell 0, h1.cx.cell 0, h1.cx.cell 1, h1.cx.cell 2, h1.cx.cell 3, h1.cx.cell 4, h1.cx.cell 5, h1.cx.cell 6, h1.cx.cell 7, h1.cx.cell 8, h1.cx.cell 9, h1.cx.cell 10, h1.cx.cell 11, h2.cell 1, h1.bb.cell 0⟩
    rw [hsm]
    have eT := eqT x x
    rw [Tra.same_self] at eT
    have HSM2 := hidW hsm
    clear hsm HWX HWK HSM H HX
    have HB1 := hidW (Below.refl w2.heap.size w2)
    have hs1 := HB1.out.size
    have hS0 := hS w2.drew (below_drew (Below.refl _ _))
    gi_wp2_with fail
    refine regionIn_held (k := 19) (fun w' => w'.cell? ⟨bp, 0, none⟩ = some (.pointer (some ⟨p, 0, none⟩)) ∧ w'.cell? ⟨bc, 0, none⟩ = some (.bool c.on) ∧ w'.cell? ⟨bc, 1, none⟩ = some (.bool c.tre) ∧ w'.cell? ⟨bc, 2, none⟩ = some (.bool c.afe) ∧ w'.cell? ⟨bc, 3, none⟩ = some (.int .i64 c.n) ∧ w'.cell? ⟨bc, 4, none⟩ = some (.bool c.pd0) ∧ w'.cell? ⟨bc, 5, none⟩ = some (.bool c.pd1) ∧ w'.cell? ⟨bc, 6, none⟩ = some (.int .u64 c.b0) ∧ w'.cell? ⟨bc, 7, none⟩ = some (.int .u64 c.b1) ∧ w'.cell? ⟨bc, 8, none⟩ = some (.int .u32 c.dacr) ∧ w'.cell? ⟨bc, 9, none⟩ = some (.int .u32 c.prrr) ∧ w'.cell? ⟨bc, 10, none⟩ = some (.int .u32 c.nmrr) ∧ w'.cell? ⟨bc, 11, none⟩ = some (.int .i64 c.asid) ∧ w'.cell? ⟨bx, 1, none⟩ = some (.int .u32 x.va) ∧ w'.cell? ⟨bb, 0, none⟩ = some (.int .u32 vb)) (by rfl) (by kernel_rfl) (no_defer (by kernel_rfl)) (by rintro ⟨a, w, h⟩; exact hQ _ _ h) ?_
    refine wpAnyH_take (i := 0) (oi := { dst := some 110, op := Op.load 30 (Operand.tmp 11), type := 30, pos := _, after := #[], guard := none }) (v := ?_) rfl (by kernel_rfl) (by kernel_rfl) (by kernel_rfl) (fun _ _ _ h => (hQp _ _ _ h).elim) (Or.inl ⟨by rfl, ?_⟩) (by assumption) ?_
    rotate_left
    · (intro w hSw; (try dsimp only at hSw); go_simp; try with_reducible rfl)
    simp only [Act.put, List.setIfInBounds_toArray, List.set_cons_zero, List.set_cons_succ]
    refine wpAnyH_take (i := 1) (oi := { dst := some 111, op := Op.makeInterface 30 (Operand.tmp 110), type := 78, pos := _, after := #[{ on := 0, ground := Ground.data }], guard := none }) (v := ?_) rfl (by kernel_rfl) (by kernel_rfl) (by kernel_rfl) (fun _ _ _ h => (hQp _ _ _ h).elim) (Or.inl ⟨by rfl, ?_⟩) (by assumption) ?_
    rotate_left
    · (intro w hSw; (try dsimp only at hSw); go_simp; try with_reducible rfl)
    simp only [Act.put, List.setIfInBounds_toArray, List.set_cons_zero, List.set_cons_succ]
    refine wpAnyH_take (i := 2) (oi := { dst := some 112, op := Op.load 26 (Operand.tmp 7), type := 26, pos := _, after := #[], guard := none }) (v := ?_) rfl (by kernel_rfl) (by kernel_rfl) (by kernel_rfl) (fun _ _ _ h => (hQp _ _ _ h).elim) (Or.inl ⟨by rfl, ?_⟩) (by assumption) ?_
    rotate_left
    · (intro w hSw; (try dsimp only at hSw); go_simp; try with_reducible rfl)
    simp only [Act.put, List.setIfInBounds_toArray, List.set_cons_zero, List.set_cons_succ]
    refine wpAnyH_take (i := 3) (oi := { dst := some 113, op := Op.fieldAddr 35 (Operand.tmp 17) 1, type := 0, pos := _, after := #[], guard := none }) (v := ?_) rfl (by kernel_rfl) (by kernel_rfl) (by kernel_rfl) (fun _ _ _ h => (hQp _ _ _ h).elim) (Or.inl ⟨by rfl, ?_⟩) (by assumption) ?_
    rotate_left
    · (intro w hSw; (try dsimp only at hSw); go_simp; try with_reducible rfl)
    simp only [Act.put, List.setIfInBounds_toArray, List.set_cons_zero, List.set_cons_succ]
    refine wpAnyH_take (i := 4) (oi := { dst := some 114, op := Op.load 24 (Operand.tmp 113), type := 24, pos := _, after := #[{ on := 3, ground := Ground.data }], guard := none }) (v := ?_) rfl (by kernel_rfl) (by kernel_rfl) (by kernel_rfl) (fun _ _ _ h => (hQp _ _ _ h).elim) (Or.inl ⟨by rfl, ?_⟩) (by assumption) ?_
    rotate_left
    · (intro w hSw; (try dsimp only at hSw); go_simp; try with_reducible rfl)
    simp only [Act.put, List.setIfInBounds_toArray, List.set_cons_zero, List.set_cons_succ]
    refine wpAnyH_take (i := 5) (oi := { dst := some 115, op := Op.load 24 (Operand.tmp 9), type := 24, pos := _, after := #[], guard := none }) (v := ?_) rfl (by kernel_rfl) (by kernel_rfl) (by kernel_rfl) (fun _ _ _ h => (hQp _ _ _ h).elim) (Or.inl ⟨by rfl, ?_⟩) (by assumption) ?_
    rotate_left
    · (intro w hSw; (try dsimp only at hSw); go_simp; try with_reducible rfl)
    simp only [Act.put, List.setIfInBounds_toArray, List.set_cons_zero, List.set_cons_succ]
    refine wpAnyH_take (i := 6) (oi := { dst := some 116, op := Op.convert 24 23 (Operand.tmp 115), type := 23, pos := _, after := #[{ on := 5, ground := Ground.data }], guard := none }) (v := ?_) rfl (by kernel_rfl) (by kernel_rfl) (by kernel_rfl) (fun _ _ _ h => (hQp _ _ _ h).elim) (Or.inl ⟨by rfl, ?_⟩) (by assumption) ?_
    rotate_left
    · (intro w hSw; (try dsimp only at hSw); go_simp; try with_reducible rfl)
    simp only [Act.put, List.setIfInBounds_toArray, List.set_cons_zero, List.set_cons_succ]
    refine wpAnyH_take (i := 7) (oi := { dst := some 117, op := Op.move (Operand.tmp 18), type := 23, pos := _, after := #[], guard := none }) (v := ?_) rfl (by kernel_rfl) (by kernel_rfl) (by kernel_rfl) (fun _ _ _ h => (hQp _ _ _ h).elim) (Or.inl ⟨by rfl, ?_⟩) (by assumption) ?_
    rotate_left
    · (intro w hSw; (try dsimp only at hSw); go_simp; try with_reducible rfl)
    simp only [Act.put, List.setIfInBounds_toArray, List.set_cons_zero, List.set_cons_succ]
    refine wpAnyH_take (i := 8) (oi := { dst := some 118, op := Op.binOp BinOp.rem 23 (Operand.tmp 116) (Operand.tmp 117) 23, type := 23, pos := _, after := #[{ on := 6, ground := Ground.data }, { on := 7, ground := Ground.data }], guard := none }) (v := ?_) rfl (by kernel_rfl) (by kernel_rfl) (by kernel_rfl) (fun _ _ _ h => (hQp _ _ _ h).elim) (Or.inl ⟨by rfl, ?_⟩) (by assumption) ?_
    rotate_left
    · (intro w hSw; (try dsimp only at hSw); go_simp; try with_reducible rfl)
    simp only [Act.put, List.setIfInBounds_toArray, List.set_cons_zero, List.set_cons_succ]
    refine wpAnyH_take (i := 9) (oi := { dst := some 119, op := Op.convert 23 24 (Operand.tmp 118), type := 24, pos := _, after := #[{ on := 8, ground := Ground.data }], guard := none }) (v := ?_) rfl (by kernel_rfl) (by kernel_rfl) (by kernel_rfl) (fun _ _ _ h => (hQp _ _ _ h).elim) (Or.inl ⟨by rfl, ?_⟩) (by assumption) ?_
    rotate_left
    · (intro w hSw; (try dsimp only at hSw); go_simp; try with_reducible rfl)
    simp only [Act.put, List.setIfInBounds_toArray, List.set_cons_zero, List.set_cons_succ]
    refine wpAnyH_take (i := 10) (oi := { dst := some 120, op := Op.binOp BinOp.add 24 (Operand.tmp 114) (Operand.tmp 119) 24, type := 24, pos := _, after := #[{ on := 4, ground := Ground.data }, { on := 9, ground := Ground.data }], guard := none }) (v := ?_) rfl (by kernel_rfl) (by kernel_rfl) (by kernel_rfl) (fun _ _ _ h => (hQp _ _ _ h).elim) (Or.inl ⟨by rfl, ?_⟩) (by assumption) ?_
    rotate_left
    · (intro w hSw; (try dsimp only at hSw); go_simp; try with_reducible rfl)
    simp only [Act.put, List.setIfInBounds_toArray, List.set_cons_zero, List.set_cons_succ]
    refine wpAnyH_ready (rs := [11, 15, 16]) (by kernel_rfl) (by simp) ?_
    refine (AllReadyH.cons (o := { dst := some 121, op := Op.call { callee := Callee.value (Operand.func 11), args := #[Operand.tmp 111, Operand.tmp 112, Operand.tmp 120], argTypes := #[78, 26, 24] }, type := 38, pos := _, after := #[{ on := 1, ground := Ground.data }, { on := 2, ground := Ground.data }, { on := 10, ground := Ground.data }], guard := none }) rfl (fun K hK => ?_) (AllReadyH.cons (o := { dst := some 19, op := Op.alloc 35, type := 0, pos := _, after := #[], guard := none }) rfl (fun K hK => ?_) (AllReadyH.cons (o := { dst := some 20, op := Op.alloc 37, type := 0, pos := _, after := #[], guard := none }) rfl (fun K hK => ?_) AllReadyH.nil)))
    · go_simp
      refine (HC.out _ (by ((repeat (first | (with_reducible refine Below.setCell ?_ (by first | exact Nat.le_refl _ | (dsimp only; omega)) _) | (with_reducible refine Below.alloc ?_ (by first | omega | (simp; omega) | simp) _) | (with_reducible refine below_drew ?_))); (first | (with_reducible exact HB1.out) | (with_reducible exact Below.refl _ _))))).mono ?_
      rintro e w1 ⟨rfl, hb⟩
      have HB2 : Hid (Below w2.heap.size w2 w1) := Below.step (by ((repeat (first | (with_reducible refine Below.setCell ?_ (by first | exact Nat.le_refl _ | (dsimp only; omega)) _) | (with_reducible refine Below.alloc ?_ (by first | omega | (simp; omega) | simp) _) | (with_reducible refine below_drew ?_))); (first | (with_reducible exact HB1.out) | (with_reducible exact Below.refl _ _)))) hb
      clear hb
      have HB1 := HB2
      have hs1 := HB1.out.size
      refine hK.out _ _ ?_ (fun hHeld => ?_)
      · exact hS _ (by ((repeat (first | (with_reducible refine Below.setCell ?_ (by first | exact Nat.le_refl _ | (dsimp only; omega)) _) | (with_reducible refine Below.alloc ?_ (by first | omega | (simp; omega) | simp) _) | (with_reducible refine below_drew ?_))); (first | (with_reducible exact HB1.out) | (with_reducible exact Below.refl _ _))))
      clear hK K
      try simp only [Act.put, List.setIfInBounds_toArray, List.set_cons_zero, List.set_cons_succ]
      refine wpAnyH_take (i := 12) (oi := { dst := some 109, op := Op.move (Operand.tmp 121), type := 38, pos := _, after := #[{ on := 11, ground := Ground.data }], guard := none }) (v := ?_) rfl (by kernel_rfl) (by kernel_rfl) (by kernel_rfl) (fun _ _ _ h => (hQp _ _ _ h).elim) (Or.inl ⟨by rfl, ?_⟩) (by assumption) ?_
      rotate_left
      · (intro w hSw; (try dsimp only at hSw); go_simp; try with_reducible rfl)
      simp only [Act.put, List.setIfInBounds_toArray, List.set_cons_zero, List.set_cons_succ]
      refine wpAnyH_take (i := 13) (oi := { dst := some 122, op := Op.extract (Operand.tmp 109) 0, type := 35, pos := _, after := #[{ on := 12, ground := Ground.data }], guard := none }) (v := ?_) rfl (by kernel_rfl) (by kernel_rfl) (by kernel_rfl) (fun _ _ _ h => (hQp _ _ _ h).elim) (Or.inl ⟨by rfl, ?_⟩) (by assumption) ?_
      rotate_left
      · (intro w hSw; (try dsimp only at hSw); go_simp; try with_reducible rfl)
      simp only [Act.put, List.setIfInBounds_toArray, List.set_cons_zero, List.set_cons_succ]
      refine wpAnyH_take (i := 14) (oi := { dst := some 123, op := Op.extract (Operand.tmp 109) 1, type := 37, pos := _, after := #[{ on := 12, ground := Ground.data }, { on := 17, ground := Ground.gcOnly Departure.lateStores }], guard := none }) (v := ?_) rfl (by kernel_rfl) (by kernel_rfl) (by kernel_rfl) (fun _ _ _ h => (hQp _ _ _ h).elim) (Or.inl ⟨by rfl, ?_⟩) (by assumption) ?_
      rotate_left
      · (intro w hSw; (try dsimp only at hSw); go_simp; try with_reducible rfl)
      simp only [Act.put, List.setIfInBounds_toArray, List.set_cons_zero, List.set_cons_succ]
      refine wpAnyH_ready (rs := [15, 16]) (by kernel_rfl) (by simp) ?_
      refine (AllReadyH.cons (o := { dst := some 19, op := Op.alloc 35, type := 0, pos := _, after := #[], guard := none }) rfl (fun K hK => ?_) (AllReadyH.cons (o := { dst := some 20, op := Op.alloc 37, type := 0, pos := _, after := #[], guard := none }) rfl (fun K hK => ?_) AllReadyH.nil))
      · go_simp
        refine hK.out _ _ ?_ (fun hHeld => ?_)
        · exact hS _ (by ((repeat (first | (with_reducible refine Below.setCell ?_ (by first | exact Nat.le_refl _ | (dsimp only; omega)) _) | (with_reducible refine Below.alloc ?_ (by first | omega | (simp; omega) | simp) _) | (with_reducible refine below_drew ?_))); (first | (with_reducible exact HB1.out) | (with_reducible exact Below.refl _ _))))
        clear hK K
        try simp only [Act.put, List.setIfInBounds_toArray, List.set_cons_zero, List.set_cons_succ]
        refine wpAnyH_ready (rs := [16]) (by kernel_rfl) (by simp) ?_
        refine (AllReadyH.cons (o := { dst := some 20, op := Op.alloc 37, type := 0, pos := _, after := #[], guard := none }) rfl (fun K hK => ?_) AllReadyH.nil)
        · go_simp
          refine hK.out _ _ ?_ (fun hHeld => ?_)
          · exact hS _ (by ((repeat (first | (with_reducible refine Below.setCell ?_ (by first | exact Nat.le_refl _ | (dsimp only; omega)) _) | (with_reducible refine Below.alloc ?_ (by first | omega | (simp; omega) | simp) _) | (with_reducible refine below_drew ?_))); (first | (with_reducible exact HB1.out) | (with_reducible exact Below.refl _ _))))
          clear hK K
          try simp only [Act.put, List.setIfInBounds_toArray, List.set_cons_zero, List.set_cons_succ]
          refine wpAnyH_ready (rs := [17]) (by kernel_rfl) (by simp) ?_
          refine AllReadyH.cons (o := { dst := none, op := Op.store 35 (Operand.tmp 19) (Operand.tmp 122), type := 0, pos := _, after := #[{ on := 15, ground := Ground.data }, { on := 13, ground := Ground.data }, { on := 11, ground := Ground.chain }, { on := 0, ground := Ground.phase }, { on := 1, ground := Ground.phase }, { on := 2, ground := Ground.phase }, { on := 3, ground := Ground.phase }, { on := 4, ground := Ground.phase }, { on := 5, ground := Ground.phase }, { on := 6, ground := Ground.phase }, { on := 7, ground := Ground.phase }, { on := 8, ground := Ground.phase }, { on := 9, ground := Ground.phase }, { on := 10, ground := Ground.phase }, { on := 11, ground := Ground.phase }, { on := 12, ground := Ground.phase }, { on := 13, ground := Ground.phase }, { on := 14, ground := Ground.textOnly Departure.lateStores }, { on := 15, ground := Ground.phase }, { on := 16, ground := Ground.phase }], guard := none }) rfl (fun K hK => ?_) AllReadyH.nil
          go_simp
          refine hK.out _ _ ?_ (fun hHeld => ?_)
          · exact hS _ (by ((repeat (first | (with_reducible refine Below.setCell ?_ (by first | exact Nat.le_refl _ | (dsimp only; omega)) _) | (with_reducible refine Below.alloc ?_ (by first | omega | (simp; omega) | simp) _) | (with_reducible refine below_drew ?_))); (first | (with_reducible exact HB1.out) | (with_reducible exact Below.refl _ _))))
          clear hK K
          try simp only [Act.put, List.setIfInBounds_toArray, List.set_cons_zero, List.set_cons_succ]
          refine wpAnyH_ready (rs := [18]) (by kernel_rfl) (by simp) ?_
          refine AllReadyH.cons (o := { dst := none, op := Op.store 37 (Operand.tmp 20) (Operand.tmp 123), type := 0, pos := _, after := #[{ on := 16, ground := Ground.data }, { on := 14, ground := Ground.data }, { on := 17, ground := Ground.chain }, { on := 0, ground := Ground.phase }, { on := 1, ground := Ground.phase }, { on := 2, ground := Ground.phase }, { on := 3, ground := Ground.phase }, { on := 4, ground := Ground.phase }, { on := 5, ground := Ground.phase }, { on := 6, ground := Ground.phase }, { on := 7, ground := Ground.phase }, { on := 8, ground := Ground.phase }, { on := 9, ground := Ground.phase }, { on := 10, ground := Ground.phase }, { on := 11, ground := Ground.phase }, { on := 12, ground := Ground.phase }, { on := 13, ground := Ground.phase }, { on := 14, ground := Ground.phase }, { on := 15, ground := Ground.phase }, { on := 16, ground := Ground.phase }, { on := 17, ground := Ground.phase }], guard := none }) rfl (fun K hK => ?_) AllReadyH.nil
          go_simp
          refine hK.out _ _ ?_ (fun hHeld => ?_)
          · exact hS _ (by ((repeat (first | (with_reducible refine Below.setCell ?_ (by first | exact Nat.le_refl _ | (dsimp only; omega)) _) | (with_reducible refine Below.alloc ?_ (by first | omega | (simp; omega) | simp) _) | (with_reducible refine below_drew ?_))); (first | (with_reducible exact HB1.out) | (with_reducible exact Below.refl _ _))))
          clear hK K
          try simp only [Act.put, List.setIfInBounds_toArray, List.set_cons_zero, List.set_cons_succ]
          refine wpAnyH_done (by kernel_rfl) ?_ _
          refine leaf_of (got1 HB1.out x fZ) (fun wx hG => ?_)
          have cY := hG.T.cell
          have cF := hG.F.cell
          have hbw := Below.step HB0.out hG.bel
          have cZ := (LS.out wx hbw).2.cell
          have HBW := hidW hbw
          clear hbw hG hS hS0
          gi_wp2
          exact HK.out _ _ (ls3_any l n W B bc bb br bp bt bf bm bl bn S p N m c vb U F lt mt k x bx wx Q o (LS.out wx HBW.out).1 (LS.out wx HBW.out).2 hxB hk (fun h a => HN.out h a wx HBW.out) (fun h a => HR.out h a wx HBW.out))
      · go_simp
        refine hK.out _ _ ?_ (fun hHeld => ?_)
        · exact hS _ (by ((repeat (first | (with_reducible refine Below.setCell ?_ (by first | exact Nat.le_refl _ | (dsimp only; omega)) _) | (with_reducible refine Below.alloc ?_ (by first | omega | (simp; omega) | simp) _) | (with_reducible refine below_drew ?_))); (first | (with_reducible exact HB1.out) | (with_reducible exact Below.refl _ _))))
        clear hK K
        try simp only [Act.put, List.setIfInBounds_toArray, List.set_cons_zero, List.set_cons_succ]
        refine wpAnyH_ready (rs := [15]) (by kernel_rfl) (by simp) ?_
        refine (AllReadyH.cons (o := { dst := some 19, op := Op.alloc 35, type := 0, pos := _, after := #[], guard := none }) rfl (fun K hK => ?_) AllReadyH.nil)
        · go_simp
          refine hK.out _ _ ?_ (fun hHeld => ?_)
          · exact hS _ (by ((repeat (first | (with_reducible refine Below.setCell ?_ (by first | exact Nat.le_refl _ | (dsimp only; omega)) _) | (with_reducible refine Below.alloc ?_ (by first | omega | (simp; omega) | simp) _) | (with_reducible refine below_drew ?_))); (first | (with_reducible exact HB1.out) | (with_reducible exact Below.refl _ _))))
          clear hK K
          try simp only [Act.put, List.setIfInBounds_toArray, List.set_cons_zero, List.set_cons_succ]
          refine wpAnyH_ready (rs := [17]) (by kernel_rfl) (by simp) ?_
          refine AllReadyH.cons (o := { dst := none, op := Op.store 35 (Operand.tmp 19) (Operand.tmp 122), type := 0, pos := _, after := #[{ on := 15, ground := Ground.data }, { on := 13, ground := Ground.data }, { on := 11, ground := Ground.chain }, { on := 0, ground := Ground.phase }, { on := 1, ground := Ground.phase }, { on := 2, ground := Ground.phase }, { on := 3, ground := Ground.phase }, { on := 4, ground := Ground.phase }, { on := 5, ground := Ground.phase }, { on := 6, ground := Ground.phase }, { on := 7, ground := Ground.phase }, { on := 8, ground := Ground.phase }, { on := 9, ground := Ground.phase }, { on := 10, ground := Ground.phase }, { on := 11, ground := Ground.phase }, { on := 12, ground := Ground.phase }, { on := 13, ground := Ground.phase }, { on := 14, ground := Ground.textOnly Departure.lateStores }, { on := 15, ground := Ground.phase }, { on := 16, ground := Ground.phase }], guard := none }) rfl (fun K hK => ?_) AllReadyH.nil
          go_simp
          refine hK.out _ _ ?_ (fun hHeld => ?_)
          · exact hS _ (by ((repeat (first | (with_reducible refine Below.setCell ?_ (by first | exact Nat.le_refl _ | (dsimp only; omega)) _) | (with_reducible refine Below.alloc ?_ (by first | omega | (simp; omega) | simp) _) | (with_reducible refine below_drew ?_))); (first | (with_reducible exact HB1.out) | (with_reducible exact Below.refl _ _))))
          clear hK K
          try simp only [Act.put, List.setIfInBounds_toArray, List.set_cons_zero, List.set_cons_succ]
          refine wpAnyH_ready (rs := [18]) (by kernel_rfl) (by simp) ?_
          refine AllReadyH.cons (o := { dst := none, op := Op.store 37 (Operand.tmp 20) (Operand.tmp 123), type := 0, pos := _, after := #[{ on := 16, ground := Ground.data }, { on := 14, ground := Ground.data }, { on := 17, ground := Ground.chain }, { on := 0, ground := Ground.phase }, { on := 1, ground := Ground.phase }, { on := 2, ground := Ground.phase }, { on := 3, ground := Ground.phase }, { on := 4, ground := Ground.phase }, { on := 5, ground := Ground.phase }, { on := 6, ground := Ground.phase }, { on := 7, ground := Ground.phase }, { on := 8, ground := Ground.phase }, { on := 9, ground := Ground.phase }, { on := 10, ground := Ground.phase }, { on := 11, ground := Ground.phase }, { on := 12, ground := Ground.phase }, { on := 13, ground := Ground.phase }, { on := 14, ground := Ground.phase }, { on := 15, ground := Ground.phase }, { on := 16, ground := Ground.phase }, { on := 17, ground := Ground.phase }], guard := none }) rfl (fun K hK => ?_) AllReadyH.nil
          go_simp
          refine hK.out _ _ ?_ (fun hHeld => ?_)
          · exact hS _ (by ((repeat (first | (with_reducible refine Below.setCell ?_ (by first | exact Nat.le_refl _ | (dsimp only; omega)) _) | (with_reducible refine Below.alloc ?_ (by first | omega | (simp; omega) | simp) _) | (with_reducible refine below_drew ?_))); (first | (with_reducible exact HB1.out) | (with_reducible exact Below.refl _ _))))
          clear hK K
          try simp only [Act.put, List.setIfInBounds_toArray, List.set_cons_zero, List.set_cons_succ]
          refine wpAnyH_done (by kernel_rfl) ?_ _
          refine leaf_of (got2 HB1.out x fZ) (fun wx hG => ?_)
          have cY := hG.T.cell
          have cF := hG.F.cell
          have hbw := Below.step HB0.out hG.bel
          have cZ := (LS.out wx hbw).2.cell
          have HBW := hidW hbw
          clear hbw hG hS hS0
          gi_wp2
          exact HK.out _ _ (ls3_any l n W B bc bb br bp bt bf bm bl bn S p N m c vb U F lt mt k x bx wx Q o (LS.out wx HBW.out).1 (LS.out wx HBW.out).2 hxB hk (fun h a => HN.out h a wx HBW.out) (fun h a => HR.out h a wx HBW.out))
    · go_simp
      refine hK.out _ _ ?_ (fun hHeld => ?_)
      · exact hS _ (by ((repeat (first | (with_reducible refine Below.setCell ?_ (by first | exact Nat.le_refl _ | (dsimp only; omega)) _) | (with_reducible refine Below.alloc ?_ (by first | omega | (simp; omega) | simp) _) | (with_reducible refine below_drew ?_))); (first | (with_reducible exact HB1.out) | (with_reducible exact Below.refl _ _))))
      clear hK K
      try simp only [Act.put, List.setIfInBounds_toArray, List.set_cons_zero, List.set_cons_succ]
      refine wpAnyH_ready (rs := [11, 16]) (by kernel_rfl) (by simp) ?_
      refine (AllReadyH.cons (o := { dst := some 121, op := Op.call { callee := Callee.value (Operand.func 11), args := #[Operand.tmp 111, Operand.tmp 112, Operand.tmp 120], argTypes := #[78, 26, 24] }, type := 38, pos := _, after := #[{ on := 1, ground := Ground.data }, { on := 2, ground := Ground.data }, { on := 10, ground := Ground.data }], guard := none }) rfl (fun K hK => ?_) (AllReadyH.cons (o := { dst := some 20, op := Op.alloc 37, type := 0, pos := _, after := #[], guard := none }) rfl (fun K hK => ?_) AllReadyH.nil))
      · go_simp
        refine (HC.out _ (by ((repeat (first | (with_reducible refine Below.setCell ?_ (by first | exact Nat.le_refl _ | (dsimp only; omega)) _) | (with_reducible refine Below.alloc ?_ (by first | omega | (simp; omega) | simp) _) | (with_reducible refine below_drew ?_))); (first | (with_reducible exact HB1.out) | (with_reducible exact Below.refl _ _))))).mono ?_
        rintro e w1 ⟨rfl, hb⟩
        have hA : Bl w1 w2.heap.size 35 zT := Bl.below ((Bl.new w2 35 zT).drew) hb
        have cA := hA.cell; have gA := hA.frozen; have lA := hA.lt
        have HB2 : Hid (Below w2.heap.size w2 w1) := Below.step (by ((repeat (first | (with_reducible refine Below.setCell ?_ (by first | exact Nat.le_refl _ | (dsimp only; omega)) _) | (with_reducible refine Below.alloc ?_ (by first | omega | (simp; omega) | simp) _) | (with_reducible refine below_drew ?_))); (first | (with_reducible exact HB1.out) | (with_reducible exact Below.refl _ _)))) hb
        clear hb
        have HB1 := HB2
        have hs1 := HB1.out.size
        refine hK.out _ _ ?_ (fun hHeld => ?_)
        · exact hS _ (by ((repeat (first | (with_reducible refine Below.setCell ?_ (by first | exact Nat.le_refl _ | (dsimp only; omega)) _) | (with_reducible refine Below.alloc ?_ (by first | omega | (simp; omega) | simp) _) | (with_reducible refine below_drew ?_))); (first | (with_reducible exact HB1.out) | (with_reducible exact Below.refl _ _))))
        clear hK K
        try simp only [Act.put, List.setIfInBounds_toArray, List.set_cons_zero, List.set_cons_succ]
        refine wpAnyH_take (i := 12) (oi := { dst := some 109, op := Op.move (Operand.tmp 121), type := 38, pos := _, after := #[{ on := 11, ground := Ground.data }], guard := none }) (v := ?_) rfl (by kernel_rfl) (by kernel_rfl) (by kernel_rfl) (fun _ _ _ h => (hQp _ _ _ h).elim) (Or.inl ⟨by rfl, ?_⟩) (by assumption) ?_
        rotate_left
        · (intro w hSw; (try dsimp only at hSw); go_simp; try with_reducible rfl)
        simp only [Act.put, List.setIfInBounds_toArray, List.set_cons_zero, List.set_cons_succ]
        refine wpAnyH_take (i := 13) (oi := { dst := some 122, op := Op.extract (Operand.tmp 109) 0, type := 35, pos := _, after := #[{ on := 12, ground := Ground.data }], guard := none }) (v := ?_) rfl (by kernel_rfl) (by kernel_rfl) (by kernel_rfl) (fun _ _ _ h => (hQp _ _ _ h).elim) (Or.inl ⟨by rfl, ?_⟩) (by assumption) ?_
        rotate_left
        · (intro w hSw; (try dsimp only at hSw); go_simp; try with_reducible rfl)
        simp only [Act.put, List.setIfInBounds_toArray, List.set_cons_zero, List.set_cons_succ]
        refine wpAnyH_take (i := 14) (oi := { dst := some 123, op := Op.extract (Operand.tmp 109) 1, type := 37, pos := _, after := #[{ on := 12, ground := Ground.data }, { on := 17, ground := Ground.gcOnly Departure.lateStores }], guard := none }) (v := ?_) rfl (by kernel_rfl) (by kernel_rfl) (by kernel_rfl) (fun _ _ _ h => (hQp _ _ _ h).elim) (Or.inl ⟨by rfl, ?_⟩) (by assumption) ?_
        rotate_left
        · (intro w hSw; (try dsimp only at hSw); go_simp; try with_reducible rfl)
        simp only [Act.put, List.setIfInBounds_toArray, List.set_cons_zero, List.set_cons_succ]
        refine wpAnyH_ready (rs := [16]) (by kernel_rfl) (by simp) ?_
        refine (AllReadyH.cons (o := { dst := some 20, op := Op.alloc 37, type := 0, pos := _, after := #[], guard := none }) rfl (fun K hK => ?_) AllReadyH.nil)
        · go_simp
          refine hK.out _ _ ?_ (fun hHeld => ?_)
          · exact hS _ (by ((repeat (first | (with_reducible refine Below.setCell ?_ (by first | exact Nat.le_refl _ | (dsimp only; omega)) _) | (with_reducible refine Below.alloc ?_ (by first | omega | (simp; omega) | simp) _) | (with_reducible refine below_drew ?_))); (first | (with_reducible exact HB1.out) | (with_reducible exact Below.refl _ _))))
          clear hK K
          try simp only [Act.put, List.setIfInBounds_toArray, List.set_cons_zero, List.set_cons_succ]
          refine wpAnyH_ready (rs := [17]) (by kernel_rfl) (by simp) ?_
          refine AllReadyH.cons (o := { dst := none, op := Op.store 35 (Operand.tmp 19) (Operand.tmp 122), type := 0, pos := _, after := #[{ on := 15, ground := Ground.data }, { on := 13, ground := Ground.data }, { on := 11, ground := Ground.chain }, { on := 0, ground := Ground.phase }, { on := 1, ground := Ground.phase }, { on := 2, ground := Ground.phase }, { on := 3, ground := Ground.phase }, { on := 4, ground := Ground.phase }, { on := 5, ground := Ground.phase }, { on := 6, ground := Ground.phase }, { on := 7, ground := Ground.phase }, { on := 8, ground := Ground.phase }, { on := 9, ground := Ground.phase }, { on := 10, ground := Ground.phase }, { on := 11, ground := Ground.phase }, { on := 12, ground := Ground.phase }, { on := 13, ground := Ground.phase }, { on := 14, ground := Ground.textOnly Departure.lateStores }, { on := 15, ground := Ground.phase }, { on := 16, ground := Ground.phase }], guard := none }) rfl (fun K hK => ?_) AllReadyH.nil
          go_simp
          refine hK.out _ _ ?_ (fun hHeld => ?_)
          · exact hS _ (by ((repeat (first | (with_reducible refine Below.setCell ?_ (by first | exact Nat.le_refl _ | (dsimp only; omega)) _) | (with_reducible refine Below.alloc ?_ (by first | omega | (simp; omega) | simp) _) | (with_reducible refine below_drew ?_))); (first | (with_reducible exact HB1.out) | (with_reducible exact Below.refl _ _))))
          clear hK K
          try simp only [Act.put, List.setIfInBounds_toArray, List.set_cons_zero, List.set_cons_succ]
          refine wpAnyH_ready (rs := [18]) (by kernel_rfl) (by simp) ?_
          refine AllReadyH.cons (o := { dst := none, op := Op.store 37 (Operand.tmp 20) (Operand.tmp 123), type := 0, pos := _, after := #[{ on := 16, ground := Ground.data }, { on := 14, ground := Ground.data }, { on := 17, ground := Ground.chain }, { on := 0, ground := Ground.phase }, { on := 1, ground := Ground.phase }, { on := 2, ground := Ground.phase }, { on := 3, ground := Ground.phase }, { on := 4, ground := Ground.phase }, { on := 5, ground := Ground.phase }, { on := 6, ground := Ground.phase }, { on := 7, ground := Ground.phase }, { on := 8, ground := Ground.phase }, { on := 9, ground := Ground.phase }, { on := 10, ground := Ground.phase }, { on := 11, ground := Ground.phase }, { on := 12, ground := Ground.phase }, { on := 13, ground := Ground.phase }, { on := 14, ground := Ground.phase }, { on := 15, ground := Ground.phase }, { on := 16, ground := Ground.phase }, { on := 17, ground := Ground.phase }], guard := none }) rfl (fun K hK => ?_) AllReadyH.nil
          go_simp
          refine hK.out _ _ ?_ (fun hHeld => ?_)
          · exact hS _ (by ((repeat (first | (with_reducible refine Below.setCell ?_ (by first | exact Nat.le_refl _ | (dsimp only; omega)) _) | (with_reducible refine Below.alloc ?_ (by first | omega | (simp; omega) | simp) _) | (with_reducible refine below_drew ?_))); (first | (with_reducible exact HB1.out) | (with_reducible exact Below.refl _ _))))
          clear hK K
          try simp only [Act.put, List.setIfInBounds_toArray, List.set_cons_zero, List.set_cons_succ]
          refine wpAnyH_done (by kernel_rfl) ?_ _
          refine leaf_of (got3 HB1.out x fZ _ (Nat.le_refl _) hA) (fun wx hG => ?_)
          have cY := hG.T.cell
          have cF := hG.F.cell
          have hbw := Below.step HB0.out hG.bel
          have cZ := (LS.out wx hbw).2.cell
          have HBW := hidW hbw
          clear hbw hG hS hS0
          gi_wp2
          exact HK.out _ _ (ls3_any l n W B bc bb br bp bt bf bm bl bn S p N m c vb U F lt mt k x bx wx Q o (LS.out wx HBW.out).1 (LS.out wx HBW.out).2 hxB hk (fun h a => HN.out h a wx HBW.out) (fun h a => HR.out h a wx HBW.out))
      · go_simp
        refine hK.out _ _ ?_ (fun hHeld => ?_)
        · exact hS _ (by ((repeat (first | (with_reducible refine Below.setCell ?_ (by first | exact Nat.le_refl _ | (dsimp only; omega)) _) | (with_reducible refine Below.alloc ?_ (by first | omega | (simp; omega) | simp) _) | (with_reducible refine below_drew ?_))); (first | (with_reducible exact HB1.out) | (with_reducible exact Below.refl _ _))))
        clear hK K
        try simp only [Act.put, List.setIfInBounds_toArray, List.set_cons_zero, List.set_cons_succ]
        refine wpAnyH_ready (rs := [11]) (by kernel_rfl) (by simp) ?_
        refine (AllReadyH.cons (o := { dst := some 121, op := Op.call { callee := Callee.value (Operand.func 11), args := #[Operand.tmp 111, Operand.tmp 112, Operand.tmp 120], argTypes := #[78, 26, 24] }, type := 38, pos := _, after := #[{ on := 1, ground := Ground.data }, { on := 2, ground := Ground.data }, { on := 10, ground := Ground.data }], guard := none }) rfl (fun K hK => ?_) AllReadyH.nil)
        · go_simp
          refine (HC.out _ (by ((repeat (first | (with_reducible refine Below.setCell ?_ (by first | exact Nat.le_refl _ | (dsimp only; omega)) _) | (with_reducible refine Below.alloc ?_ (by first | omega | (simp; omega) | simp) _) | (with_reducible refine below_drew ?_))); (first | (with_reducible exact HB1.out) | (with_reducible exact Below.refl _ _))))).mono ?_
          rintro e w1 ⟨rfl, hb⟩
          have hA : Bl w1 w2.heap.size 35 zT := Bl.below (((Bl.new w2 35 zT).below (below_new _ _)).drew) hb
          have hD : Bl w1 (w2.heap.size + 1) 37 zF := Bl.below ((Bl.new1 w2 _ 37 zF).drew) hb
          have cA := hA.cell; have gA := hA.frozen; have lA := hA.lt
          have cD := hD.cell; have gD := hD.frozen; have lD := hD.lt
          have HB2 : Hid (Below w2.heap.size w2 w1) := Below.step (by ((repeat (first | (with_reducible refine Below.setCell ?_ (by first | exact Nat.le_refl _ | (dsimp only; omega)) _) | (with_reducible refine Below.alloc ?_ (by first | omega | (simp; omega) | simp) _) | (with_reducible refine below_drew ?_))); (first | (with_reducible exact HB1.out) | (with_reducible exact Below.refl _ _)))) hb
          clear hb
          have HB1 := HB2
          have hs1 := HB1.out.size
          refine hK.out _ _ ?_ (fun hHeld => ?_)
          · exact hS _ (by ((repeat (first | (with_reducible refine Below.setCell ?_ (by first | exact Nat.le_refl _ | (dsimp only; omega)) _) | (with_reducible refine Below.alloc ?_ (by first | omega | (simp; omega) | simp) _) | (with_reducible refine below_drew ?_))); (first | (with_reducible exact HB1.out) | (with_reducible exact Below.refl _ _))))
          clear hK K
          try simp only [Act.put, List.setIfInBounds_toArray, List.set_cons_zero, List.set_cons_succ]
          refine wpAnyH_take (i := 12) (oi := { dst := some 109, op := Op.move (Operand.tmp 121), type := 38, pos := _, after := #[{ on := 11, ground := Ground.data }], guard := none }) (v := ?_) rfl (by kernel_rfl) (by kernel_rfl) (by kernel_rfl) (fun _ _ _ h => (hQp _ _ _ h).elim) (Or.inl ⟨by rfl, ?_⟩) (by assumption) ?_
          rotate_left
          · (intro w hSw; (try dsimp only at hSw); go_simp; try with_reducible rfl)
          simp only [Act.put, List.setIfInBounds_toArray, List.set_cons_zero, List.set_cons_succ]
          refine wpAnyH_take (i := 13) (oi := { dst := some 122, op := Op.extract (Operand.tmp 109) 0, type := 35, pos := _, after := #[{ on := 12, ground := Ground.data }], guard := none }) (v := ?_) rfl (by kernel_rfl) (by kernel_rfl) (by kernel_rfl) (fun _ _ _ h => (hQp _ _ _ h).elim) (Or.inl ⟨by rfl, ?_⟩) (by assumption) ?_
          rotate_left
          · (intro w hSw; (try dsimp only at hSw); go_simp; try with_reducible rfl)
          simp only [Act.put, List.setIfInBounds_toArray, List.set_cons_zero, List.set_cons_succ]
          refine wpAnyH_take (i := 14) (oi := { dst := some 123, op := Op.extract (Operand.tmp 109) 1, type := 37, pos := _, after := #[{ on := 12, ground := Ground.data }, { on := 17, ground := Ground.gcOnly Departure.lateStores }], guard := none }) (v := ?_) rfl (by kernel_rfl) (by kernel_rfl) (by kernel_rfl) (fun _ _ _ h => (hQp _ _ _ h).elim) (Or.inl ⟨by rfl, ?_⟩) (by assumption) ?_
          rotate_left
          · (intro w hSw; (try dsimp only at hSw); go_simp; try with_reducible rfl)
          simp only [Act.put, List.setIfInBounds_toArray, List.set_cons_zero, List.set_cons_succ]
          refine wpAnyH_ready (rs := [17]) (by kernel_rfl) (by simp) ?_
          refine AllReadyH.cons (o := { dst := none, op := Op.store 35 (Operand.tmp 19) (Operand.tmp 122), type := 0, pos := _, after := #[{ on := 15, ground := Ground.data }, { on := 13, ground := Ground.data }, { on := 11, ground := Ground.chain }, { on := 0, ground := Ground.phase }, { on := 1, ground := Ground.phase }, { on := 2, ground := Ground.phase }, { on := 3, ground := Ground.phase }, { on := 4, ground := Ground.phase }, { on := 5, ground := Ground.phase }, { on := 6, ground := Ground.phase }, { on := 7, ground := Ground.phase }, { on := 8, ground := Ground.phase }, { on := 9, ground := Ground.phase }, { on := 10, ground := Ground.phase }, { on := 11, ground := Ground.phase }, { on := 12, ground := Ground.phase }, { on := 13, ground := Ground.phase }, { on := 14, ground := Ground.textOnly Departure.lateStores }, { on := 15, ground := Ground.phase }, { on := 16, ground := Ground.phase }], guard := none }) rfl (fun K hK => ?_) AllReadyH.nil
          go_simp
          refine hK.out _ _ ?_ (fun hHeld => ?_)
          · exact hS _ (by ((repeat (first | (with_reducible refine Below.setCell ?_ (by first | exact Nat.le_refl _ | (dsimp only; omega)) _) | (with_reducible refine Below.alloc ?_ (by first | omega | (simp; omega) | simp) _) | (with_reducible refine below_drew ?_))); (first | (with_reducible exact HB1.out) | (with_reducible exact Below.refl _ _))))
          clear hK K
          try simp only [Act.put, List.setIfInBounds_toArray, List.set_cons_zero, List.set_cons_succ]
          refine wpAnyH_ready (rs := [18]) (by kernel_rfl) (by simp) ?_
          refine AllReadyH.cons (o := { dst := none, op := Op.store 37 (Operand.tmp 20) (Operand.tmp 123), type := 0, pos := _, after := #[{ on := 16, ground := Ground.data }, { on := 14, ground := Ground.data }, { on := 17, ground := Ground.chain }, { on := 0, ground := Ground.phase }, { on := 1, ground := Ground.phase }, { on := 2, ground := Ground.phase }, { on := 3, ground := Ground.phase }, { on := 4, ground := Ground.phase }, { on := 5, ground := Ground.phase }, { on := 6, ground := Ground.phase }, { on := 7, ground := Ground.phase }, { on := 8, ground := Ground.phase }, { on := 9, ground := Ground.phase }, { on := 10, ground := Ground.phase }, { on := 11, ground := Ground.phase }, { on := 12, ground := Ground.phase }, { on := 13, ground := Ground.phase }, { on := 14, ground := Ground.phase }, { on := 15, ground := Ground.phase }, { on := 16, ground := Ground.phase }, { on := 17, ground := Ground.phase }], guard := none }) rfl (fun K hK => ?_) AllReadyH.nil
          go_simp
          refine hK.out _ _ ?_ (fun hHeld => ?_)
          · exact hS _ (by ((repeat (first | (with_reducible refine Below.setCell ?_ (by first | exact Nat.le_refl _ | (dsimp only; omega)) _) | (with_reducible refine Below.alloc ?_ (by first | omega | (simp; omega) | simp) _) | (with_reducible refine below_drew ?_))); (first | (with_reducible exact HB1.out) | (with_reducible exact Below.refl _ _))))
          clear hK K
          try simp only [Act.put, List.setIfInBounds_toArray, List.set_cons_zero, List.set_cons_succ]
          refine wpAnyH_done (by kernel_rfl) ?_ _
          refine leaf_of (got5 HB1.out x fZ _ _ (Nat.le_refl _) (Nat.le_succ _) (Nat.ne_of_lt (Nat.lt_succ_self _)) hA hD) (fun wx hG => ?_)
          have cY := hG.T.cell
          have cF := hG.F.cell
          have hbw := Below.step HB0.out hG.bel
          have cZ := (LS.out wx hbw).2.cell
          have HBW := hidW hbw
          clear hbw hG hS hS0
          gi_wp2
          exact HK.out _ _ (ls3_any l n W B bc bb br bp bt bf bm bl bn S p N m c vb U F lt mt k x bx wx Q o (LS.out wx HBW.out).1 (LS.out wx HBW.out).2 hxB hk (fun h a => HN.out h a wx HBW.out) (fun h a => HR.out h a wx HBW.out))
    · go_simp
      refine hK.out _ _ ?_ (fun hHeld => ?_)
      · exact hS _ (by ((repeat (first | (with_reducible refine Below.setCell ?_ (by first | exact Nat.le_refl _ | (dsimp only; omega)) _) | (with_reducible refine Below.alloc ?_ (by first | omega | (simp; omega) | simp) _) | (with_reducible refine below_drew ?_))); (first | (with_reducible exact HB1.out) | (with_reducible exact Below.refl _ _))))
      clear hK K
      try simp only [Act.put, List.setIfInBounds_toArray, List.set_cons_zero, List.set_cons_succ]
      refine wpAnyH_ready (rs := [11, 15]) (by kernel_rfl) (by simp) ?_
      refine (AllReadyH.cons (o := { dst := some 121, op := Op.call { callee := Callee.value (Operand.func 11), args := #[Operand.tmp 111, Operand.tmp 112, Operand.tmp 120], argTypes := #[78, 26, 24] }, type := 38, pos := _, after := #[{ on := 1, ground := Ground.data }, { on := 2, ground := Ground.data }, { on := 10, ground := Ground.data }], guard := none }) rfl (fun K hK => ?_) (AllReadyH.cons (o := { dst := some 19, op := Op.alloc 35, type := 0, pos := _, after := #[], guard := none }) rfl (fun K hK => ?_) AllReadyH.nil))
      · go_simp
        refine (HC.out _ (by ((repeat (first | (with_reducible refine Below.setCell ?_ (by first | exact Nat.le_refl _ | (dsimp only; omega)) _) | (with_reducible refine Below.alloc ?_ (by first | omega | (simp; omega) | simp) _) | (with_reducible refine below_drew ?_))); (first | (with_reducible exact HB1.out) | (with_reducible exact Below.refl _ _))))).mono ?_
        rintro e w1 ⟨rfl, hb⟩
        have hB : Bl w1 w2.heap.size 37 zF := Bl.below ((Bl.new w2 37 zF).drew) hb
        have cB := hB.cell; have gB := hB.frozen; have lB := hB.lt
        have HB2 : Hid (Below w2.heap.size w2 w1) := Below.step (by ((repeat (first | (with_reducible refine Below.setCell ?_ (by first | exact Nat.le_refl _ | (dsimp only; omega)) _) | (with_reducible refine Below.alloc ?_ (by first | omega | (simp; omega) | simp) _) | (with_reducible refine below_drew ?_))); (first | (with_reducible exact HB1.out) | (with_reducible exact Below.refl _ _)))) hb
        clear hb
        have HB1 := HB2
        have hs1 := HB1.out.size
        refine hK.out _ _ ?_ (fun hHeld => ?_)
        · exact hS _ (by ((repeat (first | (with_reducible refine Below.setCell ?_ (by first | exact Nat.le_refl _ | (dsimp only; omega)) _) | (with_reducible refine Below.alloc ?_ (by first | omega | (simp; omega) | simp) _) | (with_reducible refine below_drew ?_))); (first | (with_reducible exact HB1.out) | (with_reducible exact Below.refl _ _))))
        clear hK K
        try simp only [Act.put, List.setIfInBounds_toArray, List.set_cons_zero, List.set_cons_succ]
        refine wpAnyH_take (i := 12) (oi := { dst := some 109, op := Op.move (Operand.tmp 121), type := 38, pos := _, after := #[{ on := 11, ground := Ground.data }], guard := none }) (v := ?_) rfl (by kernel_rfl) (by kernel_rfl) (by kernel_rfl) (fun _ _ _ h => (hQp _ _ _ h).elim) (Or.inl ⟨by rfl, ?_⟩) (by assumption) ?_
        rotate_left
        · (intro w hSw; (try dsimp only at hSw); go_simp; try with_reducible rfl)
        simp only [Act.put, List.setIfInBounds_toArray, List.set_cons_zero, List.set_cons_succ]
        refine wpAnyH_take (i := 13) (oi := { dst := some 122, op := Op.extract (Operand.tmp 109) 0, type := 35, pos := _, after := #[{ on := 12, ground := Ground.data }], guard := none }) (v := ?_) rfl (by kernel_rfl) (by kernel_rfl) (by kernel_rfl) (fun _ _ _ h => (hQp _ _ _ h).elim) (Or.inl ⟨by rfl, ?_⟩) (by assumption) ?_
        rotate_left
        · (intro w hSw; (try dsimp only at hSw); go_simp; try with_reducible rfl)
        simp only [Act.put, List.setIfInBounds_toArray, List.set_cons_zero, List.set_cons_succ]
        refine wpAnyH_take (i := 14) (oi := { dst := some 123, op := Op.extract (Operand.tmp 109) 1, type := 37, pos := _, after := #[{ on := 12, ground := Ground.data }, { on := 17, ground := Ground.gcOnly Departure.lateStores }], guard := none }) (v := ?_) rfl (by kernel_rfl) (by kernel_rfl) (by kernel_rfl) (fun _ _ _ h => (hQp _ _ _ h).elim) (Or.inl ⟨by rfl, ?_⟩) (by assumption) ?_
        rotate_left
        · (intro w hSw; (try dsimp only at hSw); go_simp; try with_reducible rfl)
        simp only [Act.put, List.setIfInBounds_toArray, List.set_cons_zero, List.set_cons_succ]
        refine wpAnyH_ready (rs := [15]) (by kernel_rfl) (by simp) ?_
        refine (AllReadyH.cons (o := { dst := some 19, op := Op.alloc 35, type := 0, pos := _, after := #[], guard := none }) rfl (fun K hK => ?_) AllReadyH.nil)
        · go_simp
          refine hK.out _ _ ?_ (fun hHeld => ?_)
          · exact hS _ (by ((repeat (first | (with_reducible refine Below.setCell ?_ (by first | exact Nat.le_refl _ | (dsimp only; omega)) _) | (with_reducible refine Below.alloc ?_ (by first | omega | (simp; omega) | simp) _) | (with_reducible refine below_drew ?_))); (first | (with_reducible exact HB1.out) | (with_reducible exact Below.refl _ _))))
          clear hK K
          try simp only [Act.put, List.setIfInBounds_toArray, List.set_cons_zero, List.set_cons_succ]
          refine wpAnyH_ready (rs := [17]) (by kernel_rfl) (by simp) ?_
          refine AllReadyH.cons (o := { dst := none, op := Op.store 35 (Operand.tmp 19) (Operand.tmp 122), type := 0, pos := _, after := #[{ on := 15, ground := Ground.data }, { on := 13, ground := Ground.data }, { on := 11, ground := Ground.chain }, { on := 0, ground := Ground.phase }, { on := 1, ground := Ground.phase }, { on := 2, ground := Ground.phase }, { on := 3, ground := Ground.phase }, { on := 4, ground := Ground.phase }, { on := 5, ground := Ground.phase }, { on := 6, ground := Ground.phase }, { on := 7, ground := Ground.phase }, { on := 8, ground := Ground.phase }, { on := 9, ground := Ground.phase }, { on := 10, ground := Ground.phase }, { on := 11, ground := Ground.phase }, { on := 12, ground := Ground.phase }, { on := 13, ground := Ground.phase }, { on := 14, ground := Ground.textOnly Departure.lateStores }, { on := 15, ground := Ground.phase }, { on := 16, ground := Ground.phase }], guard := none }) rfl (fun K hK => ?_) AllReadyH.nil
          go_simp
          refine hK.out _ _ ?_ (fun hHeld => ?_)
          · exact hS _ (by ((repeat (first | (with_reducible refine Below.setCell ?_ (by first | exact Nat.le_refl _ | (dsimp only; omega)) _) | (with_reducible refine Below.alloc ?_ (by first | omega | (simp; omega) | simp) _) | (with_reducible refine below_drew ?_))); (first | (with_reducible exact HB1.out) | (with_reducible exact Below.refl _ _))))
          clear hK K
          try simp only [Act.put, List.setIfInBounds_toArray, List.set_cons_zero, List.set_cons_succ]
          refine wpAnyH_ready (rs := [18]) (by kernel_rfl) (by simp) ?_
          refine AllReadyH.cons (o := { dst := none, op := Op.store 37 (Operand.tmp 20) (Operand.tmp 123), type := 0, pos := _, after := #[{ on := 16, ground := Ground.data }, { on := 14, ground := Ground.data }, { on := 17, ground := Ground.chain }, { on := 0, ground := Ground.phase }, { on := 1, ground := Ground.phase }, { on := 2, ground := Ground.phase }, { on := 3, ground := Ground.phase }, { on := 4, ground := Ground.phase }, { on := 5, ground := Ground.phase }, { on := 6, ground := Ground.phase }, { on := 7, ground := Ground.phase }, { on := 8, ground := Ground.phase }, { on := 9, ground := Ground.phase }, { on := 10, ground := Ground.phase }, { on := 11, ground := Ground.phase }, { on := 12, ground := Ground.phase }, { on := 13, ground := Ground.phase }, { on := 14, ground := Ground.phase }, { on := 15, ground := Ground.phase }, { on := 16, ground := Ground.phase }, { on := 17, ground := Ground.phase }], guard := none }) rfl (fun K hK => ?_) AllReadyH.nil
          go_simp
          refine hK.out _ _ ?_ (fun hHeld => ?_)
          · exact hS _ (by ((repeat (first | (with_reducible refine Below.setCell ?_ (by first | exact Nat.le_refl _ | (dsimp only; omega)) _) | (with_reducible refine Below.alloc ?_ (by first | omega | (simp; omega) | simp) _) | (with_reducible refine below_drew ?_))); (first | (with_reducible exact HB1.out) | (with_reducible exact Below.refl _ _))))
          clear hK K
          try simp only [Act.put, List.setIfInBounds_toArray, List.set_cons_zero, List.set_cons_succ]
          refine wpAnyH_done (by kernel_rfl) ?_ _
          refine leaf_of (got4 HB1.out x fZ _ (Nat.le_refl _) hB) (fun wx hG => ?_)
          have cY := hG.T.cell
          have cF := hG.F.cell
          have hbw := Below.step HB0.out hG.bel
          have cZ := (LS.out wx hbw).2.cell
          have HBW := hidW hbw
          clear hbw hG hS hS0
          gi_wp2
          exact HK.out _ _ (ls3_any l n W B bc bb br bp bt bf bm bl bn S p N m c vb U F lt mt k x bx wx Q o (LS.out wx HBW.out).1 (LS.out wx HBW.out).2 hxB hk (fun h a => HN.out h a wx HBW.out) (fun h a => HR.out h a wx HBW.out))
      · go_simp
        refine hK.out _ _ ?_ (fun hHeld => ?_)
        · exact hS _ (by ((repeat (first | (with_reducible refine Below.setCell ?_ (by first | exact Nat.le_refl _ | (dsimp only; omega)) _) | (with_reducible refine Below.alloc ?_ (by first | omega | (simp; omega) | simp) _) | (with_reducible refine below_drew ?_))); (first | (with_reducible exact HB1.out) | (with_reducible exact Below.refl _ _))))
        clear hK K
        try simp only [Act.put, List.setIfInBounds_toArray, List.set_cons_zero, List.set_cons_succ]
        refine wpAnyH_ready (rs := [11]) (by kernel_rfl) (by simp) ?_
        refine (AllReadyH.cons (o := { dst := some 121, op := Op.call { callee := Callee.value (Operand.func 11), args := #[Operand.tmp 111, Operand.tmp 112, Operand.tmp 120], argTypes := #[78, 26, 24] }, type := 38, pos := _, after := #[{ on := 1, ground := Ground.data }, { on := 2, ground := Ground.data }, { on := 10, ground := Ground.data }], guard := none }) rfl (fun K hK => ?_) AllReadyH.nil)
        · go_simp
          refine (HC.out _ (by ((repeat (first | (with_reducible refine Below.setCell ?_ (by first | exact Nat.le_refl _ | (dsimp only; omega)) _) | (with_reducible refine Below.alloc ?_ (by first | omega | (simp; omega) | simp) _) | (with_reducible refine below_drew ?_))); (first | (with_reducible exact HB1.out) | (with_reducible exact Below.refl _ _))))).mono ?_
          rintro e w1 ⟨rfl, hb⟩
          have hB : Bl w1 w2.heap.size 37 zF := Bl.below (((Bl.new w2 37 zF).below (below_new _ _)).drew) hb
          have hC : Bl w1 (w2.heap.size + 1) 35 zT := Bl.below ((Bl.new1 w2 _ 35 zT).drew) hb
          have cB := hB.cell; have gB := hB.frozen; have lB := hB.lt
          have cC := hC.cell; have gC := hC.frozen; have lC := hC.lt
          have HB2 : Hid (Below w2.heap.size w2 w1) := Below.step (by ((repeat (first | (with_reducible refine Below.setCell ?_ (by first | exact Nat.le_refl _ | (dsimp only; omega)) _) | (with_reducible refine Below.alloc ?_ (by first | omega | (simp; omega) | simp) _) | (with_reducible refine below_drew ?_))); (first | (with_reducible exact HB1.out) | (with_reducible exact Below.refl _ _)))) hb
          clear hb
          have HB1 := HB2
          have hs1 := HB1.out.size
          refine hK.out _ _ ?_ (fun hHeld => ?_)
          · exact hS _ (by ((repeat (first | (with_reducible refine Below.setCell ?_ (by first | exact Nat.le_refl _ | (dsimp only; omega)) _) | (with_reducible refine Below.alloc ?_ (by first | omega | (simp; omega) | simp) _) | (with_reducible refine below_drew ?_))); (first | (with_reducible exact HB1.out) | (with_reducible exact Below.refl _ _))))
          clear hK K
          try simp only [Act.put, List.setIfInBounds_toArray, List.set_cons_zero, List.set_cons_succ]
          refine wpAnyH_take (i := 12) (oi := { dst := some 109, op := Op.move (Operand.tmp 121), type := 38, pos := _, after := #[{ on := 11, ground := Ground.data }], guard := none }) (v := ?_) rfl (by kernel_rfl) (by kernel_rfl) (by kernel_rfl) (fun _ _ _ h => (hQp _ _ _ h).elim) (Or.inl ⟨by rfl, ?_⟩) (by assumption) ?_
          rotate_left
          · (intro w hSw; (try dsimp only at hSw); go_simp; try with_reducible rfl)
          simp only [Act.put, List.setIfInBounds_toArray, List.set_cons_zero, List.set_cons_succ]
          refine wpAnyH_take (i := 13) (oi := { dst := some 122, op := Op.extract (Operand.tmp 109) 0, type := 35, pos := _, after := #[{ on := 12, ground := Ground.data }], guard := none }) (v := ?_) rfl (by kernel_rfl) (by kernel_rfl) (by kernel_rfl) (fun _ _ _ h => (hQp _ _ _ h).elim) (Or.inl ⟨by rfl, ?_⟩) (by assumption) ?_
          rotate_left
          · (intro w hSw; (try dsimp only at hSw); go_simp; try with_reducible rfl)
          simp only [Act.put, List.setIfInBounds_toArray, List.set_cons_zero, List.set_cons_succ]
          refine wpAnyH_take (i := 14) (oi := { dst := some 123, op := Op.extract (Operand.tmp 109) 1, type := 37, pos := _, after := #[{ on := 12, ground := Ground.data }, { on := 17, ground := Ground.gcOnly Departure.lateStores }], guard := none }) (v := ?_) rfl (by kernel_rfl) (by kernel_rfl) (by kernel_rfl) (fun _ _ _ h => (hQp _ _ _ h).elim) (Or.inl ⟨by rfl, ?_⟩) (by assumption) ?_
          rotate_left
          · (intro w hSw; (try dsimp only at hSw); go_simp; try with_reducible rfl)
          simp only [Act.put, List.setIfInBounds_toArray, List.set_cons_zero, List.set_cons_succ]
          refine wpAnyH_ready (rs := [17]) (by kernel_rfl) (by simp) ?_
          refine AllReadyH.cons (o := { dst := none, op := Op.store 35 (Operand.tmp 19) (Operand.tmp 122), type := 0, pos := _, after := #[{ on := 15, ground := Ground.data }, { on := 13, ground := Ground.data }, { on := 11, ground := Ground.chain }, { on := 0, ground := Ground.phase }, { on := 1, ground := Ground.phase }, { on := 2, ground := Ground.phase }, { on := 3, ground := Ground.phase }, { on := 4, ground := Ground.phase }, { on := 5, ground := Ground.phase }, { on := 6, ground := Ground.phase }, { on := 7, ground := Ground.phase }, { on := 8, ground := Ground.phase }, { on := 9, ground := Ground.phase }, { on := 10, ground := Ground.phase }, { on := 11, ground := Ground.phase }, { on := 12, ground := Ground.phase }, { on := 13, ground := Ground.phase }, { on := 14, ground := Ground.textOnly Departure.lateStores }, { on := 15, ground := Ground.phase }, { on := 16, ground := Ground.phase }], guard := none }) rfl (fun K hK => ?_) AllReadyH.nil
          go_simp
          refine hK.out _ _ ?_ (fun hHeld => ?_)
          · exact hS _ (by ((repeat (first | (with_reducible refine Below.setCell ?_ (by first | exact Nat.le_refl _ | (dsimp only; omega)) _) | (with_reducible refine Below.alloc ?_ (by first | omega | (simp; omega) | simp) _) | (with_reducible refine below_drew ?_))); (first | (with_reducible exact HB1.out) | (with_reducible exact Below.refl _ _))))
          clear hK K
          try simp only [Act.put, List.setIfInBounds_toArray, List.set_cons_zero, List.set_cons_succ]
          refine wpAnyH_ready (rs := [18]) (by kernel_rfl) (by simp) ?_
          refine AllReadyH.cons (o := { dst := none, op := Op.store 37 (Operand.tmp 20) (Operand.tmp 123), type := 0, pos := _, after := #[{ on := 16, ground := Ground.data }, { on := 14, ground := Ground.data }, { on := 17, ground := Ground.chain }, { on := 0, ground := Ground.phase }, { on := 1, ground := Ground.phase }, { on := 2, ground := Ground.phase }, { on := 3, ground := Ground.phase }, { on := 4, ground := Ground.phase }, { on := 5, ground := Ground.phase }, { on := 6, ground := Ground.phase }, { on := 7, ground := Ground.phase }, { on := 8, ground := Ground.phase }, { on := 9, ground := Ground.phase }, { on := 10, ground := Ground.phase }, { on := 11, ground := Ground.phase }, { on := 12, ground := Ground.phase }, { on := 13, ground := Ground.phase }, { on := 14, ground := Ground.phase }, { on := 15, ground := Ground.phase }, { on := 16, ground := Ground.phase }, { on := 17, ground := Ground.phase }], guard := none }) rfl (fun K hK => ?_) AllReadyH.nil
          go_simp
          refine hK.out _ _ ?_ (fun hHeld => ?_)
          · exact hS _ (by ((repeat (first | (with_reducible refine Below.setCell ?_ (by first | exact Nat.le_refl _ | (dsimp only; omega)) _) | (with_reducible refine Below.alloc ?_ (by first | omega | (simp; omega) | simp) _) | (with_reducible refine below_drew ?_))); (first | (with_reducible exact HB1.out) | (with_reducible exact Below.refl _ _))))
          clear hK K
          try simp only [Act.put, List.setIfInBounds_toArray, List.set_cons_zero, List.set_cons_succ]
          refine wpAnyH_done (by kernel_rfl) ?_ _
          refine leaf_of (got5 HB1.out x fZ _ _ (Nat.le_succ _) (Nat.le_refl _) (Nat.ne_of_gt (Nat.lt_succ_self _)) hC hB) (fun wx hG => ?_)
          have cY := hG.T.cell
          have cF := hG.F.cell
          have hbw := Below.step HB0.out hG.bel
          have cZ := (LS.out wx hbw).2.cell
          have HBW := hidW hbw
          clear hbw hG hS hS0
          gi_wp2
          exact HK.out _ _ (ls3_any l n W B bc bb br bp bt bf bm bl bn S p N m c vb U F lt mt k x bx wx Q o (LS.out wx HBW.out).1 (LS.out wx HBW.out).2 hxB hk (fun h a => HN.out h a wx HBW.out) (fun h a => HR.out h a wx HBW.out))
  · have hsf : smF (ramMo N m) c x = false := by simpa using hsm
    rw [hsf]
    clear HSM HWK H HX hsm hsf
    gi_wp2
    exact HK.out _ _ (ls3_any l n W B bc bb br bp bt bf bm bl bn S p N m c vb U F lt mt k x bx w2 Q o (LS.out w2 HB0.out).1 (LS.out w2 HB0.out).2 hxB hk (fun h a => HN.out h a w2 HB0.out) (fun h a => HR.out h a w2 HB0.out))
end Go.Proofs.YtmodcbdgnmjkoaaDoor
namespace Go.Proofs.YtmodcbdgnmjkoaaDoor
open Go.RowKit Go.Shelf
open Mm (Turn gr RowAt PM)
set_option linter.unusedVariables false
set_option linter.unusedSimpArgs false
attribute [local go_sem] Oper.semAt_some
set_option maxRecDepth 100000 in
set_option maxHeartbeats 16000000 in
/-- A round from the look at its size on. -/
theorem ls1_any {t0 t1 t2 t3 t4 t5 t6 t8 t18 t19 t20 t21 t22 t23 t24 t25 t26 t27 t28 t29 t30 t31 t32 t33 t34 t35 t36 t37 t38 t39 t40 t41 t42 t43 t44 t45 t46 t47 t48 t49 t50 t51 t52 t53 t54 t55 t56 t57 t58 t59 t60 t61 t62 t63 t64 t65 t66 t67 t68 t69 t70 t71 t72 t73 t74 t75 t76 t77 t78 t79 t80 t81 t82 t83 t84 t85 t86 t87 t88 t89 t90 t91 t92 t93 t94 t95 t96 t97 t98 t99 t100 t101 t102 t103 t104 t105 t106 t107 t108 t109 t110 t111 t112 t113 t114 t115 t116 t117 t118 t119 t120 t121 t122 t123 t124 t125 t126 t127 t128 t129 t130 t131 t132 t133 t134 t135 t136 t137 t138 t139 t140 t141 t142 t143 t144 t145 t146 t147 t148 t149 t150 t151 t152 t153 t154 t155 t156 t157 t158 t159 t160 : Value} (l n : Nat) (W : World) (B bc bb br bp bt bf bm bl bn : Nat) (S : Nat → Prop) (p N : Nat) (m : Nat → Int) (c : Ctx) (vb : Int) (U : Tra) (F : Fa) (lt : Tra) (mt : Bool) (k : Nat) (x : Tra) (bx : Nat) (w : World) (Q : Exit → Act → World → Prop) (o : LO W B bc bb br bp bt bf bm bl bn S) (h : LB W B bc bb br bp bt bf bm bl bn S p N m c vb U F lt mt k w) (hx : Bl w bx 35 [.int .i64 x.size, .int .u32 x.va, .int .u64 x.pa, .int .i64 x.dom, .int .i64 x.ap, .int .u32 x.bits, .bool x.ng, .bool x.xn]) (hxB : B ≤ bx) (hk : k ≤ 4096)
    (hm : Lm (ramMo N m) c x) (hc : c.Ok) (hvb : 0 ≤ vb ∧ vb < 4294967296) (tW : TS W) (hQ : ∀ a w, ¬ Q .outgrown a w) (hQp : ∀ ch a w, ¬ Q (.panic ch) a w)
    (hn : k + 1 ≤ 4096 → ∀ a w', Below w.heap.size w w' → Q .normal a ((((((((((w'.setCell ⟨bm, 0, none⟩ (.bool (mt || x.same U))).setCell ⟨bl, 0, none⟩ (.int .i64 x.size)).setCell ⟨bl, 1, none⟩ (.int .u32 x.va)).setCell ⟨bl, 2, none⟩ (.int .u64 x.pa)).setCell ⟨bl, 3, none⟩ (.int .i64 x.dom)).setCell ⟨bl, 4, none⟩ (.int .i64 x.ap)).setCell ⟨bl, 5, none⟩ (.int .u32 x.bits)).setCell ⟨bl, 6, none⟩ (.bool x.ng)).setCell ⟨bl, 7, none⟩ (.bool x.xn)).setCell ⟨bn, 0, none⟩ (.int .i64 ((k : Int) + 1))))
    (hr : ¬ k + 1 ≤ 4096 → ∀ a w', Below w.heap.size w w' → Q .ret a (((((((((((w'.setCell ⟨bm, 0, none⟩ (.bool (mt || x.same U))).setCell ⟨bl, 0, none⟩ (.int .i64 x.size)).setCell ⟨bl, 1, none⟩ (.int .u32 x.va)).setCell ⟨bl, 2, none⟩ (.int .u64 x.pa)).setCell ⟨bl, 3, none⟩ (.int .i64 x.dom)).setCell ⟨bl, 4, none⟩ (.int .i64 x.ap)).setCell ⟨bl, 5, none⟩ (.int .u32 x.bits)).setCell ⟨bl, 6, none⟩ (.bool x.ng)).setCell ⟨bl, 7, none⟩ (.bool x.xn)).setCell ⟨bn, 0, none⟩ (.int .i64 ((k : Int) + 1))).setCell ⟨br, 0, none⟩ (.bool true))) :
    (ls1 Tryd.f7).wpIn (Fence.wide.inRound l) n Tryd.prog Q { tmps := #[t0, t1, t2, t3, t4, t5, t6, .pointer (some ⟨bc, 0, none⟩), t8, .pointer (some ⟨bb, 0, none⟩), .pointer (some ⟨br, 0, none⟩), .pointer (some ⟨bp, 0, none⟩), .pointer (some ⟨bt, 0, none⟩), .pointer (some ⟨bf, 0, none⟩), .pointer (some ⟨bm, 0, none⟩), .pointer (some ⟨bl, 0, none⟩), .pointer (some ⟨bn, 0, none⟩), .pointer (some ⟨bx, 0, none⟩), t18, t19, t20, t21, t22, t23, t24, t25, t26, t27, t28, t29, t30, t31, t32, t33, t34, t35, t36, t37, t38, t39, t40, t41, t42, t43, t44, t45, t46, t47, t48, t49, t50, t51, t52, t53, t54, t55, t56, t57, t58, t59, t60, t61, t62, t63, t64, t65, t66, t67, t68, t69, t70, t71, t72, t73, t74, t75, t76, t77, t78, t79, t80, t81, t82, t83, t84, t85, t86, t87, t88, t89, t90, t91, t92, t93, t94, t95, t96, t97, t98, t99, t100, t101, t102, t103, t104, t105, t106, t107, t108, t109, t110, t111, t112, t113, t114, t115, t116, t117, t118, t119, t120, t121, t122, t123, t124, t125, t126, t127, t128, t129, t130, t131, t132, t133, t134, t135, t136, t137, t138, t139, t140, t141, t142, t143, t144, t145, t146, t147, t148, t149, t150, t151, t152, t153, t154, t155, t156, t157, t158, t159, t160], defers := [] } w := by
  refine wp_parts ⟨_, _, rfl⟩ (fun K hK => ?_)
  have HK : Hid (∀ a w, (ls2 Tryd.f7).wpIn (Fence.wide.inRound l) n Tryd.prog Q a w → K a w) := hidW hK
  clear hK
  simp only [ls1, lsB, lsF, sq2, sq1, blkC, rfB, Tryd.f7, Option.getD]
  have HRI := hidW (right_any x w (tW.below h.bel).r hm.fz.va ⟨hm.fz.pa, hm.fz.bt⟩)
  rw [hm.ri] at HRI
  have HSA := hidW (fun ww (hb : Below w.heap.size w ww) => sameP_any c x ww (S := S) (.inl ⟨p, N, m, rfl, rfl, (h.below hb).pm⟩) hm.fz (tW.below (h.below hb).bel) hc)
  have HSM := hidW hm.sm
  have H := hidW h
  have HX := hidW hx
  have HN := hidW hn
  have HR := hidW hr
  have cX := hx.cell
  have LS := hidW (fun (w' : World) (hb' : Below w.heap.size w w') => And.intro (H.out.below hb') (HX.out.below hb'))
  clear h hx hn hr
  have hsz : ((x.size == 1) = true ∧ smF (ramMo N m) c x = true) ∨ ((x.size == 1) = false ∧ (x.size == 3) = true ∧ smF (ramMo N m) c x = true) ∨ ((x.size == 1) = false ∧ (x.size == 3) = false) := by
    by_cases h1 : x.size = 1
    · exact .inl ⟨by simp [h1], HSM.out (.inl h1)⟩
    · by_cases h3 : x.size = 3
      · exact .inr (.inl ⟨by simp [h1], by simp [h3], HSM.out (.inr h3)⟩)
      · exact .inr (.inr ⟨by simp [h1], by simp [h3]⟩)
  clear HSM
  gi_wp2_with fail
  refine ⟨trivial, fun h => by simp [Fence.wide] at h, (CallsIn.inRound l (callsIn_wide.2 (HRI.out))).mono ?_⟩
  rintro e w1 ⟨rfl, hb1⟩
  have HBW := hidW hb1
  obtain ⟨hL1, hX1⟩ := LS.out w1 hb1
  have cX1 := hX1.cell
  have cC1 := hL1.cx.cell
  have cP1 := hL1.mp.cell 0
  simp only [List.getElem?_cons_zero] at cP1
  clear HRI hb1 hL1 hX1 cX H HX
  rcases hsz with ⟨q1, qs⟩ | ⟨q1, q3, qs⟩ | ⟨q1, q3⟩
  · have HQS := hidW qs
    clear qs
    gi_wp2_with fail
    refine ⟨trivial, fun h => by simp [Fence.wide] at h, (CallsIn.inRound l (callsIn_wide.2 (HSA.out _ HBW.out))).mono ?_⟩
    rintro e w2 ⟨rfl, hb2⟩
    have HBW2 := hidW (Below.step HBW.out hb2)
    rw [HQS.out]
    clear hb2 HBW HSA cX1 cC1 cP1
    have HBW := HBW2
    gi_wp2
    exact HK.out _ _ (ls2_any l n W B bc bb br bp bt bf bm bl bn S p N m c vb U F lt mt k x bx w2 Q o (LS.out w2 HBW.out).1 (LS.out w2 HBW.out).2 hxB hk hm hc hvb tW hQ hQp (fun h a w' hb => HN.out h a w' (Below.step HBW.out hb)) (fun h a w' hb => HR.out h a w' (Below.step HBW.out hb)))
  · have HQS := hidW qs
    clear qs
    gi_wp2_with fail
    refine ⟨trivial, fun h => by simp [Fence.wide] at h, (CallsIn.inRound l (callsIn_wide.2 (HSA.out _ HBW.out))).mono ?_⟩
    rintro e w2 ⟨rfl, hb2⟩
    have HBW2 := hidW (Below.step HBW.out hb2)
    rw [HQS.out]
    clear hb2 HBW HSA cX1 cC1 cP1
    have HBW := HBW2
    gi_wp2
    exact HK.out _ _ (ls2_any l n W B bc bb br bp bt bf bm bl bn S p N m c vb U F lt mt k x bx w2 Q o (LS.out w2 HBW.out).1 (LS.out w2 HBW.out).2 hxB hk hm hc hvb tW hQ hQp (fun h a w' hb => HN.out h a w' (Below.step HBW.out hb)) (fun h a w' hb => HR.out h a w' (Below.step HBW.out hb)))
  · gi_wp2_with fail
    refine ⟨trivial, ?_⟩
    gi_wp2
    exact HK.out _ _ (ls2_any l n W B bc bb br bp bt bf bm bl bn S p N m c vb U F lt mt k x bx w1 Q o (LS.out w1 HBW.out).1 (LS.out w1 HBW.out).2 hxB hk hm hc hvb tW hQ hQp (fun h a w' hb => HN.out h a w' (Below.step HBW.out hb)) (fun h a w' hb => HR.out h a w' (Below.step HBW.out hb)))
theorem wp_blk {F : Fence} {n i : Nat} {P : Program} {c : Code} {Q : Exit → Act → World → Prop} {a : Act} {w : World} (hc : ∃ x, c = .block i x) (h : (blkC c).wpIn F n P (Exit.inBlock i Q) a w) : c.wpIn F n P Q a w := by
  obtain ⟨x, rfl⟩ := hc
  exact wpIn_block h
set_option maxRecDepth 100000 in
set_option maxHeartbeats 16000000 in
/-- A round. -/
theorem lsB_any {t0 t1 t2 t3 t4 t5 t6 t8 t18 t19 t20 t21 t22 t23 t24 t25 t26 t27 t28 t29 t30 t31 t32 t33 t34 t35 t36 t37 t38 t39 t40 t41 t42 t43 t44 t45 t46 t47 t48 t49 t50 t51 t52 t53 t54 t55 t56 t57 t58 t59 t60 t61 t62 t63 t64 t65 t66 t67 t68 t69 t70 t71 t72 t73 t74 t75 t76 t77 t78 t79 t80 t81 t82 t83 t84 t85 t86 t87 t88 t89 t90 t91 t92 t93 t94 t95 t96 t97 t98 t99 t100 t101 t102 t103 t104 t105 t106 t107 t108 t109 t110 t111 t112 t113 t114 t115 t116 t117 t118 t119 t120 t121 t122 t123 t124 t125 t126 t127 t128 t129 t130 t131 t132 t133 t134 t135 t136 t137 t138 t139 t140 t141 t142 t143 t144 t145 t146 t147 t148 t149 t150 t151 t152 t153 t154 t155 t156 t157 t158 t159 t160 : Value} (l n : Nat) (W : World) (B bc bb br bp bt bf bm bl bn : Nat) (S : Nat → Prop) (p N : Nat) (m : Nat → Int) (c : Ctx) (vb : Int) (U : Tra) (F : Fa) (lt : Tra) (mt : Bool) (k : Nat) (x : Tra) (bx : Nat) (w : World) (Q : Exit → Act → World → Prop) (o : LO W B bc bb br bp bt bf bm bl bn S) (h : LB W B bc bb br bp bt bf bm bl bn S p N m c vb U F lt mt k w) (hx : Bl w bx 35 [.int .i64 x.size, .int .u32 x.va, .int .u64 x.pa, .int .i64 x.dom, .int .i64 x.ap, .int .u32 x.bits, .bool x.ng, .bool x.xn]) (hxB : B ≤ bx) (hk : k ≤ 4096)
    (hm : Lm (ramMo N m) c x) (hc : c.Ok) (hvb : 0 ≤ vb ∧ vb < 4294967296) (tW : TS W) (hQ : ∀ a w, ¬ Q .outgrown a w) (hQp : ∀ ch a w, ¬ Q (.panic ch) a w)
    (hn : k + 1 ≤ 4096 → ∀ a w', Below w.heap.size w w' → Q .normal a ((((((((((w'.setCell ⟨bm, 0, none⟩ (.bool (mt || x.same U))).setCell ⟨bl, 0, none⟩ (.int .i64 x.size)).setCell ⟨bl, 1, none⟩ (.int .u32 x.va)).setCell ⟨bl, 2, none⟩ (.int .u64 x.pa)).setCell ⟨bl, 3, none⟩ (.int .i64 x.dom)).setCell ⟨bl, 4, none⟩ (.int .i64 x.ap)).setCell ⟨bl, 5, none⟩ (.int .u32 x.bits)).setCell ⟨bl, 6, none⟩ (.bool x.ng)).setCell ⟨bl, 7, none⟩ (.bool x.xn)).setCell ⟨bn, 0, none⟩ (.int .i64 ((k : Int) + 1))))
    (hr : ¬ k + 1 ≤ 4096 → ∀ a w', Below w.heap.size w w' → Q .ret a (((((((((((w'.setCell ⟨bm, 0, none⟩ (.bool (mt || x.same U))).setCell ⟨bl, 0, none⟩ (.int .i64 x.size)).setCell ⟨bl, 1, none⟩ (.int .u32 x.va)).setCell ⟨bl, 2, none⟩ (.int .u64 x.pa)).setCell ⟨bl, 3, none⟩ (.int .i64 x.dom)).setCell ⟨bl, 4, none⟩ (.int .i64 x.ap)).setCell ⟨bl, 5, none⟩ (.int .u32 x.bits)).setCell ⟨bl, 6, none⟩ (.bool x.ng)).setCell ⟨bl, 7, none⟩ (.bool x.xn)).setCell ⟨bn, 0, none⟩ (.int .i64 ((k : Int) + 1))).setCell ⟨br, 0, none⟩ (.bool true)))
    (hf : 0 < k → ltT lt x = false → ∀ a, Q .ret a (w.setCell ⟨br, 0, none⟩ (.bool false))) :
    (lsB Tryd.f7).wpIn (Fence.wide.inRound l) n Tryd.prog Q { tmps := #[t0, t1, t2, t3, t4, t5, t6, .pointer (some ⟨bc, 0, none⟩), t8, .pointer (some ⟨bb, 0, none⟩), .pointer (some ⟨br, 0, none⟩), .pointer (some ⟨bp, 0, none⟩), .pointer (some ⟨bt, 0, none⟩), .pointer (some ⟨bf, 0, none⟩), .pointer (some ⟨bm, 0, none⟩), .pointer (some ⟨bl, 0, none⟩), .pointer (some ⟨bn, 0, none⟩), .pointer (some ⟨bx, 0, none⟩), t18, t19, t20, t21, t22, t23, t24, t25, t26, t27, t28, t29, t30, t31, t32, t33, t34, t35, t36, t37, t38, t39, t40, t41, t42, t43, t44, t45, t46, t47, t48, t49, t50, t51, t52, t53, t54, t55, t56, t57, t58, t59, t60, t61, t62, t63, t64, t65, t66, t67, t68, t69, t70, t71, t72, t73, t74, t75, t76, t77, t78, t79, t80, t81, t82, t83, t84, t85, t86, t87, t88, t89, t90, t91, t92, t93, t94, t95, t96, t97, t98, t99, t100, t101, t102, t103, t104, t105, t106, t107, t108, t109, t110, t111, t112, t113, t114, t115, t116, t117, t118, t119, t120, t121, t122, t123, t124, t125, t126, t127, t128, t129, t130, t131, t132, t133, t134, t135, t136, t137, t138, t139, t140, t141, t142, t143, t144, t145, t146, t147, t148, t149, t150, t151, t152, t153, t154, t155, t156, t157, t158, t159, t160], defers := [] } w := by
  refine wp_blk (i := 1) ⟨_, rfl⟩ ?_
  refine wp_parts ⟨_, _, rfl⟩ (fun K hK => ?_)
  have HK : Hid (∀ a w, (ls1 Tryd.f7).wpIn (Fence.wide.inRound l) n Tryd.prog (Exit.inBlock 1 Q) a w → K a w) := hidW hK
  clear hK
  simp only [lsB, lsF, sq2, sq1, blkC, rfB, Tryd.f7, Option.getD]
  have HF := hidW hf
  have HN := hidW hn
  have HR := hidW hr
  have H := hidW h
  have HX := hidW hx
  have cX := hx.cell
  have cL := h.la.cell
  have cN := h.n.cell 0
  have cR := h.ret.cell 0
  have fR := h.ret.frozen 0
  simp only [List.getElem?_cons_zero] at cN cR
  have eT := eqT x lt
  clear hf hn hr h hx
  have hk0 : (0 : Int) ≤ k := by omega
  by_cases hz : k = 0
  · subst hz
    clear eT cL HF
    gi_wp2
    exact HK.out _ _ (ls1_any l n W B bc bb br bp bt bf bm bl bn S p N m c vb U F lt mt 0 x bx w (Exit.inBlock 1 Q) o H.out HX.out hxB hk hm hc hvb tW (fun a w h => hQ a w h) (fun ch a w h => hQp ch a w h) HN.out HR.out)
  · have hkz : (0 : Int) < k := by omega
    have hkp : 0 < k := by omega
    have HO : Hid (x.va < lt.va ∨ (x.va = lt.va ∧ x.size < lt.size) ∨ x.same lt = true → ltT lt x = false) := hidW (fun hh => by
      cases hc : ltT lt x with
      | false => rfl
      | true =>
        obtain ⟨f1, f2, f3⟩ := ltT_fine hc
        rcases hh with h | h | h
        · exact absurd h f1
        · exact absurd h f2
        · exact absurd ((Tra.same_iff _ _).1 h) f3)
    clear hz
    by_cases h1 : x.va < lt.va
    · have HR1 := hidW (HF.out hkp (HO.out (.inl h1)))
      clear eT
      gi_wp2
      exact HR1.out _
    · by_cases h2 : x.va = lt.va
      · have q2 : (x.va == lt.va) = true := by simp [h2]
        by_cases h3 : x.size < lt.size
        · have HR1 := hidW (HF.out hkp (HO.out (.inr (.inl ⟨h2, h3⟩))))
          clear eT h2
          gi_wp2
          exact HR1.out _
        · clear h2
          by_cases h4 : x.same lt = true
          · have HR1 := hidW (HF.out hkp (HO.out (.inr (.inr h4))))
            rw [h4] at eT
            gi_wp2
            exact HR1.out _
          · rw [show x.same lt = false by simpa using h4] at eT
            clear h4
            gi_wp2
            exact HK.out _ _ (ls1_any l n W B bc bb br bp bt bf bm bl bn S p N m c vb U F lt mt k x bx w (Exit.inBlock 1 Q) o H.out HX.out hxB hk hm hc hvb tW (fun a w h => hQ a w h) (fun ch a w h => hQp ch a w h) HN.out HR.out)
      · have q2 : (x.va == lt.va) = false := by simp [h2]
        clear h2
        by_cases h4 : x.same lt = true
        · have HR1 := hidW (HF.out hkp (HO.out (.inr (.inr h4))))
          rw [h4] at eT
          gi_wp2
          exact HR1.out _
        · rw [show x.same lt = false by simpa using h4] at eT
          clear h4
          gi_wp2
          exact HK.out _ _ (ls1_any l n W B bc bb br bp bt bf bm bl bn S p N m c vb U F lt mt k x bx w (Exit.inBlock 1 Q) o H.out HX.out hxB hk hm hc hvb tW (fun a w h => hQ a w h) (fun ch a w h => hQp ch a w h) HN.out HR.out)
end Go.Proofs.YtmodcbdgnmjkoaaDoor
namespace Go.Proofs.YtmodcbdgnmjkoaaDoor
open Go.RowKit Go.Shelf
open Mm (Turn gr RowAt PM)
set_option linter.unusedVariables false
set_option linter.unusedSimpArgs false
attribute [local go_sem] Oper.semAt_some
theorem results_ret {fn : Func} {q : Tmp} (h : fn.results = #[.cell q 4]) (tmps : Array Value) (w : World) (b : Nat) (v : Bool) (hp : tmps.getD q undef = .pointer (some ⟨b, 0, none⟩)) (hb : Bl w b 4 [.bool v]) :
    (results fn tmps).run Tryd.prog w = .ok (.bool v) w := by
  have hp' : tmps[q]?.getD undef = .pointer (some ⟨b, 0, none⟩) := by simpa using hp
  have hc := hb.cell 0
  simp only [List.getElem?_cons_zero] at hc
  simp only [results, h]
  go_simp
theorem leaves_ret {fn : Func} {q : Tmp} (h : fn.results = #[.cell q 4]) (tmps : Array Value) (W Y : World) (D b : Nat) (hp : tmps.getD q undef = .pointer (some ⟨b, 0, none⟩)) (hb : Bl Y b 4 [.bool true]) (hK : Y.heap[D]? = some (.deferred (some []))) (hbel : Below W.heap.size W Y) (hD : W.heap.size ≤ D) :
    LeavesInM Fence.wide 3 Tryd.prog fn tmps (fun e W' => e = .returned (.bool true) ∧ Below W.heap.size W W') [{ target := .collected D, args := #[] }] .returning Y := by
  refine ⟨by simp, .inl ⟨_, _, rfl, run_takeDeferred hK, ?_⟩⟩
  have hne : b ≠ D := by
    rintro rfl
    rw [show Y.heap[b]? = _ from hb] at hK
    cases hK
  refine ⟨_, results_ret h _ _ b true hp ?_, rfl, ?_⟩
  · exact ((grownBy_putObj' Y D _).block b hb.lt (by intro e; cases e; exact hne rfl)).trans hb
  · exact hbel.trans (belowK_b (w := W) (Nat.le_refl _) _ D _ _ hD hK rfl rfl)
theorem set_at {W : World} {b : Nat} {o : Obj} {q : Nat} (v : Value) (h : W.heap[b]? = some o) (hne : b ≠ q) : (W.setCell ⟨q, 0, none⟩ v).heap[b]? = some o := by
  rw [Below.heap_setCell W ⟨q, 0, none⟩ v b hne]
  exact h
def lsE (f : Func) : Code := sq2 (lsF f)
set_option maxRecDepth 100000 in
set_option maxHeartbeats 16000000 in
/-- Behind the loop. -/
theorem lsE_any {t0 t1 t2 t3 t4 t5 t6 t8 t17 t18 t19 t20 t21 t22 t23 t24 t25 t26 t27 t28 t29 t30 t31 t32 t33 t34 t35 t36 t37 t38 t39 t40 t41 t42 t43 t44 t45 t46 t47 t48 t49 t50 t51 t52 t53 t54 t55 t56 t57 t58 t59 t60 t61 t62 t63 t64 t65 t66 t67 t68 t69 t70 t71 t72 t73 t74 t75 t76 t77 t78 t79 t80 t81 t82 t83 t84 t85 t86 t87 t88 t89 t90 t91 t92 t93 t94 t95 t96 t97 t98 t99 t100 t101 t102 t103 t104 t105 t106 t107 t108 t109 t110 t111 t112 t113 t114 t115 t116 t117 t118 t119 t120 t121 t122 t123 t124 t125 t126 t127 t128 t129 t130 t131 t132 t133 t134 t135 t136 t137 t138 t139 t140 t141 t142 t143 t144 t145 t146 t147 t148 t149 t150 t151 t152 t153 t154 t155 t156 t157 t158 t159 t160 : Value} (W : World) (B bc bb br bp bt bf bm bl bn : Nat) (S : Nat → Prop) (p N : Nat) (m : Nat → Int) (c : Ctx) (vb : Int) (U : Tra) (F : Fa) (lt : Tra) (mt : Bool) (k : Nat) (D : Nat) (Y : World) (o : LO W B bc bb br bp bt bf bm bl bn S) (h : LB W B bc bb br bp bt bf bm bl bn S p N m c vb U F lt mt k Y) (hD : B ≤ D) (hK : Y.heap[D]? = some (.deferred (some []))) (hc : c.Ok) (tW : TS W) (hoff : c.on = false → k = 0 ∧ Fz U) (hmet : c.on = true → mt = (F.k == 0)) :
    (lsE Tryd.f7).wpIn Fence.wide 3 Tryd.prog (bodyPostM Fence.wide 3 Tryd.prog Tryd.f7 fun e W' => e = .returned (.bool true) ∧ Below W.heap.size W W') { tmps := #[t0, t1, t2, t3, t4, t5, t6, .pointer (some ⟨bc, 0, none⟩), t8, .pointer (some ⟨bb, 0, none⟩), .pointer (some ⟨br, 0, none⟩), .pointer (some ⟨bp, 0, none⟩), .pointer (some ⟨bt, 0, none⟩), .pointer (some ⟨bf, 0, none⟩), .pointer (some ⟨bm, 0, none⟩), .pointer (some ⟨bl, 0, none⟩), .pointer (some ⟨bn, 0, none⟩), t17, t18, t19, t20, t21, t22, t23, t24, t25, t26, t27, t28, t29, t30, t31, t32, t33, t34, t35, t36, t37, t38, t39, t40, t41, t42, t43, t44, t45, t46, t47, t48, t49, t50, t51, t52, t53, t54, t55, t56, t57, t58, t59, t60, t61, t62, t63, t64, t65, t66, t67, t68, t69, t70, t71, t72, t73, t74, t75, t76, t77, t78, t79, t80, t81, t82, t83, t84, t85, t86, t87, t88, t89, t90, t91, t92, t93, t94, t95, t96, t97, t98, t99, t100, t101, t102, t103, t104, t105, t106, t107, t108, t109, t110, t111, t112, t113, t114, t115, t116, t117, t118, t119, t120, t121, t122, t123, t124, t125, t126, t127, t128, t129, t130, t131, t132, t133, t134, t135, t136, t137, t138, t139, t140, t141, t142, t143, t144, t145, t146, t147, t148, t149, t150, t151, t152, t153, t154, t155, t156, t157, t158, t159, t160], defers := [{ target := .collected D, args := #[] }] } Y := by
  generalize hQ : (bodyPostM Fence.wide 3 Tryd.prog Tryd.f7 fun e W' => e = .returned (.bool true) ∧ Below W.heap.size W W') = Q
  simp only [lsE, lsF, sq2, Tryd.f7, Option.getD]
  have HQ := hidW hQ
  have o1 := o.h0; have o2 := o.h1; have o3 := o.h2; have o4 := o.h3; have o5 := o.h4; have o6 := o.h5; have o7 := o.h6; have o8 := o.h7; have o9 := o.h8; have o10 := o.h9
  have HE : Hid (∀ Z, Below Y.heap.size Y Z → ∀ tmps, tmps.getD 10 undef = .pointer (some ⟨br, 0, none⟩) → LeavesInM Fence.wide 3 Tryd.prog Tryd.f7 tmps (fun e W' => e = .returned (.bool true) ∧ Below W.heap.size W W') [{ target := .collected D, args := #[] }] .returning (Z.setCell ⟨br, 0, none⟩ (.bool true))) := by
    refine hidW (fun Z hZ tmps ht => leaves_ret (q := 10) rfl tmps W _ D br ht ((h.ret.below hZ).put' 0 _) (set_at _ ((hZ.block D (Array.getElem?_eq_some_iff.1 hK).1).trans hK) (by omega)) ?_ (by omega))
    exact (Below.step h.bel hZ).setCell (by show W.heap.size ≤ br; omega) _
  have cC := h.cx.cell
  have cN := h.n.cell 0
  have cM := h.me.cell 0
  have cR := h.ret.cell 0
  have fR := h.ret.frozen 0
  have cF := h.f.cell
  have cT := h.t.cell
  have cP := h.mp.cell 0
  simp only [List.getElem?_cons_zero] at cN cM cR cP
  cases hon : c.on with
  | false =>
    obtain ⟨hk0, hfz⟩ := hoff hon
    subst hk0
    have HSA := hidW (sameP_any c U Y (S := S) (.inl ⟨p, N, m, rfl, rfl, h.pm⟩) hfz (tW.below h.bel) hc)
    rw [show smF (ramMo N m) c U = false by unfold smF; rw [hon]; rfl] at HSA
    have HB := hidW h
    rw [hon] at HSA cC
    clear hQ hK hoff hmet h hfz
    gi_wp2_with fail
    refine ⟨trivial, (callsIn_wide.2 HSA.out).mono ?_⟩
    rintro e Z ⟨rfl, hZ⟩
    have hbZ := HB.out.below hZ
    have cR := hbZ.ret.cell 0
    have fR := hbZ.ret.frozen 0
    simp only [List.getElem?_cons_zero] at cR
    have HZ := hidW hZ
    clear hbZ hZ HSA HB
    gi_wp2
    rw [← HQ.out]
    exact HE.out Z HZ.out _ rfl
  | true =>
    have hm := hmet hon
    have hmm : (mt == (F.k == 0)) = true := by rw [hm]; simp
    rw [hon] at cC
    clear hQ hK hoff hmet h hm
    gi_wp2
    rw [← HQ.out]
    exact HE.out Y (Below.refl _ _) _ rfl
end Go.Proofs.YtmodcbdgnmjkoaaDoor
namespace Go.Proofs.YtmodcbdgnmjkoaaDoor
open Go.RowKit Go.Shelf
open Mm (Turn gr RowAt PM)
set_option linter.unusedVariables false
set_option linter.unusedSimpArgs false
attribute [local go_sem] Oper.semAt_some
def lastT (l : List Tra) : Tra := l.getLastD tZ
def metT (U : Tra) (l : List Tra) : Bool := l.any (·.same U)
theorem lastT_snoc (l : List Tra) (x : Tra) : lastT (l ++ [x]) = x := by simp [lastT]
theorem metT_snoc (U : Tra) (l : List Tra) (x : Tra) : metT U (l ++ [x]) = (metT U l || x.same U) := by simp [metT]
theorem not_pre {M : Mo} {c : Ctx} (hM : M.Ok) (hc : c.Ok) {l : List Tra} {x : Tra} (hk : 0 < l.length) (h : ltT (lastT l) x = false) : ¬ l ++ [x] <+: blL M c := by
  intro hp
  have h1 := (blL_rising hM hc).sublist hp.sublist
  have h2 : lastT l ∈ l := by
    unfold lastT
    cases l with
    | nil => simp at hk
    | cons a l => rw [List.getLastD_cons]; exact List.getLastD_mem_cons
  have h3 := (List.pairwise_append.1 h1).2.2 _ h2 x (.head _)
  rw [h] at h3
  cases h3
set_option maxRecDepth 100000 in
set_option maxHeartbeats 16000000 in
/-- The loop, and what is behind it. -/
theorem lsF_any {t0 t1 t2 t3 t4 t5 t6 t8 t17 t18 t19 t20 t21 t22 t23 t24 t25 t26 t27 t28 t29 t30 t31 t32 t33 t34 t35 t36 t37 t38 t39 t40 t41 t42 t43 t44 t45 t46 t47 t48 t49 t50 t51 t52 t53 t54 t55 t56 t57 t58 t59 t60 t61 t62 t63 t64 t65 t66 t67 t68 t69 t70 t71 t72 t73 t74 t75 t76 t77 t78 t79 t80 t81 t82 t83 t84 t85 t86 t87 t88 t89 t90 t91 t92 t93 t94 t95 t96 t97 t98 t99 t100 t101 t102 t103 t104 t105 t106 t107 t108 t109 t110 t111 t112 t113 t114 t115 t116 t117 t118 t119 t120 t121 t122 t123 t124 t125 t126 t127 t128 t129 t130 t131 t132 t133 t134 t135 t136 t137 t138 t139 t140 t141 t142 t143 t144 t145 t146 t147 t148 t149 t150 t151 t152 t153 t154 t155 t156 t157 t158 t159 t160 : Value} (W : World) (bc bb br bp bt bf bm bl bn : Nat) (S : Nat → Prop) (p N : Nat) (m : Nat → Int) (c : Ctx) (vb : Int) (U : Tra) (F : Fa) (w : World) (o : LO W (w.heap.size + 2) bc bb br bp bt bf bm bl bn S) (h : LB W (w.heap.size + 2) bc bb br bp bt bf bm bl bn S p N m c vb U F tZ false 0 w) (hsol : ∀ b, S b → solid w b) (hc : c.Ok) (hvb : 0 ≤ vb ∧ vb < 4294967296) (tW : TS W) (hoff : c.on = false → Fz U) (hmet : c.on = true → metT U (blL (ramMo N m) c) = (F.k == 0)) :
    (lsF Tryd.f7).wpIn Fence.wide 3 Tryd.prog (bodyPostM Fence.wide 3 Tryd.prog Tryd.f7 fun e W' => e = .returned (.bool true) ∧ Below W.heap.size W W') { tmps := #[t0, t1, t2, t3, t4, t5, t6, .pointer (some ⟨bc, 0, none⟩), t8, .pointer (some ⟨bb, 0, none⟩), .pointer (some ⟨br, 0, none⟩), .pointer (some ⟨bp, 0, none⟩), .pointer (some ⟨bt, 0, none⟩), .pointer (some ⟨bf, 0, none⟩), .pointer (some ⟨bm, 0, none⟩), .pointer (some ⟨bl, 0, none⟩), .pointer (some ⟨bn, 0, none⟩), t17, t18, t19, t20, t21, t22, t23, t24, t25, t26, t27, t28, t29, t30, t31, t32, t33, t34, t35, t36, t37, t38, t39, t40, t41, t42, t43, t44, t45, t46, t47, t48, t49, t50, t51, t52, t53, t54, t55, t56, t57, t58, t59, t60, t61, t62, t63, t64, t65, t66, t67, t68, t69, t70, t71, t72, t73, t74, t75, t76, t77, t78, t79, t80, t81, t82, t83, t84, t85, t86, t87, t88, t89, t90, t91, t92, t93, t94, t95, t96, t97, t98, t99, t100, t101, t102, t103, t104, t105, t106, t107, t108, t109, t110, t111, t112, t113, t114, t115, t116, t117, t118, t119, t120, t121, t122, t123, t124, t125, t126, t127, t128, t129, t130, t131, t132, t133, t134, t135, t136, t137, t138, t139, t140, t141, t142, t143, t144, t145, t146, t147, t148, t149, t150, t151, t152, t153, t154, t155, t156, t157, t158, t159, t160], defers := [] } w := by
  generalize hQ : (bodyPostM Fence.wide 3 Tryd.prog Tryd.f7 fun e W' => e = .returned (.bool true) ∧ Below W.heap.size W W') = Q
  refine wp_parts ⟨_, _, rfl⟩ (fun K hK => ?_)
  have HK : Hid (∀ a w, (lsE Tryd.f7).wpIn Fence.wide 3 Tryd.prog Q a w → K a w) := hidW hK
  clear hK
  simp only [lsF, sq2, sq1, Tryd.f7, Option.getD]
  have HQ := hidW hQ
  clear hQ
  have cP := h.mp.cell 0
  have cC := h.cx.cell
  simp only [List.getElem?_cons_zero] at cP
  gi_wp2_with fail
  refine ⟨trivial, (callsIn_wide.2 (blocks_any (.iface 30 (.pointer (some ⟨p, 0, none⟩))) (.inl ⟨_, _, rfl⟩) c w)).mono ?_⟩
  rintro e w9 ⟨rfl, rfl⟩
  gi_wp2_with fail
  have b1 : Bl ((w.alloc (.cells #[.iface 30 (.pointer (some ⟨p, 0, none⟩))] 78)).alloc (.cells #[.bool c.on, .bool c.tre, .bool c.afe, .int .i64 c.n, .bool c.pd0, .bool c.pd1, .int .u64 c.b0, .int .u64 c.b1, .int .u32 c.dacr, .int .u32 c.prrr, .int .u32 c.nmrr, .int .i64 c.asid] 26)) w.heap.size 78 [.iface 30 (.pointer (some ⟨p, 0, none⟩))] := (Bl.new w _ _).below (below_new _ _)
  have b2 : Bl ((w.alloc (.cells #[.iface 30 (.pointer (some ⟨p, 0, none⟩))] 78)).alloc (.cells #[.bool c.on, .bool c.tre, .bool c.afe, .int .i64 c.n, .bool c.pd0, .bool c.pd1, .int .u64 c.b0, .int .u64 c.b1, .int .u32 c.dacr, .int .u32 c.prrr, .int .u32 c.nmrr, .int .i64 c.asid] 26)) (w.heap.size + 1) 26 [.bool c.on, .bool c.tre, .bool c.afe, .int .i64 c.n, .bool c.pd0, .bool c.pd1, .int .u64 c.b0, .int .u64 c.b1, .int .u32 c.dacr, .int .u32 c.prrr, .int .u32 c.nmrr, .int .i64 c.asid] := Bl.new1 w _ _ _
  have hB : Below w.heap.size w ((w.alloc (.cells #[.iface 30 (.pointer (some ⟨p, 0, none⟩))] 78)).alloc (.cells #[.bool c.on, .bool c.tre, .bool c.afe, .int .i64 c.n, .bool c.pd0, .bool c.pd1, .int .u64 c.b0, .int .u64 c.b1, .int .u32 c.dacr, .int .u32 c.prrr, .int .u32 c.nmrr, .int .i64 c.asid] 26)) := Below.step (below_new _ _) (below_new _ _)
  have hs : ((w.alloc (.cells #[.iface 30 (.pointer (some ⟨p, 0, none⟩))] 78)).alloc (.cells #[.bool c.on, .bool c.tre, .bool c.afe, .int .i64 c.n, .bool c.pd0, .bool c.pd1, .int .u64 c.b0, .int .u64 c.b1, .int .u32 c.dacr, .int .u32 c.prrr, .int .u32 c.nmrr, .int .i64 c.asid] 26)).heap.size = w.heap.size + 2 := by simp
  generalize (w.alloc (.cells #[.iface 30 (.pointer (some ⟨p, 0, none⟩))] 78)).alloc (.cells #[.bool c.on, .bool c.tre, .bool c.afe, .int .i64 c.n, .bool c.pd0, .bool c.pd1, .int .u64 c.b0, .int .u64 c.b1, .int .u32 c.dacr, .int .u32 c.prrr, .int .u32 c.nmrr, .int .i64 c.asid] 26) = w0 at *
  have h0 := h.below hB
  have q0 := o.h0; have q1 := o.h1; have q2 := o.h2; have q3 := o.h3; have q4 := o.h4; have q5 := o.h5; have q6 := o.h6; have q7 := o.h7; have q8 := o.h8; have q9 := o.h9
  have hnl := h.n.lt
  have hMO : (ramMo N m).Ok := ramMo_ok h.pm.byts
  have tw0 : TW w0 := (tW.below h0.bel).tw
  have hIt : It (XL br bm bl bn) S (.iface 30 (.pointer (some ⟨p, 0, none⟩))) (ramMo N m) c (w.heap.size + 1) w.heap.size w0 := by
    refine ⟨.inl ⟨p, N, m, rfl, rfl, h0.pm⟩, tw0, ?_, b2, ?_, b1, ?_⟩
    · rintro b (hb | hb)
      · refine ⟨(hsol b hb).of (hB.block b (hsol b hb).lt), ?_⟩
        have := o.hS b hb
        rintro (e | e | e | e) <;> omega
      · refine ⟨tw0.solid hb, ?_⟩
        have := tW.tw.low hb
        rintro (e | e | e | e) <;> omega
    · rintro (e | e | e | e) <;> omega
    · rintro (e | e | e | e) <;> omega
  have hXl : ∀ b, XL br bm bl bn b → b < w0.heap.size := by
    rintro b (e | e | e | e) <;> omega
  have hI0 : (fun pre Y => (LB W (w.heap.size + 2) bc bb br bp bt bf bm bl bn S p N m c vb U F (lastT (pre.map (·.1))) (metT U (pre.map (·.1))) pre.length Y ∧ pre.length ≤ 4096 ∧ w.heap.size + 2 ≤ Y.heap.size)) ([] : List { x : Tra // x ∈ blL (ramMo N m) c }) w0 := ⟨h0, by simp, by omega⟩
  have hIo : OwnFrom w0.heap.size (fun (pre : List { x : Tra // x ∈ blL (ramMo N m) c }) Y => (LB W (w.heap.size + 2) bc bb br bp bt bf bm bl bn S p N m c vb U F (lastT (pre.map (·.1))) (metT U (pre.map (·.1))) pre.length Y ∧ pre.length ≤ 4096 ∧ w.heap.size + 2 ≤ Y.heap.size)) := by
    rintro pre A Y row ⟨h1, h2, h3⟩ hg hr
    exact ⟨h1.turn o (Y := fun b => row = some b) (Turn.grown hg (fun k hk => .inl hk)) (fun b hb => by have := (hr b hb).1; omega), h2, Nat.le_trans h3 hg.size⟩
  have hXo : ∀ cd : Code, OwnFrom w0.heap.size (fun (pre : List { x : Tra // x ∈ blL (ramMo N m) c }) Y => cd = .ret ∧ LX W br (ramMo N m) c pre Y) := by
    rintro cd pre A Y row ⟨h1, h2, h3, h4⟩ hg hr
    refine ⟨h1, h2.grown hg h2.size (fun k e => by have := (hr k e).1; omega), h3, h4.imp (fun hb => ?_) id⟩
    exact (hg.block br hb.lt (fun e => by have := (hr br e.symm).1; omega)).trans hb
  refine wpIn_rangeFunc_ownH rfl (by decide) (gf := 44) (lb := #[.pointer (some ⟨w.heap.size + 1, 0, none⟩), .pointer (some ⟨w.heap.size, 0, none⟩)]) rfl trivial (enters_of Tryd.func44 (by kernel_rfl) rfl)
    (blocks_stops 2 (w.heap.size + 1) w.heap.size (XL br bm bl bn) S (.iface 30 (.pointer (some ⟨p, 0, none⟩))) (ramMo N m) c w0 hIt hXl hc)
    (fun h k => h.trans k) (fun W l o o' _ h h1 h2 => KpX.put W l o o' h h1 h2) (Below.refl _ _) (fun _ => rfl)
    (fun pre Y => (LB W (w.heap.size + 2) bc bb br bp bt bf bm bl bn S p N m c vb U F (lastT (pre.map (·.1))) (metT U (pre.map (·.1))) pre.length Y ∧ pre.length ≤ 4096 ∧ w.heap.size + 2 ≤ Y.heap.size))
    (fun cd pre Y => cd = .ret ∧ LX W br (ramMo N m) c pre Y)
    hIo hXo hI0
    (fun x a' Y => ∃ bx, w.heap.size + 2 ≤ bx ∧ Bl Y bx 35 [.int .i64 (x.1).size, .int .u32 (x.1).va, .int .u64 (x.1).pa, .int .i64 (x.1).dom, .int .i64 (x.1).ap, .int .u32 (x.1).bits, .bool (x.1).ng, .bool (x.1).xn] ∧ a' = { tmps := #[t0, t1, t2, t3, t4, t5, t6, .pointer (some ⟨bc, 0, none⟩), t8, .pointer (some ⟨bb, 0, none⟩), .pointer (some ⟨br, 0, none⟩), .pointer (some ⟨bp, 0, none⟩), .pointer (some ⟨bt, 0, none⟩), .pointer (some ⟨bf, 0, none⟩), .pointer (some ⟨bm, 0, none⟩), .pointer (some ⟨bl, 0, none⟩), .pointer (some ⟨bn, 0, none⟩), .pointer (some ⟨bx, 0, none⟩), t18, t19, t20, t21, t22, t23, t24, t25, t26, t27, t28, t29, t30, t31, t32, t33, t34, t35, t36, t37, t38, t39, t40, t41, t42, .pointer (some ⟨p, 0, none⟩), .iface 30 (.pointer (some ⟨p, 0, none⟩)), .agg #[.bool c.on, .bool c.tre, .bool c.afe, .int .i64 c.n, .bool c.pd0, .bool c.pd1, .int .u64 c.b0, .int .u64 c.b1, .int .u32 c.dacr, .int .u32 c.prrr, .int .u32 c.nmrr, .int .i64 c.asid], .func (.func 44) #[] #[.pointer (some ⟨w.heap.size + 1, 0, none⟩), .pointer (some ⟨w.heap.size, 0, none⟩)], .agg #[.int .i64 (x.1).size, .int .u32 (x.1).va, .int .u64 (x.1).pa, .int .i64 (x.1).dom, .int .i64 (x.1).ap, .int .u32 (x.1).bits, .bool (x.1).ng, .bool (x.1).xn], t48, t49, t50, t51, t52, t53, t54, t55, t56, t57, t58, t59, t60, t61, t62, t63, t64, t65, t66, t67, t68, t69, t70, t71, t72, t73, t74, t75, t76, t77, t78, t79, t80, t81, t82, t83, t84, t85, t86, t87, t88, t89, t90, t91, t92, t93, t94, t95, t96, t97, t98, t99, t100, t101, t102, t103, t104, t105, t106, t107, t108, t109, t110, t111, t112, t113, t114, t115, t116, t117, t118, t119, t120, t121, t122, t123, t124, t125, t126, t127, t128, t129, t130, t131, t132, t133, t134, t135, t136, t137, t138, t139, t140, t141, t142, t143, t144, t145, t146, t147, t148, t149, t150, t151, t152, t153, t154, t155, t156, t157, t158, t159, t160], defers := [] })
    (fun x a' _ A Y row hs hg hr => by
      obtain ⟨bx, h1, h2, h3⟩ := hs
      refine ⟨bx, h1, ?_, h3⟩
      exact (hg.block bx h2.lt (fun e => by obtain ⟨o, ho, hc⟩ := (hr bx e.symm).2; rw [show A.heap[bx]? = _ from h2] at ho; cases ho; cases hc)).trans h2)
    ?assign ?body ?done ?stop
  case assign =>
    rintro l pre x Y K' ⟨h1, h2, h3⟩ hK'
    gi_wp2
    exact hK' _ _ ((KeepsOthers.alloc _ _).from _) (KpX.of (Turn.below (below_new _ _))) ⟨h1.below (below_new _ _), h2, by simp; omega⟩ ⟨Y.heap.size, h3, Bl.new Y _ _, rfl⟩
  case body =>
    rintro l pre x a' Y hl' _ ⟨h1, h2, h3⟩ ⟨bx, hbx, hx, rfl⟩ hlt
    rw [hs] at *
    have e1 : (pre ++ [x]).map (·.1) = pre.map (·.1) ++ [x.1] := by simp
    refine lsB_any l _ W (w.heap.size + 2) bc bb br bp bt bf bm bl bn S p N m c vb U F (lastT (pre.map (·.1))) (metT U (pre.map (·.1))) pre.length x.1 bx Y _ o h1 hx hbx h2 (Lm.of hMO hc x.2) hc hvb tW (fun a w h => h) (fun ch a w h => h) ?_ ?_ ?_
    · intro hk a w' hb
      have hp := (h1.below hb).put o (metT U (pre.map (·.1)) || x.1.same U) x.1 (pre.length + 1)
      refine ⟨(keeps_below hb).trans ((put_others bm bl bn w' _ x.1 (pre.length + 1)).from _), (KpX.of (Turn.below hb)).trans (KpX.of (put_turn br bm bl bn w' _ x.1 (pre.length + 1))), ?_, by simpa using hk, ?_⟩
      · rw [e1, lastT_snoc, metT_snoc, List.length_append]
        exact hp
      · exact Nat.le_trans h3 (Nat.le_trans hb.size (put_turn br bm bl bn w' _ x.1 (pre.length + 1)).size)
    · intro hk a w' hb
      have hp := (h1.below hb).put o (metT U (pre.map (·.1)) || x.1.same U) x.1 (pre.length + 1)
      exact ⟨((keeps_below hb).trans ((put_others bm bl bn w' _ x.1 (pre.length + 1)).from _)).trans ((KeepsOthers.setCell _ _ _).from _), rfl, hp.bel.setCell (by show W.heap.size ≤ br; omega) _, by omega, .inl (hp.ret.put' 0 _)⟩
    · intro hk hlt a
      exact ⟨(KeepsOthers.setCell _ _ _).from _, rfl, h1.bel.setCell (by show W.heap.size ≤ br; omega) _, by omega, .inr (by rw [e1]; exact not_pre hMO hc (by simpa using hk) hlt)⟩
  case done =>
    rintro D xs Y hD hS ⟨h1, h2, h3⟩ hK2
    refine HK.out _ _ ?_
    rw [← HQ.out]
    refine lsE_any W (w.heap.size + 2) bc bb br bp bt bf bm bl bn S p N m c vb U F _ _ _ D Y o h1 (by omega) hK2 hc tW (fun hon => ⟨?_, hoff hon⟩) (fun hon => ?_)
    · have h5 : blL (ramMo N m) c = [] := by unfold blL; rw [hon]; rfl
      have h6 := congrArg List.length hS
      rw [List.length_map] at h6
      exact h6.trans (congrArg List.length h5)
    · rw [show xs.map (·.1) = blL (ramMo N m) c from hS]
      exact hmet hon
  case stop =>
    rintro D cd pre Y hD hpre ⟨rfl, hbel, hbr, hh⟩ hK2
    rcases hh with hb | hn
    · refine wpIn_ret ?_
      rw [← HQ.out]
      exact leaves_ret (q := 10) rfl _ W Y D br rfl hb hK2 hbel (by omega)
    · exact absurd hpre hn
end Go.Proofs.YtmodcbdgnmjkoaaDoor
namespace Go.Proofs.YtmodcbdgnmjkoaaDoor
open Go.RowKit Go.Shelf
open Mm (Turn gr RowAt PM Byts)
set_option linter.unusedVariables false
set_option linter.unusedSimpArgs false
attribute [local go_sem] Oper.semAt_some
/-- A code with another tail. -/
def putTail : Nat → Code → Code → Code
  | 0, _, t => t
  | n + 1, .seq x y, t => .seq x (putTail n y t)
  | _ + 1, c, _ => c
theorem wp_cut {P : Program} {Q : Exit → Act → World → Prop} {a : Act} {w : World} (k : Nat) (c t : Code) (h : putTail k c t = c) (g : ∀ C : Code, (∀ a w, t.wp P Q a w → C.wp P Q a w) → (putTail k c C).wp P Q a w) : c.wp P Q a w := by
  rw [← h]
  exact g t (fun _ _ h => h)
theorem pmB (N : Nat) (ps : List Pt) (p : Nat) {w : World} {S : Nat → Prop} {m : Nat → Int} (h : PM w S p N m) : Byts m := h.byts
/-- Whether a walk finds a block, and whether it is listed. -/
theorem met_iff {M : Mo} {c : Ctx} {va : Int} {U : Tra} {F : Fa} (hM : M.Ok) (hc : c.Ok) (hv : 0 ≤ va ∧ va < 4294967296) (hw : wk M c va = (U, F)) (hon : c.on = true) : metT U (blL M c) = (F.k == 0) := by
  rw [Bool.eq_iff_iff]
  unfold metT
  rw [List.any_eq_true]
  constructor
  · rintro ⟨x, hx, hs⟩
    have e := (Tra.same_iff _ _).1 hs
    subst e
    have hl := Lm.of hM hc hx
    rcases Classical.em (F.k = 0) with hk | hk
    · simp [hk]
    · exact absurd (missed hw hk).1 (riF_ne hl.ri)
  · intro hk
    have hk : F.k = 0 := by simpa using hk
    have hF := (found hM hc hv hw hk).1
    rw [hF] at hw
    exact ⟨U, (mem_blL hon U).2 ⟨va, hv, hw⟩, Tra.same_self _⟩
theorem five (v : World) (U : Tra) (F : Fa) : Bl (((((v.alloc (.cells #[.int .i64 U.size, .int .u32 U.va, .int .u64 U.pa, .int .i64 U.dom, .int .i64 U.ap, .int .u32 U.bits, .bool U.ng, .bool U.xn] 35)).alloc (.cells #[.int .i64 F.k, .int .i64 F.l, .int .i64 F.d] 37)).alloc (.cells #[.bool false] 4)).alloc (.cells #[.int .i64 0, .int .u32 0, .int .u64 0, .int .i64 0, .int .i64 0, .int .u32 0, .bool false, .bool false] 35)).alloc (.cells #[.int .i64 0] 3)) v.heap.size 35 [.int .i64 U.size, .int .u32 U.va, .int .u64 U.pa, .int .i64 U.dom, .int .i64 U.ap, .int .u32 U.bits, .bool U.ng, .bool U.xn] ∧ Bl (((((v.alloc (.cells #[.int .i64 U.size, .int .u32 U.va, .int .u64 U.pa, .int .i64 U.dom, .int .i64 U.ap, .int .u32 U.bits, .bool U.ng, .bool U.xn] 35)).alloc (.cells #[.int .i64 F.k, .int .i64 F.l, .int .i64 F.d] 37)).alloc (.cells #[.bool false] 4)).alloc (.cells #[.int .i64 0, .int .u32 0, .int .u64 0, .int .i64 0, .int .i64 0, .int .u32 0, .bool false, .bool false] 35)).alloc (.cells #[.int .i64 0] 3)) (v.heap.size + 1) 37 [.int .i64 F.k, .int .i64 F.l, .int .i64 F.d] ∧ Bl (((((v.alloc (.cells #[.int .i64 U.size, .int .u32 U.va, .int .u64 U.pa, .int .i64 U.dom, .int .i64 U.ap, .int .u32 U.bits, .bool U.ng, .bool U.xn] 35)).alloc (.cells #[.int .i64 F.k, .int .i64 F.l, .int .i64 F.d] 37)).alloc (.cells #[.bool false] 4)).alloc (.cells #[.int .i64 0, .int .u32 0, .int .u64 0, .int .i64 0, .int .i64 0, .int .u32 0, .bool false, .bool false] 35)).alloc (.cells #[.int .i64 0] 3)) (v.heap.size + 1 + 1) 4 [.bool false] ∧ Bl (((((v.alloc (.cells #[.int .i64 U.size, .int .u32 U.va, .int .u64 U.pa, .int .i64 U.dom, .int .i64 U.ap, .int .u32 U.bits, .bool U.ng, .bool U.xn] 35)).alloc (.cells #[.int .i64 F.k, .int .i64 F.l, .int .i64 F.d] 37)).alloc (.cells #[.bool false] 4)).alloc (.cells #[.int .i64 0, .int .u32 0, .int .u64 0, .int .i64 0, .int .i64 0, .int .u32 0, .bool false, .bool false] 35)).alloc (.cells #[.int .i64 0] 3)) (v.heap.size + 1 + 1 + 1) 35 [.int .i64 tZ.size, .int .u32 tZ.va, .int .u64 tZ.pa, .int .i64 tZ.dom, .int .i64 tZ.ap, .int .u32 tZ.bits, .bool tZ.ng, .bool tZ.xn] ∧ Bl (((((v.alloc (.cells #[.int .i64 U.size, .int .u32 U.va, .int .u64 U.pa, .int .i64 U.dom, .int .i64 U.ap, .int .u32 U.bits, .bool U.ng, .bool U.xn] 35)).alloc (.cells #[.int .i64 F.k, .int .i64 F.l, .int .i64 F.d] 37)).alloc (.cells #[.bool false] 4)).alloc (.cells #[.int .i64 0, .int .u32 0, .int .u64 0, .int .i64 0, .int .i64 0, .int .u32 0, .bool false, .bool false] 35)).alloc (.cells #[.int .i64 0] 3)) (v.heap.size + 1 + 1 + 1 + 1) 3 [.int .i64 0] ∧ Below v.heap.size v (((((v.alloc (.cells #[.int .i64 U.size, .int .u32 U.va, .int .u64 U.pa, .int .i64 U.dom, .int .i64 U.ap, .int .u32 U.bits, .bool U.ng, .bool U.xn] 35)).alloc (.cells #[.int .i64 F.k, .int .i64 F.l, .int .i64 F.d] 37)).alloc (.cells #[.bool false] 4)).alloc (.cells #[.int .i64 0, .int .u32 0, .int .u64 0, .int .i64 0, .int .i64 0, .int .u32 0, .bool false, .bool false] 35)).alloc (.cells #[.int .i64 0] 3)) ∧ (((((v.alloc (.cells #[.int .i64 U.size, .int .u32 U.va, .int .u64 U.pa, .int .i64 U.dom, .int .i64 U.ap, .int .u32 U.bits, .bool U.ng, .bool U.xn] 35)).alloc (.cells #[.int .i64 F.k, .int .i64 F.l, .int .i64 F.d] 37)).alloc (.cells #[.bool false] 4)).alloc (.cells #[.int .i64 0, .int .u32 0, .int .u64 0, .int .i64 0, .int .i64 0, .int .u32 0, .bool false, .bool false] 35)).alloc (.cells #[.int .i64 0] 3)).heap.size = v.heap.size + 5 := by
  refine ⟨?_, ?_, ?_, ?_, ?_, ?_, ?_⟩
  · exact ((((Bl.new v _ [.int .i64 U.size, .int .u32 U.va, .int .u64 U.pa, .int .i64 U.dom, .int .i64 U.ap, .int .u32 U.bits, .bool U.ng, .bool U.xn]).below (below_new _ _)).below (below_new _ _)).below (below_new _ _)).below (below_new _ _)
  · exact (((Bl.new1 v _ _ [.int .i64 F.k, .int .i64 F.l, .int .i64 F.d]).below (below_new _ _)).below (below_new _ _)).below (below_new _ _)
  · have := Bl.new1 (v.alloc (.cells #[.int .i64 U.size, .int .u32 U.va, .int .u64 U.pa, .int .i64 U.dom, .int .i64 U.ap, .int .u32 U.bits, .bool U.ng, .bool U.xn] 35)) (.cells #[.int .i64 F.k, .int .i64 F.l, .int .i64 F.d] 37) 4 [.bool false]
    rw [show (v.alloc (.cells #[.int .i64 U.size, .int .u32 U.va, .int .u64 U.pa, .int .i64 U.dom, .int .i64 U.ap, .int .u32 U.bits, .bool U.ng, .bool U.xn] 35)).heap.size = v.heap.size + 1 by simp] at this
    exact (this.below (below_new _ _)).below (below_new _ _)
  · have := Bl.new1 ((v.alloc (.cells #[.int .i64 U.size, .int .u32 U.va, .int .u64 U.pa, .int .i64 U.dom, .int .i64 U.ap, .int .u32 U.bits, .bool U.ng, .bool U.xn] 35)).alloc (.cells #[.int .i64 F.k, .int .i64 F.l, .int .i64 F.d] 37)) (.cells #[.bool false] 4) 35 [.int .i64 tZ.size, .int .u32 tZ.va, .int .u64 tZ.pa, .int .i64 tZ.dom, .int .i64 tZ.ap, .int .u32 tZ.bits, .bool tZ.ng, .bool tZ.xn]
    rw [show ((v.alloc (.cells #[.int .i64 U.size, .int .u32 U.va, .int .u64 U.pa, .int .i64 U.dom, .int .i64 U.ap, .int .u32 U.bits, .bool U.ng, .bool U.xn] 35)).alloc (.cells #[.int .i64 F.k, .int .i64 F.l, .int .i64 F.d] 37)).heap.size = v.heap.size + 1 + 1 by simp] at this
    exact this.below (below_new _ _)
  · have := Bl.new1 (((v.alloc (.cells #[.int .i64 U.size, .int .u32 U.va, .int .u64 U.pa, .int .i64 U.dom, .int .i64 U.ap, .int .u32 U.bits, .bool U.ng, .bool U.xn] 35)).alloc (.cells #[.int .i64 F.k, .int .i64 F.l, .int .i64 F.d] 37)).alloc (.cells #[.bool false] 4)) (.cells #[.int .i64 tZ.size, .int .u32 tZ.va, .int .u64 tZ.pa, .int .i64 tZ.dom, .int .i64 tZ.ap, .int .u32 tZ.bits, .bool tZ.ng, .bool tZ.xn] 35) 3 [.int .i64 0]
    rw [show (((v.alloc (.cells #[.int .i64 U.size, .int .u32 U.va, .int .u64 U.pa, .int .i64 U.dom, .int .i64 U.ap, .int .u32 U.bits, .bool U.ng, .bool U.xn] 35)).alloc (.cells #[.int .i64 F.k, .int .i64 F.l, .int .i64 F.d] 37)).alloc (.cells #[.bool false] 4)).heap.size = v.heap.size + 1 + 1 + 1 by simp] at this
    exact this
  · exact Below.step (Below.step (Below.step (Below.step (below_new _ _) (below_new _ _)) (below_new _ _)) (below_new _ _)) (below_new _ _)
  · simp
set_option maxRecDepth 100000 in
set_option maxHeartbeats 16000000 in
theorem law_listed_core (W : World) (N : Nat) (h1 : 1 ≤ N) (h2 : N ≤ 65536) (a : Option Addr) (cap : Nat) (ps : List Pt) (hp : PutsAt W a ps) (hl : ps.length ≤ 9223372036854775807) (c : Ctx) (hc : c.Ok) (va : Int) (hv : 0 ≤ va ∧ va < 4294967296) (vb : Int) (hvb : 0 ≤ vb ∧ vb < 4294967296) (ht : TS W) :
    Calls Tryd.prog 7 #[.int .i64 N, .slice a ps.length cap, .agg #[.bool c.on, .bool c.tre, .bool c.afe, .int .i64 c.n, .bool c.pd0, .bool c.pd1, .int .u64 c.b0, .int .u64 c.b1, .int .u32 c.dacr, .int .u32 c.prrr, .int .u32 c.nmrr, .int .i64 c.asid], .int .u32 va, .int .u32 vb] W fun e W' => e = .returned (.bool true) ∧ Below W.heap.size W W' := by
  have b1 := below_new W (.cells #[.bool c.on, .bool c.tre, .bool c.afe, .int .i64 c.n, .bool c.pd0, .bool c.pd1, .int .u64 c.b0, .int .u64 c.b1, .int .u32 c.dacr, .int .u32 c.prrr, .int .u32 c.nmrr, .int .i64 c.asid] 26)
  have b2 : Below W.heap.size W (((W.alloc (.cells #[.bool c.on, .bool c.tre, .bool c.afe, .int .i64 c.n, .bool c.pd0, .bool c.pd1, .int .u64 c.b0, .int .u64 c.b1, .int .u32 c.dacr, .int .u32 c.prrr, .int .u32 c.nmrr, .int .i64 c.asid] 26)).alloc (.cells #[.int .u32 vb] 24)).alloc (.cells #[.bool false] 4)) := Below.step (Below.step b1 (below_new _ _)) (below_new _ _)
  have HA := hidW (alive_any _ (ht.tw.below b2))
  have HBC : Hid (Bl (((W.alloc (.cells #[.bool c.on, .bool c.tre, .bool c.afe, .int .i64 c.n, .bool c.pd0, .bool c.pd1, .int .u64 c.b0, .int .u64 c.b1, .int .u32 c.dacr, .int .u32 c.prrr, .int .u32 c.nmrr, .int .i64 c.asid] 26)).alloc (.cells #[.int .u32 vb] 24)).alloc (.cells #[.bool false] 4)) W.heap.size 26 [.bool c.on, .bool c.tre, .bool c.afe, .int .i64 c.n, .bool c.pd0, .bool c.pd1, .int .u64 c.b0, .int .u64 c.b1, .int .u32 c.dacr, .int .u32 c.prrr, .int .u32 c.nmrr, .int .i64 c.asid]) := hidW (((Bl.new W _ _).below (below_new _ _)).below (below_new _ _))
  have HBB : Hid (Bl (((W.alloc (.cells #[.bool c.on, .bool c.tre, .bool c.afe, .int .i64 c.n, .bool c.pd0, .bool c.pd1, .int .u64 c.b0, .int .u64 c.b1, .int .u32 c.dacr, .int .u32 c.prrr, .int .u32 c.nmrr, .int .i64 c.asid] 26)).alloc (.cells #[.int .u32 vb] 24)).alloc (.cells #[.bool false] 4)) (W.heap.size + 1) 24 [.int .u32 vb]) := hidW ((Bl.new1 W _ _ _).below (below_new _ _))
  have HBR : Hid (Bl (((W.alloc (.cells #[.bool c.on, .bool c.tre, .bool c.afe, .int .i64 c.n, .bool c.pd0, .bool c.pd1, .int .u64 c.b0, .int .u64 c.b1, .int .u32 c.dacr, .int .u32 c.prrr, .int .u32 c.nmrr, .int .i64 c.asid] 26)).alloc (.cells #[.int .u32 vb] 24)).alloc (.cells #[.bool false] 4)) (W.heap.size + 1 + 1) 4 [.bool false]) := hidW (by
    have := Bl.new1 (W.alloc (.cells #[.bool c.on, .bool c.tre, .bool c.afe, .int .i64 c.n, .bool c.pd0, .bool c.pd1, .int .u64 c.b0, .int .u64 c.b1, .int .u32 c.dacr, .int .u32 c.prrr, .int .u32 c.nmrr, .int .i64 c.asid] 26)) (.cells #[.int .u32 vb] 24) 4 [.bool false]
    rwa [show (W.alloc (.cells #[.bool c.on, .bool c.tre, .bool c.afe, .int .i64 c.n, .bool c.pd0, .bool c.pd1, .int .u64 c.b0, .int .u64 c.b1, .int .u32 c.dacr, .int .u32 c.prrr, .int .u32 c.nmrr, .int .i64 c.asid] 26)).heap.size = W.heap.size + 1 by simp] at this)
  have HB0 := hidW b2
  have HS := hidW hp
  have HT := hidW ht
  have hs3 : (((W.alloc (.cells #[.bool c.on, .bool c.tre, .bool c.afe, .int .i64 c.n, .bool c.pd0, .bool c.pd1, .int .u64 c.b0, .int .u64 c.b1, .int .u32 c.dacr, .int .u32 c.prrr, .int .u32 c.nmrr, .int .i64 c.asid] 26)).alloc (.cells #[.int .u32 vb] 24)).alloc (.cells #[.bool false] 4)).heap.size = W.heap.size + 3 := by simp
  clear hp ht b1 b2
  refine (callsIn_wide (n := 3)).1 ?_
  refine callsIn_of_wp_marks Tryd.func7 rfl trivial ?_ rfl
  simp only [Tryd.ntmps7, List.size_toArray, List.length_cons, List.length_nil, Nat.reduceAdd, Nat.reduceSub, Array.replicate_succ, Array.replicate_zero, List.push_toArray, List.append_toArray, List.nil_append, List.cons_append]
  refine wpIn_wide.2 ?_
  refine wp_cut 8 _ (lsF Tryd.f7) (by kernel_rfl) (fun C hC => ?_)
  have HC := hidW hC
  clear hC
  simp only [putTail]
  go_wp2_with fail
  generalize ((W.alloc (.cells #[.bool c.on, .bool c.tre, .bool c.afe, .int .i64 c.n, .bool c.pd0, .bool c.pd1, .int .u64 c.b0, .int .u64 c.b1, .int .u32 c.dacr, .int .u32 c.prrr, .int .u32 c.nmrr, .int .i64 c.asid] 26)).alloc (.cells #[.int .u32 vb] 24)).alloc (.cells #[.bool false] 4) = w3 at *
  go_at_call 9
  refine HA.out.mono ?_
  rintro e wa ⟨rfl, hb⟩
  have HM := hidW (made_ok wa N h1 h2 a cap ps (HS.out.below (Below.step HB0.out hb)) hl)
  have hsa := hb.size
  have HBa := hidW hb
  clear hb HA HS
  go_wp2_with fail
  go_at_call 10
  refine HM.out.mono ?_
  rintro e wb ⟨p, rfl, hO⟩
  obtain ⟨⟨S1, hP1, hS1⟩, hOb⟩ := hO
  have hP1 := PM.tight hP1
  have HP1 := hidW hP1
  have HS1 : Hid (∀ b, (S1 b ∧ solid wb b) → wa.heap.size ≤ b) := hidW (fun b hb => hS1 b hb.1)
  have hsb := hOb.size
  have HBb := hidW (Below.step HBa.out hOb)
  clear HM hOb hP1 hS1 HBa
  generalize pm N ps ps.length = m at *
  obtain ⟨U, F, hwk⟩ : ∃ U F, wk (ramMo N m) c va = (U, F) := ⟨_, _, rfl⟩
  have hMO : (ramMo N m).Ok := ramMo_ok HP1.out.byts
  have HOFF : Hid (c.on = false → Fz U) := hidW (fun hon => by
    have hk : F.k = 0 := by
      unfold wk at hwk
      rw [hon] at hwk
      rw [← (Prod.mk.inj hwk).2]; rfl
    have hft := (found hMO hc hv hwk hk).2.1.ft hv
    exact ⟨hft.va, hft.pa, hft.bt⟩)
  have HMET := hidW (met_iff hMO hc hv hwk)
  have b4 := below_new wb (.cells #[.pointer (some ⟨p, 0, none⟩)] 30)
  have HW := hidW (walk_pure c va (wb.alloc (.cells #[.pointer (some ⟨p, 0, none⟩)] 30)) (S := fun b => S1 b ∧ solid wb b) (.inl ⟨p, N, m, rfl, rfl, HP1.out.keep (S' := fun _ => False) (Turn.below b4) (fun _ _ h => h)⟩) (HT.out.tw.below (Below.step HB0.out (Below.step HBb.out b4))) hc hv)
  rw [hwk] at HW
  have c0 : ∀ j, (wb.alloc (.cells #[.pointer (some ⟨p, 0, none⟩)] 30)).cell? ⟨W.heap.size, j, none⟩ = [.bool c.on, .bool c.tre, .bool c.afe, .int .i64 c.n, .bool c.pd0, .bool c.pd1, .int .u64 c.b0, .int .u64 c.b1, .int .u32 c.dacr, .int .u32 c.prrr, .int .u32 c.nmrr, .int .i64 c.asid][j]? := ((HBC.out.below HBb.out).below b4).cell
  clear hwk b4
  go_wp2_with fail
  go_at_call 11
  refine HW.out.mono ?_
  rintro e v1 ⟨rfl, hb⟩
  have HB1 := hidW hb
  have hs1 := hb.size
  clear hb HW c0
  go_wp2
  refine HC.out _ _ ?_
  obtain ⟨d1, d2, d3, d4, d5, d6, d7⟩ := five v1 U F
  generalize (((((v1.alloc (.cells #[.int .i64 U.size, .int .u32 U.va, .int .u64 U.pa, .int .i64 U.dom, .int .i64 U.ap, .int .u32 U.bits, .bool U.ng, .bool U.xn] 35)).alloc (.cells #[.int .i64 F.k, .int .i64 F.l, .int .i64 F.d] 37)).alloc (.cells #[.bool false] 4)).alloc (.cells #[.int .i64 0, .int .u32 0, .int .u64 0, .int .i64 0, .int .i64 0, .int .u32 0, .bool false, .bool false] 35)).alloc (.cells #[.int .i64 0] 3)) = w5 at *
  have b4 := below_new wb (.cells #[.pointer (some ⟨p, 0, none⟩)] 30)
  have B4 : Below wb.heap.size wb w5 := Below.step b4 (Below.step HB1.out d6)
  have B3 : Below w3.heap.size w3 w5 := Below.step HBb.out B4
  have hl0 := HP1.out.low
  have hs4 : (wb.alloc (.cells #[.pointer (some ⟨p, 0, none⟩)] 30)).heap.size = wb.heap.size + 1 := by simp
  rw [hs4] at hs1
  refine wpIn_wide.1 (lsF_any W W.heap.size (W.heap.size + 1) (W.heap.size + 1 + 1) wb.heap.size v1.heap.size (v1.heap.size + 1) (v1.heap.size + 1 + 1) (v1.heap.size + 1 + 1 + 1) (v1.heap.size + 1 + 1 + 1 + 1) (fun b => S1 b ∧ solid wb b) p N m c vb U F w5 ?_ ?_ ?_ hc hvb HT.out HOFF.out HMET.out)
  · exact ⟨Nat.le_refl _, by omega, by omega, by omega, by omega, by omega, by omega, by omega, by omega, by omega, fun b hb => ⟨by have := HS1.out b hb; omega, hl0 b hb⟩⟩
  · exact ⟨HP1.out.keep (S' := fun _ => False) (Turn.below B4) (fun _ _ h => h), Below.step HB0.out B3, HBR.out.below B3, HBC.out.below B3, HBB.out.below B3, ((Bl.new wb _ _).below HB1.out).below d6, d1, d2, d3, d4, d5⟩
  · exact fun b hb => hb.2.of (B4.block b (hl0 b hb))
set_option maxRecDepth 100000 in
theorem law_listed_bad (W : World) (ht : TS W) (f : Int) (hf : f < 1 ∨ 65536 < f) (s : Value) (c : Ctx) (va vb : Int) :
    Calls Tryd.prog 7 #[.int .i64 f, s, .agg #[.bool c.on, .bool c.tre, .bool c.afe, .int .i64 c.n, .bool c.pd0, .bool c.pd1, .int .u64 c.b0, .int .u64 c.b1, .int .u32 c.dacr, .int .u32 c.prrr, .int .u32 c.nmrr, .int .i64 c.asid], .int .u32 va, .int .u32 vb] W fun e W' => e = .returned (.bool true) ∧ Below W.heap.size W W' := by
  have b2 : Below W.heap.size W (((W.alloc (.cells #[.bool c.on, .bool c.tre, .bool c.afe, .int .i64 c.n, .bool c.pd0, .bool c.pd1, .int .u64 c.b0, .int .u64 c.b1, .int .u32 c.dacr, .int .u32 c.prrr, .int .u32 c.nmrr, .int .i64 c.asid] 26)).alloc (.cells #[.int .u32 vb] 24)).alloc (.cells #[.bool false] 4)) := Below.step (Below.step (below_new W _) (below_new _ _)) (below_new _ _)
  have HA := hidW (alive_any _ (ht.tw.below b2))
  have HM := hidW (fun ww => made_bad ww f s hf)
  have HBR : Hid (Bl (((W.alloc (.cells #[.bool c.on, .bool c.tre, .bool c.afe, .int .i64 c.n, .bool c.pd0, .bool c.pd1, .int .u64 c.b0, .int .u64 c.b1, .int .u32 c.dacr, .int .u32 c.prrr, .int .u32 c.nmrr, .int .i64 c.asid] 26)).alloc (.cells #[.int .u32 vb] 24)).alloc (.cells #[.bool false] 4)) (W.heap.size + 1 + 1) 4 [.bool false]) := hidW (by
    have := Bl.new1 (W.alloc (.cells #[.bool c.on, .bool c.tre, .bool c.afe, .int .i64 c.n, .bool c.pd0, .bool c.pd1, .int .u64 c.b0, .int .u64 c.b1, .int .u32 c.dacr, .int .u32 c.prrr, .int .u32 c.nmrr, .int .i64 c.asid] 26)) (.cells #[.int .u32 vb] 24) 4 [.bool false]
    rwa [show (W.alloc (.cells #[.bool c.on, .bool c.tre, .bool c.afe, .int .i64 c.n, .bool c.pd0, .bool c.pd1, .int .u64 c.b0, .int .u64 c.b1, .int .u32 c.dacr, .int .u32 c.prrr, .int .u32 c.nmrr, .int .i64 c.asid] 26)).heap.size = W.heap.size + 1 by simp] at this)
  have HB0 := hidW b2
  have hd : decide (f < 1) = true ∨ (decide (f < 1) = false ∧ decide (65536 < f) = true) := by
    by_cases h : f < 1
    · exact .inl (by simp [h])
    · exact .inr ⟨by simp [h], by simp; omega⟩
  clear hf ht b2
  rcases hd with h1 | ⟨h1, h2⟩
  all_goals
    go_enter Tryd.func7, Tryd.ntmps7
    go_wp2_with fail
    generalize ((W.alloc (.cells #[.bool c.on, .bool c.tre, .bool c.afe, .int .i64 c.n, .bool c.pd0, .bool c.pd1, .int .u64 c.b0, .int .u64 c.b1, .int .u32 c.dacr, .int .u32 c.prrr, .int .u32 c.nmrr, .int .i64 c.asid] 26)).alloc (.cells #[.int .u32 vb] 24)).alloc (.cells #[.bool false] 4) = w3 at *
    go_at_call 9
    refine HA.out.mono ?_
    rintro e w1 ⟨rfl, hb⟩
    have HE := hidW (Below.step HB0.out hb)
    have HR := hidW (HBR.out.below hb)
    clear hb HA HB0 HBR
    go_wp2_with fail
    go_at_call 10
    refine (HM.out _).mono ?_
    rintro e w2 ⟨rfl, rfl⟩
    have hr := (HR.out.below (below_new w1 (.cells #[.pointer none] 30)))
    have cR := hr.cell 0
    have fR := hr.frozen 0
    have lR := hr.lt
    have HR2 := hidW hr
    simp only [List.getElem?_cons_zero] at cR
    clear HM hr
    go_wp2
    refine bodyPost_ret (v := .bool true) (results_ret rfl _ _ (W.heap.size + 1 + 1) true rfl (HR2.out.put' 0 _)) rfl ⟨rfl, ?_⟩
    exact ((Below.step HE.out (below_new _ _))).setCell (by show W.heap.size ≤ W.heap.size + 1 + 1; omega) _
theorem law_listed (W : World) (f : Int) (a : Option Addr) (cap : Nat) (ps : List Pt) (hp : PutsAt W a ps) (hl : ps.length ≤ 9223372036854775807) (c : Ctx) (hc : c.Ok) (va : Int) (hv : 0 ≤ va ∧ va < 4294967296) (vb : Int) (hvb : 0 ≤ vb ∧ vb < 4294967296) (ht : TS W) :
    Calls Tryd.prog 7 #[.int .i64 f, .slice a ps.length cap, .agg #[.bool c.on, .bool c.tre, .bool c.afe, .int .i64 c.n, .bool c.pd0, .bool c.pd1, .int .u64 c.b0, .int .u64 c.b1, .int .u32 c.dacr, .int .u32 c.prrr, .int .u32 c.nmrr, .int .i64 c.asid], .int .u32 va, .int .u32 vb] W fun e W' => e = .returned (.bool true) ∧ Below W.heap.size W W' := by
  by_cases hf : f < 1 ∨ 65536 < f
  · exact law_listed_bad W ht f hf _ c va vb
  · obtain ⟨N, rfl⟩ : ∃ N : Nat, f = N := ⟨f.toNat, by omega⟩
    exact law_listed_core W N (by omega) (by omega) a cap ps hp hl c hc va hv vb hvb ht
end Go.Proofs.YtmodcbdgnmjkoaaDoor
