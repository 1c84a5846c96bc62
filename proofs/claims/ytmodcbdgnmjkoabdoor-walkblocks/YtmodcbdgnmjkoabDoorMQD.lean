import Derived.Test.YtmodcbdgnmjkoabDoorMQC
import Derived.Deep.RegionHeld3
import Derived.Test.YtmodcbdgnmjkoabDoorMQ0
import Derived.Deep.CutRange
import Derived.Test.YtmodcbdgnmjkoabDoorMG
import Derived.Test.YtmodcbdgnmjkoabDoorRows
import Derived.ChangeSame
import Derived.WalkKit
import Derived.ProofKit
import Derived.OpenShut
import Derived.Lib.LaidTab
import Derived.Lib.SmallJoins
import Derived.Deep.DeepHandedRow
namespace Go.Proofs.YtmodcbdgnmjkoabDoor
open Go.RowKit Go.Shelf
open Mm (Turn gr RowAt PM)
set_option linter.unusedVariables false
set_option linter.unusedSimpArgs false
attribute [local go_sem] Oper.semAt_some
/-- How the boxes of the law lie. -/
structure BO (W : World) (B bf br bw b1 b2 : Nat) (S : Nat → Prop) : Prop where
  h0 : W.heap.size ≤ br
  hr : br < B
  hf : bf < B ∧ bf ≠ br
  hw : bw < B ∧ bw ≠ br
  h1 : b1 < B ∧ b1 ≠ br
  h2 : b2 < B ∧ b2 ≠ br
  hS : ∀ b, S b → b < B ∧ b ≠ br
/-- What stands through all rounds. -/
structure BS (W : World) (B bf br bw b1 b2 : Nat) (S : Nat → Prop) (iv : Value) (M : Mo) (c : Ctx) (few : Int) (L : List Tra) (av : Option Addr) (cap : Nat) (w : World) : Prop where
  mem : MemP w S iv M
  sol : ∀ b, S b → solid w b
  bel : Below W.heap.size W w
  ret : Bl w br 4 [.bool false]
  few : Bl w bf 3 [.int .i64 few]
  want : Bl w bw 41 [.slice av L.length cap]
  row : L = [] ∨ ∃ g rest, av = some ⟨g, 0, none⟩ ∧ (g < B ∧ g ≠ br) ∧ RowAt w g 49 (rowT L ++ rest)
  hb1 : Bl w b1 60 [iv]
  hb2 : Bl w b2 26 [.bool c.on, .bool c.tre, .bool c.afe, .int .i64 c.n, .bool c.pd0, .bool c.pd1, .int .u64 c.b0, .int .u64 c.b1, .int .u32 c.dacr, .int .u32 c.prrr, .int .u32 c.nmrr, .int .i64 c.asid]
  low : B ≤ w.heap.size
section
variable {W : World} {B bf br bw b1 b2 : Nat} {S : Nat → Prop} {iv : Value} {M : Mo} {c : Ctx} {few : Int} {L : List Tra} {av : Option Addr} {cap : Nat} {w w' : World}
theorem BS.turn (o : BO W B bf br bw b1 b2 S) (h : BS W B bf br bw b1 b2 S iv M c few L av cap w) {Y : Nat → Prop} (T : Turn Y w w') (hY : ∀ b, Y b → B ≤ b) : BS W B bf br bw b1 b2 S iv M c few L av cap w' := by
  have hh : ∀ b, b < B → ¬ Y b := fun b hb hy => by have := hY b hy; omega
  have o0 := o.h0; have o1 := o.hr
  refine ⟨h.mem.keep T (fun b hb => hh b (o.hS b hb).1), fun b hb => (h.sol b hb).of (T.block b (h.sol b hb).lt (hh b (o.hS b hb).1)), h.bel.trans (T.to (fun x hx => by have := hY x hx; omega) h.bel.size), h.ret.turn T (hh _ o.hr), h.few.turn T (hh _ o.hf.1), h.want.turn T (hh _ o.hw.1), ?_, h.hb1.turn T (hh _ o.h1.1), h.hb2.turn T (hh _ o.h2.1), Nat.le_trans h.low T.size⟩
  rcases h.row with h0 | ⟨g, rest, e, hg, hr⟩
  · exact .inl h0
  · exact .inr ⟨g, rest, e, hg, (T.block g hr.lt (hh g hg.1)).trans hr⟩
theorem BS.below (o : BO W B bf br bw b1 b2 S) (h : BS W B bf br bw b1 b2 S iv M c few L av cap w) (hb : Below w.heap.size w w') : BS W B bf br bw b1 b2 S iv M c few L av cap w' := h.turn o (Y := fun _ => False) (Turn.below hb) (fun _ h => h.elim)
/-- What the iterator leans on. -/
theorem BS.it (o : BO W B bf br bw b1 b2 S) (h : BS W B bf br bw b1 b2 S iv M c few L av cap w) (tW : TW W) (bn : Nat) (hn : B ≤ bn) : It (fun b => b = br ∨ b = bn) S iv M c b2 b1 w := by
  have o0 := o.h0; have o1 := o.h1; have o2 := o.h2
  have tw := tW.below h.bel
  refine ⟨h.mem, tw, ?_, h.hb2, by omega, h.hb1, by omega⟩
  rintro b (hb | hb)
  · have := o.hS b hb
    exact ⟨h.sol b hb, by omega⟩
  · have h1 := tW.low hb
    have := h.bel.size
    have := h.low
    have := o.hr
    exact ⟨tw.solid hb, by omega⟩
end
/-- A mark on the calls that are put off. -/
def mk (D : Nat) : Deferred := { target := .collected D, args := #[] }
theorem leaves_rets {fn : Func} {q : Tmp} (h : fn.results = #[.cell q 4]) (tmps : Array Value) (W : World) (b : Nat) (hp : tmps.getD q undef = .pointer (some ⟨b, 0, none⟩)) :
    ∀ (Ds : List Nat) (Y : World), Ds.Pairwise (fun a b => a ≠ b) → (∀ D ∈ Ds, W.heap.size ≤ D ∧ Y.heap[D]? = some (.deferred (some []))) → Bl Y b 4 [.bool true] → Below W.heap.size W Y →
    LeavesInM Fence.wide 3 Tryd.prog fn tmps (fun e W' => e = .returned (.bool true) ∧ Below W.heap.size W W') (Ds.map mk) .returning Y
  | [], Y, _, _, hb, hbel => ⟨_, results_ret h _ _ b true hp hb, rfl, hbel⟩
  | D :: Ds, Y, hd, hm, hb, hbel => by
    obtain ⟨hD, hK⟩ := hm D (.head _)
    have hd' := List.pairwise_cons.1 hd
    have hne : b ≠ D := by
      rintro rfl
      rw [show Y.heap[b]? = _ from hb] at hK
      cases hK
    refine ⟨by simp, .inl ⟨_, _, rfl, run_takeDeferred hK, ?_⟩⟩
    refine leaves_rets h tmps W b hp Ds _ hd'.2 (fun E hE => ?_) ?_ ?_
    · obtain ⟨h1, h2⟩ := hm E (.tail _ hE)
      refine ⟨h1, ((grownBy_putObj' Y D _).block E (Array.getElem?_eq_some_iff.1 h2).1 (by intro e; cases e; exact hd'.1 _ hE rfl)).trans h2⟩
    · exact ((grownBy_putObj' Y D _).block b hb.lt (by intro e; cases e; exact hne rfl)).trans hb
    · exact hbel.trans (belowK_b (w := W) (Nat.le_refl _) _ D _ _ hD hK rfl rfl)
end Go.Proofs.YtmodcbdgnmjkoabDoor
namespace Go.Proofs.YtmodcbdgnmjkoabDoor
open Go.RowKit Go.Shelf
open Mm (Turn gr RowAt PM)
set_option linter.unusedVariables false
set_option linter.unusedSimpArgs false
attribute [local go_sem] Oper.semAt_some
/-- The law's code from the loop on, and its parts. -/
def bkF (f : Func) : Code := sq2 (sq2 (sq2 (sq2 (sq2 (sq2 (f.body.getD .skip))))))
def bkL (f : Func) : Code := lpC (blkC (sq2 (sq1 (bkF f))))
def bkR (f : Func) : Code := blkC (sq1 (sq2 (bkL f)))
def bkB (f : Func) : Code := rfB (blkC (sq2 (sq1 (sq2 (bkR f)))))
set_option maxRecDepth 100000 in
set_option maxHeartbeats 16000000 in
/-- A round of the inner loop. -/
theorem bkB_any {t0 t1 t2 t3 t4 t5 t6 t9 t10 t16 t17 t18 t19 t20 t21 t22 t23 t24 t25 t26 t27 t28 t29 t30 t31 t32 t33 t34 t35 t36 t37 t38 t39 t40 t41 t42 t43 t44 t45 t46 t47 t48 t49 t50 t51 t52 t53 t54 t55 t56 t57 t58 t59 t60 t61 t62 t63 t64 t65 t66 t67 t68 t69 t70 t71 t72 t73 t74 t75 t76 t77 t78 t79 t80 : Value} (l n : Nat) (W : World) (B bf br bw b1 b2 : Nat) (S : Nat → Prop) (iv : Value) (M : Mo) (c : Ctx) (few : Int) (L : List Tra) (av : Option Addr) (cap : Nat) (r bo bn bx k : Nat) (x y : Tra) (w : World) (Q : Exit → Act → World → Prop) (o : BO W B bf br bw b1 b2 S) (h : BS W B bf br bw b1 b2 S iv M c few L av cap w) (hO : Bl w bo 3 [.int .i64 r]) (hN : Bl w bn 3 [.int .i64 k]) (hx : Bl w bx 49 [.int .i64 x.size, .int .u32 x.va, .int .u64 x.pa, .int .i64 x.dom, .int .i64 x.ap, .int .u32 x.bits, .bool x.ng, .bool x.xn])
    (hbo : B ≤ bo) (hbn : B ≤ bn) (hbx : B ≤ bx) (n1 : bn ≠ bo) (n2 : bn ≠ bx) (hk : k < L.length) (hy : L[k]? = some y) (hL : L.length ≤ 1000000000) (hr : r ≤ 1)
    (hQ : ∀ a w, ¬ Q .outgrown a w) (hQp : ∀ ch a w, ¬ Q (.panic ch) a w)
    (hne : ¬ x = y → ∀ a, Q .ret a (w.drew.setCell ⟨br, 0, none⟩ (.bool false)))
    (hgo : x = y → ¬ (r = 0 ∧ (k : Int) + 1 = few) → ∀ a, Q .normal a (w.drew.setCell ⟨bn, 0, none⟩ (.int .i64 ((k : Int) + 1))))
    (hex : x = y → r = 0 → (k : Int) + 1 = few → ∀ a, Q (.exit 2) a (w.drew.setCell ⟨bn, 0, none⟩ (.int .i64 ((k : Int) + 1)))) :
    (bkB Tryd.f4).wpIn (Fence.wide.inRound l) n Tryd.prog Q { tmps := #[t0, t1, t2, t3, t4, t5, t6, .pointer (some ⟨bf, 0, none⟩), .pointer (some ⟨br, 0, none⟩), t9, t10, .pointer (some ⟨bw, 0, none⟩), .func (.func 23) #[] #[.pointer (some ⟨b2, 0, none⟩), .pointer (some ⟨b1, 0, none⟩)], .pointer (some ⟨bo, 0, none⟩), .pointer (some ⟨bn, 0, none⟩), .pointer (some ⟨bx, 0, none⟩), t16, t17, t18, t19, t20, t21, t22, t23, t24, t25, t26, t27, t28, t29, t30, t31, t32, t33, t34, t35, t36, t37, t38, t39, t40, t41, t42, t43, t44, t45, t46, t47, t48, t49, t50, t51, t52, t53, t54, t55, t56, t57, t58, t59, t60, t61, t62, t63, t64, t65, t66, t67, t68, t69, t70, t71, t72, t73, t74, t75, t76, t77, t78, t79, t80], defers := [] } w := by
  obtain ⟨g, rest, rfl, hg, hrow⟩ : ∃ g rest, av = some ⟨g, 0, none⟩ ∧ (g < B ∧ g ≠ br) ∧ RowAt w g 49 (rowT L ++ rest) := by
    rcases h.row with h0 | h0
    · rw [h0] at hk; simp at hk
    · exact h0
  simp only [bkB, bkR, bkL, bkF, sq2, sq1, blkC, rfB, lpC, Tryd.f4, Option.getD]
  obtain ⟨y0, y1, y2, y3, y4, y5, y6, y7⟩ := rowT_cells hrow hy
  have cN := hN.cell 0
  have fN := hN.frozen 0
  have cW := h.want.cell 0
  have cO := hO.cell 0
  have cF := h.few.cell 0
  have cR := h.ret.cell 0
  have fR := h.ret.frozen 0
  have a := hx.cell
  simp only [List.getElem?_cons_zero] at cN cW cO cF cR
  have q1 := o.hf; have q2 := o.hr
  have m1 : ¬ bn = bo := n1
  have m2 : ¬ bo = bn := fun e => n1 e.symm
  have m3 : ¬ bf = bn := by omega
  have m4 : ¬ bn = bf := by omega
  generalize hn0 : L.length = n0 at *
  have hS0 : w.drew.cell? ⟨bn, 0, none⟩ = some (.int .i64 k) ∧ w.drew.cell? ⟨bw, 0, none⟩ = some (.slice (some ⟨g, 0, none⟩) n0 cap) ∧ w.drew.cell? ⟨bx, 0, none⟩ = some (.int .i64 x.size) ∧ w.drew.cell? ⟨bx, 1, none⟩ = some (.int .u32 x.va) ∧ w.drew.cell? ⟨bx, 2, none⟩ = some (.int .u64 x.pa) ∧ w.drew.cell? ⟨bx, 3, none⟩ = some (.int .i64 x.dom) ∧ w.drew.cell? ⟨bx, 4, none⟩ = some (.int .i64 x.ap) ∧ w.drew.cell? ⟨bx, 5, none⟩ = some (.int .u32 x.bits) ∧ w.drew.cell? ⟨bx, 6, none⟩ = some (.bool x.ng) ∧ w.drew.cell? ⟨bx, 7, none⟩ = some (.bool x.xn) ∧ w.drew.cell? ⟨g, k * 8, none⟩ = some (.int .i64 y.size) ∧ w.drew.cell? ⟨g, k * 8 + 1, none⟩ = some (.int .u32 y.va) ∧ w.drew.cell? ⟨g, k * 8 + 2, none⟩ = some (.int .u64 y.pa) ∧ w.drew.cell? ⟨g, k * 8 + 3, none⟩ = some (.int .i64 y.dom) ∧ w.drew.cell? ⟨g, k * 8 + 4, none⟩ = some (.int .i64 y.ap) ∧ w.drew.cell? ⟨g, k * 8 + 5, none⟩ = some (.int .u32 y.bits) ∧ w.drew.cell? ⟨g, k * 8 + 6, none⟩ = some (.bool y.ng) ∧ w.drew.cell? ⟨g, k * 8 + 7, none⟩ = some (.bool y.xn) := ⟨cN, cW, a 0, a 1, a 2, a 3, a 4, a 5, a 6, a 7, y0, y1, y2, y3, y4, y5, y6, y7⟩
  have eT := eqT x y
  have HNE := hidW hne
  have HGO := hidW hgo
  have HEX := hidW hex
  have z1 : ¬ (n0 : Int) ≤ (k : Int) := by omega
  have z2 : (k : Int) < (n0 : Int) := by omega
  have z3 : (0 : Int) ≤ (k : Int) := by omega
  have z4 : (k : Int) ≤ 1000000000 := by omega
  have zw : IntKind.i64.wrap (k : Int) = k := by rw [IntKind.wrap_i64]; omega
  clear hne hgo hex h hO hN hx hrow hy a y0 y1 y2 y3 y4 y5 y6 y7
  by_cases hxy : x = y
  · subst hxy
    rw [Tra.same_self] at eT
    gi_wp2
    refine regionIn_held (k := 12) (fun w' => w'.cell? ⟨bn, 0, none⟩ = some (.int .i64 k) ∧ w'.cell? ⟨bw, 0, none⟩ = some (.slice (some ⟨g, 0, none⟩) n0 cap) ∧ w'.cell? ⟨bx, 0, none⟩ = some (.int .i64 x.size) ∧ w'.cell? ⟨bx, 1, none⟩ = some (.int .u32 x.va) ∧ w'.cell? ⟨bx, 2, none⟩ = some (.int .u64 x.pa) ∧ w'.cell? ⟨bx, 3, none⟩ = some (.int .i64 x.dom) ∧ w'.cell? ⟨bx, 4, none⟩ = some (.int .i64 x.ap) ∧ w'.cell? ⟨bx, 5, none⟩ = some (.int .u32 x.bits) ∧ w'.cell? ⟨bx, 6, none⟩ = some (.bool x.ng) ∧ w'.cell? ⟨bx, 7, none⟩ = some (.bool x.xn) ∧ w'.cell? ⟨g, k * 8, none⟩ = some (.int .i64 x.size) ∧ w'.cell? ⟨g, k * 8 + 1, none⟩ = some (.int .u32 x.va) ∧ w'.cell? ⟨g, k * 8 + 2, none⟩ = some (.int .u64 x.pa) ∧ w'.cell? ⟨g, k * 8 + 3, none⟩ = some (.int .i64 x.dom) ∧ w'.cell? ⟨g, k * 8 + 4, none⟩ = some (.int .i64 x.ap) ∧ w'.cell? ⟨g, k * 8 + 5, none⟩ = some (.int .u32 x.bits) ∧ w'.cell? ⟨g, k * 8 + 6, none⟩ = some (.bool x.ng) ∧ w'.cell? ⟨g, k * 8 + 7, none⟩ = some (.bool x.xn)) (by rfl) (by kernel_rfl) (no_defer (by kernel_rfl)) (by rintro ⟨a, w, h⟩; exact hQ _ _ h) ?_
    refine wpAnyH_take (i := 0) (oi := { dst := some 46, op := Op.load 3 (Operand.tmp 14), type := 3, pos := _, after := #[], guard := none }) (v := ?_) rfl (by kernel_rfl) (by kernel_rfl) (by kernel_rfl) (fun _ _ _ h => (hQp _ _ _ h).elim) (Or.inl ⟨by rfl, ?_⟩) (by assumption) ?_
    rotate_left
    · (intro w hSw; (try dsimp only at hSw); go_simp; try with_reducible rfl)
    simp only [Act.put, List.setIfInBounds_toArray, List.set_cons_zero, List.set_cons_succ]
    refine wpAnyH_take (i := 1) (oi := { dst := some 47, op := Op.load 41 (Operand.tmp 11), type := 41, pos := _, after := #[], guard := none }) (v := ?_) rfl (by kernel_rfl) (by kernel_rfl) (by kernel_rfl) (fun _ _ _ h => (hQp _ _ _ h).elim) (Or.inl ⟨by rfl, ?_⟩) (by assumption) ?_
    rotate_left
    · (intro w hSw; (try dsimp only at hSw); go_simp; try with_reducible rfl)
    simp only [Act.put, List.setIfInBounds_toArray, List.set_cons_zero, List.set_cons_succ]
    refine wpAnyH_take (i := 2) (oi := { dst := some 48, op := Op.call { callee := Callee.builtin Builtin.len, args := #[Operand.tmp 47], argTypes := #[41] }, type := 3, pos := _, after := #[{ on := 1, ground := Ground.data }], guard := none }) (v := ?_) rfl (by kernel_rfl) (by kernel_rfl) (by kernel_rfl) (fun _ _ _ h => (hQp _ _ _ h).elim) (Or.inl ⟨by rfl, ?_⟩) (by assumption) ?_
    rotate_left
    · (intro w hSw; (try dsimp only at hSw); go_simp; try with_reducible rfl)
    simp only [Act.put, List.setIfInBounds_toArray, List.set_cons_zero, List.set_cons_succ]
    refine wpAnyH_take (i := 3) (oi := { dst := some 49, op := Op.binOp BinOp.geq 3 (Operand.tmp 46) (Operand.tmp 48) 3, type := 4, pos := _, after := #[{ on := 0, ground := Ground.data }, { on := 2, ground := Ground.data }], guard := none }) (v := .bool false) rfl (by kernel_rfl) (by kernel_rfl) (by kernel_rfl) (fun _ _ _ h => (hQp _ _ _ h).elim) (Or.inl ⟨by rfl, ?_⟩) (by assumption) ?_
    · (intro w hSw; (try dsimp only at hSw); go_simp; try with_reducible rfl)
    simp only [Act.put, List.setIfInBounds_toArray, List.set_cons_zero, List.set_cons_succ]
    refine wpAnyH_take (i := 4) (oi := { dst := some 50, op := Op.move (Operand.tmp 49), type := 4, pos := _, after := #[{ on := 3, ground := Ground.data }], guard := none }) (v := .bool false) rfl (by kernel_rfl) (by kernel_rfl) (by kernel_rfl) (fun _ _ _ h => (hQp _ _ _ h).elim) (Or.inl ⟨by rfl, ?_⟩) (by assumption) ?_
    · (intro w hSw; (try dsimp only at hSw); go_simp; try with_reducible rfl)
    simp only [Act.put, List.setIfInBounds_toArray, List.set_cons_zero, List.set_cons_succ]
    refine wpAnyH_take (i := 5) (oi := { dst := some 51, op := Op.load 49 (Operand.tmp 15), type := 49, pos := _, after := #[{ on := 4, ground := Ground.guard }], guard := some (4, false) }) (v := ?_) rfl (by kernel_rfl) (by kernel_rfl) (by kernel_rfl) (fun _ _ _ h => (hQp _ _ _ h).elim) (Or.inl ⟨by rfl, ?_⟩) (by assumption) ?_
    rotate_left
    · (intro w hSw; (try dsimp only at hSw); go_simp; try with_reducible rfl)
    simp only [Act.put, List.setIfInBounds_toArray, List.set_cons_zero, List.set_cons_succ]
    refine wpAnyH_take (i := 6) (oi := { dst := some 52, op := Op.load 41 (Operand.tmp 11), type := 41, pos := _, after := #[{ on := 4, ground := Ground.guard }], guard := some (4, false) }) (v := ?_) rfl (by kernel_rfl) (by kernel_rfl) (by kernel_rfl) (fun _ _ _ h => (hQp _ _ _ h).elim) (Or.inl ⟨by rfl, ?_⟩) (by assumption) ?_
    rotate_left
    · (intro w hSw; (try dsimp only at hSw); go_simp; try with_reducible rfl)
    simp only [Act.put, List.setIfInBounds_toArray, List.set_cons_zero, List.set_cons_succ]
    refine wpAnyH_take (i := 7) (oi := { dst := some 53, op := Op.load 3 (Operand.tmp 14), type := 3, pos := _, after := #[{ on := 4, ground := Ground.guard }], guard := some (4, false) }) (v := ?_) rfl (by kernel_rfl) (by kernel_rfl) (by kernel_rfl) (fun _ _ _ h => (hQp _ _ _ h).elim) (Or.inl ⟨by rfl, ?_⟩) (by assumption) ?_
    rotate_left
    · (intro w hSw; (try dsimp only at hSw); go_simp; try with_reducible rfl)
    simp only [Act.put, List.setIfInBounds_toArray, List.set_cons_zero, List.set_cons_succ]
    refine wpAnyH_take (i := 8) (oi := { dst := some 54, op := Op.indexAddr 41 (Operand.tmp 52) (Operand.tmp 53), type := 0, pos := _, after := #[{ on := 6, ground := Ground.data }, { on := 7, ground := Ground.data }, { on := 4, ground := Ground.guard }], guard := some (4, false) }) (v := ?_) rfl (by kernel_rfl) (by kernel_rfl) (by kernel_rfl) (fun _ _ _ h => (hQp _ _ _ h).elim) (Or.inl ⟨by rfl, ?_⟩) (by assumption) ?_
    rotate_left
    · (intro w hSw; (try dsimp only at hSw); go_simp; try with_reducible rfl)
    simp only [Act.put, List.setIfInBounds_toArray, List.set_cons_zero, List.set_cons_succ]
    refine wpAnyH_take (i := 9) (oi := { dst := some 55, op := Op.load 49 (Operand.tmp 54), type := 49, pos := _, after := #[{ on := 8, ground := Ground.data }, { on := 4, ground := Ground.guard }], guard := some (4, false) }) (v := ?_) rfl (by kernel_rfl) (by kernel_rfl) (by kernel_rfl) (fun _ _ _ h => (hQp _ _ _ h).elim) (Or.inl ⟨by rfl, ?_⟩) (by assumption) ?_
    rotate_left
    · (intro w hSw; (try dsimp only at hSw); go_simp; try with_reducible rfl)
    simp only [Act.put, List.setIfInBounds_toArray, List.set_cons_zero, List.set_cons_succ]
    refine wpAnyH_take (i := 10) (oi := { dst := some 56, op := Op.binOp BinOp.neq 49 (Operand.tmp 51) (Operand.tmp 55) 49, type := 4, pos := _, after := #[{ on := 5, ground := Ground.data }, { on := 9, ground := Ground.data }, { on := 4, ground := Ground.guard }], guard := some (4, false) }) (v := ?_) rfl (by kernel_rfl) (by kernel_rfl) (by kernel_rfl) (fun _ _ _ h => (hQp _ _ _ h).elim) (Or.inl ⟨by rfl, ?_⟩) (by assumption) ?_
    rotate_left
    · (intro w hSw; (try dsimp only at hSw); go_simp; try with_reducible rfl)
    simp only [Act.put, List.setIfInBounds_toArray, List.set_cons_zero, List.set_cons_succ]
    refine wpAnyH_take (i := 11) (oi := { dst := some 57, op := Op.pick (Operand.tmp 50) (Operand.const (Value.bool true)) (Operand.tmp 56), type := 4, pos := _, after := #[{ on := 4, ground := Ground.data }, { on := 10, ground := Ground.data }], guard := none }) (v := ?_) rfl (by kernel_rfl) (by kernel_rfl) (by kernel_rfl) (fun _ _ _ h => (hQp _ _ _ h).elim) (Or.inl ⟨by rfl, ?_⟩) (by assumption) ?_
    rotate_left
    · (intro w hSw; (try dsimp only at hSw); go_simp; try with_reducible rfl)
    simp only [Act.put, List.setIfInBounds_toArray, List.set_cons_zero, List.set_cons_succ]
    refine wpAnyH_done (by kernel_rfl) ?_ _
    clear hS0
    have hrr : r = 0 ∨ r = 1 := by omega
    rcases hrr with rfl | rfl
    · by_cases hfe : (k : Int) + 1 = few
      · have hfq : ((k : Int) + 1 == few) = true := by simp [hfe]
        have HE := hidW (HEX.out (by first | exact rfl | exact trivial) (by first | exact rfl | exact trivial) hfe)
        clear hfe
        gi_wp2
        exact HE.out _
      · have hfq : ((k : Int) + 1 == few) = false := by simp [hfe]
        have HE := hidW (HGO.out (by first | exact rfl | exact trivial) (fun hh => hfe hh.2))
        clear hfe
        gi_wp2
        exact HE.out _
    · have HE := hidW (HGO.out (by first | exact rfl | exact trivial) (fun hh => by omega))
      gi_wp2
      exact HE.out _
  · rw [show x.same y = false by cases h : x.same y with | false => rfl | true => exact absurd ((Tra.same_iff _ _).1 h) hxy] at eT
    have HE := hidW (HNE.out hxy)
    gi_wp2
    refine regionIn_held (k := 12) (fun w' => w'.cell? ⟨bn, 0, none⟩ = some (.int .i64 k) ∧ w'.cell? ⟨bw, 0, none⟩ = some (.slice (some ⟨g, 0, none⟩) n0 cap) ∧ w'.cell? ⟨bx, 0, none⟩ = some (.int .i64 x.size) ∧ w'.cell? ⟨bx, 1, none⟩ = some (.int .u32 x.va) ∧ w'.cell? ⟨bx, 2, none⟩ = some (.int .u64 x.pa) ∧ w'.cell? ⟨bx, 3, none⟩ = some (.int .i64 x.dom) ∧ w'.cell? ⟨bx, 4, none⟩ = some (.int .i64 x.ap) ∧ w'.cell? ⟨bx, 5, none⟩ = some (.int .u32 x.bits) ∧ w'.cell? ⟨bx, 6, none⟩ = some (.bool x.ng) ∧ w'.cell? ⟨bx, 7, none⟩ = some (.bool x.xn) ∧ w'.cell? ⟨g, k * 8, none⟩ = some (.int .i64 y.size) ∧ w'.cell? ⟨g, k * 8 + 1, none⟩ = some (.int .u32 y.va) ∧ w'.cell? ⟨g, k * 8 + 2, none⟩ = some (.int .u64 y.pa) ∧ w'.cell? ⟨g, k * 8 + 3, none⟩ = some (.int .i64 y.dom) ∧ w'.cell? ⟨g, k * 8 + 4, none⟩ = some (.int .i64 y.ap) ∧ w'.cell? ⟨g, k * 8 + 5, none⟩ = some (.int .u32 y.bits) ∧ w'.cell? ⟨g, k * 8 + 6, none⟩ = some (.bool y.ng) ∧ w'.cell? ⟨g, k * 8 + 7, none⟩ = some (.bool y.xn)) (by rfl) (by kernel_rfl) (no_defer (by kernel_rfl)) (by rintro ⟨a, w, h⟩; exact hQ _ _ h) ?_
    refine wpAnyH_take (i := 0) (oi := { dst := some 46, op := Op.load 3 (Operand.tmp 14), type := 3, pos := _, after := #[], guard := none }) (v := ?_) rfl (by kernel_rfl) (by kernel_rfl) (by kernel_rfl) (fun _ _ _ h => (hQp _ _ _ h).elim) (Or.inl ⟨by rfl, ?_⟩) (by assumption) ?_
    rotate_left
    · (intro w hSw; (try dsimp only at hSw); go_simp; try with_reducible rfl)
    simp only [Act.put, List.setIfInBounds_toArray, List.set_cons_zero, List.set_cons_succ]
    refine wpAnyH_take (i := 1) (oi := { dst := some 47, op := Op.load 41 (Operand.tmp 11), type := 41, pos := _, after := #[], guard := none }) (v := ?_) rfl (by kernel_rfl) (by kernel_rfl) (by kernel_rfl) (fun _ _ _ h => (hQp _ _ _ h).elim) (Or.inl ⟨by rfl, ?_⟩) (by assumption) ?_
    rotate_left
    · (intro w hSw; (try dsimp only at hSw); go_simp; try with_reducible rfl)
    simp only [Act.put, List.setIfInBounds_toArray, List.set_cons_zero, List.set_cons_succ]
    refine wpAnyH_take (i := 2) (oi := { dst := some 48, op := Op.call { callee := Callee.builtin Builtin.len, args := #[Operand.tmp 47], argTypes := #[41] }, type := 3, pos := _, after := #[{ on := 1, ground := Ground.data }], guard := none }) (v := ?_) rfl (by kernel_rfl) (by kernel_rfl) (by kernel_rfl) (fun _ _ _ h => (hQp _ _ _ h).elim) (Or.inl ⟨by rfl, ?_⟩) (by assumption) ?_
    rotate_left
    · (intro w hSw; (try dsimp only at hSw); go_simp; try with_reducible rfl)
    simp only [Act.put, List.setIfInBounds_toArray, List.set_cons_zero, List.set_cons_succ]
    refine wpAnyH_take (i := 3) (oi := { dst := some 49, op := Op.binOp BinOp.geq 3 (Operand.tmp 46) (Operand.tmp 48) 3, type := 4, pos := _, after := #[{ on := 0, ground := Ground.data }, { on := 2, ground := Ground.data }], guard := none }) (v := .bool false) rfl (by kernel_rfl) (by kernel_rfl) (by kernel_rfl) (fun _ _ _ h => (hQp _ _ _ h).elim) (Or.inl ⟨by rfl, ?_⟩) (by assumption) ?_
    · (intro w hSw; (try dsimp only at hSw); go_simp; try with_reducible rfl)
    simp only [Act.put, List.setIfInBounds_toArray, List.set_cons_zero, List.set_cons_succ]
    refine wpAnyH_take (i := 4) (oi := { dst := some 50, op := Op.move (Operand.tmp 49), type := 4, pos := _, after := #[{ on := 3, ground := Ground.data }], guard := none }) (v := .bool false) rfl (by kernel_rfl) (by kernel_rfl) (by kernel_rfl) (fun _ _ _ h => (hQp _ _ _ h).elim) (Or.inl ⟨by rfl, ?_⟩) (by assumption) ?_
    · (intro w hSw; (try dsimp only at hSw); go_simp; try with_reducible rfl)
    simp only [Act.put, List.setIfInBounds_toArray, List.set_cons_zero, List.set_cons_succ]
    refine wpAnyH_take (i := 5) (oi := { dst := some 51, op := Op.load 49 (Operand.tmp 15), type := 49, pos := _, after := #[{ on := 4, ground := Ground.guard }], guard := some (4, false) }) (v := ?_) rfl (by kernel_rfl) (by kernel_rfl) (by kernel_rfl) (fun _ _ _ h => (hQp _ _ _ h).elim) (Or.inl ⟨by rfl, ?_⟩) (by assumption) ?_
    rotate_left
    · (intro w hSw; (try dsimp only at hSw); go_simp; try with_reducible rfl)
    simp only [Act.put, List.setIfInBounds_toArray, List.set_cons_zero, List.set_cons_succ]
    refine wpAnyH_take (i := 6) (oi := { dst := some 52, op := Op.load 41 (Operand.tmp 11), type := 41, pos := _, after := #[{ on := 4, ground := Ground.guard }], guard := some (4, false) }) (v := ?_) rfl (by kernel_rfl) (by kernel_rfl) (by kernel_rfl) (fun _ _ _ h => (hQp _ _ _ h).elim) (Or.inl ⟨by rfl, ?_⟩) (by assumption) ?_
    rotate_left
    · (intro w hSw; (try dsimp only at hSw); go_simp; try with_reducible rfl)
    simp only [Act.put, List.setIfInBounds_toArray, List.set_cons_zero, List.set_cons_succ]
    refine wpAnyH_take (i := 7) (oi := { dst := some 53, op := Op.load 3 (Operand.tmp 14), type := 3, pos := _, after := #[{ on := 4, ground := Ground.guard }], guard := some (4, false) }) (v := ?_) rfl (by kernel_rfl) (by kernel_rfl) (by kernel_rfl) (fun _ _ _ h => (hQp _ _ _ h).elim) (Or.inl ⟨by rfl, ?_⟩) (by assumption) ?_
    rotate_left
    · (intro w hSw; (try dsimp only at hSw); go_simp; try with_reducible rfl)
    simp only [Act.put, List.setIfInBounds_toArray, List.set_cons_zero, List.set_cons_succ]
    refine wpAnyH_take (i := 8) (oi := { dst := some 54, op := Op.indexAddr 41 (Operand.tmp 52) (Operand.tmp 53), type := 0, pos := _, after := #[{ on := 6, ground := Ground.data }, { on := 7, ground := Ground.data }, { on := 4, ground := Ground.guard }], guard := some (4, false) }) (v := ?_) rfl (by kernel_rfl) (by kernel_rfl) (by kernel_rfl) (fun _ _ _ h => (hQp _ _ _ h).elim) (Or.inl ⟨by rfl, ?_⟩) (by assumption) ?_
    rotate_left
    · (intro w hSw; (try dsimp only at hSw); go_simp; try with_reducible rfl)
    simp only [Act.put, List.setIfInBounds_toArray, List.set_cons_zero, List.set_cons_succ]
    refine wpAnyH_take (i := 9) (oi := { dst := some 55, op := Op.load 49 (Operand.tmp 54), type := 49, pos := _, after := #[{ on := 8, ground := Ground.data }, { on := 4, ground := Ground.guard }], guard := some (4, false) }) (v := ?_) rfl (by kernel_rfl) (by kernel_rfl) (by kernel_rfl) (fun _ _ _ h => (hQp _ _ _ h).elim) (Or.inl ⟨by rfl, ?_⟩) (by assumption) ?_
    rotate_left
    · (intro w hSw; (try dsimp only at hSw); go_simp; try with_reducible rfl)
    simp only [Act.put, List.setIfInBounds_toArray, List.set_cons_zero, List.set_cons_succ]
    refine wpAnyH_take (i := 10) (oi := { dst := some 56, op := Op.binOp BinOp.neq 49 (Operand.tmp 51) (Operand.tmp 55) 49, type := 4, pos := _, after := #[{ on := 5, ground := Ground.data }, { on := 9, ground := Ground.data }, { on := 4, ground := Ground.guard }], guard := some (4, false) }) (v := ?_) rfl (by kernel_rfl) (by kernel_rfl) (by kernel_rfl) (fun _ _ _ h => (hQp _ _ _ h).elim) (Or.inl ⟨by rfl, ?_⟩) (by assumption) ?_
    rotate_left
    · (intro w hSw; (try dsimp only at hSw); go_simp; try with_reducible rfl)
    simp only [Act.put, List.setIfInBounds_toArray, List.set_cons_zero, List.set_cons_succ]
    refine wpAnyH_take (i := 11) (oi := { dst := some 57, op := Op.pick (Operand.tmp 50) (Operand.const (Value.bool true)) (Operand.tmp 56), type := 4, pos := _, after := #[{ on := 4, ground := Ground.data }, { on := 10, ground := Ground.data }], guard := none }) (v := ?_) rfl (by kernel_rfl) (by kernel_rfl) (by kernel_rfl) (fun _ _ _ h => (hQp _ _ _ h).elim) (Or.inl ⟨by rfl, ?_⟩) (by assumption) ?_
    rotate_left
    · (intro w hSw; (try dsimp only at hSw); go_simp; try with_reducible rfl)
    simp only [Act.put, List.setIfInBounds_toArray, List.set_cons_zero, List.set_cons_succ]
    refine wpAnyH_done (by kernel_rfl) ?_ _
    clear hS0
    gi_wp2
    exact HE.out _
end Go.Proofs.YtmodcbdgnmjkoabDoor
namespace Go.Proofs.YtmodcbdgnmjkoabDoor
open Go.RowKit Go.Shelf
open Mm (Turn gr RowAt PM)
set_option linter.unusedVariables false
set_option linter.unusedSimpArgs false
attribute [local go_sem] Oper.semAt_some
/-- Between two rounds of the outer loop. -/
def BI (W : World) (B bf br bw b1 b2 : Nat) (S : Nat → Prop) (iv : Value) (M : Mo) (c : Ctx) (few : Int) (L : List Tra) (av : Option Addr) (cap : Nat) (r : Nat) (Ds : List Nat) (a : Act) (w : World) : Prop :=
  ∃ t0 t1 t2 t3 t4 t5 t6 t9 t10 t14 t15 t16 t17 t18 t19 t20 t21 t22 t23 t24 t25 t26 t27 t28 t29 t30 t31 t32 t33 t34 t35 t36 t37 t38 t39 t40 t41 t42 t43 t44 t45 t46 t47 t48 t49 t50 t51 t52 t53 t54 t55 t56 t57 t58 t59 t60 t61 t62 t63 t64 t65 t66 t67 t68 t69 t70 t71 t72 t73 t74 t75 t76 t77 t78 t79 t80 : Value, ∃ bo : Nat, a = { tmps := #[t0, t1, t2, t3, t4, t5, t6, .pointer (some ⟨bf, 0, none⟩), .pointer (some ⟨br, 0, none⟩), t9, t10, .pointer (some ⟨bw, 0, none⟩), .func (.func 23) #[] #[.pointer (some ⟨b2, 0, none⟩), .pointer (some ⟨b1, 0, none⟩)], .pointer (some ⟨bo, 0, none⟩), t14, t15, t16, t17, t18, t19, t20, t21, t22, t23, t24, t25, t26, t27, t28, t29, t30, t31, t32, t33, t34, t35, t36, t37, t38, t39, t40, t41, t42, t43, t44, t45, t46, t47, t48, t49, t50, t51, t52, t53, t54, t55, t56, t57, t58, t59, t60, t61, t62, t63, t64, t65, t66, t67, t68, t69, t70, t71, t72, t73, t74, t75, t76, t77, t78, t79, t80], defers := Ds.map mk } ∧ BS W B bf br bw b1 b2 S iv M c few L av cap w ∧ Bl w bo 3 [.int .i64 r] ∧ B ≤ bo ∧ Ds.Pairwise (fun a b => a ≠ b) ∧ (∀ D ∈ Ds, B ≤ D ∧ w.heap[D]? = some (.deferred (some []))) ∧ Ds.length = r
set_option maxRecDepth 100000 in
set_option maxHeartbeats 16000000 in
theorem bkL_any (W : World) (B bf br bw b1 b2 : Nat) (S : Nat → Prop) (iv : Value) (M : Mo) (c : Ctx) (few : Int) (L : List Tra) (av : Option Addr) (cap : Nat) (r : Nat) (Ds : List Nat) (a : Act) (w : World) (Q : Exit → Act → World → Prop) (o : BO W B bf br bw b1 b2 S) (hI : BI W B bf br bw b1 b2 S iv M c few L av cap r Ds a w) (hr : r ≤ 1) (hL : L = blL M c) (hLl : L.length ≤ 1000000000) (hc : c.Ok) (tW : TW W) :
    (bkL Tryd.f4).wpIn Fence.wide 3 Tryd.prog (Exit.then (fun a' w' => ∃ D, BI W B bf br bw b1 b2 S iv M c few L av cap (r + 1) (D :: Ds) a' w') Q) a w := by
  obtain ⟨t0, t1, t2, t3, t4, t5, t6, t9, t10, t14, t15, t16, t17, t18, t19, t20, t21, t22, t23, t24, t25, t26, t27, t28, t29, t30, t31, t32, t33, t34, t35, t36, t37, t38, t39, t40, t41, t42, t43, t44, t45, t46, t47, t48, t49, t50, t51, t52, t53, t54, t55, t56, t57, t58, t59, t60, t61, t62, t63, t64, t65, t66, t67, t68, t69, t70, t71, t72, t73, t74, t75, t76, t77, t78, t79, t80, bo, rfl, hB, hO, hbo, hDp, hDs, hlen⟩ := hI
  have HL := hidW hL
  clear hL
  simp only [bkL, bkF, sq2, sq1, blkC, lpC, Tryd.f4, Option.getD]
  have cO := hO.cell 0
  have cW := hB.want.cell 0
  simp only [List.getElem?_cons_zero] at cO cW
  have hrz : (r : Int) < 2 := by omega
  have hr0 : (0 : Int) ≤ (r : Int) := by omega
  gi_wp2_with fail
  have hBw : Below w.heap.size w (w.alloc (.cells #[.int .i64 0] 3)) := below_new _ _
  have hN0 : Bl (w.alloc (.cells #[.int .i64 0] 3)) w.heap.size 3 [.int .i64 0] := Bl.new w _ _
  have hs1 : (w.alloc (.cells #[.int .i64 0] 3)).heap.size = w.heap.size + 1 := by simp
  have hB1 := hB.below o hBw
  have hO1 := hO.below hBw
  have hDs1 : ∀ D ∈ Ds, (w.alloc (.cells #[.int .i64 0] 3)).heap[D]? = some (.deferred (some [])) := fun D hD => (hBw.block D (Array.getElem?_eq_some_iff.1 (hDs D hD).2).1).trans (hDs D hD).2
  have hlow := hB.low
  have hol := hO.lt
  generalize w.alloc (.cells #[.int .i64 0] 3) = w1 at *
  have hIt := hB1.it o tW w.heap.size hlow
  have q0 := o.h0; have q1 := o.hr
  have hXl : ∀ b, (b = br ∨ b = w.heap.size) → b < w1.heap.size := fun b hb => by omega
  have hI0 : (fun (pre : List { x : Tra // x ∈ blL M c }) Y => (BS W B bf br bw b1 b2 S iv M c few L av cap Y ∧ Bl Y bo 3 [.int .i64 r] ∧ Bl Y w.heap.size 3 [.int .i64 pre.length] ∧ (∀ D ∈ Ds, Y.heap[D]? = some (.deferred (some []))) ∧ w.heap.size + 1 ≤ Y.heap.size)) ([] : List { x : Tra // x ∈ blL M c }) w1 := ⟨hB1, hO1, hN0, hDs1, by omega⟩
  have hIo : OwnFrom w1.heap.size (fun (pre : List { x : Tra // x ∈ blL M c }) Y => (BS W B bf br bw b1 b2 S iv M c few L av cap Y ∧ Bl Y bo 3 [.int .i64 r] ∧ Bl Y w.heap.size 3 [.int .i64 pre.length] ∧ (∀ D ∈ Ds, Y.heap[D]? = some (.deferred (some []))) ∧ w.heap.size + 1 ≤ Y.heap.size)) := by
    rintro pre A Y row ⟨h1, h2, h3, h4, h5⟩ hg hr
    refine ⟨h1.turn o (Y := fun b => row = some b) (Turn.grown hg (fun k hk => .inl hk)) (fun b hb => by have := (hr b hb).1; omega), ?_, ?_, fun D hD => ?_, Nat.le_trans h5 hg.size⟩
    · exact (hg.block _ h2.lt (fun e => by have := (hr _ e.symm).1; omega)).trans h2
    · exact (hg.block _ h3.lt (fun e => by have := (hr _ e.symm).1; omega)).trans h3
    · refine (hg.block _ (Array.getElem?_eq_some_iff.1 (h4 D hD)).1 (fun e => ?_)).trans (h4 D hD)
      have := (hr _ e.symm).1
      have := (Array.getElem?_eq_some_iff.1 (hDs D hD).2).1
      omega
  have hXo : ∀ cd : Code, OwnFrom w1.heap.size (fun (pre : List { x : Tra // x ∈ blL M c }) Y => (cd = .ret ∧ ¬ pre.map (·.1) <+: L) ∨ (cd = .exit 2 ∧ r = 0 ∧ (pre.length : Int) = few ∧ (fun pre Y => (BS W B bf br bw b1 b2 S iv M c few L av cap Y ∧ Bl Y bo 3 [.int .i64 r] ∧ Bl Y w.heap.size 3 [.int .i64 pre.length] ∧ (∀ D ∈ Ds, Y.heap[D]? = some (.deferred (some []))) ∧ w.heap.size + 1 ≤ Y.heap.size)) pre Y)) := by
    rintro cd pre A Y row (h1 | ⟨h1, h2, h3, h4⟩) hg hr
    · exact .inl h1
    · exact .inr ⟨h1, h2, h3, hIo pre A Y row h4 hg hr⟩
  refine wpIn_rangeFunc_ownH rfl (by decide) (gf := 23) (lb := #[.pointer (some ⟨b2, 0, none⟩), .pointer (some ⟨b1, 0, none⟩)]) rfl trivial (enters_of Tryd.func23 (by kernel_rfl) rfl)
    (blocks_stops 2 b2 b1 (fun b => b = br ∨ b = w.heap.size) S iv M c w1 hIt hXl hc)
    (fun h k => h.trans k) (fun W l o o' _ h h1 h2 => KpX.put W l o o' h h1 h2) (Below.refl _ _) (fun _ => rfl)
    (fun pre Y => (BS W B bf br bw b1 b2 S iv M c few L av cap Y ∧ Bl Y bo 3 [.int .i64 r] ∧ Bl Y w.heap.size 3 [.int .i64 pre.length] ∧ (∀ D ∈ Ds, Y.heap[D]? = some (.deferred (some []))) ∧ w.heap.size + 1 ≤ Y.heap.size))
    (fun cd pre Y => (cd = .ret ∧ ¬ pre.map (·.1) <+: L) ∨ (cd = .exit 2 ∧ r = 0 ∧ (pre.length : Int) = few ∧ (fun pre Y => (BS W B bf br bw b1 b2 S iv M c few L av cap Y ∧ Bl Y bo 3 [.int .i64 r] ∧ Bl Y w.heap.size 3 [.int .i64 pre.length] ∧ (∀ D ∈ Ds, Y.heap[D]? = some (.deferred (some []))) ∧ w.heap.size + 1 ≤ Y.heap.size)) pre Y))
    hIo hXo hI0
    (fun x a' Y => ∃ bx, w.heap.size + 1 ≤ bx ∧ Bl Y bx 49 [.int .i64 (x.1).size, .int .u32 (x.1).va, .int .u64 (x.1).pa, .int .i64 (x.1).dom, .int .i64 (x.1).ap, .int .u32 (x.1).bits, .bool (x.1).ng, .bool (x.1).xn] ∧ a' = { tmps := #[t0, t1, t2, t3, t4, t5, t6, .pointer (some ⟨bf, 0, none⟩), .pointer (some ⟨br, 0, none⟩), t9, t10, .pointer (some ⟨bw, 0, none⟩), .func (.func 23) #[] #[.pointer (some ⟨b2, 0, none⟩), .pointer (some ⟨b1, 0, none⟩)], .pointer (some ⟨bo, 0, none⟩), .pointer (some ⟨w.heap.size, 0, none⟩), .pointer (some ⟨bx, 0, none⟩), t16, t17, t18, t19, t20, t21, t22, t23, t24, t25, t26, t27, t28, t29, t30, t31, t32, t33, t34, t35, t36, t37, t38, t39, .int .i64 (r : Int), .bool true, t42, t43, .func (.func 23) #[] #[.pointer (some ⟨b2, 0, none⟩), .pointer (some ⟨b1, 0, none⟩)], .agg #[.int .i64 (x.1).size, .int .u32 (x.1).va, .int .u64 (x.1).pa, .int .i64 (x.1).dom, .int .i64 (x.1).ap, .int .u32 (x.1).bits, .bool (x.1).ng, .bool (x.1).xn], t46, t47, t48, t49, t50, t51, t52, t53, t54, t55, t56, t57, t58, t59, t60, t61, t62, t63, t64, t65, t66, t67, t68, t69, t70, t71, t72, t73, t74, t75, t76, t77, t78, t79, t80], defers := [] })
    (fun x a' _ A Y row hs hg hr => by
      obtain ⟨bx, h1, h2, h3⟩ := hs
      refine ⟨bx, h1, ?_, h3⟩
      exact (hg.block bx h2.lt (fun e => by obtain ⟨o, ho, hc⟩ := (hr bx e.symm).2; rw [show A.heap[bx]? = _ from h2] at ho; cases ho; cases hc)).trans h2)
    ?assign ?body ?done ?stop
  case assign =>
    rintro l pre x Y K' ⟨h1, h2, h3, h4, h5⟩ hK'
    gi_wp2
    exact hK' _ _ ((KeepsOthers.alloc _ _).from _) (KpX.of (Turn.below (below_new _ _))) ⟨h1.below o (below_new _ _), h2.below (below_new _ _), h3.below (below_new _ _), fun D hD => ((below_new Y _).block D (Array.getElem?_eq_some_iff.1 (h4 D hD)).1).trans (h4 D hD), by simp; omega⟩ ⟨Y.heap.size, h5, Bl.new Y _ _, rfl⟩
  case body =>
    rintro l pre x a' Y hl' _ ⟨h1, h2, h3, h4, h5⟩ ⟨bx, hbx, hx, rfl⟩ hlt
    have hlt' : pre.length < L.length := by rw [HL.out]; exact hlt
    obtain ⟨y, hy⟩ : ∃ y, L[pre.length]? = some y := ⟨_, List.getElem?_eq_getElem hlt'⟩
    have e1 : (pre ++ [x]).map (·.1) = pre.map (·.1) ++ [x.1] := by simp
    have T0 : ∀ v, Turn (fun b => b = br ∨ b = w.heap.size) Y (Y.drew.setCell ⟨w.heap.size, 0, none⟩ v) := fun v => (Turn.drewN (Turn.refl _ Y) 1).setCell (p := ⟨w.heap.size, 0, none⟩) (.inl (.inr rfl)) v
    have T1 : ∀ v, Turn (fun b => b = w.heap.size) Y (Y.drew.setCell ⟨w.heap.size, 0, none⟩ v) := fun v => (Turn.drewN (Turn.refl (fun b => b = w.heap.size) Y) 1).setCell (p := ⟨w.heap.size, 0, none⟩) (.inl rfl) v
    have hI' : (fun (pre : List { x : Tra // x ∈ blL M c }) Y => (BS W B bf br bw b1 b2 S iv M c few L av cap Y ∧ Bl Y bo 3 [.int .i64 r] ∧ Bl Y w.heap.size 3 [.int .i64 pre.length] ∧ (∀ D ∈ Ds, Y.heap[D]? = some (.deferred (some []))) ∧ w.heap.size + 1 ≤ Y.heap.size)) (pre ++ [x]) (Y.drew.setCell ⟨w.heap.size, 0, none⟩ (.int .i64 ((pre.length : Int) + 1))) := by
      refine ⟨h1.turn o (T1 _) (fun b hb => by subst hb; exact hlow), h2.turn (T1 _) (by omega), ?_, fun D hD => ?_, ?_⟩
      · have := (show Bl Y.drew w.heap.size 3 [.int .i64 pre.length] from h3).put' 0 (.int .i64 ((pre.length : Int) + 1))
        simpa using this
      · refine ((T1 _).block D (Array.getElem?_eq_some_iff.1 (h4 D hD)).1 (fun e => ?_)).trans (h4 D hD)
        have := (Array.getElem?_eq_some_iff.1 (hDs D hD).2).1
        omega
      · exact Nat.le_trans h5 (T1 (.int .i64 ((pre.length : Int) + 1))).size
    have kf : ∀ b v, KeepsFrom w1.heap.size Y (Y.drew.setCell ⟨b, 0, none⟩ v) := fun b v => ((keeps_below (below_drew (Below.refl _ Y))).trans ((KeepsOthers.setCell _ _ _).from _))
    refine bkB_any l _ W B bf br bw b1 b2 S iv M c few L av cap r bo w.heap.size bx pre.length x.1 y Y _ o h1 h2 h3 hx hbo hlow (by omega) (by omega) (by omega) hlt' hy hLl hr (fun a w h => h) (fun ch a w h => h) ?_ ?_ ?_
    · intro hne a
      refine ⟨kf _ _, .inl ⟨rfl, fun hp => hne ?_⟩⟩
      rw [e1] at hp
      obtain ⟨tl, htl⟩ := hp
      rw [← htl, List.append_assoc, List.getElem?_append_right (by simp)] at hy
      simp at hy
      exact hy
    · intro _ _ a
      exact ⟨kf _ _, KpX.of (T0 _), hI'⟩
    · intro _ hr0 hfe a
      exact ⟨kf _ _, .inr ⟨rfl, hr0, by simpa using hfe, hI'⟩⟩
  case done =>
    rintro D xs Y hD hS ⟨h1, h2, h3, h4, h5⟩ hK2
    have hxl : xs.length = L.length := by
      have := congrArg List.length hS
      rw [List.length_map] at this
      rw [this, HL.out]
    rw [hxl] at h3
    have hb' : Below Y.heap.size Y (Y.alloc (.cells #[.int .i64 ((r : Int) + 1)] 3)) := below_new _ _
    have HB2 := hidW (h1.below o hb')
    have HO2 : Hid (Bl (Y.alloc (.cells #[.int .i64 ((r : Int) + 1)] 3)) Y.heap.size 3 [.int .i64 ((r + 1 : Nat) : Int)]) := hidW (Bl.new Y _ _)
    have hlY := h1.low
    have HDP : Hid ((D :: Ds).Pairwise (fun a b => a ≠ b)) := hidW (List.pairwise_cons.2 ⟨fun E hE => by have := (Array.getElem?_eq_some_iff.1 (hDs E hE).2).1; omega, hDp⟩)
    have HDS : Hid (∀ E ∈ D :: Ds, B ≤ E ∧ (Y.alloc (.cells #[.int .i64 ((r : Int) + 1)] 3)).heap[E]? = some (.deferred (some []))) := hidW (fun E hE => by
      rcases List.mem_cons.1 hE with rfl | hE
      · exact ⟨by omega, (hb'.block _ (Array.getElem?_eq_some_iff.1 hK2).1).trans hK2⟩
      · exact ⟨(hDs E hE).1, (hb'.block _ (Array.getElem?_eq_some_iff.1 (h4 E hE)).1).trans (h4 E hE)⟩)
    have cO := h2.cell 0
    have cN := h3.cell 0
    have cF := h1.few.cell 0
    have cW := h1.want.cell 0
    have oY := h2.lt
    simp only [List.getElem?_cons_zero] at cO cN cF cW
    clear h1 h2 h3 h4 hb' hK2
    generalize L.length = n0 at *
    gi_wp2
    exact ⟨D, _, _, _, _, _, _, _, _, _, _, _, _, _, _, _, _, _, _, _, _, _, _, _, _, _, _, _, _, _, _, _, _, _, _, _, _, _, _, _, _, _, _, _, _, _, _, _, _, _, _, _, _, _, _, _, _, _, _, _, _, _, _, _, _, _, _, _, _, _, _, _, _, _, _, _, _, Y.heap.size, rfl, HB2.out, HO2.out, by have := HB2.out.low; omega, HDP.out, HDS.out, by simp; omega⟩
  case stop =>
    rintro D cd pre Y hD hpre hix hK2
    rcases hix with ⟨rfl, hn⟩ | ⟨rfl, hr00, hfe, h1, h2, h3, h4, h5⟩
    · exact absurd (by rw [HL.out]; exact hpre) hn
    · rw [hfe] at h3
      have hb' : Below Y.heap.size Y (Y.alloc (.cells #[.int .i64 ((r : Int) + 1)] 3)) := below_new _ _
      have HB2 := hidW (h1.below o hb')
      have HO2 : Hid (Bl (Y.alloc (.cells #[.int .i64 ((r : Int) + 1)] 3)) Y.heap.size 3 [.int .i64 ((r + 1 : Nat) : Int)]) := hidW (Bl.new Y _ _)
      have hlY := h1.low
      have HDP : Hid ((D :: Ds).Pairwise (fun a b => a ≠ b)) := hidW (List.pairwise_cons.2 ⟨fun E hE => by have := (Array.getElem?_eq_some_iff.1 (hDs E hE).2).1; omega, hDp⟩)
      have HDS : Hid (∀ E ∈ D :: Ds, B ≤ E ∧ (Y.alloc (.cells #[.int .i64 ((r : Int) + 1)] 3)).heap[E]? = some (.deferred (some []))) := hidW (fun E hE => by
        rcases List.mem_cons.1 hE with rfl | hE
        · exact ⟨by omega, (hb'.block _ (Array.getElem?_eq_some_iff.1 hK2).1).trans hK2⟩
        · exact ⟨(hDs E hE).1, (hb'.block _ (Array.getElem?_eq_some_iff.1 (h4 E hE)).1).trans (h4 E hE)⟩)
      have cO := h2.cell 0
      have cN := h3.cell 0
      have cF := h1.few.cell 0
      have cW := h1.want.cell 0
      have oY := h2.lt
      simp only [List.getElem?_cons_zero] at cO cN cF cW
      clear h1 h2 h3 h4 hb' hK2
      have hq1 : ((r : Int) == 1) = false := by rw [hr00]; rfl
      have hq2 : (few != few) = false := by simp
      clear hr00 hfe hpre
      generalize L.length = n0 at *
      by_cases hfn : few = (n0 : Int)
      · have hq3 : (few != (n0 : Int)) = false := by simp [hfn]
        clear hfn
        gi_wp2
        exact ⟨D, _, _, _, _, _, _, _, _, _, _, _, _, _, _, _, _, _, _, _, _, _, _, _, _, _, _, _, _, _, _, _, _, _, _, _, _, _, _, _, _, _, _, _, _, _, _, _, _, _, _, _, _, _, _, _, _, _, _, _, _, _, _, _, _, _, _, _, _, _, _, _, _, _, _, _, _, Y.heap.size, rfl, HB2.out, HO2.out, by have := HB2.out.low; omega, HDP.out, HDS.out, by simp; omega⟩
      · have hq3 : (few != (n0 : Int)) = true := by simp [hfn]
        clear hfn
        gi_wp2
        exact ⟨D, _, _, _, _, _, _, _, _, _, _, _, _, _, _, _, _, _, _, _, _, _, _, _, _, _, _, _, _, _, _, _, _, _, _, _, _, _, _, _, _, _, _, _, _, _, _, _, _, _, _, _, _, _, _, _, _, _, _, _, _, _, _, _, _, _, _, _, _, _, _, _, _, _, _, _, _, Y.heap.size, rfl, HB2.out, HO2.out, by have := HB2.out.low; omega, HDP.out, HDS.out, by simp; omega⟩
end Go.Proofs.YtmodcbdgnmjkoabDoor
namespace Go.Proofs.YtmodcbdgnmjkoabDoor
open Go.RowKit Go.Shelf
open Mm (Turn gr RowAt PM)
set_option linter.unusedVariables false
set_option linter.unusedSimpArgs false
attribute [local go_sem] Oper.semAt_some
def bkE (f : Func) : Code := sq2 (bkF f)
set_option maxRecDepth 100000 in
set_option maxHeartbeats 16000000 in
theorem bkE_any {t0 t1 t2 t3 t4 t5 t6 t9 t10 t13 t14 t15 t16 t17 t18 t19 t20 t21 t22 t23 t24 t25 t26 t27 t28 t29 t30 t31 t32 t33 t34 t35 t36 t37 t38 t39 t40 t41 t42 t43 t44 t45 t46 t47 t48 t49 t50 t51 t52 t53 t54 t55 t56 t57 t58 t59 t60 t61 t62 t63 t64 t65 t66 t67 t68 t69 t70 t71 t72 t73 t74 t75 t76 t77 t78 t79 t80 : Value} (W : World) (B bf br bw b1 b2 : Nat) (S : Nat → Prop) (iv : Value) (M : Mo) (c : Ctx) (few : Int) (L : List Tra) (av : Option Addr) (cap : Nat) (Ds : List Nat) (w : World) (o : BO W B bf br bw b1 b2 S) (h : BS W B bf br bw b1 b2 S iv M c few L av cap w) (hDp : Ds.Pairwise (fun a b => a ≠ b)) (hDs : ∀ D ∈ Ds, B ≤ D ∧ w.heap[D]? = some (.deferred (some []))) (hWB : W.heap.size ≤ B) :
    (bkE Tryd.f4).wpIn Fence.wide 3 Tryd.prog (bodyPostM Fence.wide 3 Tryd.prog Tryd.f4 fun e W' => e = .returned (.bool true) ∧ Below W.heap.size W W') { tmps := #[t0, t1, t2, t3, t4, t5, t6, .pointer (some ⟨bf, 0, none⟩), .pointer (some ⟨br, 0, none⟩), t9, t10, .pointer (some ⟨bw, 0, none⟩), .func (.func 23) #[] #[.pointer (some ⟨b2, 0, none⟩), .pointer (some ⟨b1, 0, none⟩)], t13, t14, t15, t16, t17, t18, t19, t20, t21, t22, t23, t24, t25, t26, t27, t28, t29, t30, t31, t32, t33, t34, t35, t36, t37, t38, t39, t40, t41, t42, t43, t44, t45, t46, t47, t48, t49, t50, t51, t52, t53, t54, t55, t56, t57, t58, t59, t60, t61, t62, t63, t64, t65, t66, t67, t68, t69, t70, t71, t72, t73, t74, t75, t76, t77, t78, t79, t80], defers := Ds.map mk } w := by
  generalize hQ : (bodyPostM Fence.wide 3 Tryd.prog Tryd.f4 fun e W' => e = .returned (.bool true) ∧ Below W.heap.size W W') = Q
  simp only [bkE, bkF, sq2, Tryd.f4, Option.getD]
  have HQ := hidW hQ
  have q := o.hr
  have HE : Hid (∀ tmps, tmps.getD 8 undef = .pointer (some ⟨br, 0, none⟩) → LeavesInM Fence.wide 3 Tryd.prog Tryd.f4 tmps (fun e W' => e = .returned (.bool true) ∧ Below W.heap.size W W') (Ds.map mk) .returning (w.setCell ⟨br, 0, none⟩ (.bool true))) := by
    refine hidW (fun tmps ht => leaves_rets (q := 8) rfl tmps W br ht Ds _ hDp (fun D hD => ⟨by have := (hDs D hD).1; omega, set_at _ (hDs D hD).2 (by have := (hDs D hD).1; omega)⟩) (h.ret.put' 0 _) ?_)
    exact h.bel.setCell o.h0 _
  have cR := h.ret.cell 0
  have fR := h.ret.frozen 0
  simp only [List.getElem?_cons_zero] at cR
  clear hQ h hDs hDp
  gi_wp2
  rw [← HQ.out]
  exact HE.out _ rfl
theorem BI.len {W : World} {B bf br bw b1 b2 : Nat} {S : Nat → Prop} {iv : Value} {M : Mo} {c : Ctx} {few : Int} {L : List Tra} {av : Option Addr} {cap r : Nat} {Ds : List Nat} {a : Act} {w : World} (h : BI W B bf br bw b1 b2 S iv M c few L av cap r Ds a w) : a.defers.length = r := by
  obtain ⟨t0, t1, t2, t3, t4, t5, t6, t9, t10, t14, t15, t16, t17, t18, t19, t20, t21, t22, t23, t24, t25, t26, t27, t28, t29, t30, t31, t32, t33, t34, t35, t36, t37, t38, t39, t40, t41, t42, t43, t44, t45, t46, t47, t48, t49, t50, t51, t52, t53, t54, t55, t56, t57, t58, t59, t60, t61, t62, t63, t64, t65, t66, t67, t68, t69, t70, t71, t72, t73, t74, t75, t76, t77, t78, t79, t80, bo, rfl, _, _, _, _, _, hl⟩ := h
  simpa using hl
set_option maxRecDepth 100000 in
set_option maxHeartbeats 16000000 in
theorem bkF_any {t0 t1 t2 t3 t4 t5 t6 t9 t10 t13 t14 t15 t16 t17 t18 t19 t20 t21 t22 t23 t24 t25 t26 t27 t28 t29 t30 t31 t32 t33 t34 t35 t36 t37 t38 t39 t40 t41 t42 t43 t44 t45 t46 t47 t48 t49 t50 t51 t52 t53 t54 t55 t56 t57 t58 t59 t60 t61 t62 t63 t64 t65 t66 t67 t68 t69 t70 t71 t72 t73 t74 t75 t76 t77 t78 t79 t80 : Value} (W : World) (B bf br bw b1 b2 : Nat) (S : Nat → Prop) (iv : Value) (M : Mo) (c : Ctx) (few : Int) (L : List Tra) (av : Option Addr) (cap : Nat) (w : World) (o : BO W B bf br bw b1 b2 S) (h : BS W B bf br bw b1 b2 S iv M c few L av cap w) (hWB : W.heap.size ≤ B) (hL : L = blL M c) (hLl : L.length ≤ 1000000000) (hc : c.Ok) (tW : TW W) :
    (bkF Tryd.f4).wpIn Fence.wide 3 Tryd.prog (bodyPostM Fence.wide 3 Tryd.prog Tryd.f4 fun e W' => e = .returned (.bool true) ∧ Below W.heap.size W W') { tmps := #[t0, t1, t2, t3, t4, t5, t6, .pointer (some ⟨bf, 0, none⟩), .pointer (some ⟨br, 0, none⟩), t9, t10, .pointer (some ⟨bw, 0, none⟩), .func (.func 23) #[] #[.pointer (some ⟨b2, 0, none⟩), .pointer (some ⟨b1, 0, none⟩)], t13, t14, t15, t16, t17, t18, t19, t20, t21, t22, t23, t24, t25, t26, t27, t28, t29, t30, t31, t32, t33, t34, t35, t36, t37, t38, t39, t40, t41, t42, t43, t44, t45, t46, t47, t48, t49, t50, t51, t52, t53, t54, t55, t56, t57, t58, t59, t60, t61, t62, t63, t64, t65, t66, t67, t68, t69, t70, t71, t72, t73, t74, t75, t76, t77, t78, t79, t80], defers := [] } w := by
  generalize hQ : (bodyPostM Fence.wide 3 Tryd.prog Tryd.f4 fun e W' => e = .returned (.bool true) ∧ Below W.heap.size W W') = Q
  refine wp_parts ⟨_, _, rfl⟩ (fun K hK => ?_)
  have HK : Hid (∀ a w, (bkE Tryd.f4).wpIn Fence.wide 3 Tryd.prog Q a w → K a w) := hidW hK
  clear hK
  have HQ := hidW hQ
  have HLL := hidW hL
  clear hQ hL
  simp only [bkF, sq2, sq1, Tryd.f4, Option.getD]
  have HI0 : Hid (BS W B bf br bw b1 b2 S iv M c few L av cap (w.alloc (.cells #[.int .i64 0] 3)) ∧ Bl (w.alloc (.cells #[.int .i64 0] 3)) w.heap.size 3 [.int .i64 ((0 : Nat) : Int)]) := hidW ⟨h.below o (below_new _ _), Bl.new w _ _⟩
  have hlow := h.low
  clear h
  gi_wp2_with fail
  refine wpIn_loop (fun a w => ∃ r Ds, r ≤ 2 ∧ BI W B bf br bw b1 b2 S iv M c few L av cap r Ds a w) (fun a _ => 2 - a.defers.length) ⟨0, [], Nat.zero_le _, _, _, _, _, _, _, _, _, _, _, _, _, _, _, _, _, _, _, _, _, _, _, _, _, _, _, _, _, _, _, _, _, _, _, _, _, _, _, _, _, _, _, _, _, _, _, _, _, _, _, _, _, _, _, _, _, _, _, _, _, _, _, _, _, _, _, _, _, _, _, _, _, _, _, _, _, w.heap.size, rfl, HI0.out.1, HI0.out.2, hlow, List.Pairwise.nil, (fun D hD => absurd hD List.not_mem_nil), rfl⟩ ?_
  rintro a w ⟨r, Ds, hr, hI⟩
  by_cases hr1 : r ≤ 1
  · refine wpIn_mono (bkL_any W B bf br bw b1 b2 S iv M c few L av cap r Ds a w (fun _ _ _ => False) o hI hr1 HLL.out hLl hc tW) ?_
    intro e a' w' he
    cases e with
    | normal =>
      obtain ⟨D, hD⟩ := he
      refine ⟨⟨r + 1, D :: Ds, by omega, hD⟩, ?_⟩
      show 2 - a'.defers.length < 2 - a.defers.length
      rw [hD.len, hI.len]
      omega
    | exit id => exact False.elim he
    | ret => exact False.elim he
    | goto t => exact False.elim he
    | panic ch => exact False.elim he
    | outgrown => exact False.elim he
  · obtain rfl : r = 2 := by omega
    obtain ⟨t0, t1, t2, t3, t4, t5, t6, t9, t10, t14, t15, t16, t17, t18, t19, t20, t21, t22, t23, t24, t25, t26, t27, t28, t29, t30, t31, t32, t33, t34, t35, t36, t37, t38, t39, t40, t41, t42, t43, t44, t45, t46, t47, t48, t49, t50, t51, t52, t53, t54, t55, t56, t57, t58, t59, t60, t61, t62, t63, t64, t65, t66, t67, t68, t69, t70, t71, t72, t73, t74, t75, t76, t77, t78, t79, t80, bo, rfl, hB, hO, hbo, hDp, hDs, hlen⟩ := hI
    have cO : w.cell? ⟨bo, 0, none⟩ = some (.int .i64 2) := hO.cell 0
    have HB := hidW hB
    have HDS := hidW hDs
    have HDP := hidW hDp
    clear hB hO hDs hDp
    gi_wp2
    refine HK.out _ _ ?_
    rw [← HQ.out]
    exact bkE_any W B bf br bw b1 b2 S iv M c few L av cap Ds w o HB.out HDP.out HDS.out hWB
/-- A list that was told lies in a box of its own. -/
structure Gol (wr wx : World) (t : Nat) (v : Value) (L : List Tra) : Prop where
  bel : Below wr.heap.size wr wx
  F : Bl wx t 41 [v]
  own : wx.ownsRow wr.heap.size 49 8 v L.length (rowT L)
  ht : wr.heap.size ≤ t
theorem gol1 {wr ww w1 : World} {v : Value} {L : List Tra} (h : Below wr.heap.size wr w1) (ho : w1.ownsRow ww.heap.size 49 8 v L.length (rowT L)) (hw : wr.heap.size ≤ ww.heap.size) : Gol wr (w1.alloc (.cells #[v] 41)) w1.heap.size v L :=
  ⟨h.alloc h.size _, Bl.new w1 _ [v], own_le (Mm.own_turn ho (Turn.below (S := fun _ => False) (below_new _ _)) (fun _ _ h => h)) hw, h.size⟩
theorem gol2 {wr w1 : World} {v : Value} {L : List Tra} {lo : Nat} (h : Below wr.heap.size wr w1) (ho : w1.ownsRow lo 49 8 v L.length (rowT L)) (hw : wr.heap.size + 1 ≤ lo) (hF : Bl w1 wr.heap.size 41 [.slice none 0 0]) : Gol wr (w1.setCell ⟨wr.heap.size, 0, none⟩ v) wr.heap.size v L :=
  ⟨Below.setCell h (Nat.le_refl _) _, hF.put' 0 v, own_le (Mm.own_turn ho ((Turn.refl (fun x => x = wr.heap.size) w1).setCell (p := ⟨wr.heap.size, 0, none⟩) (.inl rfl) v) (fun b hb hx => by have := (World.ownsRow.lt ho b hb).1; omega)) (by omega), Nat.le_refl _⟩
end Go.Proofs.YtmodcbdgnmjkoabDoor
namespace Go.Proofs.YtmodcbdgnmjkoabDoor
open Go.RowKit Go.Shelf
open Mm (Turn gr RowAt PM RM)
set_option linter.unusedVariables false
set_option linter.unusedSimpArgs false
attribute [local go_sem] Oper.semAt_some
theorem func_nil (fn : Fn) (a b : Array Value) (w : World) : (binOp .eql 44 (.func fn a b) .nilFunc).run Tryd.prog w = .ok (.bool false) w := by
  have h : ∀ d : Nat, (Op.equalIn (d + 1) 44 (.func fn a b) .nilFunc).run Tryd.prog w = .ok false w := fun d => by
    simp [Op.equalIn, run_underlying Tryd.underlying44]
  simp only [binOp]
  simp [Op.equal, Op.maxDepth, h 9999]
theorem blT_len (M : Mo) (c : Ctx) (n : Nat) : (blT M c n).length ≤ n * 4096 := by
  induction n with
  | zero => show ([] : List Tra).length ≤ _; simp
  | succ n ih =>
    rw [blT_succ, List.length_append]
    have := wiL_len M c ((n : Int) * 16777216)
    omega
theorem blL_len (M : Mo) (c : Ctx) : (blL M c).length ≤ 1000000000 := by
  unfold blL
  split
  · have := blT_len M c 256
    omega
  · simp
theorem puts_below {W W' : World} {a : Option Addr} {ps : List Pt} (hp : PutsAt W a ps) (hb : Below W.heap.size W W') : PutsAt W' a ps :=
  ⟨fun k q hq => by
    obtain ⟨b, off, e, hb', e0, e1⟩ := hp.lies k q hq
    exact ⟨b, off, e, Nat.lt_of_lt_of_le hb' hb.size, (hb.cell hb').trans e0, (hb.cell hb').trans e1⟩, hp.oks⟩
/-- The list of the reference, its header open. -/
theorem vblocks_row (c : Ctx) (w : World) {S : Nat → Prop} {rv : Value} {M : Mo} (hm : MemR w S rv M) (hSl : ∀ b, S b → b < w.heap.size) (ht : TW w) (hc : c.Ok) :
    Calls Tryd.prog 8 #[rv, .agg #[.bool c.on, .bool c.tre, .bool c.afe, .int .i64 c.n, .bool c.pd0, .bool c.pd1, .int .u64 c.b0, .int .u64 c.b1, .int .u32 c.dacr, .int .u32 c.prrr, .int .u32 c.nmrr, .int .i64 c.asid]] w fun e w' => ∃ av cap, e = .returned (.slice av (blL M c).length cap) ∧ w'.ownsRow w.heap.size 49 8 (.slice av (blL M c).length cap) (blL M c).length (rowT (blL M c)) ∧ Below w.heap.size w w' := by
  refine (vblocks_any c w hm hSl ht hc).mono ?_
  rintro e w' ⟨v, rfl, ho, hb⟩
  rcases Vr.of ho hb hb.size with ⟨rfl, h⟩ | ⟨g, cap, rest, rfl, _⟩
  · rw [h] at ho ⊢
    exact ⟨none, 0, rfl, ho, hb⟩
  · exact ⟨_, _, rfl, ho, hb⟩
/-- The iterator with its two boxes. -/
theorem blocks_box (T : TypeId) (u : Value) (c : Ctx) (w : World) :
    Calls Tryd.prog 9 #[.iface T u, .agg #[.bool c.on, .bool c.tre, .bool c.afe, .int .i64 c.n, .bool c.pd0, .bool c.pd1, .int .u64 c.b0, .int .u64 c.b1, .int .u32 c.dacr, .int .u32 c.prrr, .int .u32 c.nmrr, .int .i64 c.asid]] w fun e w' => ∃ b1 b2, e = .returned (.func (.func 23) #[] #[.pointer (some ⟨b2, 0, none⟩), .pointer (some ⟨b1, 0, none⟩)]) ∧ Bl w' b1 60 [.iface T u] ∧ Bl w' b2 26 [.bool c.on, .bool c.tre, .bool c.afe, .int .i64 c.n, .bool c.pd0, .bool c.pd1, .int .u64 c.b0, .int .u64 c.b1, .int .u32 c.dacr, .int .u32 c.prrr, .int .u32 c.nmrr, .int .i64 c.asid] ∧ w.heap.size ≤ b1 ∧ w.heap.size ≤ b2 ∧ Below w.heap.size w w' := by
  refine (blocks_any _ (.inl ⟨T, u, rfl⟩) c w).mono ?_
  rintro e w' ⟨rfl, rfl⟩
  exact ⟨_, _, rfl, (Bl.new w _ _).below (below_new _ _), Bl.new1 w _ _ _, Nat.le_refl _, Nat.le_succ _, Below.step (below_new _ _) (below_new _ _)⟩
/-- All that stands when the rounds begin. -/
theorem bo_bs {W w3 wr wc wd : World} {b b1 b2 N : Nat} {m : Nat → Int} {S1 : Nat → Prop} {c : Ctx} {few : Int} {v : Value} {L : List Tra} {iv : Value}
    (hs3 : w3.heap.size = W.heap.size + 3) (hB0 : Below W.heap.size W w3) (hBr : Below w3.heap.size w3 wr) (hfe : Bl w3 (W.heap.size + 1) 3 [.int .i64 few]) (hre : Bl w3 (W.heap.size + 1 + 1) 4 [.bool false])
    (hP : MemP wr S1 iv (ramMo N m)) (hso : ∀ b, S1 b → solid wr b) (hlo : ∀ b, S1 b → w3.heap.size ≤ b) (hG : Gol wr wc b v L) (hd : Below wc.heap.size wc wd) (h1 : Bl wd b1 60 [iv]) (h2 : Bl wd b2 26 [.bool c.on, .bool c.tre, .bool c.afe, .int .i64 c.n, .bool c.pd0, .bool c.pd1, .int .u64 c.b0, .int .u64 c.b1, .int .u32 c.dacr, .int .u32 c.prrr, .int .u32 c.nmrr, .int .i64 c.asid]) (g1 : wc.heap.size ≤ b1) (g2 : wc.heap.size ≤ b2) :
    BO W wd.heap.size (W.heap.size + 1) (W.heap.size + 1 + 1) b b1 b2 S1 ∧ ∃ av cap, BS W wd.heap.size (W.heap.size + 1) (W.heap.size + 1 + 1) b b1 b2 S1 iv (ramMo N m) c few L av cap wd := by
  have z1 := hBr.size
  have z2 := hG.bel.size
  have z3 := hd.size
  have z4 := h1.lt
  have z5 := h2.lt
  have z6 := hG.F.lt
  have z7 := hG.ht
  have hrd : Below wr.heap.size wr wd := Below.step hG.bel hd
  have h3d : Below w3.heap.size w3 wd := Below.step hBr hrd
  refine ⟨⟨by omega, by omega, by omega, by omega, by omega, by omega, fun b hb => ?_⟩, ?_⟩
  · have := hlo b hb
    have := (hso b hb).lt
    omega
  · have hsd : ∀ b, S1 b → solid wd b := fun b hb => (hso b hb).of (hrd.block b (hso b hb).lt)
    have hmd := hP.keep (X := fun _ => False) (Turn.below hrd) (fun _ _ h => h)
    rcases Vr.of hG.own (Below.refl _ _) hG.bel.size with ⟨rfl, rfl⟩ | ⟨g, cap, rest, rfl, hV⟩
    · exact ⟨none, 0, hmd, hsd, Below.step hB0 h3d, hre.below h3d, hfe.below h3d, hG.F.below hd, .inl rfl, h1, h2, Nat.le_refl _⟩
    · refine ⟨some ⟨g, 0, none⟩, cap, hmd, hsd, Below.step hB0 h3d, hre.below h3d, hfe.below h3d, hG.F.below hd, .inr ⟨g, rest, rfl, ?_, (hd.block g hV.row.lt).trans hV.row⟩, h1, h2, Nat.le_refl _⟩
      have := hV.row.lt
      have := hV.hlo
      omega
set_option maxRecDepth 100000 in
set_option maxHeartbeats 16000000 in
theorem law_blocks_core (W : World) (N : Nat) (h1 : 1 ≤ N) (h2 : N ≤ 65536) (a : Option Addr) (cap : Nat) (ps : List Pt) (hp : PutsAt W a ps) (hl : ps.length ≤ 9223372036854775807) (c : Ctx) (hc : c.Ok) (few : Int) (ht : TW W) :
    Calls Tryd.prog 4 #[.int .i64 N, .slice a ps.length cap, .agg #[.bool c.on, .bool c.tre, .bool c.afe, .int .i64 c.n, .bool c.pd0, .bool c.pd1, .int .u64 c.b0, .int .u64 c.b1, .int .u32 c.dacr, .int .u32 c.prrr, .int .u32 c.nmrr, .int .i64 c.asid], .int .i64 few] W fun e W' => e = .returned (.bool true) ∧ Below W.heap.size W W' := by
  have b2 : Below W.heap.size W (((W.alloc (.cells #[.bool c.on, .bool c.tre, .bool c.afe, .int .i64 c.n, .bool c.pd0, .bool c.pd1, .int .u64 c.b0, .int .u64 c.b1, .int .u32 c.dacr, .int .u32 c.prrr, .int .u32 c.nmrr, .int .i64 c.asid] 26)).alloc (.cells #[.int .i64 few] 3)).alloc (.cells #[.bool false] 4)) := Below.step (Below.step (below_new _ _) (below_new _ _)) (below_new _ _)
  have HBC : Hid (Bl (((W.alloc (.cells #[.bool c.on, .bool c.tre, .bool c.afe, .int .i64 c.n, .bool c.pd0, .bool c.pd1, .int .u64 c.b0, .int .u64 c.b1, .int .u32 c.dacr, .int .u32 c.prrr, .int .u32 c.nmrr, .int .i64 c.asid] 26)).alloc (.cells #[.int .i64 few] 3)).alloc (.cells #[.bool false] 4)) W.heap.size 26 [.bool c.on, .bool c.tre, .bool c.afe, .int .i64 c.n, .bool c.pd0, .bool c.pd1, .int .u64 c.b0, .int .u64 c.b1, .int .u32 c.dacr, .int .u32 c.prrr, .int .u32 c.nmrr, .int .i64 c.asid]) := hidW (((Bl.new W _ _).below (below_new _ _)).below (below_new _ _))
  have HBB : Hid (Bl (((W.alloc (.cells #[.bool c.on, .bool c.tre, .bool c.afe, .int .i64 c.n, .bool c.pd0, .bool c.pd1, .int .u64 c.b0, .int .u64 c.b1, .int .u32 c.dacr, .int .u32 c.prrr, .int .u32 c.nmrr, .int .i64 c.asid] 26)).alloc (.cells #[.int .i64 few] 3)).alloc (.cells #[.bool false] 4)) (W.heap.size + 1) 3 [.int .i64 few]) := hidW ((Bl.new1 W _ _ _).below (below_new _ _))
  have HBR : Hid (Bl (((W.alloc (.cells #[.bool c.on, .bool c.tre, .bool c.afe, .int .i64 c.n, .bool c.pd0, .bool c.pd1, .int .u64 c.b0, .int .u64 c.b1, .int .u32 c.dacr, .int .u32 c.prrr, .int .u32 c.nmrr, .int .i64 c.asid] 26)).alloc (.cells #[.int .i64 few] 3)).alloc (.cells #[.bool false] 4)) (W.heap.size + 1 + 1) 4 [.bool false]) := hidW (by
    have := Bl.new1 (W.alloc (.cells #[.bool c.on, .bool c.tre, .bool c.afe, .int .i64 c.n, .bool c.pd0, .bool c.pd1, .int .u64 c.b0, .int .u64 c.b1, .int .u32 c.dacr, .int .u32 c.prrr, .int .u32 c.nmrr, .int .i64 c.asid] 26)) (.cells #[.int .i64 few] 3) 4 [.bool false]
    rwa [show (W.alloc (.cells #[.bool c.on, .bool c.tre, .bool c.afe, .int .i64 c.n, .bool c.pd0, .bool c.pd1, .int .u64 c.b0, .int .u64 c.b1, .int .u32 c.dacr, .int .u32 c.prrr, .int .u32 c.nmrr, .int .i64 c.asid] 26)).heap.size = W.heap.size + 1 by simp] at this)
  have HB0 := hidW b2
  have HS := hidW hp
  have HT := hidW ht
  have hs3 : (((W.alloc (.cells #[.bool c.on, .bool c.tre, .bool c.afe, .int .i64 c.n, .bool c.pd0, .bool c.pd1, .int .u64 c.b0, .int .u64 c.b1, .int .u32 c.dacr, .int .u32 c.prrr, .int .u32 c.nmrr, .int .i64 c.asid] 26)).alloc (.cells #[.int .i64 few] 3)).alloc (.cells #[.bool false] 4)).heap.size = W.heap.size + 3 := by simp
  clear hp ht b2
  refine (callsIn_wide (n := 3)).1 ?_
  refine callsIn_of_wp_marks Tryd.func4 rfl trivial ?_ rfl
  simp only [Tryd.ntmps4, List.size_toArray, List.length_cons, List.length_nil, Nat.reduceAdd, Nat.reduceSub, Array.replicate_succ, Array.replicate_zero, List.push_toArray, List.append_toArray, List.nil_append, List.cons_append]
  refine wpIn_wide.2 ?_
  refine wp_cut 6 _ (bkF Tryd.f4) (by kernel_rfl) (fun C hC => ?_)
  have HC := hidW hC
  clear hC
  simp only [putTail]
  go_wp2_with fail
  generalize ((W.alloc (.cells #[.bool c.on, .bool c.tre, .bool c.afe, .int .i64 c.n, .bool c.pd0, .bool c.pd1, .int .u64 c.b0, .int .u64 c.b1, .int .u32 c.dacr, .int .u32 c.prrr, .int .u32 c.nmrr, .int .i64 c.asid] 26)).alloc (.cells #[.int .i64 few] 3)).alloc (.cells #[.bool false] 4) = w3 at *
  have HM := hidW (begin_ok w3 N h1 h2 a cap ps (puts_below HS.out HB0.out) hl)
  clear HS
  go_at_call 5
  refine HM.out.mono ?_
  rintro e wr ⟨Bp, p, r, rfl, hBp, hBl, hTw⟩
  obtain ⟨⟨S1, S2, hP1, hR1, hd, hS1, hS2⟩, hbr⟩ := hTw
  have hP1 := PM.tight hP1
  have HP1 := hidW hP1
  have HR1 := hidW hR1
  have HS1 : Hid (∀ b, (S1 b ∧ solid wr b) → w3.heap.size ≤ b) := hidW (fun b hb => hS1 b hb.1)
  have HBr := hidW hbr
  have HBp := hidW hBp
  clear hP1 hR1 hS1 hS2 hd hbr hBp HM
  generalize pm N ps ps.length = m at *
  have hsr := HBr.out.size
  have HLl : Hid ((blL (ramMo N m) c).length ≤ 1000000000) := hidW (blL_len _ _)
  have HV := hidW (fun ww (hb : Below wr.heap.size wr ww) => vblocks_row c ww (S := S2) (rv := .pointer (some ⟨r, 0, none⟩)) (M := ramMo N m) (.inl ⟨r, N, m, rfl, rfl, HR1.out.keep (S' := fun _ => False) (Turn.below hb) (fun _ _ h => h)⟩) (fun b hb' => Nat.lt_of_lt_of_le (HR1.out.low b hb') hb.size) (HT.out.below (Below.step HB0.out (Below.step HBr.out hb))) hc)
  obtain ⟨L, hL⟩ : ∃ L, L = blL (ramMo N m) c := ⟨_, rfl⟩
  rw [← hL] at HV HLl
  have HL := hidW hL
  clear hL
  have hS : ∀ W', Below wr.heap.size wr W' → (W'.cell? ⟨Bp, 1, none⟩ = some (.pointer (some ⟨r, 0, none⟩)) ∧ W'.cell? ⟨W.heap.size, 0, none⟩ = some (.bool c.on) ∧ W'.cell? ⟨W.heap.size, 1, none⟩ = some (.bool c.tre) ∧ W'.cell? ⟨W.heap.size, 2, none⟩ = some (.bool c.afe) ∧ W'.cell? ⟨W.heap.size, 3, none⟩ = some (.int .i64 c.n) ∧ W'.cell? ⟨W.heap.size, 4, none⟩ = some (.bool c.pd0) ∧ W'.cell? ⟨W.heap.size, 5, none⟩ = some (.bool c.pd1) ∧ W'.cell? ⟨W.heap.size, 6, none⟩ = some (.int .u64 c.b0) ∧ W'.cell? ⟨W.heap.size, 7, none⟩ = some (.int .u64 c.b1) ∧ W'.cell? ⟨W.heap.size, 8, none⟩ = some (.int .u32 c.dacr) ∧ W'.cell? ⟨W.heap.size, 9, none⟩ = some (.int .u32 c.prrr) ∧ W'.cell? ⟨W.heap.size, 10, none⟩ = some (.int .u32 c.nmrr) ∧ W'.cell? ⟨W.heap.size, 11, none⟩ = some (.int .i64 c.asid)) := fun W' hb => by
    have x0 := (HBp.out.below hb).cell
    have xc := (HBC.out.below (Below.step HBr.out hb)).cell
    exact ⟨x0 1, xc 0, xc 1, xc 2, xc 3, xc 4, xc 5, xc 6, xc 7, xc 8, xc 9, xc 10, xc 11⟩
  go_wp2_with fail
  have HB1 := hidW (Below.refl wr.heap.size wr)
  have hs1 := HB1.out.size
  go_cut [11] from 25 to 30 (fun s1 wx => ∃ v b, s1 = .pointer (some ⟨b, 0, none⟩) ∧ Hid (Gol wr wx b v L))
  case first =>
    go_region_held3 (fun w' => w'.cell? ⟨Bp, 1, none⟩ = some (.pointer (some ⟨r, 0, none⟩)) ∧ w'.cell? ⟨W.heap.size, 0, none⟩ = some (.bool c.on) ∧ w'.cell? ⟨W.heap.size, 1, none⟩ = some (.bool c.tre) ∧ w'.cell? ⟨W.heap.size, 2, none⟩ = some (.bool c.afe) ∧ w'.cell? ⟨W.heap.size, 3, none⟩ = some (.int .i64 c.n) ∧ w'.cell? ⟨W.heap.size, 4, none⟩ = some (.bool c.pd0) ∧ w'.cell? ⟨W.heap.size, 5, none⟩ = some (.bool c.pd1) ∧ w'.cell? ⟨W.heap.size, 6, none⟩ = some (.int .u64 c.b0) ∧ w'.cell? ⟨W.heap.size, 7, none⟩ = some (.int .u64 c.b1) ∧ w'.cell? ⟨W.heap.size, 8, none⟩ = some (.int .u32 c.dacr) ∧ w'.cell? ⟨W.heap.size, 9, none⟩ = some (.int .u32 c.prrr) ∧ w'.cell? ⟨W.heap.size, 10, none⟩ = some (.int .u32 c.nmrr) ∧ w'.cell? ⟨W.heap.size, 11, none⟩ = some (.int .i64 c.asid)) (exact hS _ (by ((repeat (first | (with_reducible refine Below.setCell ?_ (by first | exact Nat.le_refl _ | (dsimp only; omega)) _) | (with_reducible refine Below.alloc ?_ (by first | omega | (simp; omega) | simp) _) | (with_reducible refine below_drew ?_))); (first | (with_reducible exact HB1.out) | (with_reducible exact Below.refl _ _))))) (first | (go_at_call 8; refine (HV.out _ (by ((repeat (first | (with_reducible refine Below.setCell ?_ (by first | exact Nat.le_refl _ | (dsimp only; omega)) _) | (with_reducible refine Below.alloc ?_ (by first | omega | (simp; omega) | simp) _) | (with_reducible refine below_drew ?_))); (first | (with_reducible exact HB1.out) | (with_reducible exact Below.refl _ _))))).mono ?_; rintro e w1 ⟨av, cp, rfl, ho, hb⟩; (try (have hB : Bl w1 (wr.heap.size) 41 [.slice none 0 0] := (by with_reducible exact Bl.below ((Bl.new wr 41 [.slice none 0 0]).drew) hb); have cB := hB.cell; have gB := hB.frozen; have lB := hB.lt)); have HB2 : Hid (Below wr.heap.size wr w1) := Below.step (by ((repeat (first | (with_reducible refine Below.setCell ?_ (by first | exact Nat.le_refl _ | (dsimp only; omega)) _) | (with_reducible refine Below.alloc ?_ (by first | omega | (simp; omega) | simp) _) | (with_reducible refine below_drew ?_))); (first | (with_reducible exact HB1.out) | (with_reducible exact Below.refl _ _)))) hb; have HB1 := HB2; have hs1 := HB1.out.size; clear hb))
    all_goals
      go_wp2_with fail
      go_meet
      first
        | (with_reducible exact ⟨_, _, rfl, hidW (gol1 HB1.out ho (by first | omega | simp))⟩)
        | (with_reducible exact ⟨_, _, rfl, hidW (gol2 HB1.out ho (by first | omega | simp) hB)⟩)
  case rest =>
    obtain ⟨v, b, rfl, HG⟩ := hcut
    clear hS HB1 hs1 HV
    have hsc := HG.out.bel.size
    have hS : ∀ W', Below wc.heap.size wc W' → (W'.cell? ⟨Bp, 0, none⟩ = some (.pointer (some ⟨p, 0, none⟩)) ∧ W'.cell? ⟨W.heap.size, 0, none⟩ = some (.bool c.on) ∧ W'.cell? ⟨W.heap.size, 1, none⟩ = some (.bool c.tre) ∧ W'.cell? ⟨W.heap.size, 2, none⟩ = some (.bool c.afe) ∧ W'.cell? ⟨W.heap.size, 3, none⟩ = some (.int .i64 c.n) ∧ W'.cell? ⟨W.heap.size, 4, none⟩ = some (.bool c.pd0) ∧ W'.cell? ⟨W.heap.size, 5, none⟩ = some (.bool c.pd1) ∧ W'.cell? ⟨W.heap.size, 6, none⟩ = some (.int .u64 c.b0) ∧ W'.cell? ⟨W.heap.size, 7, none⟩ = some (.int .u64 c.b1) ∧ W'.cell? ⟨W.heap.size, 8, none⟩ = some (.int .u32 c.dacr) ∧ W'.cell? ⟨W.heap.size, 9, none⟩ = some (.int .u32 c.prrr) ∧ W'.cell? ⟨W.heap.size, 10, none⟩ = some (.int .u32 c.nmrr) ∧ W'.cell? ⟨W.heap.size, 11, none⟩ = some (.int .i64 c.asid)) := fun W' hb => by
      have x0 := ((HBp.out.below HG.out.bel).below hb).cell
      have xc := (HBC.out.below (Below.step HBr.out (Below.step HG.out.bel hb))).cell
      exact ⟨x0 0, xc 0, xc 1, xc 2, xc 3, xc 4, xc 5, xc 6, xc 7, xc 8, xc 9, xc 10, xc 11⟩
    have HX := hidW (fun ww (hb : Below wc.heap.size wc ww) => blocks_box 35 (.pointer (some ⟨p, 0, none⟩)) c ww)
    go_wp2_with fail
    have HB1 := hidW (Below.refl wc.heap.size wc)
    have hs1 := HB1.out.size
    go_region_held3 (fun w' => w'.cell? ⟨Bp, 0, none⟩ = some (.pointer (some ⟨p, 0, none⟩)) ∧ w'.cell? ⟨W.heap.size, 0, none⟩ = some (.bool c.on) ∧ w'.cell? ⟨W.heap.size, 1, none⟩ = some (.bool c.tre) ∧ w'.cell? ⟨W.heap.size, 2, none⟩ = some (.bool c.afe) ∧ w'.cell? ⟨W.heap.size, 3, none⟩ = some (.int .i64 c.n) ∧ w'.cell? ⟨W.heap.size, 4, none⟩ = some (.bool c.pd0) ∧ w'.cell? ⟨W.heap.size, 5, none⟩ = some (.bool c.pd1) ∧ w'.cell? ⟨W.heap.size, 6, none⟩ = some (.int .u64 c.b0) ∧ w'.cell? ⟨W.heap.size, 7, none⟩ = some (.int .u64 c.b1) ∧ w'.cell? ⟨W.heap.size, 8, none⟩ = some (.int .u32 c.dacr) ∧ w'.cell? ⟨W.heap.size, 9, none⟩ = some (.int .u32 c.prrr) ∧ w'.cell? ⟨W.heap.size, 10, none⟩ = some (.int .u32 c.nmrr) ∧ w'.cell? ⟨W.heap.size, 11, none⟩ = some (.int .i64 c.asid)) (exact hS _ (by ((repeat (first | (with_reducible refine Below.setCell ?_ (by first | exact Nat.le_refl _ | (dsimp only; omega)) _) | (with_reducible refine Below.alloc ?_ (by first | omega | (simp; omega) | simp) _) | (with_reducible refine below_drew ?_))); (first | (with_reducible exact HB1.out) | (with_reducible exact Below.refl _ _))))) (first | (go_at_call 9; refine (HX.out _ (by ((repeat (first | (with_reducible refine Below.setCell ?_ (by first | exact Nat.le_refl _ | (dsimp only; omega)) _) | (with_reducible refine Below.alloc ?_ (by first | omega | (simp; omega) | simp) _) | (with_reducible refine below_drew ?_))); (first | (with_reducible exact HB1.out) | (with_reducible exact Below.refl _ _))))).mono ?_; rintro e w1 ⟨b1, b2, rfl, k1, k2, l1, l2, hb⟩; have HB2 : Hid (Below wc.heap.size wc w1 ∧ Bl w1 b1 60 [.iface 35 (.pointer (some ⟨p, 0, none⟩))] ∧ Bl w1 b2 26 [.bool c.on, .bool c.tre, .bool c.afe, .int .i64 c.n, .bool c.pd0, .bool c.pd1, .int .u64 c.b0, .int .u64 c.b1, .int .u32 c.dacr, .int .u32 c.prrr, .int .u32 c.nmrr, .int .i64 c.asid] ∧ wc.heap.size ≤ b1 ∧ wc.heap.size ≤ b2) := hidW ⟨Below.step (by ((repeat (first | (with_reducible refine Below.setCell ?_ (by first | exact Nat.le_refl _ | (dsimp only; omega)) _) | (with_reducible refine Below.alloc ?_ (by first | omega | (simp; omega) | simp) _) | (with_reducible refine below_drew ?_))); (first | (with_reducible exact HB1.out) | (with_reducible exact Below.refl _ _)))) hb, k1, k2, Nat.le_trans (show Below wc.heap.size wc _ from (by ((repeat (first | (with_reducible refine Below.setCell ?_ (by first | exact Nat.le_refl _ | (dsimp only; omega)) _) | (with_reducible refine Below.alloc ?_ (by first | omega | (simp; omega) | simp) _) | (with_reducible refine below_drew ?_))); (first | (with_reducible exact HB1.out) | (with_reducible exact Below.refl _ _))))).size l1, Nat.le_trans (show Below wc.heap.size wc _ from (by ((repeat (first | (with_reducible refine Below.setCell ?_ (by first | exact Nat.le_refl _ | (dsimp only; omega)) _) | (with_reducible refine Below.alloc ?_ (by first | omega | (simp; omega) | simp) _) | (with_reducible refine below_drew ?_))); (first | (with_reducible exact HB1.out) | (with_reducible exact Below.refl _ _))))).size l2⟩; have HB1 := hidW HB2.out.1; have hs1 := HB1.out.size; clear hb k1 k2 l1 l2))
    clear hS
    have hfn := func_nil
    go_wp2
    refine HC.out _ _ ?_
    obtain ⟨hd, k1, k2, l1, l2⟩ := HB2.out
    obtain ⟨o, av, cp, hBS⟩ := bo_bs (L := L) hs3 HB0.out HBr.out HBB.out HBR.out (.inl ⟨p, N, m, rfl, rfl, HP1.out⟩) (fun b hb => hb.2) HS1.out HG.out hd k1 k2 l1 l2
    exact wpIn_wide.1 (bkF_any W _ _ _ _ _ _ _ _ _ c few L av cp _ o hBS (by have := o.h0; have := o.hr; omega) HL.out HLl.out hc HT.out)
set_option maxRecDepth 100000 in
theorem law_blocks_bad (W : World) (f : Int) (hf : f < 1 ∨ 65536 < f) (s : Value) (c : Ctx) (few : Int) :
    Calls Tryd.prog 4 #[.int .i64 f, s, .agg #[.bool c.on, .bool c.tre, .bool c.afe, .int .i64 c.n, .bool c.pd0, .bool c.pd1, .int .u64 c.b0, .int .u64 c.b1, .int .u32 c.dacr, .int .u32 c.prrr, .int .u32 c.nmrr, .int .i64 c.asid], .int .i64 few] W fun e W' => e = .returned (.bool true) ∧ Below W.heap.size W W' := by
  have b2 : Below W.heap.size W (((W.alloc (.cells #[.bool c.on, .bool c.tre, .bool c.afe, .int .i64 c.n, .bool c.pd0, .bool c.pd1, .int .u64 c.b0, .int .u64 c.b1, .int .u32 c.dacr, .int .u32 c.prrr, .int .u32 c.nmrr, .int .i64 c.asid] 26)).alloc (.cells #[.int .i64 few] 3)).alloc (.cells #[.bool false] 4)) := Below.step (Below.step (below_new _ _) (below_new _ _)) (below_new _ _)
  have HBR : Hid (Bl (((W.alloc (.cells #[.bool c.on, .bool c.tre, .bool c.afe, .int .i64 c.n, .bool c.pd0, .bool c.pd1, .int .u64 c.b0, .int .u64 c.b1, .int .u32 c.dacr, .int .u32 c.prrr, .int .u32 c.nmrr, .int .i64 c.asid] 26)).alloc (.cells #[.int .i64 few] 3)).alloc (.cells #[.bool false] 4)) (W.heap.size + 1 + 1) 4 [.bool false]) := hidW (by
    have := Bl.new1 (W.alloc (.cells #[.bool c.on, .bool c.tre, .bool c.afe, .int .i64 c.n, .bool c.pd0, .bool c.pd1, .int .u64 c.b0, .int .u64 c.b1, .int .u32 c.dacr, .int .u32 c.prrr, .int .u32 c.nmrr, .int .i64 c.asid] 26)) (.cells #[.int .i64 few] 3) 4 [.bool false]
    rwa [show (W.alloc (.cells #[.bool c.on, .bool c.tre, .bool c.afe, .int .i64 c.n, .bool c.pd0, .bool c.pd1, .int .u64 c.b0, .int .u64 c.b1, .int .u32 c.dacr, .int .u32 c.prrr, .int .u32 c.nmrr, .int .i64 c.asid] 26)).heap.size = W.heap.size + 1 by simp] at this)
  have HB0 := hidW b2
  have HM := hidW (fun ww => begin_bad ww f s hf)
  clear hf b2
  go_enter Tryd.func4, Tryd.ntmps4
  go_wp2_with fail
  generalize ((W.alloc (.cells #[.bool c.on, .bool c.tre, .bool c.afe, .int .i64 c.n, .bool c.pd0, .bool c.pd1, .int .u64 c.b0, .int .u64 c.b1, .int .u32 c.dacr, .int .u32 c.prrr, .int .u32 c.nmrr, .int .i64 c.asid] 26)).alloc (.cells #[.int .i64 few] 3)).alloc (.cells #[.bool false] 4) = w3 at *
  go_at_call 5
  refine (HM.out _).mono ?_
  rintro e w2 ⟨rfl, rfl⟩
  have cR := HBR.out.cell 0
  have fR := HBR.out.frozen 0
  have lR := HBR.out.lt
  simp only [List.getElem?_cons_zero] at cR
  clear HM
  go_wp2
  refine bodyPost_ret (v := .bool true) (results_ret rfl _ _ (W.heap.size + 1 + 1) true rfl (HBR.out.put' 0 _)) rfl ⟨rfl, ?_⟩
  exact HB0.out.setCell (by show W.heap.size ≤ W.heap.size + 1 + 1; omega) _
theorem law_blocks (W : World) (f : Int) (a : Option Addr) (cap : Nat) (ps : List Pt) (hp : PutsAt W a ps) (hl : ps.length ≤ 9223372036854775807) (c : Ctx) (hc : c.Ok) (few : Int) (ht : TW W) :
    Calls Tryd.prog 4 #[.int .i64 f, .slice a ps.length cap, .agg #[.bool c.on, .bool c.tre, .bool c.afe, .int .i64 c.n, .bool c.pd0, .bool c.pd1, .int .u64 c.b0, .int .u64 c.b1, .int .u32 c.dacr, .int .u32 c.prrr, .int .u32 c.nmrr, .int .i64 c.asid], .int .i64 few] W fun e W' => e = .returned (.bool true) ∧ Below W.heap.size W W' := by
  by_cases hf : f < 1 ∨ 65536 < f
  · exact law_blocks_bad W f hf _ c few
  · obtain ⟨N, rfl⟩ : ∃ N : Nat, f = N := ⟨f.toNat, by omega⟩
    exact law_blocks_core W N (by omega) (by omega) a cap ps hp hl c hc few ht
end Go.Proofs.YtmodcbdgnmjkoabDoor
namespace Go.Proofs.YtmodcbdgnmjkoabDoor
open Go.ChangeShapes Go.WideShapes Go.ChangeAt Go.RowKit Go.Deep
set_option linter.unusedVariables false
set_option linter.unusedSimpArgs false
theorem cells_int : Tryd.prog.cellsOf 3 = 1 := by kernel_rfl
theorem cells_bool : Tryd.prog.cellsOf 4 = 1 := by kernel_rfl
theorem cells_u32 : Tryd.prog.cellsOf 24 = 1 := by kernel_rfl
theorem cells_leaf : Tryd.prog.cellsOf 47 = 4 := by kernel_rfl
theorem cells_may : Tryd.prog.cellsOf 149 = 2 := by kernel_rfl
theorem cells_row : Tryd.prog.cellsOf 170 = 4 := by kernel_rfl
set_option linter.unusedVariables false
set_option linter.unusedSimpArgs false
theorem cells_i : Tryd.prog.cellsOf 3 = 1 := by kernel_rfl
theorem cells_b : Tryd.prog.cellsOf 4 = 1 := by kernel_rfl
theorem cells_u8 : Tryd.prog.cellsOf 5 = 1 := by kernel_rfl
theorem cells_u64 : Tryd.prog.cellsOf 23 = 1 := by kernel_rfl
theorem cells_tra : Tryd.prog.cellsOf 49 = 8 := by kernel_rfl
theorem cells_ctx : Tryd.prog.cellsOf 26 = 12 := by kernel_rfl
theorem cells_a6 : Tryd.prog.cellsOf 116 = 6 := by kernel_rfl
theorem cells_put : Tryd.prog.cellsOf 58 = 2 := by kernel_rfl
variable {H : Type} {enc : TypeId × Value → H} {w : World} {base : Nat} {sp : Nat → Bool} {held : Bool}
/-- What it reads as. -/
def ctxD (m : Ctx) : DataW H := .agg [.lit (.bool m.on), .lit (.bool m.tre), .lit (.bool m.afe), .lit (.int .i64 m.n), .lit (.bool m.pd0), .lit (.bool m.pd1), .lit (.int .u64 m.b0), .lit (.int .u64 m.b1), .lit (.int .u32 m.dacr), .lit (.int .u32 m.prrr), .lit (.int .u32 m.nmrr), .lit (.int .i64 m.asid)]
structure CtxWf (m : Ctx) : Prop where
  n : (Lit.int .i64 m.n).wf = true
  b0 : (Lit.int .u64 m.b0).wf = true
  b1 : (Lit.int .u64 m.b1).wf = true
  dacr : (Lit.int .u32 m.dacr).wf = true
  prrr : (Lit.int .u32 m.prrr).wf = true
  nmrr : (Lit.int .u32 m.nmrr).wf = true
  asid : (Lit.int .i64 m.asid).wf = true
set_option maxRecDepth 100000 in
theorem shut_ctx {m : Ctx} (h : CtxWf m) : DataW.Trod enc Tryd.prog w base sp held 26 (.agg #[.bool m.on, .bool m.tre, .bool m.afe, .int .i64 m.n, .bool m.pd0, .bool m.pd1, .int .u64 m.b0, .int .u64 m.b1, .int .u32 m.dacr, .int .u32 m.prrr, .int .u32 m.nmrr, .int .i64 m.asid]) (ctxD m) [] := by
  obtain ⟨h0, h1, h2, h3, h4, h5, h6⟩ := h
  exact ⟨2, by simp [DataW.trod, Value.cells, Tryd.underlying26, Tryd.underlying4, Tryd.underlying3, Tryd.underlying24, Tryd.underlying23, cells_ctx, cells_int, cells_bool, cells_u32, cells_u64, h0, h1, h2, h3, h4, h5, h6, ctxD]⟩
set_option maxRecDepth 100000 in
theorem open_ctx {r : Reach} {b0 : Nat} {v : Value} {d : DataW H} {ps : List MemPlace} (hv : Value.okWide Tryd.prog w r b0 26 v) (h : DataW.Trod enc Tryd.prog w base sp held 26 v d ps) :
    ∃ m : Ctx, v = .agg #[.bool m.on, .bool m.tre, .bool m.afe, .int .i64 m.n, .bool m.pd0, .bool m.pd1, .int .u64 m.b0, .int .u64 m.b1, .int .u32 m.dacr, .int .u32 m.prrr, .int .u32 m.nmrr, .int .i64 m.asid] ∧ d = ctxD m ∧ ps = [] ∧ CtxWf m := by
  obtain ⟨cs, rfl, hsz⟩ := okWide_struct Tryd.underlying26 hv
  obtain ⟨v0, v1, v2, v3, v4, v5, v6, v7, v8, v9, v10, v11, rfl⟩ : ∃ v0 v1 v2 v3 v4 v5 v6 v7 v8 v9 v10 v11, cs = #[v0, v1, v2, v3, v4, v5, v6, v7, v8, v9, v10, v11] := by
    obtain ⟨l⟩ := cs
    match l, hsz.trans cells_ctx with
    | [v0, v1, v2, v3, v4, v5, v6, v7, v8, v9, v10, v11], _ => exact ⟨v0, v1, v2, v3, v4, v5, v6, v7, v8, v9, v10, v11, rfl⟩
  obtain ⟨fuel, hf⟩ := h
  obtain ⟨xs, n, _, hx, _, hlen, hq⟩ := DataW.trod_struct Tryd.underlying26 hf
  obtain ⟨y0, y1, y2, y3, y4, y5, y6, y7, y8, y9, y10, y11, rfl⟩ : ∃ y0 y1 y2 y3 y4 y5 y6 y7 y8 y9 y10 y11, xs = [y0, y1, y2, y3, y4, y5, y6, y7, y8, y9, y10, y11] := by
    match xs, hlen with
    | [y0, y1, y2, y3, y4, y5, y6, y7, y8, y9, y10, y11], _ => exact ⟨y0, y1, y2, y3, y4, y5, y6, y7, y8, y9, y10, y11, rfl⟩
  have h0 : DataW.trod enc Tryd.prog w base sp held n 4 [v0] = some y0 := by simpa [Value.cells, cells_bool] using hq 0 _ rfl
  have h1 : DataW.trod enc Tryd.prog w base sp held n 4 [v1] = some y1 := by simpa [Value.cells, cells_bool] using hq 1 _ rfl
  have h2 : DataW.trod enc Tryd.prog w base sp held n 4 [v2] = some y2 := by simpa [Value.cells, cells_bool] using hq 2 _ rfl
  have h3 : DataW.trod enc Tryd.prog w base sp held n 3 [v3] = some y3 := by simpa [Value.cells, cells_int] using hq 3 _ rfl
  have h4 : DataW.trod enc Tryd.prog w base sp held n 4 [v4] = some y4 := by simpa [Value.cells, cells_bool] using hq 4 _ rfl
  have h5 : DataW.trod enc Tryd.prog w base sp held n 4 [v5] = some y5 := by simpa [Value.cells, cells_bool] using hq 5 _ rfl
  have h6 : DataW.trod enc Tryd.prog w base sp held n 23 [v6] = some y6 := by simpa [Value.cells, cells_u64] using hq 6 _ rfl
  have h7 : DataW.trod enc Tryd.prog w base sp held n 23 [v7] = some y7 := by simpa [Value.cells, cells_u64] using hq 7 _ rfl
  have h8 : DataW.trod enc Tryd.prog w base sp held n 24 [v8] = some y8 := by simpa [Value.cells, cells_u32] using hq 8 _ rfl
  have h9 : DataW.trod enc Tryd.prog w base sp held n 24 [v9] = some y9 := by simpa [Value.cells, cells_u32] using hq 9 _ rfl
  have h10 : DataW.trod enc Tryd.prog w base sp held n 24 [v10] = some y10 := by simpa [Value.cells, cells_u32] using hq 10 _ rfl
  have h11 : DataW.trod enc Tryd.prog w base sp held n 3 [v11] = some y11 := by simpa [Value.cells, cells_int] using hq 11 _ rfl
  obtain ⟨i0, e0, r0⟩ := DataW.trod_bool Tryd.underlying4 h0
  obtain ⟨i1, e1, r1⟩ := DataW.trod_bool Tryd.underlying4 h1
  obtain ⟨i2, e2, r2⟩ := DataW.trod_bool Tryd.underlying4 h2
  obtain ⟨i3, e3, r3, w3⟩ := DataW.trod_int Tryd.underlying3 h3
  obtain ⟨i4, e4, r4⟩ := DataW.trod_bool Tryd.underlying4 h4
  obtain ⟨i5, e5, r5⟩ := DataW.trod_bool Tryd.underlying4 h5
  obtain ⟨i6, e6, r6, w6⟩ := DataW.trod_int Tryd.underlying23 h6
  obtain ⟨i7, e7, r7, w7⟩ := DataW.trod_int Tryd.underlying23 h7
  obtain ⟨i8, e8, r8, w8⟩ := DataW.trod_int Tryd.underlying24 h8
  obtain ⟨i9, e9, r9, w9⟩ := DataW.trod_int Tryd.underlying24 h9
  obtain ⟨i10, e10, r10, w10⟩ := DataW.trod_int Tryd.underlying24 h10
  obtain ⟨i11, e11, r11, w11⟩ := DataW.trod_int Tryd.underlying3 h11
  simp only [List.cons.injEq, and_true] at e0 e1 e2 e3 e4 e5 e6 e7 e8 e9 e10 e11
  subst e0 e1 e2 e3 e4 e5 e6 e7 e8 e9 e10 e11 r0 r1 r2 r3 r4 r5 r6 r7 r8 r9 r10 r11
  obtain ⟨hd, hp⟩ := Prod.mk.inj hx
  exact ⟨⟨i0, i1, i2, i3, i4, i5, i6, i7, i8, i9, i10, i11⟩, rfl, hd, hp, ⟨w3, w6, w7, w8, w9, w10, w11⟩⟩
def traD (t : Tra) : DataW H := .agg [.lit (.int .i64 t.size), .lit (.int .u32 t.va), .lit (.int .u64 t.pa), .lit (.int .i64 t.dom), .agg [.lit (.int .i64 t.ap), .lit (.int .u32 t.bits), .lit (.bool t.ng), .lit (.bool t.xn)]]
structure TraWf (t : Tra) : Prop where
  s : (Lit.int .i64 t.size).wf = true
  v : (Lit.int .u32 t.va).wf = true
  p : (Lit.int .u64 t.pa).wf = true
  d : (Lit.int .i64 t.dom).wf = true
  a : (Lit.int .i64 t.ap).wf = true
  t : (Lit.int .u32 t.bits).wf = true
set_option maxRecDepth 100000 in
theorem shut_tra {t : Tra} (h : TraWf t) : DataW.Trod enc Tryd.prog w base sp held 49 (.agg #[.int .i64 t.size, .int .u32 t.va, .int .u64 t.pa, .int .i64 t.dom, .int .i64 t.ap, .int .u32 t.bits, .bool t.ng, .bool t.xn]) (traD t) [] := by
  obtain ⟨h1, h2, h3, h4, h5, h6⟩ := h
  exact ⟨3, by simp [DataW.trod, Value.cells, Tryd.underlying49, Tryd.underlying47, Tryd.underlying3, Tryd.underlying4, Tryd.underlying24, Tryd.underlying23, cells_tra, cells_leaf, cells_i, cells_b, cells_u32, cells_u64, h1, h2, h3, h4, h5, h6, traD]⟩

theorem array8 {cs : Array Value} (h : cs.size = 8) : ∃ a b c d e f g i, cs = #[a, b, c, d, e, f, g, i] := by
  obtain ⟨l⟩ := cs
  match l, h with
  | [a, b, c, d, e, f, g, i], _ => exact ⟨a, b, c, d, e, f, g, i, rfl⟩

theorem open_leaf4 {fuel : Nat} {a b c d : Value} {x : DataW H × List MemPlace} (h : DataW.trod enc Tryd.prog w base sp held fuel 47 [a, b, c, d] = some x) :
    ∃ (n m : Int) (p q : Bool), a = .int .i64 n ∧ b = .int .u32 m ∧ c = .bool p ∧ d = .bool q ∧ x = (.agg [.lit (.int .i64 n), .lit (.int .u32 m), .lit (.bool p), .lit (.bool q)], []) ∧ (Lit.int .i64 n).wf = true ∧ (Lit.int .u32 m).wf = true := by
  obtain ⟨y0, y1, y2, y3, n, rfl, _, h0, h1, h2, h3⟩ := Go.Joins.trod_struct4 Tryd.underlying47 h
  simp only [cells_i, cells_u32, cells_b, List.drop_zero, List.drop_succ_cons, List.take_succ_cons, List.take_zero] at h0 h1 h2 h3
  obtain ⟨i0, e0, r0, w0⟩ := DataW.trod_int Tryd.underlying3 h0
  obtain ⟨i1, e1, r1, w1⟩ := DataW.trod_int Tryd.underlying24 h1
  obtain ⟨i2, e2, r2⟩ := DataW.trod_bool Tryd.underlying4 h2
  obtain ⟨i3, e3, r3⟩ := DataW.trod_bool Tryd.underlying4 h3
  simp only [List.cons.injEq, and_true] at e0 e1 e2 e3
  subst e0 e1 e2 e3 r0 r1 r2 r3
  exact ⟨i0, i1, i2, i3, rfl, rfl, rfl, rfl, rfl, w0, w1⟩
set_option maxRecDepth 100000 in
theorem open_tra {r : Reach} {b0 : Nat} {v : Value} {d : DataW H} {ps : List MemPlace} (hv : Value.okWide Tryd.prog w r b0 49 v) (h : DataW.Trod enc Tryd.prog w base sp held 49 v d ps) :
    ∃ t : Tra, v = .agg #[.int .i64 t.size, .int .u32 t.va, .int .u64 t.pa, .int .i64 t.dom, .int .i64 t.ap, .int .u32 t.bits, .bool t.ng, .bool t.xn] ∧ d = traD t ∧ ps = [] ∧ TraWf t := by
  obtain ⟨cs, rfl, hsz⟩ := okWide_struct Tryd.underlying49 hv
  obtain ⟨v0, v1, v2, v3, v4, v5, v6, v7, rfl⟩ := array8 (hsz.trans cells_tra)
  obtain ⟨fuel, hf⟩ := h
  obtain ⟨xs, n, _, hx, _, hlen, hq⟩ := DataW.trod_struct Tryd.underlying49 hf
  obtain ⟨y0, y1, y2, y3, y4, rfl⟩ : ∃ y0 y1 y2 y3 y4, xs = [y0, y1, y2, y3, y4] := by
    match xs, hlen with
    | [y0, y1, y2, y3, y4], _ => exact ⟨y0, y1, y2, y3, y4, rfl⟩
  · skip
    have h0 : DataW.trod enc Tryd.prog w base sp held n 3 [v0] = some y0 := by simpa [Value.cells, cells_i] using hq 0 _ rfl
    have h1 : DataW.trod enc Tryd.prog w base sp held n 24 [v1] = some y1 := by simpa [Value.cells, cells_u32] using hq 1 _ rfl
    have h2 : DataW.trod enc Tryd.prog w base sp held n 23 [v2] = some y2 := by simpa [Value.cells, cells_u64] using hq 2 _ rfl
    have h3 : DataW.trod enc Tryd.prog w base sp held n 3 [v3] = some y3 := by simpa [Value.cells, cells_i] using hq 3 _ rfl
    have h4 : DataW.trod enc Tryd.prog w base sp held n 47 [v4, v5, v6, v7] = some y4 := by simpa [Value.cells, cells_leaf] using hq 4 _ rfl
    obtain ⟨i0, e0, r0, w0⟩ := DataW.trod_int Tryd.underlying3 h0
    obtain ⟨i1, e1, r1, w1⟩ := DataW.trod_int Tryd.underlying24 h1
    obtain ⟨i2, e2, r2, w2⟩ := DataW.trod_int Tryd.underlying23 h2
    obtain ⟨i3, e3, r3, w3⟩ := DataW.trod_int Tryd.underlying3 h3
    obtain ⟨i4, i5, i6, i7, rfl, rfl, rfl, rfl, r4, w4, w5⟩ := open_leaf4 h4
    simp only [List.cons.injEq, and_true] at e0 e1 e2 e3
    subst e0 e1 e2 e3 r0 r1 r2 r3 r4
    obtain ⟨hd, hp⟩ := Prod.mk.inj hx
    exact ⟨⟨i0, i1, i2, i3, i4, i5, i6, i7⟩, rfl, hd, hp, ⟨w0, w1, w2, w3, w4, w5⟩⟩

def mayD (a b : Bool) : DataW Unit := .agg [.lit (.bool a), .lit (.bool b)]
def rowD (r : Row) : DataW Unit := .agg [mayD r.pr r.pw, mayD r.ur r.uw]
/-- A listed variable. -/
theorem laid_mem {P : Program} {W : World} {n : String} {d : DataW Unit} : ∀ {L : List (String × DataW Unit)} {ps : List MemPlace}, DataW.LaidVars P W L ps → (n, d) ∈ L →
    ∃ g t cs fuel p, P.globalNamed n = some g ∧ (P.globals[g]?).map (·.type) = some t ∧ W.var? P n = some cs ∧ DataW.trod (fun _ => ()) P W 0 (fun _ => true) false fuel t cs.toList = some (d, p)
  | [], _, _, hm => by cases hm
  | (n', d') :: L, ps, h, hm => by
    obtain ⟨g, t, cs, fuel, p, q, h1, h2, h3, h4, h5, _⟩ := h
    rcases List.mem_cons.1 hm with he | hm
    · cases he
      exact ⟨g, t, cs, fuel, p, h1, h2, h3, h4⟩
    · exact laid_mem h5 hm
/-- An element of an array. -/
theorem arr_at {P : Program} {W : World} {fuel : Nat} {t e : TypeId} {m c : Nat} {cs : List Value} {x : DataW Unit × List MemPlace} (h : DataW.trod (fun _ => ()) P W 0 (fun _ => true) false fuel t cs = some x)
    (ht : P.underlying t = some (.array m e)) (hce : P.cellsOf e = c) (hct : P.cellsOf t = m * c) :
    cs.length = m * c ∧ ∃ ds, x.1 = .agg ds ∧ ds.length = m ∧ ∀ i, i < m → ∃ f' y, ds[i]? = some y.1 ∧ DataW.trod (fun _ => ()) P W 0 (fun _ => true) false f' e ((cs.drop (i * c)).take c) = some y := by
  cases fuel with
  | zero => simp [DataW.trod] at h
  | succ fuel =>
    simp only [DataW.trod, ht, hct, hce] at h
    split at h
    · rename_i hl
      obtain ⟨xs, hx1, rfl⟩ := Option.map_eq_some_iff.1 h
      refine ⟨by simpa using hl, xs.map (·.1), by simp, ?_, fun i hi => ?_⟩
      · have := Lib.mapM_length hx1
        simpa using this
      · obtain ⟨b, hb, hf⟩ := Lib.mapM_at hx1 i i (by simp [hi])
        exact ⟨fuel, b, by simp [hb], hf⟩
    · cases h
/-- An element of a listed array. -/
theorem tab_at {W : World} {L : List (String × DataW Unit)} {ps : List MemPlace} (h : DataW.LaidVars Tryd.prog W L ps) {n : String} {g : Nat} {t e : TypeId} {m c : Nat} (ds : List (DataW Unit))
    (hm : (n, DataW.agg ds) ∈ L) (hg : Tryd.prog.globalNamed n = some g) (hty : (Tryd.prog.globals[g]?).map (·.type) = some t)
    (ht : Tryd.prog.underlying t = some (.array m e)) (hce : Tryd.prog.cellsOf e = c) (hct : Tryd.prog.cellsOf t = m * c) (i : Nat) (hi : i < m) :
    ∃ cs fuel x, (∀ j v, j < c → cs[j]? = some v → W.cell? ⟨g, i * c + j, none⟩ = some v) ∧ ds[i]? = some x.1 ∧ DataW.trod (fun _ => ()) Tryd.prog W 0 (fun _ => true) false fuel e cs = some x := by
  obtain ⟨g', t', cs, fuel, p, h1, h2, h3, h4⟩ := laid_mem h hm
  obtain rfl := Option.some.inj (hg.symm.trans h1)
  obtain rfl := Option.some.inj (hty.symm.trans h2)
  obtain ⟨_, ds', he, _, hat⟩ := arr_at h4 ht hce hct
  obtain rfl : ds = ds' := by simpa using he
  obtain ⟨f', y, hy, hf⟩ := hat i hi
  refine ⟨_, f', y, ?_, hy, hf⟩
  intro j v hj hv
  rw [World.var?_cell hg h3 (i * c + j), ← Array.getElem?_toList]
  simpa [List.getElem?_take, List.getElem?_drop, hj] using hv
set_option maxRecDepth 100000 in
theorem may_cells {W : World} {fuel : Nat} {cs : List Value} {x : DataW Unit × List MemPlace} (h : DataW.trod (fun _ => ()) Tryd.prog W 0 (fun _ => true) false fuel 149 cs = some x) :
    ∃ a b : Bool, cs = [.bool a, .bool b] ∧ x.1 = mayD a b := by
  obtain ⟨y0, y1, n, hx, hl, h0, h1⟩ := trod_struct2 Tryd.underlying149 h
  rw [cells_may] at hl
  obtain ⟨a, b, rfl⟩ : ∃ a b, cs = [a, b] := by
    match cs, hl with
    | [a, b], _ => exact ⟨a, b, rfl⟩
  simp only [cells_bool, List.drop_zero, List.drop_succ_cons, List.take_succ_cons, List.take_zero] at h0 h1
  obtain ⟨i0, e0, r0⟩ := DataW.trod_bool Tryd.underlying4 h0
  obtain ⟨i1, e1, r1⟩ := DataW.trod_bool Tryd.underlying4 h1
  simp only [List.cons.injEq, and_true] at e0 e1
  subst e0 e1 r0 r1
  exact ⟨i0, i1, rfl, by rw [hx]; rfl⟩
set_option maxRecDepth 100000 in
theorem row_cells {W : World} {fuel : Nat} {cs : List Value} {x : DataW Unit × List MemPlace} (h : DataW.trod (fun _ => ()) Tryd.prog W 0 (fun _ => true) false fuel 170 cs = some x) :
    ∃ r : Row, cs = [.bool r.pr, .bool r.pw, .bool r.ur, .bool r.uw] ∧ x.1 = rowD r := by
  obtain ⟨y0, y1, n, hx, hl, h0, h1⟩ := trod_struct2 Tryd.underlying170 h
  rw [cells_row] at hl
  obtain ⟨a, b, c, d, rfl⟩ : ∃ a b c d, cs = [a, b, c, d] := by
    match cs, hl with
    | [a, b, c, d], _ => exact ⟨a, b, c, d, rfl⟩
  simp only [cells_may, List.drop_zero, List.drop_succ_cons, List.take_succ_cons, List.take_zero] at h0 h1
  obtain ⟨a1, b1, e0, r0⟩ := may_cells h0
  obtain ⟨a2, b2, e1, r1⟩ := may_cells h1
  simp only [List.cons.injEq, and_true] at e0 e1
  obtain ⟨rfl, rfl⟩ := e0
  obtain ⟨rfl, rfl⟩ := e1
  exact ⟨⟨a1, b1, a2, b2⟩, rfl, by rw [hx]; simp only [r0, r1]; rfl⟩
/-- A listed table of permissions. -/
theorem perm_of {W : World} {L : List (String × DataW Unit)} {ps : List MemPlace} (h : DataW.LaidVars Tryd.prog W L ps) {n : String} {g : Nat} {t : TypeId} {m : Nat} (l : List Row)
    (hm : (n, DataW.agg (l.map rowD)) ∈ L) (hg : Tryd.prog.globalNamed n = some g) (hty : (Tryd.prog.globals[g]?).map (·.type) = some t)
    (ht : Tryd.prog.underlying t = some (.array m 170)) (hct : Tryd.prog.cellsOf t = m * 4) (hl : l.length = m) : ∀ q r, l[q]? = some r → RoB W g (q * 4) r := by
  intro q r hr
  have hi : q < m := by rw [← hl]; exact (List.getElem?_eq_some_iff.1 hr).1
  obtain ⟨cs, fuel, x, h1, h2, h3⟩ := tab_at h _ hm hg hty ht cells_row hct q hi
  obtain ⟨r', rfl, hx⟩ := row_cells h3
  rw [hx] at h2
  simp [hr] at h2
  obtain rfl : r = r' := by
    obtain ⟨a1, a2, a3, a4⟩ := r
    obtain ⟨b1, b2, b3, b4⟩ := r'
    simpa [rowD, mayD, and_assoc] using h2
  exact ⟨h1 0 _ (by decide) rfl, h1 1 _ (by decide) rfl, h1 2 _ (by decide) rfl, h1 3 _ (by decide) rfl⟩
/-- A listed table of numbers. -/
theorem tab_of {k : IntKind} {W : World} {L : List (String × DataW Unit)} {ps : List MemPlace} (h : DataW.LaidVars Tryd.prog W L ps) {n : String} {g : Nat} {t e : TypeId} {m : Nat} (l : List Int)
    (hm : (n, DataW.agg (l.map fun z => .lit (.int k z))) ∈ L) (hg : Tryd.prog.globalNamed n = some g) (hty : (Tryd.prog.globals[g]?).map (·.type) = some t)
    (ht : Tryd.prog.underlying t = some (.array m e)) (he : Tryd.prog.underlying e = some (.int k)) (hce : Tryd.prog.cellsOf e = 1) (hct : Tryd.prog.cellsOf t = m) : Tb k W g l := by
  obtain ⟨g', t', cs, fuel, p, h1, h2, h3, h4⟩ := laid_mem h hm
  obtain rfl := Option.some.inj (hg.symm.trans h1)
  obtain rfl := Option.some.inj (hty.symm.trans h2)
  have hcs := Lib.cells_of_tab (zs := l) ht he hce hct h4
  intro i v hv
  rw [World.var?_cell hg h3 i, ← Array.getElem?_toList, hcs]
  simp [hv]
/-- A listed table of tables of six numbers. -/
theorem tab2_of {W : World} {L : List (String × DataW Unit)} {ps : List MemPlace} (h : DataW.LaidVars Tryd.prog W L ps) {n : String} {g : Nat} {t : TypeId} (ls : List (List Int))
    (hm : (n, DataW.agg (ls.map fun l => .agg (l.map fun z => .lit (.int .u8 z)))) ∈ L) (hg : Tryd.prog.globalNamed n = some g) (hty : (Tryd.prog.globals[g]?).map (·.type) = some t)
    (ht : Tryd.prog.underlying t = some (.array 6 116)) (hct : Tryd.prog.cellsOf t = 36) (i j : Nat) (l : List Int) (v : Int) (hl : ls[i]? = some l) (hv : l[j]? = some v) (hj : j < 6) (hi : i < 6) : W.cell? ⟨g, i * 6 + j, none⟩ = some (.int .u8 v) := by
  obtain ⟨g', t', cs, fuel, p, h1, h2, h3, h4⟩ := laid_mem h hm
  obtain rfl := Option.some.inj (hg.symm.trans h1)
  obtain rfl := Option.some.inj (hty.symm.trans h2)
  rw [World.var?_cell hg h3 (i * 6 + j), ← Array.getElem?_toList]
  cases fuel with
  | zero => simp [DataW.trod] at h4
  | succ fuel =>
    simp only [DataW.trod, ht, hct, cells_a6] at h4
    split at h4
    · obtain ⟨xs, hx1, hx⟩ := Option.map_eq_some_iff.1 h4
      have hxs : xs.map (·.1) = ls.map fun l => (DataW.agg (l.map fun z => .lit (.int .u8 z)) : DataW Unit) := by
        have := congrArg Prod.fst hx
        simpa using this
      obtain ⟨b, hb, hf⟩ := Lib.mapM_at hx1 i i (by simp [hi])
      have hb1 : b.1 = DataW.agg (l.map fun z => .lit (.int .u8 z)) := by
        have e1 : (xs.map (·.1))[i]? = some b.1 := by simp [hb]
        rw [hxs] at e1
        simp [hl] at e1
        exact e1.symm
      obtain ⟨b1, b2⟩ := b
      simp only at hb1
      subst hb1
      have hcs := Lib.cells_of_tab (zs := l) Tryd.underlying116 Tryd.underlying5 cells_u8 cells_a6 hf
      have e2 := congrArg (·[j]?) hcs
      simp only [List.getElem?_take, List.getElem?_drop, List.getElem?_map, hv, if_pos hj, Option.map_some] at e2
      exact e2
    · cases h4

theorem CtxWf.ok {c : Ctx} (h : CtxWf c) : c.Ok := by
  have h1 := bounds_i64 h.n
  have h2 := bounds_u64 h.b0
  have h3 := bounds_u64 h.b1
  have h4 := bounds_u32 h.dacr
  exact ⟨by omega, by omega, by omega, by omega⟩
theorem add_add' (a : Addr) (m n : Nat) : (a.add m).add n = a.add (m + n) := by
  unfold Addr.add
  split <;> split <;> simp_all <;> omega
/-- A slice of whatever has k cells, opened. -/
theorem open_rows {α : Type} {W : World} (E : TypeId) (k : Nat) (hk : 0 < k) (hE : Tryd.prog.cellsOf E = k) (en : α → List Value) (ok : α → Prop) (d0 : α)
    (dec : ∀ {fuel : Nat} {cs : List Value} {x : DataW H × List MemPlace}, DataW.trod enc Tryd.prog W 0 (fun _ => true) true fuel E cs = some x → ∃ o, cs = en o ∧ ok o) (hen : ∀ o, (en o).length = k)
    {T : TypeId} (hT : Tryd.prog.underlying T = some (.slice E)) {fuel : Nat} {a : Option Addr} {len cap : Nat} {x : DataW H × List MemPlace}
    (h : DataW.trod enc Tryd.prog W 0 (fun _ => true) true fuel T (Value.slice a len cap).cells.toList = some x) :
    ∃ ops : List α, ops.length = len ∧ (∀ i o, ops[i]? = some o → ∃ b off, a = some ⟨b, off, none⟩ ∧ b < W.heap.size ∧ ∀ j v, (en o)[j]? = some v → W.cell? ⟨b, off + i * k + j, none⟩ = some v) ∧ (∀ o ∈ ops, ok o) ∧ ops.length ≤ maxLen := by
  rcases open_slice hT h with ⟨hcs, rfl⟩ | ⟨a', len', cap', m, n, D, Pl, hcs, hb, hl, hm, hmm, rfl, hx⟩
  · simp [Value.cells] at hcs
    obtain ⟨rfl, rfl, rfl⟩ := hcs
    exact ⟨[], rfl, ⟨fun i o ho => (by simp at ho), ⟨fun o ho => (by cases ho), Nat.zero_le _⟩⟩⟩
  · simp [Value.cells] at hcs
    obtain ⟨rfl, rfl, rfl⟩ := hcs
    have hlm : len ≤ m := by rw [hmm]; split <;> omega
    have first : ∀ i, i < len → ∃ o, ok o ∧ ∀ j v, (en o)[j]? = some v → W.cell? (a'.add (i * k + j)) = some v := by
      intro i hi
      obtain ⟨cs', h1, h2⟩ := hx i (by omega)
      rw [hE] at h1
      obtain ⟨_, hlen, hcell⟩ := World.cells?_some h1
      obtain ⟨o, rfl, ho⟩ := dec h2
      refine ⟨o, ho, fun j v hv => ?_⟩
      have hj : j < k := by
        have := (List.getElem?_eq_some_iff.1 hv).1
        rw [hen] at this; exact this
      have ej := hcell j hj
      rw [add_add', hv] at ej
      exact ej
    have hat : ∀ i o, (∀ j v, (en o)[j]? = some v → W.cell? (a'.add (i * k + j)) = some v) → ∃ v, W.cell? (a'.add (i * k)) = some v := by
      intro i o ho
      obtain ⟨v, hv⟩ : ∃ v, (en o)[0]? = some v := ⟨_, List.getElem?_eq_getElem (by rw [hen]; exact hk)⟩
      exact ⟨v, by have := ho 0 v hv; simpa using this⟩
    have each : ∀ i : Nat, ∃ o : α, i < len → (∃ b off, some a' = some (⟨b, off, none⟩ : Addr) ∧ b < W.heap.size ∧ ∀ j v, (en o)[j]? = some v → W.cell? ⟨b, off + i * k + j, none⟩ = some v) ∧ ok o := by
      intro i
      by_cases hi : i < len
      · obtain ⟨o, ho, hc⟩ := first i hi
        obtain ⟨o0, _, hc0⟩ := first 0 (by omega)
        obtain ⟨v0, e0⟩ := hat i o hc
        obtain ⟨v1, e1⟩ := hat 0 o0 hc0
        have hb0 := World.block_lt_of_cell? W _ e0
        obtain ⟨b, off, spot⟩ := a'
        have hsp : spot = none := by
          have := World.cell?_spot e1
          simpa [Addr.add] using this
        subst hsp
        rw [Addr.add_lit] at hb0
        refine ⟨o, fun _ => ⟨⟨b, off, rfl, hb0, fun j v hv => ?_⟩, ho⟩⟩
        have ej := hc j v hv
        rw [Addr.add_lit, ← Nat.add_assoc] at ej
        exact ej
      · exact ⟨d0, fun h => absurd h hi⟩
    obtain ⟨f, hf⟩ := Classical.skolem.1 each
    refine ⟨(List.range len).map f, by simp, fun i o ho => ?_, fun o ho => ?_, ?_⟩
    · have hi : i < len := by
        have := (List.getElem?_eq_some_iff.1 ho).1
        simpa using this
      rw [List.getElem?_map, List.getElem?_range hi] at ho
      simp at ho
      subst ho
      exact (hf i hi).1
    · obtain ⟨i, hi, rfl⟩ := List.mem_map.1 ho
      exact (hf i (List.mem_range.1 hi)).2
    · simp only [List.length_map, List.length_range]
      omega
set_option maxRecDepth 100000 in
theorem put_cells {W : World} {fuel : Nat} {cs : List Value} {x : DataW H × List MemPlace} (h : DataW.trod enc Tryd.prog W base sp held fuel 58 cs = some x) :
    ∃ o : Pt, cs = [.int .u64 o.pa, .int .u32 o.w] ∧ ((0 ≤ o.pa ∧ o.pa < 18446744073709551616) ∧ 0 ≤ o.w ∧ o.w < 4294967296) := by
  obtain ⟨xs, n, _, hx, hl, hlen, hq⟩ := DataW.trod_struct Tryd.underlying58 h
  rw [cells_put] at hl
  obtain ⟨v0, v1, rfl⟩ : ∃ v0 v1, cs = [v0, v1] := by
    match cs, hl with
    | [v0, v1], _ => exact ⟨v0, v1, rfl⟩
  obtain ⟨y0, y1, rfl⟩ : ∃ y0 y1, xs = [y0, y1] := by
    match xs, hlen with
    | [y0, y1], _ => exact ⟨y0, y1, rfl⟩
  have h0 : DataW.trod enc Tryd.prog W base sp held n 23 [v0] = some y0 := by simpa [Value.cells, cells_u64] using hq 0 _ rfl
  have h1 : DataW.trod enc Tryd.prog W base sp held n 24 [v1] = some y1 := by simpa [Value.cells, cells_u32] using hq 1 _ rfl
  obtain ⟨i0, e0, _, w0⟩ := DataW.trod_int Tryd.underlying23 h0
  obtain ⟨i1, e1, _, w1⟩ := DataW.trod_int Tryd.underlying24 h1
  simp only [List.cons.injEq, and_true] at e0 e1
  subst e0 e1
  have b0 := bounds_u64 w0
  have b1 := bounds_u32 w1
  exact ⟨⟨i0, i1⟩, rfl, ⟨by show 0 ≤ i0; omega, by show i0 < _; omega⟩, by show 0 ≤ i1; omega, by show i1 < _; omega⟩
set_option maxRecDepth 100000 in
theorem u32_cells {W : World} {fuel : Nat} {cs : List Value} {x : DataW H × List MemPlace} (h : DataW.trod enc Tryd.prog W base sp held fuel 24 cs = some x) :
    ∃ o : Int, cs = [.int .u32 o] ∧ (0 ≤ o ∧ o < 4294967296) := by
  obtain ⟨i0, e0, _, w0⟩ := DataW.trod_int Tryd.underlying24 h
  have b0 := bounds_u32 w0
  exact ⟨i0, e0, by omega, by omega⟩
set_option maxRecDepth 100000 in
theorem tra_cells {W : World} {fuel : Nat} {cs : List Value} {x : DataW H × List MemPlace} (h : DataW.trod enc Tryd.prog W base sp held fuel 49 cs = some x) :
    ∃ t : Tra, cs = [.int .i64 t.size, .int .u32 t.va, .int .u64 t.pa, .int .i64 t.dom, .int .i64 t.ap, .int .u32 t.bits, .bool t.ng, .bool t.xn] ∧ TraWf t := by
  obtain ⟨xs, n, _, hx, hl, hlen, hq⟩ := DataW.trod_struct Tryd.underlying49 h
  rw [cells_tra] at hl
  obtain ⟨v0, v1, v2, v3, v4, v5, v6, v7, rfl⟩ : ∃ v0 v1 v2 v3 v4 v5 v6 v7, cs = [v0, v1, v2, v3, v4, v5, v6, v7] := by
    match cs, hl with
    | [v0, v1, v2, v3, v4, v5, v6, v7], _ => exact ⟨v0, v1, v2, v3, v4, v5, v6, v7, rfl⟩
  obtain ⟨y0, y1, y2, y3, y4, rfl⟩ : ∃ y0 y1 y2 y3 y4, xs = [y0, y1, y2, y3, y4] := by
    match xs, hlen with
    | [y0, y1, y2, y3, y4], _ => exact ⟨y0, y1, y2, y3, y4, rfl⟩
  have h0 : DataW.trod enc Tryd.prog W base sp held n 3 [v0] = some y0 := by simpa [Value.cells, cells_i] using hq 0 _ rfl
  have h1 : DataW.trod enc Tryd.prog W base sp held n 24 [v1] = some y1 := by simpa [Value.cells, cells_u32] using hq 1 _ rfl
  have h2 : DataW.trod enc Tryd.prog W base sp held n 23 [v2] = some y2 := by simpa [Value.cells, cells_u64] using hq 2 _ rfl
  have h3 : DataW.trod enc Tryd.prog W base sp held n 3 [v3] = some y3 := by simpa [Value.cells, cells_i] using hq 3 _ rfl
  have h4 : DataW.trod enc Tryd.prog W base sp held n 47 [v4, v5, v6, v7] = some y4 := by simpa [Value.cells, cells_leaf] using hq 4 _ rfl
  obtain ⟨i0, e0, _, w0⟩ := DataW.trod_int Tryd.underlying3 h0
  obtain ⟨i1, e1, _, w1⟩ := DataW.trod_int Tryd.underlying24 h1
  obtain ⟨i2, e2, _, w2⟩ := DataW.trod_int Tryd.underlying23 h2
  obtain ⟨i3, e3, _, w3⟩ := DataW.trod_int Tryd.underlying3 h3
  obtain ⟨i4, i5, i6, i7, rfl, rfl, rfl, rfl, _, w4, w5⟩ := open_leaf4 h4
  simp only [List.cons.injEq, and_true] at e0 e1 e2 e3
  subst e0 e1 e2 e3
  exact ⟨⟨i0, i1, i2, i3, i4, i5, i6, i7⟩, rfl, ⟨w0, w1, w2, w3, w4, w5⟩⟩
/-- A script of puts, opened. -/
theorem open_puts {W : World} {fuel : Nat} {a : Option Addr} {len cap : Nat} {x : DataW H × List MemPlace} (h : DataW.trod enc Tryd.prog W 0 (fun _ => true) true fuel 22 (Value.slice a len cap).cells.toList = some x) :
    ∃ ps : List Pt, ps.length = len ∧ PutsAt W a ps ∧ ps.length ≤ maxLen := by
  obtain ⟨ps, h1, h2, h3, h4⟩ := open_rows 58 2 (by omega) cells_put (fun o : Pt => [.int .u64 o.pa, .int .u32 o.w]) _ ⟨0, 0⟩ (fun h => put_cells h) (fun _ => rfl) Tryd.underlying22 h
  refine ⟨ps, h1, ⟨fun k p hp => ?_, h3⟩, h4⟩
  obtain ⟨b, off, e, hb, hc⟩ := h2 k p hp
  exact ⟨b, off, e, hb, hc 0 _ rfl, hc 1 _ rfl⟩
theorem open_u32s {W : World} {fuel : Nat} {a : Option Addr} {len cap : Nat} {x : DataW H × List MemPlace} (h : DataW.trod enc Tryd.prog W 0 (fun _ => true) true fuel 27 (Value.slice a len cap).cells.toList = some x) :
    ∃ vs : List Int, vs.length = len ∧ Ws W a vs ∧ vs.length ≤ maxLen := by
  obtain ⟨ps, h1, h2, h3, h4⟩ := open_rows 24 1 (by omega) cells_u32 (fun o : Int => [.int .u32 o]) _ 0 (fun h => u32_cells h) (fun _ => rfl) Tryd.underlying27 h
  refine ⟨ps, h1, ⟨fun k p hp => ?_, h3⟩, h4⟩
  obtain ⟨b, off, e, hb, hc⟩ := h2 k p hp
  exact ⟨b, off, e, hb, by have := hc 0 _ rfl; simpa using this⟩
theorem open_tras {W : World} {fuel : Nat} {a : Option Addr} {len cap : Nat} {x : DataW H × List MemPlace} (h : DataW.trod enc Tryd.prog W 0 (fun _ => true) true fuel 41 (Value.slice a len cap).cells.toList = some x) :
    ∃ ts : List Tra, ts.length = len ∧ (∀ i o, ts[i]? = some o → ∃ b off, a = some ⟨b, off, none⟩ ∧ b < W.heap.size ∧ ∀ j v, ([.int .i64 o.size, .int .u32 o.va, .int .u64 o.pa, .int .i64 o.dom, .int .i64 o.ap, .int .u32 o.bits, .bool o.ng, .bool o.xn])[j]? = some v → W.cell? ⟨b, off + i * 8 + j, none⟩ = some v) ∧ (∀ o ∈ ts, TraWf o) ∧ ts.length ≤ maxLen :=
  open_rows 49 8 (by omega) cells_tra (fun o : Tra => [.int .i64 o.size, .int .u32 o.va, .int .u64 o.pa, .int .i64 o.dom, .int .i64 o.ap, .int .u32 o.bits, .bool o.ng, .bool o.xn]) _ ⟨0, 0, 0, 0, 0, 0, false, false⟩ (fun h => tra_cells h) (fun _ => rfl) Tryd.underlying41 h
end Go.Proofs.YtmodcbdgnmjkoabDoor
