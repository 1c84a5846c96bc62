import Derived.Test.YtbbnodhpafiplaaDoorHe1
namespace Go.Proofs.YtbbnodhpafiplaaDoor
open Go.RowKit
set_option linter.unusedVariables false
set_option linter.unusedSimpArgs false
set_option maxRecDepth 100000 in
theorem vsmall_any (f : Bool) (w : World) : Calls Tryd.prog 52 #[.bool f] w fun e w' => e = .returned (.int .i64 (if f = true then 1 else 2)) ∧ w = w' := by
  cases f
  · go_enter Tryd.func52, Tryd.ntmps52
    go_wp2
    go_ret
    exact ⟨rfl, rfl⟩
  · go_enter Tryd.func52, Tryd.ntmps52
    go_wp2
    go_ret
    exact ⟨rfl, rfl⟩
set_option maxRecDepth 100000 in
theorem vmany_any (n : Nat) (w : World) : Calls Tryd.prog 55 #[.int .i64 (n : Int)] w fun e w' => e = .returned (.int .i64 ((min n 2 : Nat) : Int)) ∧ Below w.heap.size w w' := by
  by_cases h : 2 < n
  · have h4 := hidW (show ((min n 2 : Nat) : Int) = 2 by omega)
    have h5 : (2 : Int) < (n : Int) := by omega
    go_enter Tryd.func55, Tryd.ntmps55
    go_wp2
    go_ret
    exact ⟨by rw [h4.out]; rfl, Below.refl _ _⟩
  · have h4 := hidW (show ((min n 2 : Nat) : Int) = n by omega)
    have h5 : ¬ (2 : Int) < (n : Int) := by omega
    go_enter Tryd.func55, Tryd.ntmps55
    go_wp2
    go_ret
    exact ⟨by rw [h4.out]; rfl, Below.refl _ _⟩
/-- Find: the result's box. -/
structure G0 (W wr : World) (A : Ad) (X : Hi) (B0 : Nat) : Prop where
  trn : Turn A.S W wr
  ph : PH 93 89 [.pointer none] wr A X
  br : Bl wr B0 38 [.int .i64 0, .int .i64 0, .int .u32 0, .int .u64 0, .int .i64 0, .int .i64 0, .int .u32 0, .bool false, .bool false]
  h0 : W.heap.size ≤ B0
/-- And what both have found. -/
structure GF (W wr : World) (A : Ad) (X : Hi) (B0 B3 B4 : Nat) (a k : Blo) : Prop where
  g0 : G0 W wr A X B0
  b3 : Bl wr B3 38 ([.int .i64 a.asid, .int .i64 a.t.size, .int .u32 a.t.va, .int .u64 a.t.pa, .int .i64 a.t.dom, .int .i64 a.t.ap, .int .u32 a.t.bits, .bool a.t.ng, .bool a.t.xn])
  b4 : Bl wr B4 38 ([.int .i64 k.asid, .int .i64 k.t.size, .int .u32 k.t.va, .int .u64 k.t.pa, .int .i64 k.t.dom, .int .i64 k.t.ap, .int .u32 k.t.bits, .bool k.t.ng, .bool k.t.xn])
  n3 : B3 ≠ B0
  n4 : B4 ≠ B0
section
variable {W wr w' : World} {A : Ad} {X Y : Hi} {B0 B3 B4 : Nat} {a k : Blo} {S : Nat → Prop}
theorem G0.step (h : G0 W wr A X B0) (hb : Below wr.heap.size wr w') : G0 W w' A X B0 := ⟨h.trn.then (Turn.below hb), h.ph.below hb, h.br.below hb, h.h0⟩
theorem G0.start (h : PH 93 89 [.pointer none] W A X) : G0 W (W.alloc (.cells ([.int .i64 0, .int .i64 0, .int .u32 0, .int .u64 0, .int .i64 0, .int .i64 0, .int .u32 0, .bool false, .bool false]).toArray 38)) A X W.heap.size := ⟨Turn.below (below_new _ _), h.below (below_new _ _), Bl.new _ _ _, Nat.le_refl _⟩
theorem GF.step (h : GF W wr A X B0 B3 B4 a k) (hb : Below wr.heap.size wr w') : GF W w' A X B0 B3 B4 a k := ⟨h.g0.step hb, h.b3.below hb, h.b4.below hb, h.n3, h.n4⟩
theorem GF.drew (h : GF W wr A X B0 B3 B4 a k) : GF W wr.drew A X B0 B3 B4 a k := h.step (below_drew (Below.refl _ _))
theorem GF.turn (h : GF W wr A X B0 B3 B4 a k) (hp : PH 93 89 [.pointer none] w' A Y) (hT : Turn S wr w') (hS : ∀ x, S x → A.S x) : GF W w' A Y B0 B3 B4 a k := by
  have f : ∀ {p : Nat} {t : TypeId} {c : List Value}, Bl wr p t c → t ≠ 57 → ¬ S p := fun hq ht hs => by
    obtain ⟨c, hc⟩ := h.g0.ph.row _ (hS _ hs)
    exact hq.ne hc ht rfl
  exact ⟨⟨h.g0.trn.trans hT (fun x hx => .inl (hS x hx)), hp, h.g0.br.turn hT (f h.g0.br (by decide)), h.g0.h0⟩, h.b3.turn hT (f h.b3 (by decide)), h.b4.turn hT (f h.b4 (by decide)), h.n3, h.n4⟩
theorem GF.cells3 (h : GF W wr A X B0 B3 B4 a k) : wr.cell? ⟨B3, 0, none⟩ = some (.int .i64 a.asid) ∧ wr.cell? ⟨B3, 1, none⟩ = some (.int .i64 a.t.size) ∧ wr.cell? ⟨B3, 2, none⟩ = some (.int .u32 a.t.va) ∧ wr.cell? ⟨B3, 3, none⟩ = some (.int .u64 a.t.pa) ∧ wr.cell? ⟨B3, 4, none⟩ = some (.int .i64 a.t.dom) ∧ wr.cell? ⟨B3, 5, none⟩ = some (.int .i64 a.t.ap) ∧ wr.cell? ⟨B3, 6, none⟩ = some (.int .u32 a.t.bits) ∧ wr.cell? ⟨B3, 7, none⟩ = some (.bool a.t.ng) ∧ wr.cell? ⟨B3, 8, none⟩ = some (.bool a.t.xn) := ⟨h.b3.cell 0, h.b3.cell 1, h.b3.cell 2, h.b3.cell 3, h.b3.cell 4, h.b3.cell 5, h.b3.cell 6, h.b3.cell 7, h.b3.cell 8⟩
theorem GF.cells4 (h : GF W wr A X B0 B3 B4 a k) : wr.cell? ⟨B4, 0, none⟩ = some (.int .i64 k.asid) ∧ wr.cell? ⟨B4, 1, none⟩ = some (.int .i64 k.t.size) ∧ wr.cell? ⟨B4, 2, none⟩ = some (.int .u32 k.t.va) ∧ wr.cell? ⟨B4, 3, none⟩ = some (.int .u64 k.t.pa) ∧ wr.cell? ⟨B4, 4, none⟩ = some (.int .i64 k.t.dom) ∧ wr.cell? ⟨B4, 5, none⟩ = some (.int .i64 k.t.ap) ∧ wr.cell? ⟨B4, 6, none⟩ = some (.int .u32 k.t.bits) ∧ wr.cell? ⟨B4, 7, none⟩ = some (.bool k.t.ng) ∧ wr.cell? ⟨B4, 8, none⟩ = some (.bool k.t.xn) := ⟨h.b4.cell 0, h.b4.cell 1, h.b4.cell 2, h.b4.cell 3, h.b4.cell 4, h.b4.cell 5, h.b4.cell 6, h.b4.cell 7, h.b4.cell 8⟩
theorem GF.ends (h : GF W wr A X B0 B3 B4 a k) (c : Blo) : PH 93 89 [.pointer none] (((((((((wr.setCell ⟨B0, 0, none⟩ (.int .i64 c.asid)).setCell ⟨B0, 1, none⟩ (.int .i64 c.t.size)).setCell ⟨B0, 2, none⟩ (.int .u32 c.t.va)).setCell ⟨B0, 3, none⟩ (.int .u64 c.t.pa)).setCell ⟨B0, 4, none⟩ (.int .i64 c.t.dom)).setCell ⟨B0, 5, none⟩ (.int .i64 c.t.ap)).setCell ⟨B0, 6, none⟩ (.int .u32 c.t.bits)).setCell ⟨B0, 7, none⟩ (.bool c.t.ng)).setCell ⟨B0, 8, none⟩ (.bool c.t.xn)) A X ∧ Turn A.S W (((((((((wr.setCell ⟨B0, 0, none⟩ (.int .i64 c.asid)).setCell ⟨B0, 1, none⟩ (.int .i64 c.t.size)).setCell ⟨B0, 2, none⟩ (.int .u32 c.t.va)).setCell ⟨B0, 3, none⟩ (.int .u64 c.t.pa)).setCell ⟨B0, 4, none⟩ (.int .i64 c.t.dom)).setCell ⟨B0, 5, none⟩ (.int .i64 c.t.ap)).setCell ⟨B0, 6, none⟩ (.int .u32 c.t.bits)).setCell ⟨B0, 7, none⟩ (.bool c.t.ng)).setCell ⟨B0, 8, none⟩ (.bool c.t.xn)) := by
  have hT := turn_setB wr B0 c
  have h0 := h.g0.h0
  exact ⟨h.g0.ph.setB h.g0.br (by decide) (by decide) c, h.g0.trn.trans hT (fun x hx => .inr (by have hx : x = B0 := hx; omega))⟩
theorem GF.set3 (h : GF W wr A X B0 B3 B4 a k) (c : Blo) : ∀ v, v = (((((((((wr.setCell ⟨B0, 0, none⟩ (.int .i64 c.asid)).setCell ⟨B0, 1, none⟩ (.int .i64 c.t.size)).setCell ⟨B0, 2, none⟩ (.int .u32 c.t.va)).setCell ⟨B0, 3, none⟩ (.int .u64 c.t.pa)).setCell ⟨B0, 4, none⟩ (.int .i64 c.t.dom)).setCell ⟨B0, 5, none⟩ (.int .i64 c.t.ap)).setCell ⟨B0, 6, none⟩ (.int .u32 c.t.bits)).setCell ⟨B0, 7, none⟩ (.bool c.t.ng)).setCell ⟨B0, 8, none⟩ (.bool c.t.xn)) → v.cell? ⟨B3, 0, none⟩ = some (.int .i64 a.asid) ∧ v.cell? ⟨B3, 1, none⟩ = some (.int .i64 a.t.size) ∧ v.cell? ⟨B3, 2, none⟩ = some (.int .u32 a.t.va) ∧ v.cell? ⟨B3, 3, none⟩ = some (.int .u64 a.t.pa) ∧ v.cell? ⟨B3, 4, none⟩ = some (.int .i64 a.t.dom) ∧ v.cell? ⟨B3, 5, none⟩ = some (.int .i64 a.t.ap) ∧ v.cell? ⟨B3, 6, none⟩ = some (.int .u32 a.t.bits) ∧ v.cell? ⟨B3, 7, none⟩ = some (.bool a.t.ng) ∧ v.cell? ⟨B3, 8, none⟩ = some (.bool a.t.xn) := by
  rintro v rfl
  have h1 := h.b3.turn (turn_setB wr B0 c) h.n3
  exact ⟨h1.cell 0, h1.cell 1, h1.cell 2, h1.cell 3, h1.cell 4, h1.cell 5, h1.cell 6, h1.cell 7, h1.cell 8⟩
theorem GF.set4 (h : GF W wr A X B0 B3 B4 a k) (c : Blo) : ∀ v, v = (((((((((wr.setCell ⟨B0, 0, none⟩ (.int .i64 c.asid)).setCell ⟨B0, 1, none⟩ (.int .i64 c.t.size)).setCell ⟨B0, 2, none⟩ (.int .u32 c.t.va)).setCell ⟨B0, 3, none⟩ (.int .u64 c.t.pa)).setCell ⟨B0, 4, none⟩ (.int .i64 c.t.dom)).setCell ⟨B0, 5, none⟩ (.int .i64 c.t.ap)).setCell ⟨B0, 6, none⟩ (.int .u32 c.t.bits)).setCell ⟨B0, 7, none⟩ (.bool c.t.ng)).setCell ⟨B0, 8, none⟩ (.bool c.t.xn)) → v.cell? ⟨B4, 0, none⟩ = some (.int .i64 k.asid) ∧ v.cell? ⟨B4, 1, none⟩ = some (.int .i64 k.t.size) ∧ v.cell? ⟨B4, 2, none⟩ = some (.int .u32 k.t.va) ∧ v.cell? ⟨B4, 3, none⟩ = some (.int .u64 k.t.pa) ∧ v.cell? ⟨B4, 4, none⟩ = some (.int .i64 k.t.dom) ∧ v.cell? ⟨B4, 5, none⟩ = some (.int .i64 k.t.ap) ∧ v.cell? ⟨B4, 6, none⟩ = some (.int .u32 k.t.bits) ∧ v.cell? ⟨B4, 7, none⟩ = some (.bool k.t.ng) ∧ v.cell? ⟨B4, 8, none⟩ = some (.bool k.t.xn) := by
  rintro v rfl
  have h1 := h.b4.turn (turn_setB wr B0 c) h.n4
  exact ⟨h1.cell 0, h1.cell 1, h1.cell 2, h1.cell 3, h1.cell 4, h1.cell 5, h1.cell 6, h1.cell 7, h1.cell 8⟩
end
set_option maxRecDepth 100000 in
set_option maxHeartbeats 8000000 in
theorem vfind_true_true_a (W : World) (A : Ad) (X : Hi) (va asid pick : Int) (h : PH 93 89 [.pointer none] W A X) (hv : 0 ≤ va ∧ va < 4294967296) (hc : (lkF X.m va asid).2 = 0) :
    Calls Tryd.prog 41 #[.pointer (some ⟨A.h, 0, none⟩), .int .u32 va, .int .i64 asid, .bool true, .int .i64 pick, .bool true] W fun e w' => e = .returned (.tuple #[.agg #[.int .i64 ((lkF X.i va asid).1).asid, .int .i64 ((lkF X.i va asid).1).t.size, .int .u32 ((lkF X.i va asid).1).t.va, .int .u64 ((lkF X.i va asid).1).t.pa, .int .i64 ((lkF X.i va asid).1).t.dom, .int .i64 ((lkF X.i va asid).1).t.ap, .int .u32 ((lkF X.i va asid).1).t.bits, .bool ((lkF X.i va asid).1).t.ng, .bool ((lkF X.i va asid).1).t.xn], .int .i64 ((min (lkF X.i va asid).2 2 : Nat) : Int)]) ∧ PH 93 89 [.pointer none] w' A X ∧ Turn A.S W w' := by
  have HX := hidW (G0.start h)
  have HS := vsmall_any true
  have HK : Hid (∀ w, PH 93 89 [.pointer none] w A X → Calls Tryd.prog 53 #[.pointer (some ⟨A.pi, 0, none⟩), .int .u32 va, .int .i64 asid] w fun e w' => e = .returned (.tuple #[.agg #[.int .i64 ((lkF X.i va asid).1).asid, .int .i64 ((lkF X.i va asid).1).t.size, .int .u32 ((lkF X.i va asid).1).t.va, .int .u64 ((lkF X.i va asid).1).t.pa, .int .i64 ((lkF X.i va asid).1).t.dom, .int .i64 ((lkF X.i va asid).1).t.ap, .int .u32 ((lkF X.i va asid).1).t.bits, .bool ((lkF X.i va asid).1).t.ng, .bool ((lkF X.i va asid).1).t.xn], .int .i64 ((lkF X.i va asid).2 : Nat)]) ∧ Below w.heap.size w w') := fun w k => ulook_any w _ _ X.i va asid k.ti hv
  have HL : Hid (∀ w, PH 93 89 [.pointer none] w A X → Calls Tryd.prog 53 #[.pointer (some ⟨A.pm, 0, none⟩), .int .u32 va, .int .i64 asid] w fun e w' => e = .returned (.tuple #[.agg #[.int .i64 ((lkF X.m va asid).1).asid, .int .i64 ((lkF X.m va asid).1).t.size, .int .u32 ((lkF X.m va asid).1).t.va, .int .u64 ((lkF X.m va asid).1).t.pa, .int .i64 ((lkF X.m va asid).1).t.dom, .int .i64 ((lkF X.m va asid).1).t.ap, .int .u32 ((lkF X.m va asid).1).t.bits, .bool ((lkF X.m va asid).1).t.ng, .bool ((lkF X.m va asid).1).t.xn], .int .i64 ((lkF X.m va asid).2 : Nat)]) ∧ Below w.heap.size w w') := fun w k => ulook_any w _ _ X.m va asid k.tm hv
  have HM := hidW vmany_any
  clear h
  generalize (lkF X.i va asid) = R at *
  generalize (lkF X.m va asid) = R2 at *
  obtain ⟨ab, an⟩ := R
  obtain ⟨kb, kn⟩ := R2
  dsimp only at *
  obtain rfl : kn = 0 := hc
  go_enter Tryd.func41, Tryd.ntmps41
  go_wp2_with (go_at_call 52; refine (HS _).mono ?_; rintro e w' ⟨rfl, rfl⟩; simp only [if_true, if_false, Bool.false_eq_true]; have c0 := HX.out.ph.box.cell 1)
  go_at_call 53
  refine (HK.out _ HX.out.ph).mono ?_
  rintro e w1 ⟨rfl, hb⟩
  have HA := hidW (Bl.new w1 38 ([.int .i64 ab.asid, .int .i64 ab.t.size, .int .u32 ab.t.va, .int .u64 ab.t.pa, .int .i64 ab.t.dom, .int .i64 ab.t.ap, .int .u32 ab.t.bits, .bool ab.t.ng, .bool ab.t.xn]))
  replace HX := hidW ((HX.out.step hb).step (below_new _ (.cells ([.int .i64 ab.asid, .int .i64 ab.t.size, .int .u32 ab.t.va, .int .u64 ab.t.pa, .int .i64 ab.t.dom, .int .i64 ab.t.ap, .int .u32 ab.t.bits, .bool ab.t.ng, .bool ab.t.xn]).toArray 38)))
  have HN3 : Hid (w1.heap.size ≠ W.heap.size) := hidW (by have := hb.size; simp at this; omega)
  clear hb HK
  generalize hA : W.heap.size = B0 at HX HN3 ⊢
  clear hA
  have c3 := HX.out.ph.box.cell 3
  go_wp2_with (fail)
  go_at_call 53
  generalize World.alloc _ _ = w2 at *
  generalize w1.heap.size = B3 at *
  refine (HL.out _ HX.out.ph).mono ?_
  rintro e w3 ⟨rfl, hb⟩
  replace HX := hidW (HX.out.step hb)
  replace HA := hidW (HA.out.below hb)
  have HN4 : Hid (w3.heap.size ≠ B0) := hidW (Nat.ne_of_gt HX.out.br.lt)
  have HX2 : Hid (GF W (w3.alloc (.cells ([.int .i64 kb.asid, .int .i64 kb.t.size, .int .u32 kb.t.va, .int .u64 kb.t.pa, .int .i64 kb.t.dom, .int .i64 kb.t.ap, .int .u32 kb.t.bits, .bool kb.t.ng, .bool kb.t.xn]).toArray 38)) A X B0 B3 w3.heap.size ab kb) := hidW ⟨HX.out.step (below_new _ _), HA.out.below (below_new _ _), Bl.new _ _ _, HN3.out, HN4.out⟩
  clear hb HL HX HA c3 HN3 HN4
  try clear c0
  have HX := HX2
  clear HX2
  go_wp2
  generalize World.alloc _ _ = w4 at *
  generalize w3.heap.size = B4 at *
  replace HX := hidW HX.out.drew
  refine wp_region_held_drew (S := fun w' => w'.cell? ⟨B3, 0, none⟩ = some (.int .i64 ab.asid) ∧ w'.cell? ⟨B3, 1, none⟩ = some (.int .i64 ab.t.size) ∧ w'.cell? ⟨B3, 2, none⟩ = some (.int .u32 ab.t.va) ∧ w'.cell? ⟨B3, 3, none⟩ = some (.int .u64 ab.t.pa) ∧ w'.cell? ⟨B3, 4, none⟩ = some (.int .i64 ab.t.dom) ∧ w'.cell? ⟨B3, 5, none⟩ = some (.int .i64 ab.t.ap) ∧ w'.cell? ⟨B3, 6, none⟩ = some (.int .u32 ab.t.bits) ∧ w'.cell? ⟨B3, 7, none⟩ = some (.bool ab.t.ng) ∧ w'.cell? ⟨B3, 8, none⟩ = some (.bool ab.t.xn)) (by kernel_rfl) HX.out.cells3 (fun hHeld => ?_)
  refine wpAnyH_take (i := 0) (oi := { dst := some 75, op := Op.load 38 (Operand.tmp 15), type := 38, pos := _, after := #[], guard := none }) (v := ?_) rfl (by kernel_rfl) (by kernel_rfl) (by kernel_rfl) (fun _ _ _ h => h) (Or.inl ⟨by rfl, ?_⟩) (by assumption) ?_
  rotate_left
  · (intro w hSw; (try dsimp only at hSw); go_simp; try with_reducible rfl)
  simp only [Act.put, List.setIfInBounds_toArray, List.set_cons_zero, List.set_cons_succ]
  refine wpAnyH_take (i := 1) (oi := { dst := some 76, op := Op.move (Operand.tmp 16), type := 3, pos := _, after := #[], guard := none }) (v := ?_) rfl (by kernel_rfl) (by kernel_rfl) (by kernel_rfl) (fun _ _ _ h => h) (Or.inl ⟨by rfl, ?_⟩) (by assumption) ?_
  rotate_left
  · (intro w hSw; (try dsimp only at hSw); go_simp; try with_reducible rfl)
  simp only [Act.put, List.setIfInBounds_toArray, List.set_cons_zero, List.set_cons_succ]
  refine wpAnyH_ready (rs := [2]) (by kernel_rfl) (by simp) ?_
  refine AllReadyH.cons (o := { dst := some 77, op := Op.call { callee := Callee.value (Operand.func 55), args := #[Operand.tmp 76], argTypes := #[3] }, type := 3, pos := _, after := #[{ on := 1, ground := Ground.data }], guard := none }) rfl (fun K hK => ?_) AllReadyH.nil
  go_simp
  (go_at_call 55; refine (HM.out _ _).mono ?_; rintro e w9 ⟨rfl, hb⟩; replace HX := hidW (HX.out.step hb); clear hb; have r1 := HX.out.g0.br.cell; have r2 := HX.out.g0.br.frozen; have r3 := HX.out.g0.br.lt; go_wp2_with fail)
  refine hK.out _ _ ?_ (fun hHeld => ?_)
  · ((try dsimp only); with_reducible exact HX.out.cells3)
  clear hK K
  try simp only [Act.put, List.setIfInBounds_toArray, List.set_cons_zero, List.set_cons_succ]
  refine wpAnyH_ready (rs := [3]) (by kernel_rfl) (by simp) ?_
  refine AllReadyH.cons (o := { dst := none, op := Op.store 38 (Operand.tmp 12) (Operand.tmp 75), type := 0, pos := _, after := #[{ on := 0, ground := Ground.data }, { on := 2, ground := Ground.chain }, { on := 0, ground := Ground.phase }, { on := 1, ground := Ground.textOnly Departure.lateStores }, { on := 2, ground := Ground.textOnly Departure.lateStoresUnsure }], guard := none }) rfl (fun K hK => ?_) AllReadyH.nil
  go_simp
  skip
  refine hK.out _ _ ?_ (fun hHeld => ?_)
  · ((try dsimp only); with_reducible exact HX.out.set3 ab _ rfl)
  clear hK K
  try simp only [Act.put, List.setIfInBounds_toArray, List.set_cons_zero, List.set_cons_succ]
  refine wpAnyH_take (i := 4) (oi := { dst := some 13, op := Op.assign (Operand.tmp 77), type := 3, pos := _, after := #[{ on := 2, ground := Ground.data }, { on := 3, ground := Ground.chain }, { on := 0, ground := Ground.phase }, { on := 1, ground := Ground.phase }, { on := 2, ground := Ground.phase }, { on := 3, ground := Ground.phase }], guard := none }) (v := ?_) rfl (by kernel_rfl) (by kernel_rfl) (by kernel_rfl) (fun _ _ _ h => h) (Or.inl ⟨by rfl, ?_⟩) (by assumption) ?_
  rotate_left
  · (intro w hSw; (try dsimp only at hSw); go_simp; try with_reducible rfl)
  simp only [Act.put, List.setIfInBounds_toArray, List.set_cons_zero, List.set_cons_succ]
  refine wpAnyH_done (by kernel_rfl) ?_ _
  clear hHeld
  go_wp2
  refine bodyPost_ret (v := .tuple #[.agg #[.int .i64 ab.asid, .int .i64 ab.t.size, .int .u32 ab.t.va, .int .u64 ab.t.pa, .int .i64 ab.t.dom, .int .i64 ab.t.ap, .int .u32 ab.t.bits, .bool ab.t.ng, .bool ab.t.xn], .int .i64 ((min an 2 : Nat) : Int)]) (by simp [results, Tryd.results41, go_sem, r1, r2, r3]) rfl ⟨rfl, ?_⟩
  exact HX.out.ends ab
set_option maxRecDepth 100000 in
set_option maxHeartbeats 8000000 in
theorem vfind_true_true_p (W : World) (A : Ad) (X : Hi) (va asid pick : Int) (h : PH 93 89 [.pointer none] W A X) (hv : 0 ≤ va ∧ va < 4294967296) (hc : (lkF X.m va asid).2 = 1 ∧ (lkF X.i va asid).2 = 0) :
    Calls Tryd.prog 41 #[.pointer (some ⟨A.h, 0, none⟩), .int .u32 va, .int .i64 asid, .bool true, .int .i64 pick, .bool true] W fun e w' => e = .returned (.tuple #[.agg #[.int .i64 ((lkF X.m va asid).1).asid, .int .i64 ((lkF X.m va asid).1).t.size, .int .u32 ((lkF X.m va asid).1).t.va, .int .u64 ((lkF X.m va asid).1).t.pa, .int .i64 ((lkF X.m va asid).1).t.dom, .int .i64 ((lkF X.m va asid).1).t.ap, .int .u32 ((lkF X.m va asid).1).t.bits, .bool ((lkF X.m va asid).1).t.ng, .bool ((lkF X.m va asid).1).t.xn], .int .i64 ((min (lkF X.m va asid).2 2 : Nat) : Int)]) ∧ PH 93 89 [.pointer none] w' A ⟨(puF X.i (lkF X.m va asid).1 pick).2, X.d, X.m⟩ ∧ Turn A.S W w' := by
  have HX := hidW (G0.start h)
  have HS := vsmall_any true
  have HK : Hid (∀ w, PH 93 89 [.pointer none] w A X → Calls Tryd.prog 53 #[.pointer (some ⟨A.pi, 0, none⟩), .int .u32 va, .int .i64 asid] w fun e w' => e = .returned (.tuple #[.agg #[.int .i64 ((lkF X.i va asid).1).asid, .int .i64 ((lkF X.i va asid).1).t.size, .int .u32 ((lkF X.i va asid).1).t.va, .int .u64 ((lkF X.i va asid).1).t.pa, .int .i64 ((lkF X.i va asid).1).t.dom, .int .i64 ((lkF X.i va asid).1).t.ap, .int .u32 ((lkF X.i va asid).1).t.bits, .bool ((lkF X.i va asid).1).t.ng, .bool ((lkF X.i va asid).1).t.xn], .int .i64 ((lkF X.i va asid).2 : Nat)]) ∧ Below w.heap.size w w') := fun w k => ulook_any w _ _ X.i va asid k.ti hv
  have HL : Hid (∀ w, PH 93 89 [.pointer none] w A X → Calls Tryd.prog 53 #[.pointer (some ⟨A.pm, 0, none⟩), .int .u32 va, .int .i64 asid] w fun e w' => e = .returned (.tuple #[.agg #[.int .i64 ((lkF X.m va asid).1).asid, .int .i64 ((lkF X.m va asid).1).t.size, .int .u32 ((lkF X.m va asid).1).t.va, .int .u64 ((lkF X.m va asid).1).t.pa, .int .i64 ((lkF X.m va asid).1).t.dom, .int .i64 ((lkF X.m va asid).1).t.ap, .int .u32 ((lkF X.m va asid).1).t.bits, .bool ((lkF X.m va asid).1).t.ng, .bool ((lkF X.m va asid).1).t.xn], .int .i64 ((lkF X.m va asid).2 : Nat)]) ∧ Below w.heap.size w w') := fun w k => ulook_any w _ _ X.m va asid k.tm hv
  have HM := hidW vmany_any
  have hbo := lkF_ok h.tm.ok va asid
  have HU : Hid (∀ w, PH 93 89 [.pointer none] w A X → Calls Tryd.prog 54 #[.pointer (some ⟨A.pi, 0, none⟩), .agg #[.int .i64 ((lkF X.m va asid).1).asid, .int .i64 ((lkF X.m va asid).1).t.size, .int .u32 ((lkF X.m va asid).1).t.va, .int .u64 ((lkF X.m va asid).1).t.pa, .int .i64 ((lkF X.m va asid).1).t.dom, .int .i64 ((lkF X.m va asid).1).t.ap, .int .u32 ((lkF X.m va asid).1).t.bits, .bool ((lkF X.m va asid).1).t.ng, .bool ((lkF X.m va asid).1).t.xn], .int .i64 pick] w fun e w' => e = .returned (.tuple #[.int .i64 ((puF X.i (lkF X.m va asid).1 pick).1.1 : Nat), .int .i64 (puF X.i (lkF X.m va asid).1 pick).1.2]) ∧ PH 93 89 [.pointer none] w' A ⟨(puF X.i (lkF X.m va asid).1 pick).2, X.d, X.m⟩ ∧ Turn (· = A.gi) w w') := fun w k => (uput_any w _ _ X.i _ pick k.ti hbo).mono fun e w' q => ⟨q.1, k.setI q.2.1 q.2.2, q.2.2⟩
  clear hbo
  generalize (puF X.i (lkF X.m va asid).1 pick) = Q at *
  obtain ⟨⟨qi, qe⟩, ql⟩ := Q
  clear h
  generalize (lkF X.i va asid) = R at *
  generalize (lkF X.m va asid) = R2 at *
  obtain ⟨ab, an⟩ := R
  obtain ⟨kb, kn⟩ := R2
  dsimp only at *
  obtain ⟨rfl, rfl⟩ := hc
  go_enter Tryd.func41, Tryd.ntmps41
  go_wp2_with (go_at_call 52; refine (HS _).mono ?_; rintro e w' ⟨rfl, rfl⟩; simp only [if_true, if_false, Bool.false_eq_true]; have c0 := HX.out.ph.box.cell 1)
  go_at_call 53
  refine (HK.out _ HX.out.ph).mono ?_
  rintro e w1 ⟨rfl, hb⟩
  have HA := hidW (Bl.new w1 38 ([.int .i64 ab.asid, .int .i64 ab.t.size, .int .u32 ab.t.va, .int .u64 ab.t.pa, .int .i64 ab.t.dom, .int .i64 ab.t.ap, .int .u32 ab.t.bits, .bool ab.t.ng, .bool ab.t.xn]))
  replace HX := hidW ((HX.out.step hb).step (below_new _ (.cells ([.int .i64 ab.asid, .int .i64 ab.t.size, .int .u32 ab.t.va, .int .u64 ab.t.pa, .int .i64 ab.t.dom, .int .i64 ab.t.ap, .int .u32 ab.t.bits, .bool ab.t.ng, .bool ab.t.xn]).toArray 38)))
  have HN3 : Hid (w1.heap.size ≠ W.heap.size) := hidW (by have := hb.size; simp at this; omega)
  clear hb HK
  generalize hA : W.heap.size = B0 at HX HN3 ⊢
  clear hA
  have c3 := HX.out.ph.box.cell 3
  go_wp2_with (fail)
  go_at_call 53
  generalize World.alloc _ _ = w2 at *
  generalize w1.heap.size = B3 at *
  refine (HL.out _ HX.out.ph).mono ?_
  rintro e w3 ⟨rfl, hb⟩
  replace HX := hidW (HX.out.step hb)
  replace HA := hidW (HA.out.below hb)
  have HN4 : Hid (w3.heap.size ≠ B0) := hidW (Nat.ne_of_gt HX.out.br.lt)
  have HX2 : Hid (GF W (w3.alloc (.cells ([.int .i64 kb.asid, .int .i64 kb.t.size, .int .u32 kb.t.va, .int .u64 kb.t.pa, .int .i64 kb.t.dom, .int .i64 kb.t.ap, .int .u32 kb.t.bits, .bool kb.t.ng, .bool kb.t.xn]).toArray 38)) A X B0 B3 w3.heap.size ab kb) := hidW ⟨HX.out.step (below_new _ _), HA.out.below (below_new _ _), Bl.new _ _ _, HN3.out, HN4.out⟩
  clear hb HL HX HA c3 HN3 HN4
  try clear c0
  have HX := HX2
  clear HX2
  go_wp2
  generalize World.alloc _ _ = w4 at *
  generalize w3.heap.size = B4 at *
  replace HX := hidW HX.out.drew
  refine wp_region_held_drew (S := fun w' => w'.cell? ⟨A.h, 1, none⟩ = some (.pointer (some ⟨A.pi, 0, none⟩)) ∧ w'.cell? ⟨B4, 0, none⟩ = some (.int .i64 kb.asid) ∧ w'.cell? ⟨B4, 1, none⟩ = some (.int .i64 kb.t.size) ∧ w'.cell? ⟨B4, 2, none⟩ = some (.int .u32 kb.t.va) ∧ w'.cell? ⟨B4, 3, none⟩ = some (.int .u64 kb.t.pa) ∧ w'.cell? ⟨B4, 4, none⟩ = some (.int .i64 kb.t.dom) ∧ w'.cell? ⟨B4, 5, none⟩ = some (.int .i64 kb.t.ap) ∧ w'.cell? ⟨B4, 6, none⟩ = some (.int .u32 kb.t.bits) ∧ w'.cell? ⟨B4, 7, none⟩ = some (.bool kb.t.ng) ∧ w'.cell? ⟨B4, 8, none⟩ = some (.bool kb.t.xn)) (by kernel_rfl) ⟨HX.out.g0.ph.box.cell 1, HX.out.cells4⟩ (fun hHeld => ?_)
  refine wpAnyH_take (i := 0) (oi := { dst := some 63, op := Op.move (Operand.tmp 0), type := 59, pos := _, after := #[], guard := none }) (v := ?_) rfl (by kernel_rfl) (by kernel_rfl) (by kernel_rfl) (fun _ _ _ h => h) (Or.inl ⟨by rfl, ?_⟩) (by assumption) ?_
  rotate_left
  · (intro w hSw; (try dsimp only at hSw); go_simp; try with_reducible rfl)
  simp only [Act.put, List.setIfInBounds_toArray, List.set_cons_zero, List.set_cons_succ]
  refine wpAnyH_take (i := 1) (oi := { dst := some 64, op := Op.move (Operand.tmp 14), type := 3, pos := _, after := #[], guard := none }) (v := ?_) rfl (by kernel_rfl) (by kernel_rfl) (by kernel_rfl) (fun _ _ _ h => h) (Or.inl ⟨by rfl, ?_⟩) (by assumption) ?_
  rotate_left
  · (intro w hSw; (try dsimp only at hSw); go_simp; try with_reducible rfl)
  simp only [Act.put, List.setIfInBounds_toArray, List.set_cons_zero, List.set_cons_succ]
  refine wpAnyH_take (i := 2) (oi := { dst := some 65, op := Op.nilCheck (Operand.tmp 63), type := 0, pos := _, after := #[{ on := 0, ground := Ground.data }], guard := none }) (v := ?_) rfl (by kernel_rfl) (by kernel_rfl) (by kernel_rfl) (fun _ _ _ h => h) (Or.inl ⟨by rfl, ?_⟩) (by assumption) ?_
  rotate_left
  · (intro w hSw; (try dsimp only at hSw); go_simp; try with_reducible rfl)
  simp only [Act.put, List.setIfInBounds_toArray, List.set_cons_zero, List.set_cons_succ]
  refine wpAnyH_take (i := 3) (oi := { dst := some 66, op := Op.fieldAddr 93 (Operand.tmp 65) 0, type := 0, pos := _, after := #[{ on := 2, ground := Ground.data }], guard := none }) (v := ?_) rfl (by kernel_rfl) (by kernel_rfl) (by kernel_rfl) (fun _ _ _ h => h) (Or.inl ⟨by rfl, ?_⟩) (by assumption) ?_
  rotate_left
  · (intro w hSw; (try dsimp only at hSw); go_simp; try with_reducible rfl)
  simp only [Act.put, List.setIfInBounds_toArray, List.set_cons_zero, List.set_cons_succ]
  refine wpAnyH_take (i := 4) (oi := { dst := some 67, op := Op.indexAddr 91 (Operand.tmp 66) (Operand.tmp 64), type := 0, pos := _, after := #[{ on := 3, ground := Ground.data }, { on := 1, ground := Ground.data }], guard := none }) (v := ?_) rfl (by kernel_rfl) (by kernel_rfl) (by kernel_rfl) (fun _ _ _ h => h) (Or.inl ⟨by rfl, ?_⟩) (by assumption) ?_
  rotate_left
  · (intro w hSw; (try dsimp only at hSw); go_simp; try with_reducible rfl)
  simp only [Act.put, List.setIfInBounds_toArray, List.set_cons_zero, List.set_cons_succ]
  refine wpAnyH_take (i := 5) (oi := { dst := some 68, op := Op.load 90 (Operand.tmp 67), type := 90, pos := _, after := #[{ on := 4, ground := Ground.data }], guard := none }) (v := ?_) rfl (by kernel_rfl) (by kernel_rfl) (by kernel_rfl) (fun _ _ _ h => h) (Or.inl ⟨by rfl, ?_⟩) (by assumption) ?_
  rotate_left
  · (intro w hSw; (try dsimp only at hSw); go_simp; try with_reducible rfl)
  simp only [Act.put, List.setIfInBounds_toArray, List.set_cons_zero, List.set_cons_succ]
  refine wpAnyH_take (i := 6) (oi := { dst := some 69, op := Op.load 38 (Operand.tmp 17), type := 38, pos := _, after := #[], guard := none }) (v := ?_) rfl (by kernel_rfl) (by kernel_rfl) (by kernel_rfl) (fun _ _ _ h => h) (Or.inl ⟨by rfl, ?_⟩) (by assumption) ?_
  rotate_left
  · (intro w hSw; (try dsimp only at hSw); go_simp; try with_reducible rfl)
  simp only [Act.put, List.setIfInBounds_toArray, List.set_cons_zero, List.set_cons_succ]
  refine wpAnyH_take (i := 7) (oi := { dst := some 70, op := Op.move (Operand.tmp 4), type := 3, pos := _, after := #[], guard := none }) (v := ?_) rfl (by kernel_rfl) (by kernel_rfl) (by kernel_rfl) (fun _ _ _ h => h) (Or.inl ⟨by rfl, ?_⟩) (by assumption) ?_
  rotate_left
  · (intro w hSw; (try dsimp only at hSw); go_simp; try with_reducible rfl)
  simp only [Act.put, List.setIfInBounds_toArray, List.set_cons_zero, List.set_cons_succ]
  refine wpAnyH_ready (rs := [8]) (by kernel_rfl) (by simp) ?_
  refine AllReadyH.cons (o := { dst := some 71, op := Op.call { callee := Callee.value (Operand.func 54), args := #[Operand.tmp 68, Operand.tmp 69, Operand.tmp 70], argTypes := #[90, 38, 3] }, type := 109, pos := _, after := #[{ on := 5, ground := Ground.data }, { on := 6, ground := Ground.data }, { on := 7, ground := Ground.data }], guard := none }) rfl (fun K hK => ?_) AllReadyH.nil
  go_simp
  (go_at_call 54; refine (HU.out _ HX.out.g0.ph).mono ?_; rintro e w5 ⟨rfl, hp, hT⟩; replace HX := hidW (HX.out.turn hp hT (fun x hx => .inl hx)); clear hp hT HU; go_wp2_with fail)
  refine hK.out _ _ ?_ (fun hHeld => ?_)
  · ((try dsimp only); exact ⟨HX.out.g0.ph.box.cell 1, HX.out.cells4⟩)
  clear hK K
  try simp only [Act.put, List.setIfInBounds_toArray, List.set_cons_zero, List.set_cons_succ]
  refine wpAnyH_done (by kernel_rfl) ?_ _
  clear hHeld
  go_wp2
  replace HX := hidW HX.out.drew
  refine wp_region_held_drew (S := fun w' => w'.cell? ⟨B4, 0, none⟩ = some (.int .i64 kb.asid) ∧ w'.cell? ⟨B4, 1, none⟩ = some (.int .i64 kb.t.size) ∧ w'.cell? ⟨B4, 2, none⟩ = some (.int .u32 kb.t.va) ∧ w'.cell? ⟨B4, 3, none⟩ = some (.int .u64 kb.t.pa) ∧ w'.cell? ⟨B4, 4, none⟩ = some (.int .i64 kb.t.dom) ∧ w'.cell? ⟨B4, 5, none⟩ = some (.int .i64 kb.t.ap) ∧ w'.cell? ⟨B4, 6, none⟩ = some (.int .u32 kb.t.bits) ∧ w'.cell? ⟨B4, 7, none⟩ = some (.bool kb.t.ng) ∧ w'.cell? ⟨B4, 8, none⟩ = some (.bool kb.t.xn)) (by kernel_rfl) HX.out.cells4 (fun hHeld => ?_)
  refine wpAnyH_take (i := 0) (oi := { dst := some 72, op := Op.load 38 (Operand.tmp 17), type := 38, pos := _, after := #[], guard := none }) (v := ?_) rfl (by kernel_rfl) (by kernel_rfl) (by kernel_rfl) (fun _ _ _ h => h) (Or.inl ⟨by rfl, ?_⟩) (by assumption) ?_
  rotate_left
  · (intro w hSw; (try dsimp only at hSw); go_simp; try with_reducible rfl)
  simp only [Act.put, List.setIfInBounds_toArray, List.set_cons_zero, List.set_cons_succ]
  refine wpAnyH_take (i := 1) (oi := { dst := some 73, op := Op.move (Operand.tmp 18), type := 3, pos := _, after := #[], guard := none }) (v := ?_) rfl (by kernel_rfl) (by kernel_rfl) (by kernel_rfl) (fun _ _ _ h => h) (Or.inl ⟨by rfl, ?_⟩) (by assumption) ?_
  rotate_left
  · (intro w hSw; (try dsimp only at hSw); go_simp; try with_reducible rfl)
  simp only [Act.put, List.setIfInBounds_toArray, List.set_cons_zero, List.set_cons_succ]
  refine wpAnyH_ready (rs := [2]) (by kernel_rfl) (by simp) ?_
  refine AllReadyH.cons (o := { dst := some 74, op := Op.call { callee := Callee.value (Operand.func 55), args := #[Operand.tmp 73], argTypes := #[3] }, type := 3, pos := _, after := #[{ on := 1, ground := Ground.data }], guard := none }) rfl (fun K hK => ?_) AllReadyH.nil
  go_simp
  (go_at_call 55; refine (HM.out _ _).mono ?_; rintro e w9 ⟨rfl, hb⟩; replace HX := hidW (HX.out.step hb); clear hb; have r1 := HX.out.g0.br.cell; have r2 := HX.out.g0.br.frozen; have r3 := HX.out.g0.br.lt; go_wp2_with fail)
  refine hK.out _ _ ?_ (fun hHeld => ?_)
  · ((try dsimp only); with_reducible exact HX.out.cells4)
  clear hK K
  try simp only [Act.put, List.setIfInBounds_toArray, List.set_cons_zero, List.set_cons_succ]
  refine wpAnyH_ready (rs := [3]) (by kernel_rfl) (by simp) ?_
  refine AllReadyH.cons (o := { dst := none, op := Op.store 38 (Operand.tmp 12) (Operand.tmp 72), type := 0, pos := _, after := #[{ on := 0, ground := Ground.data }, { on := 2, ground := Ground.chain }, { on := 0, ground := Ground.phase }, { on := 1, ground := Ground.textOnly Departure.lateStores }, { on := 2, ground := Ground.textOnly Departure.lateStoresUnsure }], guard := none }) rfl (fun K hK => ?_) AllReadyH.nil
  go_simp
  skip
  refine hK.out _ _ ?_ (fun hHeld => ?_)
  · ((try dsimp only); with_reducible exact HX.out.set4 kb _ rfl)
  clear hK K
  try simp only [Act.put, List.setIfInBounds_toArray, List.set_cons_zero, List.set_cons_succ]
  refine wpAnyH_take (i := 4) (oi := { dst := some 13, op := Op.assign (Operand.tmp 74), type := 3, pos := _, after := #[{ on := 2, ground := Ground.data }, { on := 3, ground := Ground.chain }, { on := 0, ground := Ground.phase }, { on := 1, ground := Ground.phase }, { on := 2, ground := Ground.phase }, { on := 3, ground := Ground.phase }], guard := none }) (v := ?_) rfl (by kernel_rfl) (by kernel_rfl) (by kernel_rfl) (fun _ _ _ h => h) (Or.inl ⟨by rfl, ?_⟩) (by assumption) ?_
  rotate_left
  · (intro w hSw; (try dsimp only at hSw); go_simp; try with_reducible rfl)
  simp only [Act.put, List.setIfInBounds_toArray, List.set_cons_zero, List.set_cons_succ]
  refine wpAnyH_done (by kernel_rfl) ?_ _
  clear hHeld
  go_wp2
  refine bodyPost_ret (v := .tuple #[.agg #[.int .i64 kb.asid, .int .i64 kb.t.size, .int .u32 kb.t.va, .int .u64 kb.t.pa, .int .i64 kb.t.dom, .int .i64 kb.t.ap, .int .u32 kb.t.bits, .bool kb.t.ng, .bool kb.t.xn], .int .i64 ((min 1 2 : Nat) : Int)]) (by simp [results, Tryd.results41, go_sem, r1, r2, r3]) rfl ⟨rfl, ?_⟩
  exact HX.out.ends kb
set_option maxRecDepth 100000 in
set_option maxHeartbeats 8000000 in
theorem vfind_true_true_k (W : World) (A : Ad) (X : Hi) (va asid pick : Int) (h : PH 93 89 [.pointer none] W A X) (hv : 0 ≤ va ∧ va < 4294967296) (hc : 0 < (lkF X.m va asid).2 ∧ ¬ ((lkF X.m va asid).2 = 1 ∧ (lkF X.i va asid).2 = 0)) :
    Calls Tryd.prog 41 #[.pointer (some ⟨A.h, 0, none⟩), .int .u32 va, .int .i64 asid, .bool true, .int .i64 pick, .bool true] W fun e w' => e = .returned (.tuple #[.agg #[.int .i64 ((lkF X.m va asid).1).asid, .int .i64 ((lkF X.m va asid).1).t.size, .int .u32 ((lkF X.m va asid).1).t.va, .int .u64 ((lkF X.m va asid).1).t.pa, .int .i64 ((lkF X.m va asid).1).t.dom, .int .i64 ((lkF X.m va asid).1).t.ap, .int .u32 ((lkF X.m va asid).1).t.bits, .bool ((lkF X.m va asid).1).t.ng, .bool ((lkF X.m va asid).1).t.xn], .int .i64 ((min (lkF X.m va asid).2 2 : Nat) : Int)]) ∧ PH 93 89 [.pointer none] w' A X ∧ Turn A.S W w' := by
  have HX := hidW (G0.start h)
  have HS := vsmall_any true
  have HK : Hid (∀ w, PH 93 89 [.pointer none] w A X → Calls Tryd.prog 53 #[.pointer (some ⟨A.pi, 0, none⟩), .int .u32 va, .int .i64 asid] w fun e w' => e = .returned (.tuple #[.agg #[.int .i64 ((lkF X.i va asid).1).asid, .int .i64 ((lkF X.i va asid).1).t.size, .int .u32 ((lkF X.i va asid).1).t.va, .int .u64 ((lkF X.i va asid).1).t.pa, .int .i64 ((lkF X.i va asid).1).t.dom, .int .i64 ((lkF X.i va asid).1).t.ap, .int .u32 ((lkF X.i va asid).1).t.bits, .bool ((lkF X.i va asid).1).t.ng, .bool ((lkF X.i va asid).1).t.xn], .int .i64 ((lkF X.i va asid).2 : Nat)]) ∧ Below w.heap.size w w') := fun w k => ulook_any w _ _ X.i va asid k.ti hv
  have HL : Hid (∀ w, PH 93 89 [.pointer none] w A X → Calls Tryd.prog 53 #[.pointer (some ⟨A.pm, 0, none⟩), .int .u32 va, .int .i64 asid] w fun e w' => e = .returned (.tuple #[.agg #[.int .i64 ((lkF X.m va asid).1).asid, .int .i64 ((lkF X.m va asid).1).t.size, .int .u32 ((lkF X.m va asid).1).t.va, .int .u64 ((lkF X.m va asid).1).t.pa, .int .i64 ((lkF X.m va asid).1).t.dom, .int .i64 ((lkF X.m va asid).1).t.ap, .int .u32 ((lkF X.m va asid).1).t.bits, .bool ((lkF X.m va asid).1).t.ng, .bool ((lkF X.m va asid).1).t.xn], .int .i64 ((lkF X.m va asid).2 : Nat)]) ∧ Below w.heap.size w w') := fun w k => ulook_any w _ _ X.m va asid k.tm hv
  have HM := hidW vmany_any
  clear h
  generalize (lkF X.i va asid) = R at *
  generalize (lkF X.m va asid) = R2 at *
  obtain ⟨ab, an⟩ := R
  obtain ⟨kb, kn⟩ := R2
  dsimp only at *
  obtain ⟨h1, h2⟩ := hc
  have q1 : decide ((0 : Int) < (kn : Int)) = true := decide_eq_true (by omega)
  by_cases h3 : kn = 1
  · subst h3
    have h4 : ¬ (an : Int) = 0 := by omega
    go_enter Tryd.func41, Tryd.ntmps41
    go_wp2_with (go_at_call 52; refine (HS _).mono ?_; rintro e w' ⟨rfl, rfl⟩; simp only [if_true, if_false, Bool.false_eq_true]; have c0 := HX.out.ph.box.cell 1)
    go_at_call 53
    refine (HK.out _ HX.out.ph).mono ?_
    rintro e w1 ⟨rfl, hb⟩
    have HA := hidW (Bl.new w1 38 ([.int .i64 ab.asid, .int .i64 ab.t.size, .int .u32 ab.t.va, .int .u64 ab.t.pa, .int .i64 ab.t.dom, .int .i64 ab.t.ap, .int .u32 ab.t.bits, .bool ab.t.ng, .bool ab.t.xn]))
    replace HX := hidW ((HX.out.step hb).step (below_new _ (.cells ([.int .i64 ab.asid, .int .i64 ab.t.size, .int .u32 ab.t.va, .int .u64 ab.t.pa, .int .i64 ab.t.dom, .int .i64 ab.t.ap, .int .u32 ab.t.bits, .bool ab.t.ng, .bool ab.t.xn]).toArray 38)))
    have HN3 : Hid (w1.heap.size ≠ W.heap.size) := hidW (by have := hb.size; simp at this; omega)
    clear hb HK
    generalize hA : W.heap.size = B0 at HX HN3 ⊢
    clear hA
    have c3 := HX.out.ph.box.cell 3
    go_wp2_with (fail)
    go_at_call 53
    generalize World.alloc _ _ = w2 at *
    generalize w1.heap.size = B3 at *
    refine (HL.out _ HX.out.ph).mono ?_
    rintro e w3 ⟨rfl, hb⟩
    replace HX := hidW (HX.out.step hb)
    replace HA := hidW (HA.out.below hb)
    have HN4 : Hid (w3.heap.size ≠ B0) := hidW (Nat.ne_of_gt HX.out.br.lt)
    have HX2 : Hid (GF W (w3.alloc (.cells ([.int .i64 kb.asid, .int .i64 kb.t.size, .int .u32 kb.t.va, .int .u64 kb.t.pa, .int .i64 kb.t.dom, .int .i64 kb.t.ap, .int .u32 kb.t.bits, .bool kb.t.ng, .bool kb.t.xn]).toArray 38)) A X B0 B3 w3.heap.size ab kb) := hidW ⟨HX.out.step (below_new _ _), HA.out.below (below_new _ _), Bl.new _ _ _, HN3.out, HN4.out⟩
    clear hb HL HX HA c3 HN3 HN4
    try clear c0
    have HX := HX2
    clear HX2
    go_wp2
    generalize World.alloc _ _ = w4 at *
    generalize w3.heap.size = B4 at *
    replace HX := hidW HX.out.drew
    refine wp_region_held_drew (S := fun w' => w'.cell? ⟨B4, 0, none⟩ = some (.int .i64 kb.asid) ∧ w'.cell? ⟨B4, 1, none⟩ = some (.int .i64 kb.t.size) ∧ w'.cell? ⟨B4, 2, none⟩ = some (.int .u32 kb.t.va) ∧ w'.cell? ⟨B4, 3, none⟩ = some (.int .u64 kb.t.pa) ∧ w'.cell? ⟨B4, 4, none⟩ = some (.int .i64 kb.t.dom) ∧ w'.cell? ⟨B4, 5, none⟩ = some (.int .i64 kb.t.ap) ∧ w'.cell? ⟨B4, 6, none⟩ = some (.int .u32 kb.t.bits) ∧ w'.cell? ⟨B4, 7, none⟩ = some (.bool kb.t.ng) ∧ w'.cell? ⟨B4, 8, none⟩ = some (.bool kb.t.xn)) (by kernel_rfl) HX.out.cells4 (fun hHeld => ?_)
    refine wpAnyH_take (i := 0) (oi := { dst := some 72, op := Op.load 38 (Operand.tmp 17), type := 38, pos := _, after := #[], guard := none }) (v := ?_) rfl (by kernel_rfl) (by kernel_rfl) (by kernel_rfl) (fun _ _ _ h => h) (Or.inl ⟨by rfl, ?_⟩) (by assumption) ?_
    rotate_left
    · (intro w hSw; (try dsimp only at hSw); go_simp; try with_reducible rfl)
    simp only [Act.put, List.setIfInBounds_toArray, List.set_cons_zero, List.set_cons_succ]
    refine wpAnyH_take (i := 1) (oi := { dst := some 73, op := Op.move (Operand.tmp 18), type := 3, pos := _, after := #[], guard := none }) (v := ?_) rfl (by kernel_rfl) (by kernel_rfl) (by kernel_rfl) (fun _ _ _ h => h) (Or.inl ⟨by rfl, ?_⟩) (by assumption) ?_
    rotate_left
    · (intro w hSw; (try dsimp only at hSw); go_simp; try with_reducible rfl)
    simp only [Act.put, List.setIfInBounds_toArray, List.set_cons_zero, List.set_cons_succ]
    refine wpAnyH_ready (rs := [2]) (by kernel_rfl) (by simp) ?_
    refine AllReadyH.cons (o := { dst := some 74, op := Op.call { callee := Callee.value (Operand.func 55), args := #[Operand.tmp 73], argTypes := #[3] }, type := 3, pos := _, after := #[{ on := 1, ground := Ground.data }], guard := none }) rfl (fun K hK => ?_) AllReadyH.nil
    go_simp
    (go_at_call 55; refine (HM.out _ _).mono ?_; rintro e w9 ⟨rfl, hb⟩; replace HX := hidW (HX.out.step hb); clear hb; have r1 := HX.out.g0.br.cell; have r2 := HX.out.g0.br.frozen; have r3 := HX.out.g0.br.lt; go_wp2_with fail)
    refine hK.out _ _ ?_ (fun hHeld => ?_)
    · ((try dsimp only); with_reducible exact HX.out.cells4)
    clear hK K
    try simp only [Act.put, List.setIfInBounds_toArray, List.set_cons_zero, List.set_cons_succ]
    refine wpAnyH_ready (rs := [3]) (by kernel_rfl) (by simp) ?_
    refine AllReadyH.cons (o := { dst := none, op := Op.store 38 (Operand.tmp 12) (Operand.tmp 72), type := 0, pos := _, after := #[{ on := 0, ground := Ground.data }, { on := 2, ground := Ground.chain }, { on := 0, ground := Ground.phase }, { on := 1, ground := Ground.textOnly Departure.lateStores }, { on := 2, ground := Ground.textOnly Departure.lateStoresUnsure }], guard := none }) rfl (fun K hK => ?_) AllReadyH.nil
    go_simp
    skip
    refine hK.out _ _ ?_ (fun hHeld => ?_)
    · ((try dsimp only); with_reducible exact HX.out.set4 kb _ rfl)
    clear hK K
    try simp only [Act.put, List.setIfInBounds_toArray, List.set_cons_zero, List.set_cons_succ]
    refine wpAnyH_take (i := 4) (oi := { dst := some 13, op := Op.assign (Operand.tmp 74), type := 3, pos := _, after := #[{ on := 2, ground := Ground.data }, { on := 3, ground := Ground.chain }, { on := 0, ground := Ground.phase }, { on := 1, ground := Ground.phase }, { on := 2, ground := Ground.phase }, { on := 3, ground := Ground.phase }], guard := none }) (v := ?_) rfl (by kernel_rfl) (by kernel_rfl) (by kernel_rfl) (fun _ _ _ h => h) (Or.inl ⟨by rfl, ?_⟩) (by assumption) ?_
    rotate_left
    · (intro w hSw; (try dsimp only at hSw); go_simp; try with_reducible rfl)
    simp only [Act.put, List.setIfInBounds_toArray, List.set_cons_zero, List.set_cons_succ]
    refine wpAnyH_done (by kernel_rfl) ?_ _
    clear hHeld
    go_wp2
    refine bodyPost_ret (v := .tuple #[.agg #[.int .i64 kb.asid, .int .i64 kb.t.size, .int .u32 kb.t.va, .int .u64 kb.t.pa, .int .i64 kb.t.dom, .int .i64 kb.t.ap, .int .u32 kb.t.bits, .bool kb.t.ng, .bool kb.t.xn], .int .i64 ((min 1 2 : Nat) : Int)]) (by simp [results, Tryd.results41, go_sem, r1, r2, r3]) rfl ⟨rfl, ?_⟩
    exact HX.out.ends kb
  · have h4 : ¬ (kn : Int) = 1 := by omega
    go_enter Tryd.func41, Tryd.ntmps41
    go_wp2_with (go_at_call 52; refine (HS _).mono ?_; rintro e w' ⟨rfl, rfl⟩; simp only [if_true, if_false, Bool.false_eq_true]; have c0 := HX.out.ph.box.cell 1)
    go_at_call 53
    refine (HK.out _ HX.out.ph).mono ?_
    rintro e w1 ⟨rfl, hb⟩
    have HA := hidW (Bl.new w1 38 ([.int .i64 ab.asid, .int .i64 ab.t.size, .int .u32 ab.t.va, .int .u64 ab.t.pa, .int .i64 ab.t.dom, .int .i64 ab.t.ap, .int .u32 ab.t.bits, .bool ab.t.ng, .bool ab.t.xn]))
    replace HX := hidW ((HX.out.step hb).step (below_new _ (.cells ([.int .i64 ab.asid, .int .i64 ab.t.size, .int .u32 ab.t.va, .int .u64 ab.t.pa, .int .i64 ab.t.dom, .int .i64 ab.t.ap, .int .u32 ab.t.bits, .bool ab.t.ng, .bool ab.t.xn]).toArray 38)))
    have HN3 : Hid (w1.heap.size ≠ W.heap.size) := hidW (by have := hb.size; simp at this; omega)
    clear hb HK
    generalize hA : W.heap.size = B0 at HX HN3 ⊢
    clear hA
    have c3 := HX.out.ph.box.cell 3
    go_wp2_with (fail)
    go_at_call 53
    generalize World.alloc _ _ = w2 at *
    generalize w1.heap.size = B3 at *
    refine (HL.out _ HX.out.ph).mono ?_
    rintro e w3 ⟨rfl, hb⟩
    replace HX := hidW (HX.out.step hb)
    replace HA := hidW (HA.out.below hb)
    have HN4 : Hid (w3.heap.size ≠ B0) := hidW (Nat.ne_of_gt HX.out.br.lt)
    have HX2 : Hid (GF W (w3.alloc (.cells ([.int .i64 kb.asid, .int .i64 kb.t.size, .int .u32 kb.t.va, .int .u64 kb.t.pa, .int .i64 kb.t.dom, .int .i64 kb.t.ap, .int .u32 kb.t.bits, .bool kb.t.ng, .bool kb.t.xn]).toArray 38)) A X B0 B3 w3.heap.size ab kb) := hidW ⟨HX.out.step (below_new _ _), HA.out.below (below_new _ _), Bl.new _ _ _, HN3.out, HN4.out⟩
    clear hb HL HX HA c3 HN3 HN4
    try clear c0
    have HX := HX2
    clear HX2
    go_wp2
    generalize World.alloc _ _ = w4 at *
    generalize w3.heap.size = B4 at *
    replace HX := hidW HX.out.drew
    refine wp_region_held_drew (S := fun w' => w'.cell? ⟨B4, 0, none⟩ = some (.int .i64 kb.asid) ∧ w'.cell? ⟨B4, 1, none⟩ = some (.int .i64 kb.t.size) ∧ w'.cell? ⟨B4, 2, none⟩ = some (.int .u32 kb.t.va) ∧ w'.cell? ⟨B4, 3, none⟩ = some (.int .u64 kb.t.pa) ∧ w'.cell? ⟨B4, 4, none⟩ = some (.int .i64 kb.t.dom) ∧ w'.cell? ⟨B4, 5, none⟩ = some (.int .i64 kb.t.ap) ∧ w'.cell? ⟨B4, 6, none⟩ = some (.int .u32 kb.t.bits) ∧ w'.cell? ⟨B4, 7, none⟩ = some (.bool kb.t.ng) ∧ w'.cell? ⟨B4, 8, none⟩ = some (.bool kb.t.xn)) (by kernel_rfl) HX.out.cells4 (fun hHeld => ?_)
    refine wpAnyH_take (i := 0) (oi := { dst := some 72, op := Op.load 38 (Operand.tmp 17), type := 38, pos := _, after := #[], guard := none }) (v := ?_) rfl (by kernel_rfl) (by kernel_rfl) (by kernel_rfl) (fun _ _ _ h => h) (Or.inl ⟨by rfl, ?_⟩) (by assumption) ?_
    rotate_left
    · (intro w hSw; (try dsimp only at hSw); go_simp; try with_reducible rfl)
    simp only [Act.put, List.setIfInBounds_toArray, List.set_cons_zero, List.set_cons_succ]
    refine wpAnyH_take (i := 1) (oi := { dst := some 73, op := Op.move (Operand.tmp 18), type := 3, pos := _, after := #[], guard := none }) (v := ?_) rfl (by kernel_rfl) (by kernel_rfl) (by kernel_rfl) (fun _ _ _ h => h) (Or.inl ⟨by rfl, ?_⟩) (by assumption) ?_
    rotate_left
    · (intro w hSw; (try dsimp only at hSw); go_simp; try with_reducible rfl)
    simp only [Act.put, List.setIfInBounds_toArray, List.set_cons_zero, List.set_cons_succ]
    refine wpAnyH_ready (rs := [2]) (by kernel_rfl) (by simp) ?_
    refine AllReadyH.cons (o := { dst := some 74, op := Op.call { callee := Callee.value (Operand.func 55), args := #[Operand.tmp 73], argTypes := #[3] }, type := 3, pos := _, after := #[{ on := 1, ground := Ground.data }], guard := none }) rfl (fun K hK => ?_) AllReadyH.nil
    go_simp
    (go_at_call 55; refine (HM.out _ _).mono ?_; rintro e w9 ⟨rfl, hb⟩; replace HX := hidW (HX.out.step hb); clear hb; have r1 := HX.out.g0.br.cell; have r2 := HX.out.g0.br.frozen; have r3 := HX.out.g0.br.lt; go_wp2_with fail)
    refine hK.out _ _ ?_ (fun hHeld => ?_)
    · ((try dsimp only); with_reducible exact HX.out.cells4)
    clear hK K
    try simp only [Act.put, List.setIfInBounds_toArray, List.set_cons_zero, List.set_cons_succ]
    refine wpAnyH_ready (rs := [3]) (by kernel_rfl) (by simp) ?_
    refine AllReadyH.cons (o := { dst := none, op := Op.store 38 (Operand.tmp 12) (Operand.tmp 72), type := 0, pos := _, after := #[{ on := 0, ground := Ground.data }, { on := 2, ground := Ground.chain }, { on := 0, ground := Ground.phase }, { on := 1, ground := Ground.textOnly Departure.lateStores }, { on := 2, ground := Ground.textOnly Departure.lateStoresUnsure }], guard := none }) rfl (fun K hK => ?_) AllReadyH.nil
    go_simp
    skip
    refine hK.out _ _ ?_ (fun hHeld => ?_)
    · ((try dsimp only); with_reducible exact HX.out.set4 kb _ rfl)
    clear hK K
    try simp only [Act.put, List.setIfInBounds_toArray, List.set_cons_zero, List.set_cons_succ]
    refine wpAnyH_take (i := 4) (oi := { dst := some 13, op := Op.assign (Operand.tmp 74), type := 3, pos := _, after := #[{ on := 2, ground := Ground.data }, { on := 3, ground := Ground.chain }, { on := 0, ground := Ground.phase }, { on := 1, ground := Ground.phase }, { on := 2, ground := Ground.phase }, { on := 3, ground := Ground.phase }], guard := none }) (v := ?_) rfl (by kernel_rfl) (by kernel_rfl) (by kernel_rfl) (fun _ _ _ h => h) (Or.inl ⟨by rfl, ?_⟩) (by assumption) ?_
    rotate_left
    · (intro w hSw; (try dsimp only at hSw); go_simp; try with_reducible rfl)
    simp only [Act.put, List.setIfInBounds_toArray, List.set_cons_zero, List.set_cons_succ]
    refine wpAnyH_done (by kernel_rfl) ?_ _
    clear hHeld
    go_wp2
    refine bodyPost_ret (v := .tuple #[.agg #[.int .i64 kb.asid, .int .i64 kb.t.size, .int .u32 kb.t.va, .int .u64 kb.t.pa, .int .i64 kb.t.dom, .int .i64 kb.t.ap, .int .u32 kb.t.bits, .bool kb.t.ng, .bool kb.t.xn], .int .i64 ((min kn 2 : Nat) : Int)]) (by simp [results, Tryd.results41, go_sem, r1, r2, r3]) rfl ⟨rfl, ?_⟩
    exact HX.out.ends kb
set_option maxRecDepth 100000 in
set_option maxHeartbeats 8000000 in
theorem vfind_true_false_a (W : World) (A : Ad) (X : Hi) (va asid pick : Int) (h : PH 93 89 [.pointer none] W A X) (hv : 0 ≤ va ∧ va < 4294967296) (hc : ¬ (lkF X.i va asid).2 = 0) :
    Calls Tryd.prog 41 #[.pointer (some ⟨A.h, 0, none⟩), .int .u32 va, .int .i64 asid, .bool true, .int .i64 pick, .bool false] W fun e w' => e = .returned (.tuple #[.agg #[.int .i64 ((lkF X.i va asid).1).asid, .int .i64 ((lkF X.i va asid).1).t.size, .int .u32 ((lkF X.i va asid).1).t.va, .int .u64 ((lkF X.i va asid).1).t.pa, .int .i64 ((lkF X.i va asid).1).t.dom, .int .i64 ((lkF X.i va asid).1).t.ap, .int .u32 ((lkF X.i va asid).1).t.bits, .bool ((lkF X.i va asid).1).t.ng, .bool ((lkF X.i va asid).1).t.xn], .int .i64 ((min (lkF X.i va asid).2 2 : Nat) : Int)]) ∧ PH 93 89 [.pointer none] w' A X ∧ Turn A.S W w' := by
  have HX := hidW (G0.start h)
  have HS := vsmall_any true
  have HK : Hid (∀ w, PH 93 89 [.pointer none] w A X → Calls Tryd.prog 53 #[.pointer (some ⟨A.pi, 0, none⟩), .int .u32 va, .int .i64 asid] w fun e w' => e = .returned (.tuple #[.agg #[.int .i64 ((lkF X.i va asid).1).asid, .int .i64 ((lkF X.i va asid).1).t.size, .int .u32 ((lkF X.i va asid).1).t.va, .int .u64 ((lkF X.i va asid).1).t.pa, .int .i64 ((lkF X.i va asid).1).t.dom, .int .i64 ((lkF X.i va asid).1).t.ap, .int .u32 ((lkF X.i va asid).1).t.bits, .bool ((lkF X.i va asid).1).t.ng, .bool ((lkF X.i va asid).1).t.xn], .int .i64 ((lkF X.i va asid).2 : Nat)]) ∧ Below w.heap.size w w') := fun w k => ulook_any w _ _ X.i va asid k.ti hv
  have HL : Hid (∀ w, PH 93 89 [.pointer none] w A X → Calls Tryd.prog 53 #[.pointer (some ⟨A.pm, 0, none⟩), .int .u32 va, .int .i64 asid] w fun e w' => e = .returned (.tuple #[.agg #[.int .i64 ((lkF X.m va asid).1).asid, .int .i64 ((lkF X.m va asid).1).t.size, .int .u32 ((lkF X.m va asid).1).t.va, .int .u64 ((lkF X.m va asid).1).t.pa, .int .i64 ((lkF X.m va asid).1).t.dom, .int .i64 ((lkF X.m va asid).1).t.ap, .int .u32 ((lkF X.m va asid).1).t.bits, .bool ((lkF X.m va asid).1).t.ng, .bool ((lkF X.m va asid).1).t.xn], .int .i64 ((lkF X.m va asid).2 : Nat)]) ∧ Below w.heap.size w w') := fun w k => ulook_any w _ _ X.m va asid k.tm hv
  have HM := hidW vmany_any
  clear h
  generalize (lkF X.i va asid) = R at *
  generalize (lkF X.m va asid) = R2 at *
  obtain ⟨ab, an⟩ := R
  obtain ⟨kb, kn⟩ := R2
  dsimp only at *
  have q1 : ¬ (an : Int) = 0 := by omega
  go_enter Tryd.func41, Tryd.ntmps41
  go_wp2_with (go_at_call 52; refine (HS _).mono ?_; rintro e w' ⟨rfl, rfl⟩; simp only [if_true, if_false, Bool.false_eq_true]; have c0 := HX.out.ph.box.cell 1)
  go_at_call 53
  refine (HK.out _ HX.out.ph).mono ?_
  rintro e w1 ⟨rfl, hb⟩
  have HA := hidW (Bl.new w1 38 ([.int .i64 ab.asid, .int .i64 ab.t.size, .int .u32 ab.t.va, .int .u64 ab.t.pa, .int .i64 ab.t.dom, .int .i64 ab.t.ap, .int .u32 ab.t.bits, .bool ab.t.ng, .bool ab.t.xn]))
  replace HX := hidW ((HX.out.step hb).step (below_new _ (.cells ([.int .i64 ab.asid, .int .i64 ab.t.size, .int .u32 ab.t.va, .int .u64 ab.t.pa, .int .i64 ab.t.dom, .int .i64 ab.t.ap, .int .u32 ab.t.bits, .bool ab.t.ng, .bool ab.t.xn]).toArray 38)))
  have HN3 : Hid (w1.heap.size ≠ W.heap.size) := hidW (by have := hb.size; simp at this; omega)
  clear hb HK
  generalize hA : W.heap.size = B0 at HX HN3 ⊢
  clear hA
  have c3 := HX.out.ph.box.cell 3
  go_wp2_with (fail)
  go_at_call 53
  generalize World.alloc _ _ = w2 at *
  generalize w1.heap.size = B3 at *
  refine (HL.out _ HX.out.ph).mono ?_
  rintro e w3 ⟨rfl, hb⟩
  replace HX := hidW (HX.out.step hb)
  replace HA := hidW (HA.out.below hb)
  have HN4 : Hid (w3.heap.size ≠ B0) := hidW (Nat.ne_of_gt HX.out.br.lt)
  have HX2 : Hid (GF W (w3.alloc (.cells ([.int .i64 kb.asid, .int .i64 kb.t.size, .int .u32 kb.t.va, .int .u64 kb.t.pa, .int .i64 kb.t.dom, .int .i64 kb.t.ap, .int .u32 kb.t.bits, .bool kb.t.ng, .bool kb.t.xn]).toArray 38)) A X B0 B3 w3.heap.size ab kb) := hidW ⟨HX.out.step (below_new _ _), HA.out.below (below_new _ _), Bl.new _ _ _, HN3.out, HN4.out⟩
  clear hb HL HX HA c3 HN3 HN4
  try clear c0
  have HX := HX2
  clear HX2
  go_wp2
  generalize World.alloc _ _ = w4 at *
  generalize w3.heap.size = B4 at *
  replace HX := hidW HX.out.drew
  refine wp_region_held_drew (S := fun w' => w'.cell? ⟨B3, 0, none⟩ = some (.int .i64 ab.asid) ∧ w'.cell? ⟨B3, 1, none⟩ = some (.int .i64 ab.t.size) ∧ w'.cell? ⟨B3, 2, none⟩ = some (.int .u32 ab.t.va) ∧ w'.cell? ⟨B3, 3, none⟩ = some (.int .u64 ab.t.pa) ∧ w'.cell? ⟨B3, 4, none⟩ = some (.int .i64 ab.t.dom) ∧ w'.cell? ⟨B3, 5, none⟩ = some (.int .i64 ab.t.ap) ∧ w'.cell? ⟨B3, 6, none⟩ = some (.int .u32 ab.t.bits) ∧ w'.cell? ⟨B3, 7, none⟩ = some (.bool ab.t.ng) ∧ w'.cell? ⟨B3, 8, none⟩ = some (.bool ab.t.xn)) (by kernel_rfl) HX.out.cells3 (fun hHeld => ?_)
  refine wpAnyH_take (i := 0) (oi := { dst := some 75, op := Op.load 38 (Operand.tmp 15), type := 38, pos := _, after := #[], guard := none }) (v := ?_) rfl (by kernel_rfl) (by kernel_rfl) (by kernel_rfl) (fun _ _ _ h => h) (Or.inl ⟨by rfl, ?_⟩) (by assumption) ?_
  rotate_left
  · (intro w hSw; (try dsimp only at hSw); go_simp; try with_reducible rfl)
  simp only [Act.put, List.setIfInBounds_toArray, List.set_cons_zero, List.set_cons_succ]
  refine wpAnyH_take (i := 1) (oi := { dst := some 76, op := Op.move (Operand.tmp 16), type := 3, pos := _, after := #[], guard := none }) (v := ?_) rfl (by kernel_rfl) (by kernel_rfl) (by kernel_rfl) (fun _ _ _ h => h) (Or.inl ⟨by rfl, ?_⟩) (by assumption) ?_
  rotate_left
  · (intro w hSw; (try dsimp only at hSw); go_simp; try with_reducible rfl)
  simp only [Act.put, List.setIfInBounds_toArray, List.set_cons_zero, List.set_cons_succ]
  refine wpAnyH_ready (rs := [2]) (by kernel_rfl) (by simp) ?_
  refine AllReadyH.cons (o := { dst := some 77, op := Op.call { callee := Callee.value (Operand.func 55), args := #[Operand.tmp 76], argTypes := #[3] }, type := 3, pos := _, after := #[{ on := 1, ground := Ground.data }], guard := none }) rfl (fun K hK => ?_) AllReadyH.nil
  go_simp
  (go_at_call 55; refine (HM.out _ _).mono ?_; rintro e w9 ⟨rfl, hb⟩; replace HX := hidW (HX.out.step hb); clear hb; have r1 := HX.out.g0.br.cell; have r2 := HX.out.g0.br.frozen; have r3 := HX.out.g0.br.lt; go_wp2_with fail)
  refine hK.out _ _ ?_ (fun hHeld => ?_)
  · ((try dsimp only); with_reducible exact HX.out.cells3)
  clear hK K
  try simp only [Act.put, List.setIfInBounds_toArray, List.set_cons_zero, List.set_cons_succ]
  refine wpAnyH_ready (rs := [3]) (by kernel_rfl) (by simp) ?_
  refine AllReadyH.cons (o := { dst := none, op := Op.store 38 (Operand.tmp 12) (Operand.tmp 75), type := 0, pos := _, after := #[{ on := 0, ground := Ground.data }, { on := 2, ground := Ground.chain }, { on := 0, ground := Ground.phase }, { on := 1, ground := Ground.textOnly Departure.lateStores }, { on := 2, ground := Ground.textOnly Departure.lateStoresUnsure }], guard := none }) rfl (fun K hK => ?_) AllReadyH.nil
  go_simp
  skip
  refine hK.out _ _ ?_ (fun hHeld => ?_)
  · ((try dsimp only); with_reducible exact HX.out.set3 ab _ rfl)
  clear hK K
  try simp only [Act.put, List.setIfInBounds_toArray, List.set_cons_zero, List.set_cons_succ]
  refine wpAnyH_take (i := 4) (oi := { dst := some 13, op := Op.assign (Operand.tmp 77), type := 3, pos := _, after := #[{ on := 2, ground := Ground.data }, { on := 3, ground := Ground.chain }, { on := 0, ground := Ground.phase }, { on := 1, ground := Ground.phase }, { on := 2, ground := Ground.phase }, { on := 3, ground := Ground.phase }], guard := none }) (v := ?_) rfl (by kernel_rfl) (by kernel_rfl) (by kernel_rfl) (fun _ _ _ h => h) (Or.inl ⟨by rfl, ?_⟩) (by assumption) ?_
  rotate_left
  · (intro w hSw; (try dsimp only at hSw); go_simp; try with_reducible rfl)
  simp only [Act.put, List.setIfInBounds_toArray, List.set_cons_zero, List.set_cons_succ]
  refine wpAnyH_done (by kernel_rfl) ?_ _
  clear hHeld
  go_wp2
  refine bodyPost_ret (v := .tuple #[.agg #[.int .i64 ab.asid, .int .i64 ab.t.size, .int .u32 ab.t.va, .int .u64 ab.t.pa, .int .i64 ab.t.dom, .int .i64 ab.t.ap, .int .u32 ab.t.bits, .bool ab.t.ng, .bool ab.t.xn], .int .i64 ((min an 2 : Nat) : Int)]) (by simp [results, Tryd.results41, go_sem, r1, r2, r3]) rfl ⟨rfl, ?_⟩
  exact HX.out.ends ab
set_option maxRecDepth 100000 in
set_option maxHeartbeats 8000000 in
theorem vfind_true_false_p (W : World) (A : Ad) (X : Hi) (va asid pick : Int) (h : PH 93 89 [.pointer none] W A X) (hv : 0 ≤ va ∧ va < 4294967296) (hc : (lkF X.m va asid).2 = 1 ∧ (lkF X.i va asid).2 = 0) :
    Calls Tryd.prog 41 #[.pointer (some ⟨A.h, 0, none⟩), .int .u32 va, .int .i64 asid, .bool true, .int .i64 pick, .bool false] W fun e w' => e = .returned (.tuple #[.agg #[.int .i64 ((lkF X.m va asid).1).asid, .int .i64 ((lkF X.m va asid).1).t.size, .int .u32 ((lkF X.m va asid).1).t.va, .int .u64 ((lkF X.m va asid).1).t.pa, .int .i64 ((lkF X.m va asid).1).t.dom, .int .i64 ((lkF X.m va asid).1).t.ap, .int .u32 ((lkF X.m va asid).1).t.bits, .bool ((lkF X.m va asid).1).t.ng, .bool ((lkF X.m va asid).1).t.xn], .int .i64 ((min (lkF X.m va asid).2 2 : Nat) : Int)]) ∧ PH 93 89 [.pointer none] w' A ⟨(puF X.i (lkF X.m va asid).1 pick).2, X.d, X.m⟩ ∧ Turn A.S W w' := by
  have HX := hidW (G0.start h)
  have HS := vsmall_any true
  have HK : Hid (∀ w, PH 93 89 [.pointer none] w A X → Calls Tryd.prog 53 #[.pointer (some ⟨A.pi, 0, none⟩), .int .u32 va, .int .i64 asid] w fun e w' => e = .returned (.tuple #[.agg #[.int .i64 ((lkF X.i va asid).1).asid, .int .i64 ((lkF X.i va asid).1).t.size, .int .u32 ((lkF X.i va asid).1).t.va, .int .u64 ((lkF X.i va asid).1).t.pa, .int .i64 ((lkF X.i va asid).1).t.dom, .int .i64 ((lkF X.i va asid).1).t.ap, .int .u32 ((lkF X.i va asid).1).t.bits, .bool ((lkF X.i va asid).1).t.ng, .bool ((lkF X.i va asid).1).t.xn], .int .i64 ((lkF X.i va asid).2 : Nat)]) ∧ Below w.heap.size w w') := fun w k => ulook_any w _ _ X.i va asid k.ti hv
  have HL : Hid (∀ w, PH 93 89 [.pointer none] w A X → Calls Tryd.prog 53 #[.pointer (some ⟨A.pm, 0, none⟩), .int .u32 va, .int .i64 asid] w fun e w' => e = .returned (.tuple #[.agg #[.int .i64 ((lkF X.m va asid).1).asid, .int .i64 ((lkF X.m va asid).1).t.size, .int .u32 ((lkF X.m va asid).1).t.va, .int .u64 ((lkF X.m va asid).1).t.pa, .int .i64 ((lkF X.m va asid).1).t.dom, .int .i64 ((lkF X.m va asid).1).t.ap, .int .u32 ((lkF X.m va asid).1).t.bits, .bool ((lkF X.m va asid).1).t.ng, .bool ((lkF X.m va asid).1).t.xn], .int .i64 ((lkF X.m va asid).2 : Nat)]) ∧ Below w.heap.size w w') := fun w k => ulook_any w _ _ X.m va asid k.tm hv
  have HM := hidW vmany_any
  have hbo := lkF_ok h.tm.ok va asid
  have HU : Hid (∀ w, PH 93 89 [.pointer none] w A X → Calls Tryd.prog 54 #[.pointer (some ⟨A.pi, 0, none⟩), .agg #[.int .i64 ((lkF X.m va asid).1).asid, .int .i64 ((lkF X.m va asid).1).t.size, .int .u32 ((lkF X.m va asid).1).t.va, .int .u64 ((lkF X.m va asid).1).t.pa, .int .i64 ((lkF X.m va asid).1).t.dom, .int .i64 ((lkF X.m va asid).1).t.ap, .int .u32 ((lkF X.m va asid).1).t.bits, .bool ((lkF X.m va asid).1).t.ng, .bool ((lkF X.m va asid).1).t.xn], .int .i64 pick] w fun e w' => e = .returned (.tuple #[.int .i64 ((puF X.i (lkF X.m va asid).1 pick).1.1 : Nat), .int .i64 (puF X.i (lkF X.m va asid).1 pick).1.2]) ∧ PH 93 89 [.pointer none] w' A ⟨(puF X.i (lkF X.m va asid).1 pick).2, X.d, X.m⟩ ∧ Turn (· = A.gi) w w') := fun w k => (uput_any w _ _ X.i _ pick k.ti hbo).mono fun e w' q => ⟨q.1, k.setI q.2.1 q.2.2, q.2.2⟩
  clear hbo
  generalize (puF X.i (lkF X.m va asid).1 pick) = Q at *
  obtain ⟨⟨qi, qe⟩, ql⟩ := Q
  clear h
  generalize (lkF X.i va asid) = R at *
  generalize (lkF X.m va asid) = R2 at *
  obtain ⟨ab, an⟩ := R
  obtain ⟨kb, kn⟩ := R2
  dsimp only at *
  obtain ⟨rfl, rfl⟩ := hc
  go_enter Tryd.func41, Tryd.ntmps41
  go_wp2_with (go_at_call 52; refine (HS _).mono ?_; rintro e w' ⟨rfl, rfl⟩; simp only [if_true, if_false, Bool.false_eq_true]; have c0 := HX.out.ph.box.cell 1)
  go_at_call 53
  refine (HK.out _ HX.out.ph).mono ?_
  rintro e w1 ⟨rfl, hb⟩
  have HA := hidW (Bl.new w1 38 ([.int .i64 ab.asid, .int .i64 ab.t.size, .int .u32 ab.t.va, .int .u64 ab.t.pa, .int .i64 ab.t.dom, .int .i64 ab.t.ap, .int .u32 ab.t.bits, .bool ab.t.ng, .bool ab.t.xn]))
  replace HX := hidW ((HX.out.step hb).step (below_new _ (.cells ([.int .i64 ab.asid, .int .i64 ab.t.size, .int .u32 ab.t.va, .int .u64 ab.t.pa, .int .i64 ab.t.dom, .int .i64 ab.t.ap, .int .u32 ab.t.bits, .bool ab.t.ng, .bool ab.t.xn]).toArray 38)))
  have HN3 : Hid (w1.heap.size ≠ W.heap.size) := hidW (by have := hb.size; simp at this; omega)
  clear hb HK
  generalize hA : W.heap.size = B0 at HX HN3 ⊢
  clear hA
  have c3 := HX.out.ph.box.cell 3
  go_wp2_with (fail)
  go_at_call 53
  generalize World.alloc _ _ = w2 at *
  generalize w1.heap.size = B3 at *
  refine (HL.out _ HX.out.ph).mono ?_
  rintro e w3 ⟨rfl, hb⟩
  replace HX := hidW (HX.out.step hb)
  replace HA := hidW (HA.out.below hb)
  have HN4 : Hid (w3.heap.size ≠ B0) := hidW (Nat.ne_of_gt HX.out.br.lt)
  have HX2 : Hid (GF W (w3.alloc (.cells ([.int .i64 kb.asid, .int .i64 kb.t.size, .int .u32 kb.t.va, .int .u64 kb.t.pa, .int .i64 kb.t.dom, .int .i64 kb.t.ap, .int .u32 kb.t.bits, .bool kb.t.ng, .bool kb.t.xn]).toArray 38)) A X B0 B3 w3.heap.size ab kb) := hidW ⟨HX.out.step (below_new _ _), HA.out.below (below_new _ _), Bl.new _ _ _, HN3.out, HN4.out⟩
  clear hb HL HX HA c3 HN3 HN4
  try clear c0
  have HX := HX2
  clear HX2
  go_wp2
  generalize World.alloc _ _ = w4 at *
  generalize w3.heap.size = B4 at *
  replace HX := hidW HX.out.drew
  refine wp_region_held_drew (S := fun w' => w'.cell? ⟨A.h, 1, none⟩ = some (.pointer (some ⟨A.pi, 0, none⟩)) ∧ w'.cell? ⟨B4, 0, none⟩ = some (.int .i64 kb.asid) ∧ w'.cell? ⟨B4, 1, none⟩ = some (.int .i64 kb.t.size) ∧ w'.cell? ⟨B4, 2, none⟩ = some (.int .u32 kb.t.va) ∧ w'.cell? ⟨B4, 3, none⟩ = some (.int .u64 kb.t.pa) ∧ w'.cell? ⟨B4, 4, none⟩ = some (.int .i64 kb.t.dom) ∧ w'.cell? ⟨B4, 5, none⟩ = some (.int .i64 kb.t.ap) ∧ w'.cell? ⟨B4, 6, none⟩ = some (.int .u32 kb.t.bits) ∧ w'.cell? ⟨B4, 7, none⟩ = some (.bool kb.t.ng) ∧ w'.cell? ⟨B4, 8, none⟩ = some (.bool kb.t.xn)) (by kernel_rfl) ⟨HX.out.g0.ph.box.cell 1, HX.out.cells4⟩ (fun hHeld => ?_)
  refine wpAnyH_take (i := 0) (oi := { dst := some 63, op := Op.move (Operand.tmp 0), type := 59, pos := _, after := #[], guard := none }) (v := ?_) rfl (by kernel_rfl) (by kernel_rfl) (by kernel_rfl) (fun _ _ _ h => h) (Or.inl ⟨by rfl, ?_⟩) (by assumption) ?_
  rotate_left
  · (intro w hSw; (try dsimp only at hSw); go_simp; try with_reducible rfl)
  simp only [Act.put, List.setIfInBounds_toArray, List.set_cons_zero, List.set_cons_succ]
  refine wpAnyH_take (i := 1) (oi := { dst := some 64, op := Op.move (Operand.tmp 14), type := 3, pos := _, after := #[], guard := none }) (v := ?_) rfl (by kernel_rfl) (by kernel_rfl) (by kernel_rfl) (fun _ _ _ h => h) (Or.inl ⟨by rfl, ?_⟩) (by assumption) ?_
  rotate_left
  · (intro w hSw; (try dsimp only at hSw); go_simp; try with_reducible rfl)
  simp only [Act.put, List.setIfInBounds_toArray, List.set_cons_zero, List.set_cons_succ]
  refine wpAnyH_take (i := 2) (oi := { dst := some 65, op := Op.nilCheck (Operand.tmp 63), type := 0, pos := _, after := #[{ on := 0, ground := Ground.data }], guard := none }) (v := ?_) rfl (by kernel_rfl) (by kernel_rfl) (by kernel_rfl) (fun _ _ _ h => h) (Or.inl ⟨by rfl, ?_⟩) (by assumption) ?_
  rotate_left
  · (intro w hSw; (try dsimp only at hSw); go_simp; try with_reducible rfl)
  simp only [Act.put, List.setIfInBounds_toArray, List.set_cons_zero, List.set_cons_succ]
  refine wpAnyH_take (i := 3) (oi := { dst := some 66, op := Op.fieldAddr 93 (Operand.tmp 65) 0, type := 0, pos := _, after := #[{ on := 2, ground := Ground.data }], guard := none }) (v := ?_) rfl (by kernel_rfl) (by kernel_rfl) (by kernel_rfl) (fun _ _ _ h => h) (Or.inl ⟨by rfl, ?_⟩) (by assumption) ?_
  rotate_left
  · (intro w hSw; (try dsimp only at hSw); go_simp; try with_reducible rfl)
  simp only [Act.put, List.setIfInBounds_toArray, List.set_cons_zero, List.set_cons_succ]
  refine wpAnyH_take (i := 4) (oi := { dst := some 67, op := Op.indexAddr 91 (Operand.tmp 66) (Operand.tmp 64), type := 0, pos := _, after := #[{ on := 3, ground := Ground.data }, { on := 1, ground := Ground.data }], guard := none }) (v := ?_) rfl (by kernel_rfl) (by kernel_rfl) (by kernel_rfl) (fun _ _ _ h => h) (Or.inl ⟨by rfl, ?_⟩) (by assumption) ?_
  rotate_left
  · (intro w hSw; (try dsimp only at hSw); go_simp; try with_reducible rfl)
  simp only [Act.put, List.setIfInBounds_toArray, List.set_cons_zero, List.set_cons_succ]
  refine wpAnyH_take (i := 5) (oi := { dst := some 68, op := Op.load 90 (Operand.tmp 67), type := 90, pos := _, after := #[{ on := 4, ground := Ground.data }], guard := none }) (v := ?_) rfl (by kernel_rfl) (by kernel_rfl) (by kernel_rfl) (fun _ _ _ h => h) (Or.inl ⟨by rfl, ?_⟩) (by assumption) ?_
  rotate_left
  · (intro w hSw; (try dsimp only at hSw); go_simp; try with_reducible rfl)
  simp only [Act.put, List.setIfInBounds_toArray, List.set_cons_zero, List.set_cons_succ]
  refine wpAnyH_take (i := 6) (oi := { dst := some 69, op := Op.load 38 (Operand.tmp 17), type := 38, pos := _, after := #[], guard := none }) (v := ?_) rfl (by kernel_rfl) (by kernel_rfl) (by kernel_rfl) (fun _ _ _ h => h) (Or.inl ⟨by rfl, ?_⟩) (by assumption) ?_
  rotate_left
  · (intro w hSw; (try dsimp only at hSw); go_simp; try with_reducible rfl)
  simp only [Act.put, List.setIfInBounds_toArray, List.set_cons_zero, List.set_cons_succ]
  refine wpAnyH_take (i := 7) (oi := { dst := some 70, op := Op.move (Operand.tmp 4), type := 3, pos := _, after := #[], guard := none }) (v := ?_) rfl (by kernel_rfl) (by kernel_rfl) (by kernel_rfl) (fun _ _ _ h => h) (Or.inl ⟨by rfl, ?_⟩) (by assumption) ?_
  rotate_left
  · (intro w hSw; (try dsimp only at hSw); go_simp; try with_reducible rfl)
  simp only [Act.put, List.setIfInBounds_toArray, List.set_cons_zero, List.set_cons_succ]
  refine wpAnyH_ready (rs := [8]) (by kernel_rfl) (by simp) ?_
  refine AllReadyH.cons (o := { dst := some 71, op := Op.call { callee := Callee.value (Operand.func 54), args := #[Operand.tmp 68, Operand.tmp 69, Operand.tmp 70], argTypes := #[90, 38, 3] }, type := 109, pos := _, after := #[{ on := 5, ground := Ground.data }, { on := 6, ground := Ground.data }, { on := 7, ground := Ground.data }], guard := none }) rfl (fun K hK => ?_) AllReadyH.nil
  go_simp
  (go_at_call 54; refine (HU.out _ HX.out.g0.ph).mono ?_; rintro e w5 ⟨rfl, hp, hT⟩; replace HX := hidW (HX.out.turn hp hT (fun x hx => .inl hx)); clear hp hT HU; go_wp2_with fail)
  refine hK.out _ _ ?_ (fun hHeld => ?_)
  · ((try dsimp only); exact ⟨HX.out.g0.ph.box.cell 1, HX.out.cells4⟩)
  clear hK K
  try simp only [Act.put, List.setIfInBounds_toArray, List.set_cons_zero, List.set_cons_succ]
  refine wpAnyH_done (by kernel_rfl) ?_ _
  clear hHeld
  go_wp2
  replace HX := hidW HX.out.drew
  refine wp_region_held_drew (S := fun w' => w'.cell? ⟨B4, 0, none⟩ = some (.int .i64 kb.asid) ∧ w'.cell? ⟨B4, 1, none⟩ = some (.int .i64 kb.t.size) ∧ w'.cell? ⟨B4, 2, none⟩ = some (.int .u32 kb.t.va) ∧ w'.cell? ⟨B4, 3, none⟩ = some (.int .u64 kb.t.pa) ∧ w'.cell? ⟨B4, 4, none⟩ = some (.int .i64 kb.t.dom) ∧ w'.cell? ⟨B4, 5, none⟩ = some (.int .i64 kb.t.ap) ∧ w'.cell? ⟨B4, 6, none⟩ = some (.int .u32 kb.t.bits) ∧ w'.cell? ⟨B4, 7, none⟩ = some (.bool kb.t.ng) ∧ w'.cell? ⟨B4, 8, none⟩ = some (.bool kb.t.xn)) (by kernel_rfl) HX.out.cells4 (fun hHeld => ?_)
  refine wpAnyH_take (i := 0) (oi := { dst := some 72, op := Op.load 38 (Operand.tmp 17), type := 38, pos := _, after := #[], guard := none }) (v := ?_) rfl (by kernel_rfl) (by kernel_rfl) (by kernel_rfl) (fun _ _ _ h => h) (Or.inl ⟨by rfl, ?_⟩) (by assumption) ?_
  rotate_left
  · (intro w hSw; (try dsimp only at hSw); go_simp; try with_reducible rfl)
  simp only [Act.put, List.setIfInBounds_toArray, List.set_cons_zero, List.set_cons_succ]
  refine wpAnyH_take (i := 1) (oi := { dst := some 73, op := Op.move (Operand.tmp 18), type := 3, pos := _, after := #[], guard := none }) (v := ?_) rfl (by kernel_rfl) (by kernel_rfl) (by kernel_rfl) (fun _ _ _ h => h) (Or.inl ⟨by rfl, ?_⟩) (by assumption) ?_
  rotate_left
  · (intro w hSw; (try dsimp only at hSw); go_simp; try with_reducible rfl)
  simp only [Act.put, List.setIfInBounds_toArray, List.set_cons_zero, List.set_cons_succ]
  refine wpAnyH_ready (rs := [2]) (by kernel_rfl) (by simp) ?_
  refine AllReadyH.cons (o := { dst := some 74, op := Op.call { callee := Callee.value (Operand.func 55), args := #[Operand.tmp 73], argTypes := #[3] }, type := 3, pos := _, after := #[{ on := 1, ground := Ground.data }], guard := none }) rfl (fun K hK => ?_) AllReadyH.nil
  go_simp
  (go_at_call 55; refine (HM.out _ _).mono ?_; rintro e w9 ⟨rfl, hb⟩; replace HX := hidW (HX.out.step hb); clear hb; have r1 := HX.out.g0.br.cell; have r2 := HX.out.g0.br.frozen; have r3 := HX.out.g0.br.lt; go_wp2_with fail)
  refine hK.out _ _ ?_ (fun hHeld => ?_)
  · ((try dsimp only); with_reducible exact HX.out.cells4)
  clear hK K
  try simp only [Act.put, List.setIfInBounds_toArray, List.set_cons_zero, List.set_cons_succ]
  refine wpAnyH_ready (rs := [3]) (by kernel_rfl) (by simp) ?_
  refine AllReadyH.cons (o := { dst := none, op := Op.store 38 (Operand.tmp 12) (Operand.tmp 72), type := 0, pos := _, after := #[{ on := 0, ground := Ground.data }, { on := 2, ground := Ground.chain }, { on := 0, ground := Ground.phase }, { on := 1, ground := Ground.textOnly Departure.lateStores }, { on := 2, ground := Ground.textOnly Departure.lateStoresUnsure }], guard := none }) rfl (fun K hK => ?_) AllReadyH.nil
  go_simp
  skip
  refine hK.out _ _ ?_ (fun hHeld => ?_)
  · ((try dsimp only); with_reducible exact HX.out.set4 kb _ rfl)
  clear hK K
  try simp only [Act.put, List.setIfInBounds_toArray, List.set_cons_zero, List.set_cons_succ]
  refine wpAnyH_take (i := 4) (oi := { dst := some 13, op := Op.assign (Operand.tmp 74), type := 3, pos := _, after := #[{ on := 2, ground := Ground.data }, { on := 3, ground := Ground.chain }, { on := 0, ground := Ground.phase }, { on := 1, ground := Ground.phase }, { on := 2, ground := Ground.phase }, { on := 3, ground := Ground.phase }], guard := none }) (v := ?_) rfl (by kernel_rfl) (by kernel_rfl) (by kernel_rfl) (fun _ _ _ h => h) (Or.inl ⟨by rfl, ?_⟩) (by assumption) ?_
  rotate_left
  · (intro w hSw; (try dsimp only at hSw); go_simp; try with_reducible rfl)
  simp only [Act.put, List.setIfInBounds_toArray, List.set_cons_zero, List.set_cons_succ]
  refine wpAnyH_done (by kernel_rfl) ?_ _
  clear hHeld
  go_wp2
  refine bodyPost_ret (v := .tuple #[.agg #[.int .i64 kb.asid, .int .i64 kb.t.size, .int .u32 kb.t.va, .int .u64 kb.t.pa, .int .i64 kb.t.dom, .int .i64 kb.t.ap, .int .u32 kb.t.bits, .bool kb.t.ng, .bool kb.t.xn], .int .i64 ((min 1 2 : Nat) : Int)]) (by simp [results, Tryd.results41, go_sem, r1, r2, r3]) rfl ⟨rfl, ?_⟩
  exact HX.out.ends kb
set_option maxRecDepth 100000 in
set_option maxHeartbeats 8000000 in
theorem vfind_true_false_k (W : World) (A : Ad) (X : Hi) (va asid pick : Int) (h : PH 93 89 [.pointer none] W A X) (hv : 0 ≤ va ∧ va < 4294967296) (hc : (lkF X.i va asid).2 = 0 ∧ ¬ (lkF X.m va asid).2 = 1) :
    Calls Tryd.prog 41 #[.pointer (some ⟨A.h, 0, none⟩), .int .u32 va, .int .i64 asid, .bool true, .int .i64 pick, .bool false] W fun e w' => e = .returned (.tuple #[.agg #[.int .i64 ((lkF X.m va asid).1).asid, .int .i64 ((lkF X.m va asid).1).t.size, .int .u32 ((lkF X.m va asid).1).t.va, .int .u64 ((lkF X.m va asid).1).t.pa, .int .i64 ((lkF X.m va asid).1).t.dom, .int .i64 ((lkF X.m va asid).1).t.ap, .int .u32 ((lkF X.m va asid).1).t.bits, .bool ((lkF X.m va asid).1).t.ng, .bool ((lkF X.m va asid).1).t.xn], .int .i64 ((min (lkF X.m va asid).2 2 : Nat) : Int)]) ∧ PH 93 89 [.pointer none] w' A X ∧ Turn A.S W w' := by
  have HX := hidW (G0.start h)
  have HS := vsmall_any true
  have HK : Hid (∀ w, PH 93 89 [.pointer none] w A X → Calls Tryd.prog 53 #[.pointer (some ⟨A.pi, 0, none⟩), .int .u32 va, .int .i64 asid] w fun e w' => e = .returned (.tuple #[.agg #[.int .i64 ((lkF X.i va asid).1).asid, .int .i64 ((lkF X.i va asid).1).t.size, .int .u32 ((lkF X.i va asid).1).t.va, .int .u64 ((lkF X.i va asid).1).t.pa, .int .i64 ((lkF X.i va asid).1).t.dom, .int .i64 ((lkF X.i va asid).1).t.ap, .int .u32 ((lkF X.i va asid).1).t.bits, .bool ((lkF X.i va asid).1).t.ng, .bool ((lkF X.i va asid).1).t.xn], .int .i64 ((lkF X.i va asid).2 : Nat)]) ∧ Below w.heap.size w w') := fun w k => ulook_any w _ _ X.i va asid k.ti hv
  have HL : Hid (∀ w, PH 93 89 [.pointer none] w A X → Calls Tryd.prog 53 #[.pointer (some ⟨A.pm, 0, none⟩), .int .u32 va, .int .i64 asid] w fun e w' => e = .returned (.tuple #[.agg #[.int .i64 ((lkF X.m va asid).1).asid, .int .i64 ((lkF X.m va asid).1).t.size, .int .u32 ((lkF X.m va asid).1).t.va, .int .u64 ((lkF X.m va asid).1).t.pa, .int .i64 ((lkF X.m va asid).1).t.dom, .int .i64 ((lkF X.m va asid).1).t.ap, .int .u32 ((lkF X.m va asid).1).t.bits, .bool ((lkF X.m va asid).1).t.ng, .bool ((lkF X.m va asid).1).t.xn], .int .i64 ((lkF X.m va asid).2 : Nat)]) ∧ Below w.heap.size w w') := fun w k => ulook_any w _ _ X.m va asid k.tm hv
  have HM := hidW vmany_any
  clear h
  generalize (lkF X.i va asid) = R at *
  generalize (lkF X.m va asid) = R2 at *
  obtain ⟨ab, an⟩ := R
  obtain ⟨kb, kn⟩ := R2
  dsimp only at *
  obtain ⟨rfl, h2⟩ := hc
  have q1 : ¬ (kn : Int) = 1 := by omega
  go_enter Tryd.func41, Tryd.ntmps41
  go_wp2_with (go_at_call 52; refine (HS _).mono ?_; rintro e w' ⟨rfl, rfl⟩; simp only [if_true, if_false, Bool.false_eq_true]; have c0 := HX.out.ph.box.cell 1)
  go_at_call 53
  refine (HK.out _ HX.out.ph).mono ?_
  rintro e w1 ⟨rfl, hb⟩
  have HA := hidW (Bl.new w1 38 ([.int .i64 ab.asid, .int .i64 ab.t.size, .int .u32 ab.t.va, .int .u64 ab.t.pa, .int .i64 ab.t.dom, .int .i64 ab.t.ap, .int .u32 ab.t.bits, .bool ab.t.ng, .bool ab.t.xn]))
  replace HX := hidW ((HX.out.step hb).step (below_new _ (.cells ([.int .i64 ab.asid, .int .i64 ab.t.size, .int .u32 ab.t.va, .int .u64 ab.t.pa, .int .i64 ab.t.dom, .int .i64 ab.t.ap, .int .u32 ab.t.bits, .bool ab.t.ng, .bool ab.t.xn]).toArray 38)))
  have HN3 : Hid (w1.heap.size ≠ W.heap.size) := hidW (by have := hb.size; simp at this; omega)
  clear hb HK
  generalize hA : W.heap.size = B0 at HX HN3 ⊢
  clear hA
  have c3 := HX.out.ph.box.cell 3
  go_wp2_with (fail)
  go_at_call 53
  generalize World.alloc _ _ = w2 at *
  generalize w1.heap.size = B3 at *
  refine (HL.out _ HX.out.ph).mono ?_
  rintro e w3 ⟨rfl, hb⟩
  replace HX := hidW (HX.out.step hb)
  replace HA := hidW (HA.out.below hb)
  have HN4 : Hid (w3.heap.size ≠ B0) := hidW (Nat.ne_of_gt HX.out.br.lt)
  have HX2 : Hid (GF W (w3.alloc (.cells ([.int .i64 kb.asid, .int .i64 kb.t.size, .int .u32 kb.t.va, .int .u64 kb.t.pa, .int .i64 kb.t.dom, .int .i64 kb.t.ap, .int .u32 kb.t.bits, .bool kb.t.ng, .bool kb.t.xn]).toArray 38)) A X B0 B3 w3.heap.size ab kb) := hidW ⟨HX.out.step (below_new _ _), HA.out.below (below_new _ _), Bl.new _ _ _, HN3.out, HN4.out⟩
  clear hb HL HX HA c3 HN3 HN4
  try clear c0
  have HX := HX2
  clear HX2
  go_wp2
  generalize World.alloc _ _ = w4 at *
  generalize w3.heap.size = B4 at *
  replace HX := hidW HX.out.drew
  refine wp_region_held_drew (S := fun w' => w'.cell? ⟨B4, 0, none⟩ = some (.int .i64 kb.asid) ∧ w'.cell? ⟨B4, 1, none⟩ = some (.int .i64 kb.t.size) ∧ w'.cell? ⟨B4, 2, none⟩ = some (.int .u32 kb.t.va) ∧ w'.cell? ⟨B4, 3, none⟩ = some (.int .u64 kb.t.pa) ∧ w'.cell? ⟨B4, 4, none⟩ = some (.int .i64 kb.t.dom) ∧ w'.cell? ⟨B4, 5, none⟩ = some (.int .i64 kb.t.ap) ∧ w'.cell? ⟨B4, 6, none⟩ = some (.int .u32 kb.t.bits) ∧ w'.cell? ⟨B4, 7, none⟩ = some (.bool kb.t.ng) ∧ w'.cell? ⟨B4, 8, none⟩ = some (.bool kb.t.xn)) (by kernel_rfl) HX.out.cells4 (fun hHeld => ?_)
  refine wpAnyH_take (i := 0) (oi := { dst := some 72, op := Op.load 38 (Operand.tmp 17), type := 38, pos := _, after := #[], guard := none }) (v := ?_) rfl (by kernel_rfl) (by kernel_rfl) (by kernel_rfl) (fun _ _ _ h => h) (Or.inl ⟨by rfl, ?_⟩) (by assumption) ?_
  rotate_left
  · (intro w hSw; (try dsimp only at hSw); go_simp; try with_reducible rfl)
  simp only [Act.put, List.setIfInBounds_toArray, List.set_cons_zero, List.set_cons_succ]
  refine wpAnyH_take (i := 1) (oi := { dst := some 73, op := Op.move (Operand.tmp 18), type := 3, pos := _, after := #[], guard := none }) (v := ?_) rfl (by kernel_rfl) (by kernel_rfl) (by kernel_rfl) (fun _ _ _ h => h) (Or.inl ⟨by rfl, ?_⟩) (by assumption) ?_
  rotate_left
  · (intro w hSw; (try dsimp only at hSw); go_simp; try with_reducible rfl)
  simp only [Act.put, List.setIfInBounds_toArray, List.set_cons_zero, List.set_cons_succ]
  refine wpAnyH_ready (rs := [2]) (by kernel_rfl) (by simp) ?_
  refine AllReadyH.cons (o := { dst := some 74, op := Op.call { callee := Callee.value (Operand.func 55), args := #[Operand.tmp 73], argTypes := #[3] }, type := 3, pos := _, after := #[{ on := 1, ground := Ground.data }], guard := none }) rfl (fun K hK => ?_) AllReadyH.nil
  go_simp
  (go_at_call 55; refine (HM.out _ _).mono ?_; rintro e w9 ⟨rfl, hb⟩; replace HX := hidW (HX.out.step hb); clear hb; have r1 := HX.out.g0.br.cell; have r2 := HX.out.g0.br.frozen; have r3 := HX.out.g0.br.lt; go_wp2_with fail)
  refine hK.out _ _ ?_ (fun hHeld => ?_)
  · ((try dsimp only); with_reducible exact HX.out.cells4)
  clear hK K
  try simp only [Act.put, List.setIfInBounds_toArray, List.set_cons_zero, List.set_cons_succ]
  refine wpAnyH_ready (rs := [3]) (by kernel_rfl) (by simp) ?_
  refine AllReadyH.cons (o := { dst := none, op := Op.store 38 (Operand.tmp 12) (Operand.tmp 72), type := 0, pos := _, after := #[{ on := 0, ground := Ground.data }, { on := 2, ground := Ground.chain }, { on := 0, ground := Ground.phase }, { on := 1, ground := Ground.textOnly Departure.lateStores }, { on := 2, ground := Ground.textOnly Departure.lateStoresUnsure }], guard := none }) rfl (fun K hK => ?_) AllReadyH.nil
  go_simp
  skip
  refine hK.out _ _ ?_ (fun hHeld => ?_)
  · ((try dsimp only); with_reducible exact HX.out.set4 kb _ rfl)
  clear hK K
  try simp only [Act.put, List.setIfInBounds_toArray, List.set_cons_zero, List.set_cons_succ]
  refine wpAnyH_take (i := 4) (oi := { dst := some 13, op := Op.assign (Operand.tmp 74), type := 3, pos := _, after := #[{ on := 2, ground := Ground.data }, { on := 3, ground := Ground.chain }, { on := 0, ground := Ground.phase }, { on := 1, ground := Ground.phase }, { on := 2, ground := Ground.phase }, { on := 3, ground := Ground.phase }], guard := none }) (v := ?_) rfl (by kernel_rfl) (by kernel_rfl) (by kernel_rfl) (fun _ _ _ h => h) (Or.inl ⟨by rfl, ?_⟩) (by assumption) ?_
  rotate_left
  · (intro w hSw; (try dsimp only at hSw); go_simp; try with_reducible rfl)
  simp only [Act.put, List.setIfInBounds_toArray, List.set_cons_zero, List.set_cons_succ]
  refine wpAnyH_done (by kernel_rfl) ?_ _
  clear hHeld
  go_wp2
  refine bodyPost_ret (v := .tuple #[.agg #[.int .i64 kb.asid, .int .i64 kb.t.size, .int .u32 kb.t.va, .int .u64 kb.t.pa, .int .i64 kb.t.dom, .int .i64 kb.t.ap, .int .u32 kb.t.bits, .bool kb.t.ng, .bool kb.t.xn], .int .i64 ((min kn 2 : Nat) : Int)]) (by simp [results, Tryd.results41, go_sem, r1, r2, r3]) rfl ⟨rfl, ?_⟩
  exact HX.out.ends kb
set_option maxRecDepth 100000 in
set_option maxHeartbeats 8000000 in
theorem vfind_false_true_a (W : World) (A : Ad) (X : Hi) (va asid pick : Int) (h : PH 93 89 [.pointer none] W A X) (hv : 0 ≤ va ∧ va < 4294967296) (hc : (lkF X.m va asid).2 = 0) :
    Calls Tryd.prog 41 #[.pointer (some ⟨A.h, 0, none⟩), .int .u32 va, .int .i64 asid, .bool false, .int .i64 pick, .bool true] W fun e w' => e = .returned (.tuple #[.agg #[.int .i64 ((lkF X.d va asid).1).asid, .int .i64 ((lkF X.d va asid).1).t.size, .int .u32 ((lkF X.d va asid).1).t.va, .int .u64 ((lkF X.d va asid).1).t.pa, .int .i64 ((lkF X.d va asid).1).t.dom, .int .i64 ((lkF X.d va asid).1).t.ap, .int .u32 ((lkF X.d va asid).1).t.bits, .bool ((lkF X.d va asid).1).t.ng, .bool ((lkF X.d va asid).1).t.xn], .int .i64 ((min (lkF X.d va asid).2 2 : Nat) : Int)]) ∧ PH 93 89 [.pointer none] w' A X ∧ Turn A.S W w' := by
  have HX := hidW (G0.start h)
  have HS := vsmall_any false
  have HK : Hid (∀ w, PH 93 89 [.pointer none] w A X → Calls Tryd.prog 53 #[.pointer (some ⟨A.pd, 0, none⟩), .int .u32 va, .int .i64 asid] w fun e w' => e = .returned (.tuple #[.agg #[.int .i64 ((lkF X.d va asid).1).asid, .int .i64 ((lkF X.d va asid).1).t.size, .int .u32 ((lkF X.d va asid).1).t.va, .int .u64 ((lkF X.d va asid).1).t.pa, .int .i64 ((lkF X.d va asid).1).t.dom, .int .i64 ((lkF X.d va asid).1).t.ap, .int .u32 ((lkF X.d va asid).1).t.bits, .bool ((lkF X.d va asid).1).t.ng, .bool ((lkF X.d va asid).1).t.xn], .int .i64 ((lkF X.d va asid).2 : Nat)]) ∧ Below w.heap.size w w') := fun w k => ulook_any w _ _ X.d va asid k.td hv
  have HL : Hid (∀ w, PH 93 89 [.pointer none] w A X → Calls Tryd.prog 53 #[.pointer (some ⟨A.pm, 0, none⟩), .int .u32 va, .int .i64 asid] w fun e w' => e = .returned (.tuple #[.agg #[.int .i64 ((lkF X.m va asid).1).asid, .int .i64 ((lkF X.m va asid).1).t.size, .int .u32 ((lkF X.m va asid).1).t.va, .int .u64 ((lkF X.m va asid).1).t.pa, .int .i64 ((lkF X.m va asid).1).t.dom, .int .i64 ((lkF X.m va asid).1).t.ap, .int .u32 ((lkF X.m va asid).1).t.bits, .bool ((lkF X.m va asid).1).t.ng, .bool ((lkF X.m va asid).1).t.xn], .int .i64 ((lkF X.m va asid).2 : Nat)]) ∧ Below w.heap.size w w') := fun w k => ulook_any w _ _ X.m va asid k.tm hv
  have HM := hidW vmany_any
  clear h
  generalize (lkF X.d va asid) = R at *
  generalize (lkF X.m va asid) = R2 at *
  obtain ⟨ab, an⟩ := R
  obtain ⟨kb, kn⟩ := R2
  dsimp only at *
  obtain rfl : kn = 0 := hc
  go_enter Tryd.func41, Tryd.ntmps41
  go_wp2_with (go_at_call 52; refine (HS _).mono ?_; rintro e w' ⟨rfl, rfl⟩; simp only [if_true, if_false, Bool.false_eq_true]; have c0 := HX.out.ph.box.cell 2)
  go_at_call 53
  refine (HK.out _ HX.out.ph).mono ?_
  rintro e w1 ⟨rfl, hb⟩
  have HA := hidW (Bl.new w1 38 ([.int .i64 ab.asid, .int .i64 ab.t.size, .int .u32 ab.t.va, .int .u64 ab.t.pa, .int .i64 ab.t.dom, .int .i64 ab.t.ap, .int .u32 ab.t.bits, .bool ab.t.ng, .bool ab.t.xn]))
  replace HX := hidW ((HX.out.step hb).step (below_new _ (.cells ([.int .i64 ab.asid, .int .i64 ab.t.size, .int .u32 ab.t.va, .int .u64 ab.t.pa, .int .i64 ab.t.dom, .int .i64 ab.t.ap, .int .u32 ab.t.bits, .bool ab.t.ng, .bool ab.t.xn]).toArray 38)))
  have HN3 : Hid (w1.heap.size ≠ W.heap.size) := hidW (by have := hb.size; simp at this; omega)
  clear hb HK
  generalize hA : W.heap.size = B0 at HX HN3 ⊢
  clear hA
  have c3 := HX.out.ph.box.cell 3
  go_wp2_with (fail)
  go_at_call 53
  generalize World.alloc _ _ = w2 at *
  generalize w1.heap.size = B3 at *
  refine (HL.out _ HX.out.ph).mono ?_
  rintro e w3 ⟨rfl, hb⟩
  replace HX := hidW (HX.out.step hb)
  replace HA := hidW (HA.out.below hb)
  have HN4 : Hid (w3.heap.size ≠ B0) := hidW (Nat.ne_of_gt HX.out.br.lt)
  have HX2 : Hid (GF W (w3.alloc (.cells ([.int .i64 kb.asid, .int .i64 kb.t.size, .int .u32 kb.t.va, .int .u64 kb.t.pa, .int .i64 kb.t.dom, .int .i64 kb.t.ap, .int .u32 kb.t.bits, .bool kb.t.ng, .bool kb.t.xn]).toArray 38)) A X B0 B3 w3.heap.size ab kb) := hidW ⟨HX.out.step (below_new _ _), HA.out.below (below_new _ _), Bl.new _ _ _, HN3.out, HN4.out⟩
  clear hb HL HX HA c3 HN3 HN4
  try clear c0
  have HX := HX2
  clear HX2
  go_wp2
  generalize World.alloc _ _ = w4 at *
  generalize w3.heap.size = B4 at *
  replace HX := hidW HX.out.drew
  refine wp_region_held_drew (S := fun w' => w'.cell? ⟨B3, 0, none⟩ = some (.int .i64 ab.asid) ∧ w'.cell? ⟨B3, 1, none⟩ = some (.int .i64 ab.t.size) ∧ w'.cell? ⟨B3, 2, none⟩ = some (.int .u32 ab.t.va) ∧ w'.cell? ⟨B3, 3, none⟩ = some (.int .u64 ab.t.pa) ∧ w'.cell? ⟨B3, 4, none⟩ = some (.int .i64 ab.t.dom) ∧ w'.cell? ⟨B3, 5, none⟩ = some (.int .i64 ab.t.ap) ∧ w'.cell? ⟨B3, 6, none⟩ = some (.int .u32 ab.t.bits) ∧ w'.cell? ⟨B3, 7, none⟩ = some (.bool ab.t.ng) ∧ w'.cell? ⟨B3, 8, none⟩ = some (.bool ab.t.xn)) (by kernel_rfl) HX.out.cells3 (fun hHeld => ?_)
  refine wpAnyH_take (i := 0) (oi := { dst := some 75, op := Op.load 38 (Operand.tmp 15), type := 38, pos := _, after := #[], guard := none }) (v := ?_) rfl (by kernel_rfl) (by kernel_rfl) (by kernel_rfl) (fun _ _ _ h => h) (Or.inl ⟨by rfl, ?_⟩) (by assumption) ?_
  rotate_left
  · (intro w hSw; (try dsimp only at hSw); go_simp; try with_reducible rfl)
  simp only [Act.put, List.setIfInBounds_toArray, List.set_cons_zero, List.set_cons_succ]
  refine wpAnyH_take (i := 1) (oi := { dst := some 76, op := Op.move (Operand.tmp 16), type := 3, pos := _, after := #[], guard := none }) (v := ?_) rfl (by kernel_rfl) (by kernel_rfl) (by kernel_rfl) (fun _ _ _ h => h) (Or.inl ⟨by rfl, ?_⟩) (by assumption) ?_
  rotate_left
  · (intro w hSw; (try dsimp only at hSw); go_simp; try with_reducible rfl)
  simp only [Act.put, List.setIfInBounds_toArray, List.set_cons_zero, List.set_cons_succ]
  refine wpAnyH_ready (rs := [2]) (by kernel_rfl) (by simp) ?_
  refine AllReadyH.cons (o := { dst := some 77, op := Op.call { callee := Callee.value (Operand.func 55), args := #[Operand.tmp 76], argTypes := #[3] }, type := 3, pos := _, after := #[{ on := 1, ground := Ground.data }], guard := none }) rfl (fun K hK => ?_) AllReadyH.nil
  go_simp
  (go_at_call 55; refine (HM.out _ _).mono ?_; rintro e w9 ⟨rfl, hb⟩; replace HX := hidW (HX.out.step hb); clear hb; have r1 := HX.out.g0.br.cell; have r2 := HX.out.g0.br.frozen; have r3 := HX.out.g0.br.lt; go_wp2_with fail)
  refine hK.out _ _ ?_ (fun hHeld => ?_)
  · ((try dsimp only); with_reducible exact HX.out.cells3)
  clear hK K
  try simp only [Act.put, List.setIfInBounds_toArray, List.set_cons_zero, List.set_cons_succ]
  refine wpAnyH_ready (rs := [3]) (by kernel_rfl) (by simp) ?_
  refine AllReadyH.cons (o := { dst := none, op := Op.store 38 (Operand.tmp 12) (Operand.tmp 75), type := 0, pos := _, after := #[{ on := 0, ground := Ground.data }, { on := 2, ground := Ground.chain }, { on := 0, ground := Ground.phase }, { on := 1, ground := Ground.textOnly Departure.lateStores }, { on := 2, ground := Ground.textOnly Departure.lateStoresUnsure }], guard := none }) rfl (fun K hK => ?_) AllReadyH.nil
  go_simp
  skip
  refine hK.out _ _ ?_ (fun hHeld => ?_)
  · ((try dsimp only); with_reducible exact HX.out.set3 ab _ rfl)
  clear hK K
  try simp only [Act.put, List.setIfInBounds_toArray, List.set_cons_zero, List.set_cons_succ]
  refine wpAnyH_take (i := 4) (oi := { dst := some 13, op := Op.assign (Operand.tmp 77), type := 3, pos := _, after := #[{ on := 2, ground := Ground.data }, { on := 3, ground := Ground.chain }, { on := 0, ground := Ground.phase }, { on := 1, ground := Ground.phase }, { on := 2, ground := Ground.phase }, { on := 3, ground := Ground.phase }], guard := none }) (v := ?_) rfl (by kernel_rfl) (by kernel_rfl) (by kernel_rfl) (fun _ _ _ h => h) (Or.inl ⟨by rfl, ?_⟩) (by assumption) ?_
  rotate_left
  · (intro w hSw; (try dsimp only at hSw); go_simp; try with_reducible rfl)
  simp only [Act.put, List.setIfInBounds_toArray, List.set_cons_zero, List.set_cons_succ]
  refine wpAnyH_done (by kernel_rfl) ?_ _
  clear hHeld
  go_wp2
  refine bodyPost_ret (v := .tuple #[.agg #[.int .i64 ab.asid, .int .i64 ab.t.size, .int .u32 ab.t.va, .int .u64 ab.t.pa, .int .i64 ab.t.dom, .int .i64 ab.t.ap, .int .u32 ab.t.bits, .bool ab.t.ng, .bool ab.t.xn], .int .i64 ((min an 2 : Nat) : Int)]) (by simp [results, Tryd.results41, go_sem, r1, r2, r3]) rfl ⟨rfl, ?_⟩
  exact HX.out.ends ab
set_option maxRecDepth 100000 in
set_option maxHeartbeats 8000000 in
theorem vfind_false_true_p (W : World) (A : Ad) (X : Hi) (va asid pick : Int) (h : PH 93 89 [.pointer none] W A X) (hv : 0 ≤ va ∧ va < 4294967296) (hc : (lkF X.m va asid).2 = 1 ∧ (lkF X.d va asid).2 = 0) :
    Calls Tryd.prog 41 #[.pointer (some ⟨A.h, 0, none⟩), .int .u32 va, .int .i64 asid, .bool false, .int .i64 pick, .bool true] W fun e w' => e = .returned (.tuple #[.agg #[.int .i64 ((lkF X.m va asid).1).asid, .int .i64 ((lkF X.m va asid).1).t.size, .int .u32 ((lkF X.m va asid).1).t.va, .int .u64 ((lkF X.m va asid).1).t.pa, .int .i64 ((lkF X.m va asid).1).t.dom, .int .i64 ((lkF X.m va asid).1).t.ap, .int .u32 ((lkF X.m va asid).1).t.bits, .bool ((lkF X.m va asid).1).t.ng, .bool ((lkF X.m va asid).1).t.xn], .int .i64 ((min (lkF X.m va asid).2 2 : Nat) : Int)]) ∧ PH 93 89 [.pointer none] w' A ⟨X.i, (puF X.d (lkF X.m va asid).1 pick).2, X.m⟩ ∧ Turn A.S W w' := by
  have HX := hidW (G0.start h)
  have HS := vsmall_any false
  have HK : Hid (∀ w, PH 93 89 [.pointer none] w A X → Calls Tryd.prog 53 #[.pointer (some ⟨A.pd, 0, none⟩), .int .u32 va, .int .i64 asid] w fun e w' => e = .returned (.tuple #[.agg #[.int .i64 ((lkF X.d va asid).1).asid, .int .i64 ((lkF X.d va asid).1).t.size, .int .u32 ((lkF X.d va asid).1).t.va, .int .u64 ((lkF X.d va asid).1).t.pa, .int .i64 ((lkF X.d va asid).1).t.dom, .int .i64 ((lkF X.d va asid).1).t.ap, .int .u32 ((lkF X.d va asid).1).t.bits, .bool ((lkF X.d va asid).1).t.ng, .bool ((lkF X.d va asid).1).t.xn], .int .i64 ((lkF X.d va asid).2 : Nat)]) ∧ Below w.heap.size w w') := fun w k => ulook_any w _ _ X.d va asid k.td hv
  have HL : Hid (∀ w, PH 93 89 [.pointer none] w A X → Calls Tryd.prog 53 #[.pointer (some ⟨A.pm, 0, none⟩), .int .u32 va, .int .i64 asid] w fun e w' => e = .returned (.tuple #[.agg #[.int .i64 ((lkF X.m va asid).1).asid, .int .i64 ((lkF X.m va asid).1).t.size, .int .u32 ((lkF X.m va asid).1).t.va, .int .u64 ((lkF X.m va asid).1).t.pa, .int .i64 ((lkF X.m va asid).1).t.dom, .int .i64 ((lkF X.m va asid).1).t.ap, .int .u32 ((lkF X.m va asid).1).t.bits, .bool ((lkF X.m va asid).1).t.ng, .bool ((lkF X.m va asid).1).t.xn], .int .i64 ((lkF X.m va asid).2 : Nat)]) ∧ Below w.heap.size w w') := fun w k => ulook_any w _ _ X.m va asid k.tm hv
  have HM := hidW vmany_any
  have hbo := lkF_ok h.tm.ok va asid
  have HU : Hid (∀ w, PH 93 89 [.pointer none] w A X → Calls Tryd.prog 54 #[.pointer (some ⟨A.pd, 0, none⟩), .agg #[.int .i64 ((lkF X.m va asid).1).asid, .int .i64 ((lkF X.m va asid).1).t.size, .int .u32 ((lkF X.m va asid).1).t.va, .int .u64 ((lkF X.m va asid).1).t.pa, .int .i64 ((lkF X.m va asid).1).t.dom, .int .i64 ((lkF X.m va asid).1).t.ap, .int .u32 ((lkF X.m va asid).1).t.bits, .bool ((lkF X.m va asid).1).t.ng, .bool ((lkF X.m va asid).1).t.xn], .int .i64 pick] w fun e w' => e = .returned (.tuple #[.int .i64 ((puF X.d (lkF X.m va asid).1 pick).1.1 : Nat), .int .i64 (puF X.d (lkF X.m va asid).1 pick).1.2]) ∧ PH 93 89 [.pointer none] w' A ⟨X.i, (puF X.d (lkF X.m va asid).1 pick).2, X.m⟩ ∧ Turn (· = A.gd) w w') := fun w k => (uput_any w _ _ X.d _ pick k.td hbo).mono fun e w' q => ⟨q.1, k.setD q.2.1 q.2.2, q.2.2⟩
  clear hbo
  generalize (puF X.d (lkF X.m va asid).1 pick) = Q at *
  obtain ⟨⟨qi, qe⟩, ql⟩ := Q
  clear h
  generalize (lkF X.d va asid) = R at *
  generalize (lkF X.m va asid) = R2 at *
  obtain ⟨ab, an⟩ := R
  obtain ⟨kb, kn⟩ := R2
  dsimp only at *
  obtain ⟨rfl, rfl⟩ := hc
  go_enter Tryd.func41, Tryd.ntmps41
  go_wp2_with (go_at_call 52; refine (HS _).mono ?_; rintro e w' ⟨rfl, rfl⟩; simp only [if_true, if_false, Bool.false_eq_true]; have c0 := HX.out.ph.box.cell 2)
  go_at_call 53
  refine (HK.out _ HX.out.ph).mono ?_
  rintro e w1 ⟨rfl, hb⟩
  have HA := hidW (Bl.new w1 38 ([.int .i64 ab.asid, .int .i64 ab.t.size, .int .u32 ab.t.va, .int .u64 ab.t.pa, .int .i64 ab.t.dom, .int .i64 ab.t.ap, .int .u32 ab.t.bits, .bool ab.t.ng, .bool ab.t.xn]))
  replace HX := hidW ((HX.out.step hb).step (below_new _ (.cells ([.int .i64 ab.asid, .int .i64 ab.t.size, .int .u32 ab.t.va, .int .u64 ab.t.pa, .int .i64 ab.t.dom, .int .i64 ab.t.ap, .int .u32 ab.t.bits, .bool ab.t.ng, .bool ab.t.xn]).toArray 38)))
  have HN3 : Hid (w1.heap.size ≠ W.heap.size) := hidW (by have := hb.size; simp at this; omega)
  clear hb HK
  generalize hA : W.heap.size = B0 at HX HN3 ⊢
  clear hA
  have c3 := HX.out.ph.box.cell 3
  go_wp2_with (fail)
  go_at_call 53
  generalize World.alloc _ _ = w2 at *
  generalize w1.heap.size = B3 at *
  refine (HL.out _ HX.out.ph).mono ?_
  rintro e w3 ⟨rfl, hb⟩
  replace HX := hidW (HX.out.step hb)
  replace HA := hidW (HA.out.below hb)
  have HN4 : Hid (w3.heap.size ≠ B0) := hidW (Nat.ne_of_gt HX.out.br.lt)
  have HX2 : Hid (GF W (w3.alloc (.cells ([.int .i64 kb.asid, .int .i64 kb.t.size, .int .u32 kb.t.va, .int .u64 kb.t.pa, .int .i64 kb.t.dom, .int .i64 kb.t.ap, .int .u32 kb.t.bits, .bool kb.t.ng, .bool kb.t.xn]).toArray 38)) A X B0 B3 w3.heap.size ab kb) := hidW ⟨HX.out.step (below_new _ _), HA.out.below (below_new _ _), Bl.new _ _ _, HN3.out, HN4.out⟩
  clear hb HL HX HA c3 HN3 HN4
  try clear c0
  have HX := HX2
  clear HX2
  go_wp2
  generalize World.alloc _ _ = w4 at *
  generalize w3.heap.size = B4 at *
  replace HX := hidW HX.out.drew
  refine wp_region_held_drew (S := fun w' => w'.cell? ⟨A.h, 2, none⟩ = some (.pointer (some ⟨A.pd, 0, none⟩)) ∧ w'.cell? ⟨B4, 0, none⟩ = some (.int .i64 kb.asid) ∧ w'.cell? ⟨B4, 1, none⟩ = some (.int .i64 kb.t.size) ∧ w'.cell? ⟨B4, 2, none⟩ = some (.int .u32 kb.t.va) ∧ w'.cell? ⟨B4, 3, none⟩ = some (.int .u64 kb.t.pa) ∧ w'.cell? ⟨B4, 4, none⟩ = some (.int .i64 kb.t.dom) ∧ w'.cell? ⟨B4, 5, none⟩ = some (.int .i64 kb.t.ap) ∧ w'.cell? ⟨B4, 6, none⟩ = some (.int .u32 kb.t.bits) ∧ w'.cell? ⟨B4, 7, none⟩ = some (.bool kb.t.ng) ∧ w'.cell? ⟨B4, 8, none⟩ = some (.bool kb.t.xn)) (by kernel_rfl) ⟨HX.out.g0.ph.box.cell 2, HX.out.cells4⟩ (fun hHeld => ?_)
  refine wpAnyH_take (i := 0) (oi := { dst := some 63, op := Op.move (Operand.tmp 0), type := 59, pos := _, after := #[], guard := none }) (v := ?_) rfl (by kernel_rfl) (by kernel_rfl) (by kernel_rfl) (fun _ _ _ h => h) (Or.inl ⟨by rfl, ?_⟩) (by assumption) ?_
  rotate_left
  · (intro w hSw; (try dsimp only at hSw); go_simp; try with_reducible rfl)
  simp only [Act.put, List.setIfInBounds_toArray, List.set_cons_zero, List.set_cons_succ]
  refine wpAnyH_take (i := 1) (oi := { dst := some 64, op := Op.move (Operand.tmp 14), type := 3, pos := _, after := #[], guard := none }) (v := ?_) rfl (by kernel_rfl) (by kernel_rfl) (by kernel_rfl) (fun _ _ _ h => h) (Or.inl ⟨by rfl, ?_⟩) (by assumption) ?_
  rotate_left
  · (intro w hSw; (try dsimp only at hSw); go_simp; try with_reducible rfl)
  simp only [Act.put, List.setIfInBounds_toArray, List.set_cons_zero, List.set_cons_succ]
  refine wpAnyH_take (i := 2) (oi := { dst := some 65, op := Op.nilCheck (Operand.tmp 63), type := 0, pos := _, after := #[{ on := 0, ground := Ground.data }], guard := none }) (v := ?_) rfl (by kernel_rfl) (by kernel_rfl) (by kernel_rfl) (fun _ _ _ h => h) (Or.inl ⟨by rfl, ?_⟩) (by assumption) ?_
  rotate_left
  · (intro w hSw; (try dsimp only at hSw); go_simp; try with_reducible rfl)
  simp only [Act.put, List.setIfInBounds_toArray, List.set_cons_zero, List.set_cons_succ]
  refine wpAnyH_take (i := 3) (oi := { dst := some 66, op := Op.fieldAddr 93 (Operand.tmp 65) 0, type := 0, pos := _, after := #[{ on := 2, ground := Ground.data }], guard := none }) (v := ?_) rfl (by kernel_rfl) (by kernel_rfl) (by kernel_rfl) (fun _ _ _ h => h) (Or.inl ⟨by rfl, ?_⟩) (by assumption) ?_
  rotate_left
  · (intro w hSw; (try dsimp only at hSw); go_simp; try with_reducible rfl)
  simp only [Act.put, List.setIfInBounds_toArray, List.set_cons_zero, List.set_cons_succ]
  refine wpAnyH_take (i := 4) (oi := { dst := some 67, op := Op.indexAddr 91 (Operand.tmp 66) (Operand.tmp 64), type := 0, pos := _, after := #[{ on := 3, ground := Ground.data }, { on := 1, ground := Ground.data }], guard := none }) (v := ?_) rfl (by kernel_rfl) (by kernel_rfl) (by kernel_rfl) (fun _ _ _ h => h) (Or.inl ⟨by rfl, ?_⟩) (by assumption) ?_
  rotate_left
  · (intro w hSw; (try dsimp only at hSw); go_simp; try with_reducible rfl)
  simp only [Act.put, List.setIfInBounds_toArray, List.set_cons_zero, List.set_cons_succ]
  refine wpAnyH_take (i := 5) (oi := { dst := some 68, op := Op.load 90 (Operand.tmp 67), type := 90, pos := _, after := #[{ on := 4, ground := Ground.data }], guard := none }) (v := ?_) rfl (by kernel_rfl) (by kernel_rfl) (by kernel_rfl) (fun _ _ _ h => h) (Or.inl ⟨by rfl, ?_⟩) (by assumption) ?_
  rotate_left
  · (intro w hSw; (try dsimp only at hSw); go_simp; try with_reducible rfl)
  simp only [Act.put, List.setIfInBounds_toArray, List.set_cons_zero, List.set_cons_succ]
  refine wpAnyH_take (i := 6) (oi := { dst := some 69, op := Op.load 38 (Operand.tmp 17), type := 38, pos := _, after := #[], guard := none }) (v := ?_) rfl (by kernel_rfl) (by kernel_rfl) (by kernel_rfl) (fun _ _ _ h => h) (Or.inl ⟨by rfl, ?_⟩) (by assumption) ?_
  rotate_left
  · (intro w hSw; (try dsimp only at hSw); go_simp; try with_reducible rfl)
  simp only [Act.put, List.setIfInBounds_toArray, List.set_cons_zero, List.set_cons_succ]
  refine wpAnyH_take (i := 7) (oi := { dst := some 70, op := Op.move (Operand.tmp 4), type := 3, pos := _, after := #[], guard := none }) (v := ?_) rfl (by kernel_rfl) (by kernel_rfl) (by kernel_rfl) (fun _ _ _ h => h) (Or.inl ⟨by rfl, ?_⟩) (by assumption) ?_
  rotate_left
  · (intro w hSw; (try dsimp only at hSw); go_simp; try with_reducible rfl)
  simp only [Act.put, List.setIfInBounds_toArray, List.set_cons_zero, List.set_cons_succ]
  refine wpAnyH_ready (rs := [8]) (by kernel_rfl) (by simp) ?_
  refine AllReadyH.cons (o := { dst := some 71, op := Op.call { callee := Callee.value (Operand.func 54), args := #[Operand.tmp 68, Operand.tmp 69, Operand.tmp 70], argTypes := #[90, 38, 3] }, type := 109, pos := _, after := #[{ on := 5, ground := Ground.data }, { on := 6, ground := Ground.data }, { on := 7, ground := Ground.data }], guard := none }) rfl (fun K hK => ?_) AllReadyH.nil
  go_simp
  (go_at_call 54; refine (HU.out _ HX.out.g0.ph).mono ?_; rintro e w5 ⟨rfl, hp, hT⟩; replace HX := hidW (HX.out.turn hp hT (fun x hx => .inr (.inl hx))); clear hp hT HU; go_wp2_with fail)
  refine hK.out _ _ ?_ (fun hHeld => ?_)
  · ((try dsimp only); exact ⟨HX.out.g0.ph.box.cell 2, HX.out.cells4⟩)
  clear hK K
  try simp only [Act.put, List.setIfInBounds_toArray, List.set_cons_zero, List.set_cons_succ]
  refine wpAnyH_done (by kernel_rfl) ?_ _
  clear hHeld
  go_wp2
  replace HX := hidW HX.out.drew
  refine wp_region_held_drew (S := fun w' => w'.cell? ⟨B4, 0, none⟩ = some (.int .i64 kb.asid) ∧ w'.cell? ⟨B4, 1, none⟩ = some (.int .i64 kb.t.size) ∧ w'.cell? ⟨B4, 2, none⟩ = some (.int .u32 kb.t.va) ∧ w'.cell? ⟨B4, 3, none⟩ = some (.int .u64 kb.t.pa) ∧ w'.cell? ⟨B4, 4, none⟩ = some (.int .i64 kb.t.dom) ∧ w'.cell? ⟨B4, 5, none⟩ = some (.int .i64 kb.t.ap) ∧ w'.cell? ⟨B4, 6, none⟩ = some (.int .u32 kb.t.bits) ∧ w'.cell? ⟨B4, 7, none⟩ = some (.bool kb.t.ng) ∧ w'.cell? ⟨B4, 8, none⟩ = some (.bool kb.t.xn)) (by kernel_rfl) HX.out.cells4 (fun hHeld => ?_)
  refine wpAnyH_take (i := 0) (oi := { dst := some 72, op := Op.load 38 (Operand.tmp 17), type := 38, pos := _, after := #[], guard := none }) (v := ?_) rfl (by kernel_rfl) (by kernel_rfl) (by kernel_rfl) (fun _ _ _ h => h) (Or.inl ⟨by rfl, ?_⟩) (by assumption) ?_
  rotate_left
  · (intro w hSw; (try dsimp only at hSw); go_simp; try with_reducible rfl)
  simp only [Act.put, List.setIfInBounds_toArray, List.set_cons_zero, List.set_cons_succ]
  refine wpAnyH_take (i := 1) (oi := { dst := some 73, op := Op.move (Operand.tmp 18), type := 3, pos := _, after := #[], guard := none }) (v := ?_) rfl (by kernel_rfl) (by kernel_rfl) (by kernel_rfl) (fun _ _ _ h => h) (Or.inl ⟨by rfl, ?_⟩) (by assumption) ?_
  rotate_left
  · (intro w hSw; (try dsimp only at hSw); go_simp; try with_reducible rfl)
  simp only [Act.put, List.setIfInBounds_toArray, List.set_cons_zero, List.set_cons_succ]
  refine wpAnyH_ready (rs := [2]) (by kernel_rfl) (by simp) ?_
  refine AllReadyH.cons (o := { dst := some 74, op := Op.call { callee := Callee.value (Operand.func 55), args := #[Operand.tmp 73], argTypes := #[3] }, type := 3, pos := _, after := #[{ on := 1, ground := Ground.data }], guard := none }) rfl (fun K hK => ?_) AllReadyH.nil
  go_simp
  (go_at_call 55; refine (HM.out _ _).mono ?_; rintro e w9 ⟨rfl, hb⟩; replace HX := hidW (HX.out.step hb); clear hb; have r1 := HX.out.g0.br.cell; have r2 := HX.out.g0.br.frozen; have r3 := HX.out.g0.br.lt; go_wp2_with fail)
  refine hK.out _ _ ?_ (fun hHeld => ?_)
  · ((try dsimp only); with_reducible exact HX.out.cells4)
  clear hK K
  try simp only [Act.put, List.setIfInBounds_toArray, List.set_cons_zero, List.set_cons_succ]
  refine wpAnyH_ready (rs := [3]) (by kernel_rfl) (by simp) ?_
  refine AllReadyH.cons (o := { dst := none, op := Op.store 38 (Operand.tmp 12) (Operand.tmp 72), type := 0, pos := _, after := #[{ on := 0, ground := Ground.data }, { on := 2, ground := Ground.chain }, { on := 0, ground := Ground.phase }, { on := 1, ground := Ground.textOnly Departure.lateStores }, { on := 2, ground := Ground.textOnly Departure.lateStoresUnsure }], guard := none }) rfl (fun K hK => ?_) AllReadyH.nil
  go_simp
  skip
  refine hK.out _ _ ?_ (fun hHeld => ?_)
  · ((try dsimp only); with_reducible exact HX.out.set4 kb _ rfl)
  clear hK K
  try simp only [Act.put, List.setIfInBounds_toArray, List.set_cons_zero, List.set_cons_succ]
  refine wpAnyH_take (i := 4) (oi := { dst := some 13, op := Op.assign (Operand.tmp 74), type := 3, pos := _, after := #[{ on := 2, ground := Ground.data }, { on := 3, ground := Ground.chain }, { on := 0, ground := Ground.phase }, { on := 1, ground := Ground.phase }, { on := 2, ground := Ground.phase }, { on := 3, ground := Ground.phase }], guard := none }) (v := ?_) rfl (by kernel_rfl) (by kernel_rfl) (by kernel_rfl) (fun _ _ _ h => h) (Or.inl ⟨by rfl, ?_⟩) (by assumption) ?_
  rotate_left
  · (intro w hSw; (try dsimp only at hSw); go_simp; try with_reducible rfl)
  simp only [Act.put, List.setIfInBounds_toArray, List.set_cons_zero, List.set_cons_succ]
  refine wpAnyH_done (by kernel_rfl) ?_ _
  clear hHeld
  go_wp2
  refine bodyPost_ret (v := .tuple #[.agg #[.int .i64 kb.asid, .int .i64 kb.t.size, .int .u32 kb.t.va, .int .u64 kb.t.pa, .int .i64 kb.t.dom, .int .i64 kb.t.ap, .int .u32 kb.t.bits, .bool kb.t.ng, .bool kb.t.xn], .int .i64 ((min 1 2 : Nat) : Int)]) (by simp [results, Tryd.results41, go_sem, r1, r2, r3]) rfl ⟨rfl, ?_⟩
  exact HX.out.ends kb
set_option maxRecDepth 100000 in
set_option maxHeartbeats 8000000 in
theorem vfind_false_true_k (W : World) (A : Ad) (X : Hi) (va asid pick : Int) (h : PH 93 89 [.pointer none] W A X) (hv : 0 ≤ va ∧ va < 4294967296) (hc : 0 < (lkF X.m va asid).2 ∧ ¬ ((lkF X.m va asid).2 = 1 ∧ (lkF X.d va asid).2 = 0)) :
    Calls Tryd.prog 41 #[.pointer (some ⟨A.h, 0, none⟩), .int .u32 va, .int .i64 asid, .bool false, .int .i64 pick, .bool true] W fun e w' => e = .returned (.tuple #[.agg #[.int .i64 ((lkF X.m va asid).1).asid, .int .i64 ((lkF X.m va asid).1).t.size, .int .u32 ((lkF X.m va asid).1).t.va, .int .u64 ((lkF X.m va asid).1).t.pa, .int .i64 ((lkF X.m va asid).1).t.dom, .int .i64 ((lkF X.m va asid).1).t.ap, .int .u32 ((lkF X.m va asid).1).t.bits, .bool ((lkF X.m va asid).1).t.ng, .bool ((lkF X.m va asid).1).t.xn], .int .i64 ((min (lkF X.m va asid).2 2 : Nat) : Int)]) ∧ PH 93 89 [.pointer none] w' A X ∧ Turn A.S W w' := by
  have HX := hidW (G0.start h)
  have HS := vsmall_any false
  have HK : Hid (∀ w, PH 93 89 [.pointer none] w A X → Calls Tryd.prog 53 #[.pointer (some ⟨A.pd, 0, none⟩), .int .u32 va, .int .i64 asid] w fun e w' => e = .returned (.tuple #[.agg #[.int .i64 ((lkF X.d va asid).1).asid, .int .i64 ((lkF X.d va asid).1).t.size, .int .u32 ((lkF X.d va asid).1).t.va, .int .u64 ((lkF X.d va asid).1).t.pa, .int .i64 ((lkF X.d va asid).1).t.dom, .int .i64 ((lkF X.d va asid).1).t.ap, .int .u32 ((lkF X.d va asid).1).t.bits, .bool ((lkF X.d va asid).1).t.ng, .bool ((lkF X.d va asid).1).t.xn], .int .i64 ((lkF X.d va asid).2 : Nat)]) ∧ Below w.heap.size w w') := fun w k => ulook_any w _ _ X.d va asid k.td hv
  have HL : Hid (∀ w, PH 93 89 [.pointer none] w A X → Calls Tryd.prog 53 #[.pointer (some ⟨A.pm, 0, none⟩), .int .u32 va, .int .i64 asid] w fun e w' => e = .returned (.tuple #[.agg #[.int .i64 ((lkF X.m va asid).1).asid, .int .i64 ((lkF X.m va asid).1).t.size, .int .u32 ((lkF X.m va asid).1).t.va, .int .u64 ((lkF X.m va asid).1).t.pa, .int .i64 ((lkF X.m va asid).1).t.dom, .int .i64 ((lkF X.m va asid).1).t.ap, .int .u32 ((lkF X.m va asid).1).t.bits, .bool ((lkF X.m va asid).1).t.ng, .bool ((lkF X.m va asid).1).t.xn], .int .i64 ((lkF X.m va asid).2 : Nat)]) ∧ Below w.heap.size w w') := fun w k => ulook_any w _ _ X.m va asid k.tm hv
  have HM := hidW vmany_any
  clear h
  generalize (lkF X.d va asid) = R at *
  generalize (lkF X.m va asid) = R2 at *
  obtain ⟨ab, an⟩ := R
  obtain ⟨kb, kn⟩ := R2
  dsimp only at *
  obtain ⟨h1, h2⟩ := hc
  have q1 : decide ((0 : Int) < (kn : Int)) = true := decide_eq_true (by omega)
  by_cases h3 : kn = 1
  · subst h3
    have h4 : ¬ (an : Int) = 0 := by omega
    go_enter Tryd.func41, Tryd.ntmps41
    go_wp2_with (go_at_call 52; refine (HS _).mono ?_; rintro e w' ⟨rfl, rfl⟩; simp only [if_true, if_false, Bool.false_eq_true]; have c0 := HX.out.ph.box.cell 2)
    go_at_call 53
    refine (HK.out _ HX.out.ph).mono ?_
    rintro e w1 ⟨rfl, hb⟩
    have HA := hidW (Bl.new w1 38 ([.int .i64 ab.asid, .int .i64 ab.t.size, .int .u32 ab.t.va, .int .u64 ab.t.pa, .int .i64 ab.t.dom, .int .i64 ab.t.ap, .int .u32 ab.t.bits, .bool ab.t.ng, .bool ab.t.xn]))
    replace HX := hidW ((HX.out.step hb).step (below_new _ (.cells ([.int .i64 ab.asid, .int .i64 ab.t.size, .int .u32 ab.t.va, .int .u64 ab.t.pa, .int .i64 ab.t.dom, .int .i64 ab.t.ap, .int .u32 ab.t.bits, .bool ab.t.ng, .bool ab.t.xn]).toArray 38)))
    have HN3 : Hid (w1.heap.size ≠ W.heap.size) := hidW (by have := hb.size; simp at this; omega)
    clear hb HK
    generalize hA : W.heap.size = B0 at HX HN3 ⊢
    clear hA
    have c3 := HX.out.ph.box.cell 3
    go_wp2_with (fail)
    go_at_call 53
    generalize World.alloc _ _ = w2 at *
    generalize w1.heap.size = B3 at *
    refine (HL.out _ HX.out.ph).mono ?_
    rintro e w3 ⟨rfl, hb⟩
    replace HX := hidW (HX.out.step hb)
    replace HA := hidW (HA.out.below hb)
    have HN4 : Hid (w3.heap.size ≠ B0) := hidW (Nat.ne_of_gt HX.out.br.lt)
    have HX2 : Hid (GF W (w3.alloc (.cells ([.int .i64 kb.asid, .int .i64 kb.t.size, .int .u32 kb.t.va, .int .u64 kb.t.pa, .int .i64 kb.t.dom, .int .i64 kb.t.ap, .int .u32 kb.t.bits, .bool kb.t.ng, .bool kb.t.xn]).toArray 38)) A X B0 B3 w3.heap.size ab kb) := hidW ⟨HX.out.step (below_new _ _), HA.out.below (below_new _ _), Bl.new _ _ _, HN3.out, HN4.out⟩
    clear hb HL HX HA c3 HN3 HN4
    try clear c0
    have HX := HX2
    clear HX2
    go_wp2
    generalize World.alloc _ _ = w4 at *
    generalize w3.heap.size = B4 at *
    replace HX := hidW HX.out.drew
    refine wp_region_held_drew (S := fun w' => w'.cell? ⟨B4, 0, none⟩ = some (.int .i64 kb.asid) ∧ w'.cell? ⟨B4, 1, none⟩ = some (.int .i64 kb.t.size) ∧ w'.cell? ⟨B4, 2, none⟩ = some (.int .u32 kb.t.va) ∧ w'.cell? ⟨B4, 3, none⟩ = some (.int .u64 kb.t.pa) ∧ w'.cell? ⟨B4, 4, none⟩ = some (.int .i64 kb.t.dom) ∧ w'.cell? ⟨B4, 5, none⟩ = some (.int .i64 kb.t.ap) ∧ w'.cell? ⟨B4, 6, none⟩ = some (.int .u32 kb.t.bits) ∧ w'.cell? ⟨B4, 7, none⟩ = some (.bool kb.t.ng) ∧ w'.cell? ⟨B4, 8, none⟩ = some (.bool kb.t.xn)) (by kernel_rfl) HX.out.cells4 (fun hHeld => ?_)
    refine wpAnyH_take (i := 0) (oi := { dst := some 72, op := Op.load 38 (Operand.tmp 17), type := 38, pos := _, after := #[], guard := none }) (v := ?_) rfl (by kernel_rfl) (by kernel_rfl) (by kernel_rfl) (fun _ _ _ h => h) (Or.inl ⟨by rfl, ?_⟩) (by assumption) ?_
    rotate_left
    · (intro w hSw; (try dsimp only at hSw); go_simp; try with_reducible rfl)
    simp only [Act.put, List.setIfInBounds_toArray, List.set_cons_zero, List.set_cons_succ]
    refine wpAnyH_take (i := 1) (oi := { dst := some 73, op := Op.move (Operand.tmp 18), type := 3, pos := _, after := #[], guard := none }) (v := ?_) rfl (by kernel_rfl) (by kernel_rfl) (by kernel_rfl) (fun _ _ _ h => h) (Or.inl ⟨by rfl, ?_⟩) (by assumption) ?_
    rotate_left
    · (intro w hSw; (try dsimp only at hSw); go_simp; try with_reducible rfl)
    simp only [Act.put, List.setIfInBounds_toArray, List.set_cons_zero, List.set_cons_succ]
    refine wpAnyH_ready (rs := [2]) (by kernel_rfl) (by simp) ?_
    refine AllReadyH.cons (o := { dst := some 74, op := Op.call { callee := Callee.value (Operand.func 55), args := #[Operand.tmp 73], argTypes := #[3] }, type := 3, pos := _, after := #[{ on := 1, ground := Ground.data }], guard := none }) rfl (fun K hK => ?_) AllReadyH.nil
    go_simp
    (go_at_call 55; refine (HM.out _ _).mono ?_; rintro e w9 ⟨rfl, hb⟩; replace HX := hidW (HX.out.step hb); clear hb; have r1 := HX.out.g0.br.cell; have r2 := HX.out.g0.br.frozen; have r3 := HX.out.g0.br.lt; go_wp2_with fail)
    refine hK.out _ _ ?_ (fun hHeld => ?_)
    · ((try dsimp only); with_reducible exact HX.out.cells4)
    clear hK K
    try simp only [Act.put, List.setIfInBounds_toArray, List.set_cons_zero, List.set_cons_succ]
    refine wpAnyH_ready (rs := [3]) (by kernel_rfl) (by simp) ?_
    refine AllReadyH.cons (o := { dst := none, op := Op.store 38 (Operand.tmp 12) (Operand.tmp 72), type := 0, pos := _, after := #[{ on := 0, ground := Ground.data }, { on := 2, ground := Ground.chain }, { on := 0, ground := Ground.phase }, { on := 1, ground := Ground.textOnly Departure.lateStores }, { on := 2, ground := Ground.textOnly Departure.lateStoresUnsure }], guard := none }) rfl (fun K hK => ?_) AllReadyH.nil
    go_simp
    skip
    refine hK.out _ _ ?_ (fun hHeld => ?_)
    · ((try dsimp only); with_reducible exact HX.out.set4 kb _ rfl)
    clear hK K
    try simp only [Act.put, List.setIfInBounds_toArray, List.set_cons_zero, List.set_cons_succ]
    refine wpAnyH_take (i := 4) (oi := { dst := some 13, op := Op.assign (Operand.tmp 74), type := 3, pos := _, after := #[{ on := 2, ground := Ground.data }, { on := 3, ground := Ground.chain }, { on := 0, ground := Ground.phase }, { on := 1, ground := Ground.phase }, { on := 2, ground := Ground.phase }, { on := 3, ground := Ground.phase }], guard := none }) (v := ?_) rfl (by kernel_rfl) (by kernel_rfl) (by kernel_rfl) (fun _ _ _ h => h) (Or.inl ⟨by rfl, ?_⟩) (by assumption) ?_
    rotate_left
    · (intro w hSw; (try dsimp only at hSw); go_simp; try with_reducible rfl)
    simp only [Act.put, List.setIfInBounds_toArray, List.set_cons_zero, List.set_cons_succ]
    refine wpAnyH_done (by kernel_rfl) ?_ _
    clear hHeld
    go_wp2
    refine bodyPost_ret (v := .tuple #[.agg #[.int .i64 kb.asid, .int .i64 kb.t.size, .int .u32 kb.t.va, .int .u64 kb.t.pa, .int .i64 kb.t.dom, .int .i64 kb.t.ap, .int .u32 kb.t.bits, .bool kb.t.ng, .bool kb.t.xn], .int .i64 ((min 1 2 : Nat) : Int)]) (by simp [results, Tryd.results41, go_sem, r1, r2, r3]) rfl ⟨rfl, ?_⟩
    exact HX.out.ends kb
  · have h4 : ¬ (kn : Int) = 1 := by omega
    go_enter Tryd.func41, Tryd.ntmps41
    go_wp2_with (go_at_call 52; refine (HS _).mono ?_; rintro e w' ⟨rfl, rfl⟩; simp only [if_true, if_false, Bool.false_eq_true]; have c0 := HX.out.ph.box.cell 2)
    go_at_call 53
    refine (HK.out _ HX.out.ph).mono ?_
    rintro e w1 ⟨rfl, hb⟩
    have HA := hidW (Bl.new w1 38 ([.int .i64 ab.asid, .int .i64 ab.t.size, .int .u32 ab.t.va, .int .u64 ab.t.pa, .int .i64 ab.t.dom, .int .i64 ab.t.ap, .int .u32 ab.t.bits, .bool ab.t.ng, .bool ab.t.xn]))
    replace HX := hidW ((HX.out.step hb).step (below_new _ (.cells ([.int .i64 ab.asid, .int .i64 ab.t.size, .int .u32 ab.t.va, .int .u64 ab.t.pa, .int .i64 ab.t.dom, .int .i64 ab.t.ap, .int .u32 ab.t.bits, .bool ab.t.ng, .bool ab.t.xn]).toArray 38)))
    have HN3 : Hid (w1.heap.size ≠ W.heap.size) := hidW (by have := hb.size; simp at this; omega)
    clear hb HK
    generalize hA : W.heap.size = B0 at HX HN3 ⊢
    clear hA
    have c3 := HX.out.ph.box.cell 3
    go_wp2_with (fail)
    go_at_call 53
    generalize World.alloc _ _ = w2 at *
    generalize w1.heap.size = B3 at *
    refine (HL.out _ HX.out.ph).mono ?_
    rintro e w3 ⟨rfl, hb⟩
    replace HX := hidW (HX.out.step hb)
    replace HA := hidW (HA.out.below hb)
    have HN4 : Hid (w3.heap.size ≠ B0) := hidW (Nat.ne_of_gt HX.out.br.lt)
    have HX2 : Hid (GF W (w3.alloc (.cells ([.int .i64 kb.asid, .int .i64 kb.t.size, .int .u32 kb.t.va, .int .u64 kb.t.pa, .int .i64 kb.t.dom, .int .i64 kb.t.ap, .int .u32 kb.t.bits, .bool kb.t.ng, .bool kb.t.xn]).toArray 38)) A X B0 B3 w3.heap.size ab kb) := hidW ⟨HX.out.step (below_new _ _), HA.out.below (below_new _ _), Bl.new _ _ _, HN3.out, HN4.out⟩
    clear hb HL HX HA c3 HN3 HN4
    try clear c0
    have HX := HX2
    clear HX2
    go_wp2
    generalize World.alloc _ _ = w4 at *
    generalize w3.heap.size = B4 at *
    replace HX := hidW HX.out.drew
    refine wp_region_held_drew (S := fun w' => w'.cell? ⟨B4, 0, none⟩ = some (.int .i64 kb.asid) ∧ w'.cell? ⟨B4, 1, none⟩ = some (.int .i64 kb.t.size) ∧ w'.cell? ⟨B4, 2, none⟩ = some (.int .u32 kb.t.va) ∧ w'.cell? ⟨B4, 3, none⟩ = some (.int .u64 kb.t.pa) ∧ w'.cell? ⟨B4, 4, none⟩ = some (.int .i64 kb.t.dom) ∧ w'.cell? ⟨B4, 5, none⟩ = some (.int .i64 kb.t.ap) ∧ w'.cell? ⟨B4, 6, none⟩ = some (.int .u32 kb.t.bits) ∧ w'.cell? ⟨B4, 7, none⟩ = some (.bool kb.t.ng) ∧ w'.cell? ⟨B4, 8, none⟩ = some (.bool kb.t.xn)) (by kernel_rfl) HX.out.cells4 (fun hHeld => ?_)
    refine wpAnyH_take (i := 0) (oi := { dst := some 72, op := Op.load 38 (Operand.tmp 17), type := 38, pos := _, after := #[], guard := none }) (v := ?_) rfl (by kernel_rfl) (by kernel_rfl) (by kernel_rfl) (fun _ _ _ h => h) (Or.inl ⟨by rfl, ?_⟩) (by assumption) ?_
    rotate_left
    · (intro w hSw; (try dsimp only at hSw); go_simp; try with_reducible rfl)
    simp only [Act.put, List.setIfInBounds_toArray, List.set_cons_zero, List.set_cons_succ]
    refine wpAnyH_take (i := 1) (oi := { dst := some 73, op := Op.move (Operand.tmp 18), type := 3, pos := _, after := #[], guard := none }) (v := ?_) rfl (by kernel_rfl) (by kernel_rfl) (by kernel_rfl) (fun _ _ _ h => h) (Or.inl ⟨by rfl, ?_⟩) (by assumption) ?_
    rotate_left
    · (intro w hSw; (try dsimp only at hSw); go_simp; try with_reducible rfl)
    simp only [Act.put, List.setIfInBounds_toArray, List.set_cons_zero, List.set_cons_succ]
    refine wpAnyH_ready (rs := [2]) (by kernel_rfl) (by simp) ?_
    refine AllReadyH.cons (o := { dst := some 74, op := Op.call { callee := Callee.value (Operand.func 55), args := #[Operand.tmp 73], argTypes := #[3] }, type := 3, pos := _, after := #[{ on := 1, ground := Ground.data }], guard := none }) rfl (fun K hK => ?_) AllReadyH.nil
    go_simp
    (go_at_call 55; refine (HM.out _ _).mono ?_; rintro e w9 ⟨rfl, hb⟩; replace HX := hidW (HX.out.step hb); clear hb; have r1 := HX.out.g0.br.cell; have r2 := HX.out.g0.br.frozen; have r3 := HX.out.g0.br.lt; go_wp2_with fail)
    refine hK.out _ _ ?_ (fun hHeld => ?_)
    · ((try dsimp only); with_reducible exact HX.out.cells4)
    clear hK K
    try simp only [Act.put, List.setIfInBounds_toArray, List.set_cons_zero, List.set_cons_succ]
    refine wpAnyH_ready (rs := [3]) (by kernel_rfl) (by simp) ?_
    refine AllReadyH.cons (o := { dst := none, op := Op.store 38 (Operand.tmp 12) (Operand.tmp 72), type := 0, pos := _, after := #[{ on := 0, ground := Ground.data }, { on := 2, ground := Ground.chain }, { on := 0, ground := Ground.phase }, { on := 1, ground := Ground.textOnly Departure.lateStores }, { on := 2, ground := Ground.textOnly Departure.lateStoresUnsure }], guard := none }) rfl (fun K hK => ?_) AllReadyH.nil
    go_simp
    skip
    refine hK.out _ _ ?_ (fun hHeld => ?_)
    · ((try dsimp only); with_reducible exact HX.out.set4 kb _ rfl)
    clear hK K
    try simp only [Act.put, List.setIfInBounds_toArray, List.set_cons_zero, List.set_cons_succ]
    refine wpAnyH_take (i := 4) (oi := { dst := some 13, op := Op.assign (Operand.tmp 74), type := 3, pos := _, after := #[{ on := 2, ground := Ground.data }, { on := 3, ground := Ground.chain }, { on := 0, ground := Ground.phase }, { on := 1, ground := Ground.phase }, { on := 2, ground := Ground.phase }, { on := 3, ground := Ground.phase }], guard := none }) (v := ?_) rfl (by kernel_rfl) (by kernel_rfl) (by kernel_rfl) (fun _ _ _ h => h) (Or.inl ⟨by rfl, ?_⟩) (by assumption) ?_
    rotate_left
    · (intro w hSw; (try dsimp only at hSw); go_simp; try with_reducible rfl)
    simp only [Act.put, List.setIfInBounds_toArray, List.set_cons_zero, List.set_cons_succ]
    refine wpAnyH_done (by kernel_rfl) ?_ _
    clear hHeld
    go_wp2
    refine bodyPost_ret (v := .tuple #[.agg #[.int .i64 kb.asid, .int .i64 kb.t.size, .int .u32 kb.t.va, .int .u64 kb.t.pa, .int .i64 kb.t.dom, .int .i64 kb.t.ap, .int .u32 kb.t.bits, .bool kb.t.ng, .bool kb.t.xn], .int .i64 ((min kn 2 : Nat) : Int)]) (by simp [results, Tryd.results41, go_sem, r1, r2, r3]) rfl ⟨rfl, ?_⟩
    exact HX.out.ends kb
set_option maxRecDepth 100000 in
set_option maxHeartbeats 8000000 in
theorem vfind_false_false_a (W : World) (A : Ad) (X : Hi) (va asid pick : Int) (h : PH 93 89 [.pointer none] W A X) (hv : 0 ≤ va ∧ va < 4294967296) (hc : ¬ (lkF X.d va asid).2 = 0) :
    Calls Tryd.prog 41 #[.pointer (some ⟨A.h, 0, none⟩), .int .u32 va, .int .i64 asid, .bool false, .int .i64 pick, .bool false] W fun e w' => e = .returned (.tuple #[.agg #[.int .i64 ((lkF X.d va asid).1).asid, .int .i64 ((lkF X.d va asid).1).t.size, .int .u32 ((lkF X.d va asid).1).t.va, .int .u64 ((lkF X.d va asid).1).t.pa, .int .i64 ((lkF X.d va asid).1).t.dom, .int .i64 ((lkF X.d va asid).1).t.ap, .int .u32 ((lkF X.d va asid).1).t.bits, .bool ((lkF X.d va asid).1).t.ng, .bool ((lkF X.d va asid).1).t.xn], .int .i64 ((min (lkF X.d va asid).2 2 : Nat) : Int)]) ∧ PH 93 89 [.pointer none] w' A X ∧ Turn A.S W w' := by
  have HX := hidW (G0.start h)
  have HS := vsmall_any false
  have HK : Hid (∀ w, PH 93 89 [.pointer none] w A X → Calls Tryd.prog 53 #[.pointer (some ⟨A.pd, 0, none⟩), .int .u32 va, .int .i64 asid] w fun e w' => e = .returned (.tuple #[.agg #[.int .i64 ((lkF X.d va asid).1).asid, .int .i64 ((lkF X.d va asid).1).t.size, .int .u32 ((lkF X.d va asid).1).t.va, .int .u64 ((lkF X.d va asid).1).t.pa, .int .i64 ((lkF X.d va asid).1).t.dom, .int .i64 ((lkF X.d va asid).1).t.ap, .int .u32 ((lkF X.d va asid).1).t.bits, .bool ((lkF X.d va asid).1).t.ng, .bool ((lkF X.d va asid).1).t.xn], .int .i64 ((lkF X.d va asid).2 : Nat)]) ∧ Below w.heap.size w w') := fun w k => ulook_any w _ _ X.d va asid k.td hv
  have HL : Hid (∀ w, PH 93 89 [.pointer none] w A X → Calls Tryd.prog 53 #[.pointer (some ⟨A.pm, 0, none⟩), .int .u32 va, .int .i64 asid] w fun e w' => e = .returned (.tuple #[.agg #[.int .i64 ((lkF X.m va asid).1).asid, .int .i64 ((lkF X.m va asid).1).t.size, .int .u32 ((lkF X.m va asid).1).t.va, .int .u64 ((lkF X.m va asid).1).t.pa, .int .i64 ((lkF X.m va asid).1).t.dom, .int .i64 ((lkF X.m va asid).1).t.ap, .int .u32 ((lkF X.m va asid).1).t.bits, .bool ((lkF X.m va asid).1).t.ng, .bool ((lkF X.m va asid).1).t.xn], .int .i64 ((lkF X.m va asid).2 : Nat)]) ∧ Below w.heap.size w w') := fun w k => ulook_any w _ _ X.m va asid k.tm hv
  have HM := hidW vmany_any
  clear h
  generalize (lkF X.d va asid) = R at *
  generalize (lkF X.m va asid) = R2 at *
  obtain ⟨ab, an⟩ := R
  obtain ⟨kb, kn⟩ := R2
  dsimp only at *
  have q1 : ¬ (an : Int) = 0 := by omega
  go_enter Tryd.func41, Tryd.ntmps41
  go_wp2_with (go_at_call 52; refine (HS _).mono ?_; rintro e w' ⟨rfl, rfl⟩; simp only [if_true, if_false, Bool.false_eq_true]; have c0 := HX.out.ph.box.cell 2)
  go_at_call 53
  refine (HK.out _ HX.out.ph).mono ?_
  rintro e w1 ⟨rfl, hb⟩
  have HA := hidW (Bl.new w1 38 ([.int .i64 ab.asid, .int .i64 ab.t.size, .int .u32 ab.t.va, .int .u64 ab.t.pa, .int .i64 ab.t.dom, .int .i64 ab.t.ap, .int .u32 ab.t.bits, .bool ab.t.ng, .bool ab.t.xn]))
  replace HX := hidW ((HX.out.step hb).step (below_new _ (.cells ([.int .i64 ab.asid, .int .i64 ab.t.size, .int .u32 ab.t.va, .int .u64 ab.t.pa, .int .i64 ab.t.dom, .int .i64 ab.t.ap, .int .u32 ab.t.bits, .bool ab.t.ng, .bool ab.t.xn]).toArray 38)))
  have HN3 : Hid (w1.heap.size ≠ W.heap.size) := hidW (by have := hb.size; simp at this; omega)
  clear hb HK
  generalize hA : W.heap.size = B0 at HX HN3 ⊢
  clear hA
  have c3 := HX.out.ph.box.cell 3
  go_wp2_with (fail)
  go_at_call 53
  generalize World.alloc _ _ = w2 at *
  generalize w1.heap.size = B3 at *
  refine (HL.out _ HX.out.ph).mono ?_
  rintro e w3 ⟨rfl, hb⟩
  replace HX := hidW (HX.out.step hb)
  replace HA := hidW (HA.out.below hb)
  have HN4 : Hid (w3.heap.size ≠ B0) := hidW (Nat.ne_of_gt HX.out.br.lt)
  have HX2 : Hid (GF W (w3.alloc (.cells ([.int .i64 kb.asid, .int .i64 kb.t.size, .int .u32 kb.t.va, .int .u64 kb.t.pa, .int .i64 kb.t.dom, .int .i64 kb.t.ap, .int .u32 kb.t.bits, .bool kb.t.ng, .bool kb.t.xn]).toArray 38)) A X B0 B3 w3.heap.size ab kb) := hidW ⟨HX.out.step (below_new _ _), HA.out.below (below_new _ _), Bl.new _ _ _, HN3.out, HN4.out⟩
  clear hb HL HX HA c3 HN3 HN4
  try clear c0
  have HX := HX2
  clear HX2
  go_wp2
  generalize World.alloc _ _ = w4 at *
  generalize w3.heap.size = B4 at *
  replace HX := hidW HX.out.drew
  refine wp_region_held_drew (S := fun w' => w'.cell? ⟨B3, 0, none⟩ = some (.int .i64 ab.asid) ∧ w'.cell? ⟨B3, 1, none⟩ = some (.int .i64 ab.t.size) ∧ w'.cell? ⟨B3, 2, none⟩ = some (.int .u32 ab.t.va) ∧ w'.cell? ⟨B3, 3, none⟩ = some (.int .u64 ab.t.pa) ∧ w'.cell? ⟨B3, 4, none⟩ = some (.int .i64 ab.t.dom) ∧ w'.cell? ⟨B3, 5, none⟩ = some (.int .i64 ab.t.ap) ∧ w'.cell? ⟨B3, 6, none⟩ = some (.int .u32 ab.t.bits) ∧ w'.cell? ⟨B3, 7, none⟩ = some (.bool ab.t.ng) ∧ w'.cell? ⟨B3, 8, none⟩ = some (.bool ab.t.xn)) (by kernel_rfl) HX.out.cells3 (fun hHeld => ?_)
  refine wpAnyH_take (i := 0) (oi := { dst := some 75, op := Op.load 38 (Operand.tmp 15), type := 38, pos := _, after := #[], guard := none }) (v := ?_) rfl (by kernel_rfl) (by kernel_rfl) (by kernel_rfl) (fun _ _ _ h => h) (Or.inl ⟨by rfl, ?_⟩) (by assumption) ?_
  rotate_left
  · (intro w hSw; (try dsimp only at hSw); go_simp; try with_reducible rfl)
  simp only [Act.put, List.setIfInBounds_toArray, List.set_cons_zero, List.set_cons_succ]
  refine wpAnyH_take (i := 1) (oi := { dst := some 76, op := Op.move (Operand.tmp 16), type := 3, pos := _, after := #[], guard := none }) (v := ?_) rfl (by kernel_rfl) (by kernel_rfl) (by kernel_rfl) (fun _ _ _ h => h) (Or.inl ⟨by rfl, ?_⟩) (by assumption) ?_
  rotate_left
  · (intro w hSw; (try dsimp only at hSw); go_simp; try with_reducible rfl)
  simp only [Act.put, List.setIfInBounds_toArray, List.set_cons_zero, List.set_cons_succ]
  refine wpAnyH_ready (rs := [2]) (by kernel_rfl) (by simp) ?_
  refine AllReadyH.cons (o := { dst := some 77, op := Op.call { callee := Callee.value (Operand.func 55), args := #[Operand.tmp 76], argTypes := #[3] }, type := 3, pos := _, after := #[{ on := 1, ground := Ground.data }], guard := none }) rfl (fun K hK => ?_) AllReadyH.nil
  go_simp
  (go_at_call 55; refine (HM.out _ _).mono ?_; rintro e w9 ⟨rfl, hb⟩; replace HX := hidW (HX.out.step hb); clear hb; have r1 := HX.out.g0.br.cell; have r2 := HX.out.g0.br.frozen; have r3 := HX.out.g0.br.lt; go_wp2_with fail)
  refine hK.out _ _ ?_ (fun hHeld => ?_)
  · ((try dsimp only); with_reducible exact HX.out.cells3)
  clear hK K
  try simp only [Act.put, List.setIfInBounds_toArray, List.set_cons_zero, List.set_cons_succ]
  refine wpAnyH_ready (rs := [3]) (by kernel_rfl) (by simp) ?_
  refine AllReadyH.cons (o := { dst := none, op := Op.store 38 (Operand.tmp 12) (Operand.tmp 75), type := 0, pos := _, after := #[{ on := 0, ground := Ground.data }, { on := 2, ground := Ground.chain }, { on := 0, ground := Ground.phase }, { on := 1, ground := Ground.textOnly Departure.lateStores }, { on := 2, ground := Ground.textOnly Departure.lateStoresUnsure }], guard := none }) rfl (fun K hK => ?_) AllReadyH.nil
  go_simp
  skip
  refine hK.out _ _ ?_ (fun hHeld => ?_)
  · ((try dsimp only); with_reducible exact HX.out.set3 ab _ rfl)
  clear hK K
  try simp only [Act.put, List.setIfInBounds_toArray, List.set_cons_zero, List.set_cons_succ]
  refine wpAnyH_take (i := 4) (oi := { dst := some 13, op := Op.assign (Operand.tmp 77), type := 3, pos := _, after := #[{ on := 2, ground := Ground.data }, { on := 3, ground := Ground.chain }, { on := 0, ground := Ground.phase }, { on := 1, ground := Ground.phase }, { on := 2, ground := Ground.phase }, { on := 3, ground := Ground.phase }], guard := none }) (v := ?_) rfl (by kernel_rfl) (by kernel_rfl) (by kernel_rfl) (fun _ _ _ h => h) (Or.inl ⟨by rfl, ?_⟩) (by assumption) ?_
  rotate_left
  · (intro w hSw; (try dsimp only at hSw); go_simp; try with_reducible rfl)
  simp only [Act.put, List.setIfInBounds_toArray, List.set_cons_zero, List.set_cons_succ]
  refine wpAnyH_done (by kernel_rfl) ?_ _
  clear hHeld
  go_wp2
  refine bodyPost_ret (v := .tuple #[.agg #[.int .i64 ab.asid, .int .i64 ab.t.size, .int .u32 ab.t.va, .int .u64 ab.t.pa, .int .i64 ab.t.dom, .int .i64 ab.t.ap, .int .u32 ab.t.bits, .bool ab.t.ng, .bool ab.t.xn], .int .i64 ((min an 2 : Nat) : Int)]) (by simp [results, Tryd.results41, go_sem, r1, r2, r3]) rfl ⟨rfl, ?_⟩
  exact HX.out.ends ab
set_option maxRecDepth 100000 in
set_option maxHeartbeats 8000000 in
theorem vfind_false_false_p (W : World) (A : Ad) (X : Hi) (va asid pick : Int) (h : PH 93 89 [.pointer none] W A X) (hv : 0 ≤ va ∧ va < 4294967296) (hc : (lkF X.m va asid).2 = 1 ∧ (lkF X.d va asid).2 = 0) :
    Calls Tryd.prog 41 #[.pointer (some ⟨A.h, 0, none⟩), .int .u32 va, .int .i64 asid, .bool false, .int .i64 pick, .bool false] W fun e w' => e = .returned (.tuple #[.agg #[.int .i64 ((lkF X.m va asid).1).asid, .int .i64 ((lkF X.m va asid).1).t.size, .int .u32 ((lkF X.m va asid).1).t.va, .int .u64 ((lkF X.m va asid).1).t.pa, .int .i64 ((lkF X.m va asid).1).t.dom, .int .i64 ((lkF X.m va asid).1).t.ap, .int .u32 ((lkF X.m va asid).1).t.bits, .bool ((lkF X.m va asid).1).t.ng, .bool ((lkF X.m va asid).1).t.xn], .int .i64 ((min (lkF X.m va asid).2 2 : Nat) : Int)]) ∧ PH 93 89 [.pointer none] w' A ⟨X.i, (puF X.d (lkF X.m va asid).1 pick).2, X.m⟩ ∧ Turn A.S W w' := by
  have HX := hidW (G0.start h)
  have HS := vsmall_any false
  have HK : Hid (∀ w, PH 93 89 [.pointer none] w A X → Calls Tryd.prog 53 #[.pointer (some ⟨A.pd, 0, none⟩), .int .u32 va, .int .i64 asid] w fun e w' => e = .returned (.tuple #[.agg #[.int .i64 ((lkF X.d va asid).1).asid, .int .i64 ((lkF X.d va asid).1).t.size, .int .u32 ((lkF X.d va asid).1).t.va, .int .u64 ((lkF X.d va asid).1).t.pa, .int .i64 ((lkF X.d va asid).1).t.dom, .int .i64 ((lkF X.d va asid).1).t.ap, .int .u32 ((lkF X.d va asid).1).t.bits, .bool ((lkF X.d va asid).1).t.ng, .bool ((lkF X.d va asid).1).t.xn], .int .i64 ((lkF X.d va asid).2 : Nat)]) ∧ Below w.heap.size w w') := fun w k => ulook_any w _ _ X.d va asid k.td hv
  have HL : Hid (∀ w, PH 93 89 [.pointer none] w A X → Calls Tryd.prog 53 #[.pointer (some ⟨A.pm, 0, none⟩), .int .u32 va, .int .i64 asid] w fun e w' => e = .returned (.tuple #[.agg #[.int .i64 ((lkF X.m va asid).1).asid, .int .i64 ((lkF X.m va asid).1).t.size, .int .u32 ((lkF X.m va asid).1).t.va, .int .u64 ((lkF X.m va asid).1).t.pa, .int .i64 ((lkF X.m va asid).1).t.dom, .int .i64 ((lkF X.m va asid).1).t.ap, .int .u32 ((lkF X.m va asid).1).t.bits, .bool ((lkF X.m va asid).1).t.ng, .bool ((lkF X.m va asid).1).t.xn], .int .i64 ((lkF X.m va asid).2 : Nat)]) ∧ Below w.heap.size w w') := fun w k => ulook_any w _ _ X.m va asid k.tm hv
  have HM := hidW vmany_any
  have hbo := lkF_ok h.tm.ok va asid
  have HU : Hid (∀ w, PH 93 89 [.pointer none] w A X → Calls Tryd.prog 54 #[.pointer (some ⟨A.pd, 0, none⟩), .agg #[.int .i64 ((lkF X.m va asid).1).asid, .int .i64 ((lkF X.m va asid).1).t.size, .int .u32 ((lkF X.m va asid).1).t.va, .int .u64 ((lkF X.m va asid).1).t.pa, .int .i64 ((lkF X.m va asid).1).t.dom, .int .i64 ((lkF X.m va asid).1).t.ap, .int .u32 ((lkF X.m va asid).1).t.bits, .bool ((lkF X.m va asid).1).t.ng, .bool ((lkF X.m va asid).1).t.xn], .int .i64 pick] w fun e w' => e = .returned (.tuple #[.int .i64 ((puF X.d (lkF X.m va asid).1 pick).1.1 : Nat), .int .i64 (puF X.d (lkF X.m va asid).1 pick).1.2]) ∧ PH 93 89 [.pointer none] w' A ⟨X.i, (puF X.d (lkF X.m va asid).1 pick).2, X.m⟩ ∧ Turn (· = A.gd) w w') := fun w k => (uput_any w _ _ X.d _ pick k.td hbo).mono fun e w' q => ⟨q.1, k.setD q.2.1 q.2.2, q.2.2⟩
  clear hbo
  generalize (puF X.d (lkF X.m va asid).1 pick) = Q at *
  obtain ⟨⟨qi, qe⟩, ql⟩ := Q
  clear h
  generalize (lkF X.d va asid) = R at *
  generalize (lkF X.m va asid) = R2 at *
  obtain ⟨ab, an⟩ := R
  obtain ⟨kb, kn⟩ := R2
  dsimp only at *
  obtain ⟨rfl, rfl⟩ := hc
  go_enter Tryd.func41, Tryd.ntmps41
  go_wp2_with (go_at_call 52; refine (HS _).mono ?_; rintro e w' ⟨rfl, rfl⟩; simp only [if_true, if_false, Bool.false_eq_true]; have c0 := HX.out.ph.box.cell 2)
  go_at_call 53
  refine (HK.out _ HX.out.ph).mono ?_
  rintro e w1 ⟨rfl, hb⟩
  have HA := hidW (Bl.new w1 38 ([.int .i64 ab.asid, .int .i64 ab.t.size, .int .u32 ab.t.va, .int .u64 ab.t.pa, .int .i64 ab.t.dom, .int .i64 ab.t.ap, .int .u32 ab.t.bits, .bool ab.t.ng, .bool ab.t.xn]))
  replace HX := hidW ((HX.out.step hb).step (below_new _ (.cells ([.int .i64 ab.asid, .int .i64 ab.t.size, .int .u32 ab.t.va, .int .u64 ab.t.pa, .int .i64 ab.t.dom, .int .i64 ab.t.ap, .int .u32 ab.t.bits, .bool ab.t.ng, .bool ab.t.xn]).toArray 38)))
  have HN3 : Hid (w1.heap.size ≠ W.heap.size) := hidW (by have := hb.size; simp at this; omega)
  clear hb HK
  generalize hA : W.heap.size = B0 at HX HN3 ⊢
  clear hA
  have c3 := HX.out.ph.box.cell 3
  go_wp2_with (fail)
  go_at_call 53
  generalize World.alloc _ _ = w2 at *
  generalize w1.heap.size = B3 at *
  refine (HL.out _ HX.out.ph).mono ?_
  rintro e w3 ⟨rfl, hb⟩
  replace HX := hidW (HX.out.step hb)
  replace HA := hidW (HA.out.below hb)
  have HN4 : Hid (w3.heap.size ≠ B0) := hidW (Nat.ne_of_gt HX.out.br.lt)
  have HX2 : Hid (GF W (w3.alloc (.cells ([.int .i64 kb.asid, .int .i64 kb.t.size, .int .u32 kb.t.va, .int .u64 kb.t.pa, .int .i64 kb.t.dom, .int .i64 kb.t.ap, .int .u32 kb.t.bits, .bool kb.t.ng, .bool kb.t.xn]).toArray 38)) A X B0 B3 w3.heap.size ab kb) := hidW ⟨HX.out.step (below_new _ _), HA.out.below (below_new _ _), Bl.new _ _ _, HN3.out, HN4.out⟩
  clear hb HL HX HA c3 HN3 HN4
  try clear c0
  have HX := HX2
  clear HX2
  go_wp2
  generalize World.alloc _ _ = w4 at *
  generalize w3.heap.size = B4 at *
  replace HX := hidW HX.out.drew
  refine wp_region_held_drew (S := fun w' => w'.cell? ⟨A.h, 2, none⟩ = some (.pointer (some ⟨A.pd, 0, none⟩)) ∧ w'.cell? ⟨B4, 0, none⟩ = some (.int .i64 kb.asid) ∧ w'.cell? ⟨B4, 1, none⟩ = some (.int .i64 kb.t.size) ∧ w'.cell? ⟨B4, 2, none⟩ = some (.int .u32 kb.t.va) ∧ w'.cell? ⟨B4, 3, none⟩ = some (.int .u64 kb.t.pa) ∧ w'.cell? ⟨B4, 4, none⟩ = some (.int .i64 kb.t.dom) ∧ w'.cell? ⟨B4, 5, none⟩ = some (.int .i64 kb.t.ap) ∧ w'.cell? ⟨B4, 6, none⟩ = some (.int .u32 kb.t.bits) ∧ w'.cell? ⟨B4, 7, none⟩ = some (.bool kb.t.ng) ∧ w'.cell? ⟨B4, 8, none⟩ = some (.bool kb.t.xn)) (by kernel_rfl) ⟨HX.out.g0.ph.box.cell 2, HX.out.cells4⟩ (fun hHeld => ?_)
  refine wpAnyH_take (i := 0) (oi := { dst := some 63, op := Op.move (Operand.tmp 0), type := 59, pos := _, after := #[], guard := none }) (v := ?_) rfl (by kernel_rfl) (by kernel_rfl) (by kernel_rfl) (fun _ _ _ h => h) (Or.inl ⟨by rfl, ?_⟩) (by assumption) ?_
  rotate_left
  · (intro w hSw; (try dsimp only at hSw); go_simp; try with_reducible rfl)
  simp only [Act.put, List.setIfInBounds_toArray, List.set_cons_zero, List.set_cons_succ]
  refine wpAnyH_take (i := 1) (oi := { dst := some 64, op := Op.move (Operand.tmp 14), type := 3, pos := _, after := #[], guard := none }) (v := ?_) rfl (by kernel_rfl) (by kernel_rfl) (by kernel_rfl) (fun _ _ _ h => h) (Or.inl ⟨by rfl, ?_⟩) (by assumption) ?_
  rotate_left
  · (intro w hSw; (try dsimp only at hSw); go_simp; try with_reducible rfl)
  simp only [Act.put, List.setIfInBounds_toArray, List.set_cons_zero, List.set_cons_succ]
  refine wpAnyH_take (i := 2) (oi := { dst := some 65, op := Op.nilCheck (Operand.tmp 63), type := 0, pos := _, after := #[{ on := 0, ground := Ground.data }], guard := none }) (v := ?_) rfl (by kernel_rfl) (by kernel_rfl) (by kernel_rfl) (fun _ _ _ h => h) (Or.inl ⟨by rfl, ?_⟩) (by assumption) ?_
  rotate_left
  · (intro w hSw; (try dsimp only at hSw); go_simp; try with_reducible rfl)
  simp only [Act.put, List.setIfInBounds_toArray, List.set_cons_zero, List.set_cons_succ]
  refine wpAnyH_take (i := 3) (oi := { dst := some 66, op := Op.fieldAddr 93 (Operand.tmp 65) 0, type := 0, pos := _, after := #[{ on := 2, ground := Ground.data }], guard := none }) (v := ?_) rfl (by kernel_rfl) (by kernel_rfl) (by kernel_rfl) (fun _ _ _ h => h) (Or.inl ⟨by rfl, ?_⟩) (by assumption) ?_
  rotate_left
  · (intro w hSw; (try dsimp only at hSw); go_simp; try with_reducible rfl)
  simp only [Act.put, List.setIfInBounds_toArray, List.set_cons_zero, List.set_cons_succ]
  refine wpAnyH_take (i := 4) (oi := { dst := some 67, op := Op.indexAddr 91 (Operand.tmp 66) (Operand.tmp 64), type := 0, pos := _, after := #[{ on := 3, ground := Ground.data }, { on := 1, ground := Ground.data }], guard := none }) (v := ?_) rfl (by kernel_rfl) (by kernel_rfl) (by kernel_rfl) (fun _ _ _ h => h) (Or.inl ⟨by rfl, ?_⟩) (by assumption) ?_
  rotate_left
  · (intro w hSw; (try dsimp only at hSw); go_simp; try with_reducible rfl)
  simp only [Act.put, List.setIfInBounds_toArray, List.set_cons_zero, List.set_cons_succ]
  refine wpAnyH_take (i := 5) (oi := { dst := some 68, op := Op.load 90 (Operand.tmp 67), type := 90, pos := _, after := #[{ on := 4, ground := Ground.data }], guard := none }) (v := ?_) rfl (by kernel_rfl) (by kernel_rfl) (by kernel_rfl) (fun _ _ _ h => h) (Or.inl ⟨by rfl, ?_⟩) (by assumption) ?_
  rotate_left
  · (intro w hSw; (try dsimp only at hSw); go_simp; try with_reducible rfl)
  simp only [Act.put, List.setIfInBounds_toArray, List.set_cons_zero, List.set_cons_succ]
  refine wpAnyH_take (i := 6) (oi := { dst := some 69, op := Op.load 38 (Operand.tmp 17), type := 38, pos := _, after := #[], guard := none }) (v := ?_) rfl (by kernel_rfl) (by kernel_rfl) (by kernel_rfl) (fun _ _ _ h => h) (Or.inl ⟨by rfl, ?_⟩) (by assumption) ?_
  rotate_left
  · (intro w hSw; (try dsimp only at hSw); go_simp; try with_reducible rfl)
  simp only [Act.put, List.setIfInBounds_toArray, List.set_cons_zero, List.set_cons_succ]
  refine wpAnyH_take (i := 7) (oi := { dst := some 70, op := Op.move (Operand.tmp 4), type := 3, pos := _, after := #[], guard := none }) (v := ?_) rfl (by kernel_rfl) (by kernel_rfl) (by kernel_rfl) (fun _ _ _ h => h) (Or.inl ⟨by rfl, ?_⟩) (by assumption) ?_
  rotate_left
  · (intro w hSw; (try dsimp only at hSw); go_simp; try with_reducible rfl)
  simp only [Act.put, List.setIfInBounds_toArray, List.set_cons_zero, List.set_cons_succ]
  refine wpAnyH_ready (rs := [8]) (by kernel_rfl) (by simp) ?_
  refine AllReadyH.cons (o := { dst := some 71, op := Op.call { callee := Callee.value (Operand.func 54), args := #[Operand.tmp 68, Operand.tmp 69, Operand.tmp 70], argTypes := #[90, 38, 3] }, type := 109, pos := _, after := #[{ on := 5, ground := Ground.data }, { on := 6, ground := Ground.data }, { on := 7, ground := Ground.data }], guard := none }) rfl (fun K hK => ?_) AllReadyH.nil
  go_simp
  (go_at_call 54; refine (HU.out _ HX.out.g0.ph).mono ?_; rintro e w5 ⟨rfl, hp, hT⟩; replace HX := hidW (HX.out.turn hp hT (fun x hx => .inr (.inl hx))); clear hp hT HU; go_wp2_with fail)
  refine hK.out _ _ ?_ (fun hHeld => ?_)
  · ((try dsimp only); exact ⟨HX.out.g0.ph.box.cell 2, HX.out.cells4⟩)
  clear hK K
  try simp only [Act.put, List.setIfInBounds_toArray, List.set_cons_zero, List.set_cons_succ]
  refine wpAnyH_done (by kernel_rfl) ?_ _
  clear hHeld
  go_wp2
  replace HX := hidW HX.out.drew
  refine wp_region_held_drew (S := fun w' => w'.cell? ⟨B4, 0, none⟩ = some (.int .i64 kb.asid) ∧ w'.cell? ⟨B4, 1, none⟩ = some (.int .i64 kb.t.size) ∧ w'.cell? ⟨B4, 2, none⟩ = some (.int .u32 kb.t.va) ∧ w'.cell? ⟨B4, 3, none⟩ = some (.int .u64 kb.t.pa) ∧ w'.cell? ⟨B4, 4, none⟩ = some (.int .i64 kb.t.dom) ∧ w'.cell? ⟨B4, 5, none⟩ = some (.int .i64 kb.t.ap) ∧ w'.cell? ⟨B4, 6, none⟩ = some (.int .u32 kb.t.bits) ∧ w'.cell? ⟨B4, 7, none⟩ = some (.bool kb.t.ng) ∧ w'.cell? ⟨B4, 8, none⟩ = some (.bool kb.t.xn)) (by kernel_rfl) HX.out.cells4 (fun hHeld => ?_)
  refine wpAnyH_take (i := 0) (oi := { dst := some 72, op := Op.load 38 (Operand.tmp 17), type := 38, pos := _, after := #[], guard := none }) (v := ?_) rfl (by kernel_rfl) (by kernel_rfl) (by kernel_rfl) (fun _ _ _ h => h) (Or.inl ⟨by rfl, ?_⟩) (by assumption) ?_
  rotate_left
  · (intro w hSw; (try dsimp only at hSw); go_simp; try with_reducible rfl)
  simp only [Act.put, List.setIfInBounds_toArray, List.set_cons_zero, List.set_cons_succ]
  refine wpAnyH_take (i := 1) (oi := { dst := some 73, op := Op.move (Operand.tmp 18), type := 3, pos := _, after := #[], guard := none }) (v := ?_) rfl (by kernel_rfl) (by kernel_rfl) (by kernel_rfl) (fun _ _ _ h => h) (Or.inl ⟨by rfl, ?_⟩) (by assumption) ?_
  rotate_left
  · (intro w hSw; (try dsimp only at hSw); go_simp; try with_reducible rfl)
  simp only [Act.put, List.setIfInBounds_toArray, List.set_cons_zero, List.set_cons_succ]
  refine wpAnyH_ready (rs := [2]) (by kernel_rfl) (by simp) ?_
  refine AllReadyH.cons (o := { dst := some 74, op := Op.call { callee := Callee.value (Operand.func 55), args := #[Operand.tmp 73], argTypes := #[3] }, type := 3, pos := _, after := #[{ on := 1, ground := Ground.data }], guard := none }) rfl (fun K hK => ?_) AllReadyH.nil
  go_simp
  (go_at_call 55; refine (HM.out _ _).mono ?_; rintro e w9 ⟨rfl, hb⟩; replace HX := hidW (HX.out.step hb); clear hb; have r1 := HX.out.g0.br.cell; have r2 := HX.out.g0.br.frozen; have r3 := HX.out.g0.br.lt; go_wp2_with fail)
  refine hK.out _ _ ?_ (fun hHeld => ?_)
  · ((try dsimp only); with_reducible exact HX.out.cells4)
  clear hK K
  try simp only [Act.put, List.setIfInBounds_toArray, List.set_cons_zero, List.set_cons_succ]
  refine wpAnyH_ready (rs := [3]) (by kernel_rfl) (by simp) ?_
  refine AllReadyH.cons (o := { dst := none, op := Op.store 38 (Operand.tmp 12) (Operand.tmp 72), type := 0, pos := _, after := #[{ on := 0, ground := Ground.data }, { on := 2, ground := Ground.chain }, { on := 0, ground := Ground.phase }, { on := 1, ground := Ground.textOnly Departure.lateStores }, { on := 2, ground := Ground.textOnly Departure.lateStoresUnsure }], guard := none }) rfl (fun K hK => ?_) AllReadyH.nil
  go_simp
  skip
  refine hK.out _ _ ?_ (fun hHeld => ?_)
  · ((try dsimp only); with_reducible exact HX.out.set4 kb _ rfl)
  clear hK K
  try simp only [Act.put, List.setIfInBounds_toArray, List.set_cons_zero, List.set_cons_succ]
  refine wpAnyH_take (i := 4) (oi := { dst := some 13, op := Op.assign (Operand.tmp 74), type := 3, pos := _, after := #[{ on := 2, ground := Ground.data }, { on := 3, ground := Ground.chain }, { on := 0, ground := Ground.phase }, { on := 1, ground := Ground.phase }, { on := 2, ground := Ground.phase }, { on := 3, ground := Ground.phase }], guard := none }) (v := ?_) rfl (by kernel_rfl) (by kernel_rfl) (by kernel_rfl) (fun _ _ _ h => h) (Or.inl ⟨by rfl, ?_⟩) (by assumption) ?_
  rotate_left
  · (intro w hSw; (try dsimp only at hSw); go_simp; try with_reducible rfl)
  simp only [Act.put, List.setIfInBounds_toArray, List.set_cons_zero, List.set_cons_succ]
  refine wpAnyH_done (by kernel_rfl) ?_ _
  clear hHeld
  go_wp2
  refine bodyPost_ret (v := .tuple #[.agg #[.int .i64 kb.asid, .int .i64 kb.t.size, .int .u32 kb.t.va, .int .u64 kb.t.pa, .int .i64 kb.t.dom, .int .i64 kb.t.ap, .int .u32 kb.t.bits, .bool kb.t.ng, .bool kb.t.xn], .int .i64 ((min 1 2 : Nat) : Int)]) (by simp [results, Tryd.results41, go_sem, r1, r2, r3]) rfl ⟨rfl, ?_⟩
  exact HX.out.ends kb
set_option maxRecDepth 100000 in
set_option maxHeartbeats 8000000 in
theorem vfind_false_false_k (W : World) (A : Ad) (X : Hi) (va asid pick : Int) (h : PH 93 89 [.pointer none] W A X) (hv : 0 ≤ va ∧ va < 4294967296) (hc : (lkF X.d va asid).2 = 0 ∧ ¬ (lkF X.m va asid).2 = 1) :
    Calls Tryd.prog 41 #[.pointer (some ⟨A.h, 0, none⟩), .int .u32 va, .int .i64 asid, .bool false, .int .i64 pick, .bool false] W fun e w' => e = .returned (.tuple #[.agg #[.int .i64 ((lkF X.m va asid).1).asid, .int .i64 ((lkF X.m va asid).1).t.size, .int .u32 ((lkF X.m va asid).1).t.va, .int .u64 ((lkF X.m va asid).1).t.pa, .int .i64 ((lkF X.m va asid).1).t.dom, .int .i64 ((lkF X.m va asid).1).t.ap, .int .u32 ((lkF X.m va asid).1).t.bits, .bool ((lkF X.m va asid).1).t.ng, .bool ((lkF X.m va asid).1).t.xn], .int .i64 ((min (lkF X.m va asid).2 2 : Nat) : Int)]) ∧ PH 93 89 [.pointer none] w' A X ∧ Turn A.S W w' := by
  have HX := hidW (G0.start h)
  have HS := vsmall_any false
  have HK : Hid (∀ w, PH 93 89 [.pointer none] w A X → Calls Tryd.prog 53 #[.pointer (some ⟨A.pd, 0, none⟩), .int .u32 va, .int .i64 asid] w fun e w' => e = .returned (.tuple #[.agg #[.int .i64 ((lkF X.d va asid).1).asid, .int .i64 ((lkF X.d va asid).1).t.size, .int .u32 ((lkF X.d va asid).1).t.va, .int .u64 ((lkF X.d va asid).1).t.pa, .int .i64 ((lkF X.d va asid).1).t.dom, .int .i64 ((lkF X.d va asid).1).t.ap, .int .u32 ((lkF X.d va asid).1).t.bits, .bool ((lkF X.d va asid).1).t.ng, .bool ((lkF X.d va asid).1).t.xn], .int .i64 ((lkF X.d va asid).2 : Nat)]) ∧ Below w.heap.size w w') := fun w k => ulook_any w _ _ X.d va asid k.td hv
  have HL : Hid (∀ w, PH 93 89 [.pointer none] w A X → Calls Tryd.prog 53 #[.pointer (some ⟨A.pm, 0, none⟩), .int .u32 va, .int .i64 asid] w fun e w' => e = .returned (.tuple #[.agg #[.int .i64 ((lkF X.m va asid).1).asid, .int .i64 ((lkF X.m va asid).1).t.size, .int .u32 ((lkF X.m va asid).1).t.va, .int .u64 ((lkF X.m va asid).1).t.pa, .int .i64 ((lkF X.m va asid).1).t.dom, .int .i64 ((lkF X.m va asid).1).t.ap, .int .u32 ((lkF X.m va asid).1).t.bits, .bool ((lkF X.m va asid).1).t.ng, .bool ((lkF X.m va asid).1).t.xn], .int .i64 ((lkF X.m va asid).2 : Nat)]) ∧ Below w.heap.size w w') := fun w k => ulook_any w _ _ X.m va asid k.tm hv
  have HM := hidW vmany_any
  clear h
  generalize (lkF X.d va asid) = R at *
  generalize (lkF X.m va asid) = R2 at *
  obtain ⟨ab, an⟩ := R
  obtain ⟨kb, kn⟩ := R2
  dsimp only at *
  obtain ⟨rfl, h2⟩ := hc
  have q1 : ¬ (kn : Int) = 1 := by omega
  go_enter Tryd.func41, Tryd.ntmps41
  go_wp2_with (go_at_call 52; refine (HS _).mono ?_; rintro e w' ⟨rfl, rfl⟩; simp only [if_true, if_false, Bool.false_eq_true]; have c0 := HX.out.ph.box.cell 2)
  go_at_call 53
  refine (HK.out _ HX.out.ph).mono ?_
  rintro e w1 ⟨rfl, hb⟩
  have HA := hidW (Bl.new w1 38 ([.int .i64 ab.asid, .int .i64 ab.t.size, .int .u32 ab.t.va, .int .u64 ab.t.pa, .int .i64 ab.t.dom, .int .i64 ab.t.ap, .int .u32 ab.t.bits, .bool ab.t.ng, .bool ab.t.xn]))
  replace HX := hidW ((HX.out.step hb).step (below_new _ (.cells ([.int .i64 ab.asid, .int .i64 ab.t.size, .int .u32 ab.t.va, .int .u64 ab.t.pa, .int .i64 ab.t.dom, .int .i64 ab.t.ap, .int .u32 ab.t.bits, .bool ab.t.ng, .bool ab.t.xn]).toArray 38)))
  have HN3 : Hid (w1.heap.size ≠ W.heap.size) := hidW (by have := hb.size; simp at this; omega)
  clear hb HK
  generalize hA : W.heap.size = B0 at HX HN3 ⊢
  clear hA
  have c3 := HX.out.ph.box.cell 3
  go_wp2_with (fail)
  go_at_call 53
  generalize World.alloc _ _ = w2 at *
  generalize w1.heap.size = B3 at *
  refine (HL.out _ HX.out.ph).mono ?_
  rintro e w3 ⟨rfl, hb⟩
  replace HX := hidW (HX.out.step hb)
  replace HA := hidW (HA.out.below hb)
  have HN4 : Hid (w3.heap.size ≠ B0) := hidW (Nat.ne_of_gt HX.out.br.lt)
  have HX2 : Hid (GF W (w3.alloc (.cells ([.int .i64 kb.asid, .int .i64 kb.t.size, .int .u32 kb.t.va, .int .u64 kb.t.pa, .int .i64 kb.t.dom, .int .i64 kb.t.ap, .int .u32 kb.t.bits, .bool kb.t.ng, .bool kb.t.xn]).toArray 38)) A X B0 B3 w3.heap.size ab kb) := hidW ⟨HX.out.step (below_new _ _), HA.out.below (below_new _ _), Bl.new _ _ _, HN3.out, HN4.out⟩
  clear hb HL HX HA c3 HN3 HN4
  try clear c0
  have HX := HX2
  clear HX2
  go_wp2
  generalize World.alloc _ _ = w4 at *
  generalize w3.heap.size = B4 at *
  replace HX := hidW HX.out.drew
  refine wp_region_held_drew (S := fun w' => w'.cell? ⟨B4, 0, none⟩ = some (.int .i64 kb.asid) ∧ w'.cell? ⟨B4, 1, none⟩ = some (.int .i64 kb.t.size) ∧ w'.cell? ⟨B4, 2, none⟩ = some (.int .u32 kb.t.va) ∧ w'.cell? ⟨B4, 3, none⟩ = some (.int .u64 kb.t.pa) ∧ w'.cell? ⟨B4, 4, none⟩ = some (.int .i64 kb.t.dom) ∧ w'.cell? ⟨B4, 5, none⟩ = some (.int .i64 kb.t.ap) ∧ w'.cell? ⟨B4, 6, none⟩ = some (.int .u32 kb.t.bits) ∧ w'.cell? ⟨B4, 7, none⟩ = some (.bool kb.t.ng) ∧ w'.cell? ⟨B4, 8, none⟩ = some (.bool kb.t.xn)) (by kernel_rfl) HX.out.cells4 (fun hHeld => ?_)
  refine wpAnyH_take (i := 0) (oi := { dst := some 72, op := Op.load 38 (Operand.tmp 17), type := 38, pos := _, after := #[], guard := none }) (v := ?_) rfl (by kernel_rfl) (by kernel_rfl) (by kernel_rfl) (fun _ _ _ h => h) (Or.inl ⟨by rfl, ?_⟩) (by assumption) ?_
  rotate_left
  · (intro w hSw; (try dsimp only at hSw); go_simp; try with_reducible rfl)
  simp only [Act.put, List.setIfInBounds_toArray, List.set_cons_zero, List.set_cons_succ]
  refine wpAnyH_take (i := 1) (oi := { dst := some 73, op := Op.move (Operand.tmp 18), type := 3, pos := _, after := #[], guard := none }) (v := ?_) rfl (by kernel_rfl) (by kernel_rfl) (by kernel_rfl) (fun _ _ _ h => h) (Or.inl ⟨by rfl, ?_⟩) (by assumption) ?_
  rotate_left
  · (intro w hSw; (try dsimp only at hSw); go_simp; try with_reducible rfl)
  simp only [Act.put, List.setIfInBounds_toArray, List.set_cons_zero, List.set_cons_succ]
  refine wpAnyH_ready (rs := [2]) (by kernel_rfl) (by simp) ?_
  refine AllReadyH.cons (o := { dst := some 74, op := Op.call { callee := Callee.value (Operand.func 55), args := #[Operand.tmp 73], argTypes := #[3] }, type := 3, pos := _, after := #[{ on := 1, ground := Ground.data }], guard := none }) rfl (fun K hK => ?_) AllReadyH.nil
  go_simp
  (go_at_call 55; refine (HM.out _ _).mono ?_; rintro e w9 ⟨rfl, hb⟩; replace HX := hidW (HX.out.step hb); clear hb; have r1 := HX.out.g0.br.cell; have r2 := HX.out.g0.br.frozen; have r3 := HX.out.g0.br.lt; go_wp2_with fail)
  refine hK.out _ _ ?_ (fun hHeld => ?_)
  · ((try dsimp only); with_reducible exact HX.out.cells4)
  clear hK K
  try simp only [Act.put, List.setIfInBounds_toArray, List.set_cons_zero, List.set_cons_succ]
  refine wpAnyH_ready (rs := [3]) (by kernel_rfl) (by simp) ?_
  refine AllReadyH.cons (o := { dst := none, op := Op.store 38 (Operand.tmp 12) (Operand.tmp 72), type := 0, pos := _, after := #[{ on := 0, ground := Ground.data }, { on := 2, ground := Ground.chain }, { on := 0, ground := Ground.phase }, { on := 1, ground := Ground.textOnly Departure.lateStores }, { on := 2, ground := Ground.textOnly Departure.lateStoresUnsure }], guard := none }) rfl (fun K hK => ?_) AllReadyH.nil
  go_simp
  skip
  refine hK.out _ _ ?_ (fun hHeld => ?_)
  · ((try dsimp only); with_reducible exact HX.out.set4 kb _ rfl)
  clear hK K
  try simp only [Act.put, List.setIfInBounds_toArray, List.set_cons_zero, List.set_cons_succ]
  refine wpAnyH_take (i := 4) (oi := { dst := some 13, op := Op.assign (Operand.tmp 74), type := 3, pos := _, after := #[{ on := 2, ground := Ground.data }, { on := 3, ground := Ground.chain }, { on := 0, ground := Ground.phase }, { on := 1, ground := Ground.phase }, { on := 2, ground := Ground.phase }, { on := 3, ground := Ground.phase }], guard := none }) (v := ?_) rfl (by kernel_rfl) (by kernel_rfl) (by kernel_rfl) (fun _ _ _ h => h) (Or.inl ⟨by rfl, ?_⟩) (by assumption) ?_
  rotate_left
  · (intro w hSw; (try dsimp only at hSw); go_simp; try with_reducible rfl)
  simp only [Act.put, List.setIfInBounds_toArray, List.set_cons_zero, List.set_cons_succ]
  refine wpAnyH_done (by kernel_rfl) ?_ _
  clear hHeld
  go_wp2
  refine bodyPost_ret (v := .tuple #[.agg #[.int .i64 kb.asid, .int .i64 kb.t.size, .int .u32 kb.t.va, .int .u64 kb.t.pa, .int .i64 kb.t.dom, .int .i64 kb.t.ap, .int .u32 kb.t.bits, .bool kb.t.ng, .bool kb.t.xn], .int .i64 ((min kn 2 : Nat) : Int)]) (by simp [results, Tryd.results41, go_sem, r1, r2, r3]) rfl ⟨rfl, ?_⟩
  exact HX.out.ends kb
theorem vfind_any (W : World) (A : Ad) (X : Hi) (va asid : Int) (f : Bool) (pick : Int) (mf : Bool) (h : PH 93 89 [.pointer none] W A X) (hv : 0 ≤ va ∧ va < 4294967296) :
    Calls Tryd.prog 41 #[.pointer (some ⟨A.h, 0, none⟩), .int .u32 va, .int .i64 asid, .bool f, .int .i64 pick, .bool mf] W fun e w' => e = .returned (.tuple #[.agg #[.int .i64 ((fiF X va asid f pick mf).1.1).asid, .int .i64 ((fiF X va asid f pick mf).1.1).t.size, .int .u32 ((fiF X va asid f pick mf).1.1).t.va, .int .u64 ((fiF X va asid f pick mf).1.1).t.pa, .int .i64 ((fiF X va asid f pick mf).1.1).t.dom, .int .i64 ((fiF X va asid f pick mf).1.1).t.ap, .int .u32 ((fiF X va asid f pick mf).1.1).t.bits, .bool ((fiF X va asid f pick mf).1.1).t.ng, .bool ((fiF X va asid f pick mf).1.1).t.xn], .int .i64 (((fiF X va asid f pick mf).1.2 : Nat) : Int)]) ∧ PH 93 89 [.pointer none] w' A (fiF X va asid f pick mf).2 ∧ Turn A.S W w' := by
  cases mf
  · cases f
    · by_cases h0 : (lkF X.d va asid).2 = 0
      · by_cases h1 : (lkF X.m va asid).2 = 1
        · have he : fiF X va asid false pick false = (((lkF X.m va asid).1, min (lkF X.m va asid).2 2), ⟨X.i, (puF X.d (lkF X.m va asid).1 pick).2, X.m⟩) := by simp [fiF, fiC, Hi.sm, Hi.setS, h0, h1]
          rw [he]
          exact vfind_false_false_p W A X va asid pick h hv ⟨h1, h0⟩
        · have he : fiF X va asid false pick false = (((lkF X.m va asid).1, min (lkF X.m va asid).2 2), X) := by simp [fiF, fiC, Hi.sm, Hi.setS, h0, h1]
          rw [he]
          exact vfind_false_false_k W A X va asid pick h hv ⟨h0, h1⟩
      · have he : fiF X va asid false pick false = (((lkF X.d va asid).1, min (lkF X.d va asid).2 2), X) := by simp [fiF, fiC, Hi.sm, h0]
        rw [he]
        exact vfind_false_false_a W A X va asid pick h hv h0
    · by_cases h0 : (lkF X.i va asid).2 = 0
      · by_cases h1 : (lkF X.m va asid).2 = 1
        · have he : fiF X va asid true pick false = (((lkF X.m va asid).1, min (lkF X.m va asid).2 2), ⟨(puF X.i (lkF X.m va asid).1 pick).2, X.d, X.m⟩) := by simp [fiF, fiC, Hi.sm, Hi.setS, h0, h1]
          rw [he]
          exact vfind_true_false_p W A X va asid pick h hv ⟨h1, h0⟩
        · have he : fiF X va asid true pick false = (((lkF X.m va asid).1, min (lkF X.m va asid).2 2), X) := by simp [fiF, fiC, Hi.sm, Hi.setS, h0, h1]
          rw [he]
          exact vfind_true_false_k W A X va asid pick h hv ⟨h0, h1⟩
      · have he : fiF X va asid true pick false = (((lkF X.i va asid).1, min (lkF X.i va asid).2 2), X) := by simp [fiF, fiC, Hi.sm, h0]
        rw [he]
        exact vfind_true_false_a W A X va asid pick h hv h0
  · cases f
    · by_cases h0 : (lkF X.m va asid).2 = 0
      · have he : fiF X va asid false pick true = (((lkF X.d va asid).1, min (lkF X.d va asid).2 2), X) := by simp [fiF, fiC, Hi.sm, h0]
        rw [he]
        exact vfind_false_true_a W A X va asid pick h hv h0
      · have h00 : 0 < (lkF X.m va asid).2 := by omega
        by_cases h1 : (lkF X.m va asid).2 = 1 ∧ (lkF X.d va asid).2 = 0
        · have he : fiF X va asid false pick true = (((lkF X.m va asid).1, min (lkF X.m va asid).2 2), ⟨X.i, (puF X.d (lkF X.m va asid).1 pick).2, X.m⟩) := by simp [fiF, fiC, Hi.sm, Hi.setS, h1]
          rw [he]
          exact vfind_false_true_p W A X va asid pick h hv h1
        · have he : fiF X va asid false pick true = (((lkF X.m va asid).1, min (lkF X.m va asid).2 2), X) := by
            simp only [fiF, fiC, Hi.sm, if_true, if_false, Bool.false_eq_true, h00, decide_true]
            rw [if_neg h1]
          rw [he]
          exact vfind_false_true_k W A X va asid pick h hv ⟨h00, h1⟩
    · by_cases h0 : (lkF X.m va asid).2 = 0
      · have he : fiF X va asid true pick true = (((lkF X.i va asid).1, min (lkF X.i va asid).2 2), X) := by simp [fiF, fiC, Hi.sm, h0]
        rw [he]
        exact vfind_true_true_a W A X va asid pick h hv h0
      · have h00 : 0 < (lkF X.m va asid).2 := by omega
        by_cases h1 : (lkF X.m va asid).2 = 1 ∧ (lkF X.i va asid).2 = 0
        · have he : fiF X va asid true pick true = (((lkF X.m va asid).1, min (lkF X.m va asid).2 2), ⟨(puF X.i (lkF X.m va asid).1 pick).2, X.d, X.m⟩) := by simp [fiF, fiC, Hi.sm, Hi.setS, h1]
          rw [he]
          exact vfind_true_true_p W A X va asid pick h hv h1
        · have he : fiF X va asid true pick true = (((lkF X.m va asid).1, min (lkF X.m va asid).2 2), X) := by
            simp only [fiF, fiC, Hi.sm, if_true, if_false, Bool.false_eq_true, h00, decide_true]
            rw [if_neg h1]
          rw [he]
          exact vfind_true_true_k W A X va asid pick h hv ⟨h00, h1⟩
end Go.Proofs.YtbbnodhpafiplaaDoor
