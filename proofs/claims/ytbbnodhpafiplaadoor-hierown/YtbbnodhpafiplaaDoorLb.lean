import Derived.Test.YtbbnodhpafiplaaDoorLa
import Derived.Test.YtbbnodhpafiplaaDoorVc
import Derived.Test.YtbbnodhpafiplaaDoorVd
namespace Go.Proofs.YtbbnodhpafiplaaDoor
open Go.RowKit
set_option linter.unusedVariables false
set_option linter.unusedSimpArgs false
/-- Both, a call's box. -/
structure SX2 (W wr : World) (A B : Ad) (X Y : Hi) (C : Nat) (o : Opr) : Prop where
  trn : Turn (fun x => A.S x ∨ B.S x) W wr
  pa : PH 73 95 [] wr A X
  pb : PH 93 89 [.pointer none] wr B Y
  box : Bl wr C 44 ([.int .i64 o.kind, .int .i64 o.asid, .int .i64 o.pick, .int .i64 o.which, .int .u32 o.va, .bool o.fetch, .bool o.mfirst, .int .i64 o.b.asid, .int .i64 o.b.t.size, .int .u32 o.b.t.va, .int .u64 o.b.t.pa, .int .i64 o.b.t.dom, .int .i64 o.b.t.ap, .int .u32 o.b.t.bits, .bool o.b.t.ng, .bool o.b.t.xn, .int .i64 o.d.kind, .int .u32 o.d.va, .int .i64 o.d.asid])
  tr : TR wr
  dis : ∀ x, A.S x → ¬ B.S x
section
variable {W wr w' : World} {A B : Ad} {X Y Z : Hi} {C : Nat} {o : Opr}
theorem SX2.step (h : SX2 W wr A B X Y C o) (hb : Below wr.heap.size wr w') : SX2 W w' A B X Y C o := ⟨h.trn.then (Turn.below hb), h.pa.below hb, h.pb.below hb, h.box.below hb, h.tr.below hb, h.dis⟩
theorem SX2.drew (h : SX2 W wr A B X Y C o) : SX2 W wr.drew A B X Y C o := h.step (below_drew (Below.refl _ _))
theorem SX2.turnA (h : SX2 W wr A B X Y C o) (hp : PH 73 95 [] w' A Z) (hT : Turn A.S wr w') : SX2 W w' A B Z Y C o :=
  ⟨h.trn.trans hT (fun x hx => .inl (.inl hx)), hp, h.pb.turn hT (fun x hx => h.dis x hx) h.pa.row, h.box.turn hT (fun hs => by obtain ⟨c, hc⟩ := h.pa.row _ hs; exact h.box.ne hc (by decide) rfl), h.pa.tr h.tr hT, h.dis⟩
theorem SX2.turnB (h : SX2 W wr A B X Y C o) (hp : PH 93 89 [.pointer none] w' B Z) (hT : Turn B.S wr w') : SX2 W w' A B X Z C o :=
  ⟨h.trn.trans hT (fun x hx => .inl (.inr hx)), h.pa.turn hT (fun x hx ha => h.dis x ha hx) h.pb.row, hp, h.box.turn hT (fun hs => by obtain ⟨c, hc⟩ := h.pb.row _ hs; exact h.box.ne hc (by decide) rfl), h.pb.tr h.tr hT, h.dis⟩
theorem SX2.start (o : Opr) (h1 : PH 73 95 [] W A X) (h2 : PH 93 89 [.pointer none] W B X) (ht : TR W) (hd : ∀ x, A.S x → ¬ B.S x) : SX2 W (W.alloc (.cells ([.int .i64 o.kind, .int .i64 o.asid, .int .i64 o.pick, .int .i64 o.which, .int .u32 o.va, .bool o.fetch, .bool o.mfirst, .int .i64 o.b.asid, .int .i64 o.b.t.size, .int .u32 o.b.t.va, .int .u64 o.b.t.pa, .int .i64 o.b.t.dom, .int .i64 o.b.t.ap, .int .u32 o.b.t.bits, .bool o.b.t.ng, .bool o.b.t.xn, .int .i64 o.d.kind, .int .u32 o.d.va, .int .i64 o.d.asid]).toArray 44)) A B X X W.heap.size o :=
  ⟨Turn.below (below_new _ _), h1.below (below_new _ _), h2.below (below_new _ _), Bl.new _ _ _, ht.below (below_new _ _), hd⟩
theorem SX2.held (h : SX2 W wr A B X Y C o) : wr.cell? ⟨C, 0, none⟩ = some (.int .i64 o.kind) ∧ wr.cell? ⟨C, 1, none⟩ = some (.int .i64 o.asid) ∧ wr.cell? ⟨C, 2, none⟩ = some (.int .i64 o.pick) ∧ wr.cell? ⟨C, 3, none⟩ = some (.int .i64 o.which) ∧ wr.cell? ⟨C, 4, none⟩ = some (.int .u32 o.va) ∧ wr.cell? ⟨C, 5, none⟩ = some (.bool o.fetch) ∧ wr.cell? ⟨C, 6, none⟩ = some (.bool o.mfirst) ∧ wr.cell? ⟨C, 7, none⟩ = some (.int .i64 o.b.asid) ∧ wr.cell? ⟨C, 8, none⟩ = some (.int .i64 o.b.t.size) ∧ wr.cell? ⟨C, 9, none⟩ = some (.int .u32 o.b.t.va) ∧ wr.cell? ⟨C, 10, none⟩ = some (.int .u64 o.b.t.pa) ∧ wr.cell? ⟨C, 11, none⟩ = some (.int .i64 o.b.t.dom) ∧ wr.cell? ⟨C, 12, none⟩ = some (.int .i64 o.b.t.ap) ∧ wr.cell? ⟨C, 13, none⟩ = some (.int .u32 o.b.t.bits) ∧ wr.cell? ⟨C, 14, none⟩ = some (.bool o.b.t.ng) ∧ wr.cell? ⟨C, 15, none⟩ = some (.bool o.b.t.xn) ∧ wr.cell? ⟨C, 16, none⟩ = some (.int .i64 o.d.kind) ∧ wr.cell? ⟨C, 17, none⟩ = some (.int .u32 o.d.va) ∧ wr.cell? ⟨C, 18, none⟩ = some (.int .i64 o.d.asid) := by
  have c := h.box.cell
  exact ⟨c 0, c 1, c 2, c 3, c 4, c 5, c 6, c 7, c 8, c 9, c 10, c 11, c 12, c 13, c 14, c 15, c 16, c 17, c 18⟩
end
theorem vkeep_any (W : World) (A : Ad) (X : Hi) (b : Blo) (va asid : Int) (f : Bool) (pick : Int) (h : PH 93 89 [.pointer none] W A X) (hb : BOk b) (hv : 0 ≤ va ∧ va < 4294967296) :
    Calls Tryd.prog 42 #[.pointer (some ⟨A.h, 0, none⟩), .agg #[.int .i64 b.asid, .int .i64 b.t.size, .int .u32 b.t.va, .int .u64 b.t.pa, .int .i64 b.t.dom, .int .i64 b.t.ap, .int .u32 b.t.bits, .bool b.t.ng, .bool b.t.xn], .int .u32 va, .int .i64 asid, .bool f, .int .i64 pick] W fun e w' => e = .returned (.int .i64 (keF X b va asid f pick).1) ∧ PH 93 89 [.pointer none] w' A (keF X b va asid f pick).2 ∧ Turn A.S W w' := by
  cases f
  · exact vkeep_false W A X b va asid pick h hb hv
  · exact vkeep_true W A X b va asid pick h hb hv
set_option maxRecDepth 100000 in
set_option maxHeartbeats 8000000 in
theorem step_1 (W : World) (A B : Ad) (X : Hi) (o : Opr) (h1 : PH 73 95 [] W A X) (h2 : PH 93 89 [.pointer none] W B X) (ht : TR W) (hd : ∀ x, A.S x → ¬ B.S x) (hO : OOk o) (hk : o.kind = 1) :
    Calls Tryd.prog 21 #[.pointer (some ⟨A.h, 0, none⟩), .pointer (some ⟨B.h, 0, none⟩), .agg #[.int .i64 o.kind, .int .i64 o.asid, .int .i64 o.pick, .int .i64 o.which, .int .u32 o.va, .bool o.fetch, .bool o.mfirst, .int .i64 o.b.asid, .int .i64 o.b.t.size, .int .u32 o.b.t.va, .int .u64 o.b.t.pa, .int .i64 o.b.t.dom, .int .i64 o.b.t.ap, .int .u32 o.b.t.bits, .bool o.b.t.ng, .bool o.b.t.xn, .int .i64 o.d.kind, .int .u32 o.d.va, .int .i64 o.d.asid]] W fun e w' => e = .returned (.bool true) ∧ PH 73 95 [] w' A (fiF X o.va o.asid o.fetch o.pick o.mfirst).2 ∧ PH 93 89 [.pointer none] w' B (fiF X o.va o.asid o.fetch o.pick o.mfirst).2 ∧ Turn (fun x => A.S x ∨ B.S x) W w' := by
  have HX := hidW (SX2.start o h1 h2 ht hd)
  have HC : Hid (∀ w, PH 73 95 [] w A X → TR w → Calls Tryd.prog 12 #[.pointer (some ⟨A.h, 0, none⟩), .int .u32 o.va, .int .i64 o.asid, .bool o.fetch, .int .i64 o.pick, .bool o.mfirst] w fun e w' => e = .returned (.tuple #[.agg #[.int .i64 ((fiF X o.va o.asid o.fetch o.pick o.mfirst).1.1).asid, .int .i64 ((fiF X o.va o.asid o.fetch o.pick o.mfirst).1.1).t.size, .int .u32 ((fiF X o.va o.asid o.fetch o.pick o.mfirst).1.1).t.va, .int .u64 ((fiF X o.va o.asid o.fetch o.pick o.mfirst).1.1).t.pa, .int .i64 ((fiF X o.va o.asid o.fetch o.pick o.mfirst).1.1).t.dom, .int .i64 ((fiF X o.va o.asid o.fetch o.pick o.mfirst).1.1).t.ap, .int .u32 ((fiF X o.va o.asid o.fetch o.pick o.mfirst).1.1).t.bits, .bool ((fiF X o.va o.asid o.fetch o.pick o.mfirst).1.1).t.ng, .bool ((fiF X o.va o.asid o.fetch o.pick o.mfirst).1.1).t.xn], .int .i64 (((fiF X o.va o.asid o.fetch o.pick o.mfirst).1.2 : Nat) : Int)]) ∧ PH 73 95 [] w' A (fiF X o.va o.asid o.fetch o.pick o.mfirst).2 ∧ Turn A.S w w') := fun w k k2 => hfind_any w A X o.va o.asid o.fetch o.pick o.mfirst k k2 hO.va
  have HD : Hid (∀ w, PH 93 89 [.pointer none] w B X → Calls Tryd.prog 41 #[.pointer (some ⟨B.h, 0, none⟩), .int .u32 o.va, .int .i64 o.asid, .bool o.fetch, .int .i64 o.pick, .bool o.mfirst] w fun e w' => e = .returned (.tuple #[.agg #[.int .i64 ((fiF X o.va o.asid o.fetch o.pick o.mfirst).1.1).asid, .int .i64 ((fiF X o.va o.asid o.fetch o.pick o.mfirst).1.1).t.size, .int .u32 ((fiF X o.va o.asid o.fetch o.pick o.mfirst).1.1).t.va, .int .u64 ((fiF X o.va o.asid o.fetch o.pick o.mfirst).1.1).t.pa, .int .i64 ((fiF X o.va o.asid o.fetch o.pick o.mfirst).1.1).t.dom, .int .i64 ((fiF X o.va o.asid o.fetch o.pick o.mfirst).1.1).t.ap, .int .u32 ((fiF X o.va o.asid o.fetch o.pick o.mfirst).1.1).t.bits, .bool ((fiF X o.va o.asid o.fetch o.pick o.mfirst).1.1).t.ng, .bool ((fiF X o.va o.asid o.fetch o.pick o.mfirst).1.1).t.xn], .int .i64 (((fiF X o.va o.asid o.fetch o.pick o.mfirst).1.2 : Nat) : Int)]) ∧ PH 93 89 [.pointer none] w' B (fiF X o.va o.asid o.fetch o.pick o.mfirst).2 ∧ Turn B.S w w') := fun w k => vfind_any w B X o.va o.asid o.fetch o.pick o.mfirst k hO.va
  clear h1 h2 ht hO hd
  obtain ⟨ok, oa, op, ow, ova, of, om, ob, od⟩ := o
  dsimp only at *
  subst hk
  generalize (fiF X ova oa of op om) = R at *
  obtain ⟨⟨rb, rn⟩, ry⟩ := R
  dsimp only at *
  have he := eqB rb rb
  rw [Blo.same_self] at he
  go_enter Tryd.func21, Tryd.ntmps21
  go_wp2_with (fail)
  go_at_call 12
  refine (HC.out _ HX.out.pa HX.out.tr).mono ?_
  rintro e w1 ⟨rfl, hp, hT⟩
  replace HX := hidW ((HX.out.turnA hp hT).step (below_new _ (.cells ([.int .i64 rb.asid, .int .i64 rb.t.size, .int .u32 rb.t.va, .int .u64 rb.t.pa, .int .i64 rb.t.dom, .int .i64 rb.t.ap, .int .u32 rb.t.bits, .bool rb.t.ng, .bool rb.t.xn]).toArray 38)))
  have HY := hidW (Bl.new w1 38 ([.int .i64 rb.asid, .int .i64 rb.t.size, .int .u32 rb.t.va, .int .u64 rb.t.pa, .int .i64 rb.t.dom, .int .i64 rb.t.ap, .int .u32 rb.t.bits, .bool rb.t.ng, .bool rb.t.xn]))
  clear hp hT HC
  generalize hC : W.heap.size = C at HX ⊢
  clear hC
  have c0 := HX.out.box.cell
  go_wp2_with (fail)
  go_at_call 41
  generalize World.alloc _ _ = w2 at *
  generalize w1.heap.size = D at *
  refine (HD.out _ HX.out.pb).mono ?_
  rintro e w3 ⟨rfl, hp, hT⟩
  replace HY := hidW ((HY.out.turn hT (fun hs => by obtain ⟨c, hc⟩ := HX.out.pb.row _ hs; exact HY.out.ne hc (by decide) rfl)).below (below_new _ (.cells ([.int .i64 rb.asid, .int .i64 rb.t.size, .int .u32 rb.t.va, .int .u64 rb.t.pa, .int .i64 rb.t.dom, .int .i64 rb.t.ap, .int .u32 rb.t.bits, .bool rb.t.ng, .bool rb.t.xn]).toArray 38)))
  replace HX := hidW ((HX.out.turnB hp hT).step (below_new _ (.cells ([.int .i64 rb.asid, .int .i64 rb.t.size, .int .u32 rb.t.va, .int .u64 rb.t.pa, .int .i64 rb.t.dom, .int .i64 rb.t.ap, .int .u32 rb.t.bits, .bool rb.t.ng, .bool rb.t.xn]).toArray 38)))
  have HZ := hidW (Bl.new w3 38 ([.int .i64 rb.asid, .int .i64 rb.t.size, .int .u32 rb.t.va, .int .u64 rb.t.pa, .int .i64 rb.t.dom, .int .i64 rb.t.ap, .int .u32 rb.t.bits, .bool rb.t.ng, .bool rb.t.xn]))
  clear hp hT HD c0
  have c1 := HY.out.cell
  have c2 := HZ.out.cell
  go_wp2
  go_ret
  exact ⟨by simp, HX.out.pa, HX.out.pb, HX.out.trn⟩
set_option maxRecDepth 100000 in
set_option maxHeartbeats 8000000 in
theorem step_2 (W : World) (A B : Ad) (X : Hi) (o : Opr) (h1 : PH 73 95 [] W A X) (h2 : PH 93 89 [.pointer none] W B X) (ht : TR W) (hd : ∀ x, A.S x → ¬ B.S x) (hO : OOk o) (hk : o.kind = 2) :
    Calls Tryd.prog 21 #[.pointer (some ⟨A.h, 0, none⟩), .pointer (some ⟨B.h, 0, none⟩), .agg #[.int .i64 o.kind, .int .i64 o.asid, .int .i64 o.pick, .int .i64 o.which, .int .u32 o.va, .bool o.fetch, .bool o.mfirst, .int .i64 o.b.asid, .int .i64 o.b.t.size, .int .u32 o.b.t.va, .int .u64 o.b.t.pa, .int .i64 o.b.t.dom, .int .i64 o.b.t.ap, .int .u32 o.b.t.bits, .bool o.b.t.ng, .bool o.b.t.xn, .int .i64 o.d.kind, .int .u32 o.d.va, .int .i64 o.d.asid]] W fun e w' => e = .returned (.bool true) ∧ PH 73 95 [] w' A (keF X o.b o.va o.asid o.fetch o.pick).2 ∧ PH 93 89 [.pointer none] w' B (keF X o.b o.va o.asid o.fetch o.pick).2 ∧ Turn (fun x => A.S x ∨ B.S x) W w' := by
  have HX := hidW (SX2.start o h1 h2 ht hd)
  have HC : Hid (∀ w, PH 73 95 [] w A X → TR w → Calls Tryd.prog 11 #[.pointer (some ⟨A.h, 0, none⟩), .agg #[.int .i64 o.b.asid, .int .i64 o.b.t.size, .int .u32 o.b.t.va, .int .u64 o.b.t.pa, .int .i64 o.b.t.dom, .int .i64 o.b.t.ap, .int .u32 o.b.t.bits, .bool o.b.t.ng, .bool o.b.t.xn], .int .u32 o.va, .int .i64 o.asid, .bool o.fetch, .int .i64 o.pick] w fun e w' => e = .returned (.int .i64 (keF X o.b o.va o.asid o.fetch o.pick).1) ∧ PH 73 95 [] w' A (keF X o.b o.va o.asid o.fetch o.pick).2 ∧ Turn A.S w w') := fun w k k2 => hkeep_any w A X o.b o.va o.asid o.fetch o.pick k k2 hO.b hO.va
  have HD : Hid (∀ w, PH 93 89 [.pointer none] w B X → Calls Tryd.prog 42 #[.pointer (some ⟨B.h, 0, none⟩), .agg #[.int .i64 o.b.asid, .int .i64 o.b.t.size, .int .u32 o.b.t.va, .int .u64 o.b.t.pa, .int .i64 o.b.t.dom, .int .i64 o.b.t.ap, .int .u32 o.b.t.bits, .bool o.b.t.ng, .bool o.b.t.xn], .int .u32 o.va, .int .i64 o.asid, .bool o.fetch, .int .i64 o.pick] w fun e w' => e = .returned (.int .i64 (keF X o.b o.va o.asid o.fetch o.pick).1) ∧ PH 93 89 [.pointer none] w' B (keF X o.b o.va o.asid o.fetch o.pick).2 ∧ Turn B.S w w') := fun w k => vkeep_any w B X o.b o.va o.asid o.fetch o.pick k hO.b hO.va
  clear h1 h2 ht hO hd
  obtain ⟨ok, oa, op, ow, ova, of, om, ob, od⟩ := o
  dsimp only at *
  subst hk
  generalize (keF X ob ova oa of op) = R at *
  obtain ⟨re, ry⟩ := R
  dsimp only at *
  go_enter Tryd.func21, Tryd.ntmps21
  go_wp2
  generalize World.alloc _ _ = w0 at *
  generalize hC : W.heap.size = C at HX ⊢
  clear hC
  replace HX := hidW HX.out.drew
  refine wp_region_held_drew (S := fun w' => w'.cell? ⟨C, 0, none⟩ = some (.int .i64 2) ∧ w'.cell? ⟨C, 1, none⟩ = some (.int .i64 oa) ∧ w'.cell? ⟨C, 2, none⟩ = some (.int .i64 op) ∧ w'.cell? ⟨C, 3, none⟩ = some (.int .i64 ow) ∧ w'.cell? ⟨C, 4, none⟩ = some (.int .u32 ova) ∧ w'.cell? ⟨C, 5, none⟩ = some (.bool of) ∧ w'.cell? ⟨C, 6, none⟩ = some (.bool om) ∧ w'.cell? ⟨C, 7, none⟩ = some (.int .i64 ob.asid) ∧ w'.cell? ⟨C, 8, none⟩ = some (.int .i64 ob.t.size) ∧ w'.cell? ⟨C, 9, none⟩ = some (.int .u32 ob.t.va) ∧ w'.cell? ⟨C, 10, none⟩ = some (.int .u64 ob.t.pa) ∧ w'.cell? ⟨C, 11, none⟩ = some (.int .i64 ob.t.dom) ∧ w'.cell? ⟨C, 12, none⟩ = some (.int .i64 ob.t.ap) ∧ w'.cell? ⟨C, 13, none⟩ = some (.int .u32 ob.t.bits) ∧ w'.cell? ⟨C, 14, none⟩ = some (.bool ob.t.ng) ∧ w'.cell? ⟨C, 15, none⟩ = some (.bool ob.t.xn) ∧ w'.cell? ⟨C, 16, none⟩ = some (.int .i64 od.kind) ∧ w'.cell? ⟨C, 17, none⟩ = some (.int .u32 od.va) ∧ w'.cell? ⟨C, 18, none⟩ = some (.int .i64 od.asid)) (by kernel_rfl) HX.out.held (fun hHeld => ?_)
  refine wpAnyH_take (i := 0) (oi := { dst := some 55, op := Op.move (Operand.tmp 0), type := 25, pos := _, after := #[], guard := none }) (v := ?_) rfl (by kernel_rfl) (by kernel_rfl) (by kernel_rfl) (fun _ _ _ h => h) (Or.inl ⟨by rfl, ?_⟩) (by assumption) ?_
  rotate_left
  · (intro w hSw; (try dsimp only at hSw); go_simp; try with_reducible rfl)
  simp only [Act.put, List.setIfInBounds_toArray, List.set_cons_zero, List.set_cons_succ]
  refine wpAnyH_take (i := 1) (oi := { dst := some 56, op := Op.fieldAddr 44 (Operand.tmp 5) 7, type := 0, pos := _, after := #[], guard := none }) (v := ?_) rfl (by kernel_rfl) (by kernel_rfl) (by kernel_rfl) (fun _ _ _ h => h) (Or.inl ⟨by rfl, ?_⟩) (by assumption) ?_
  rotate_left
  · (intro w hSw; (try dsimp only at hSw); go_simp; try with_reducible rfl)
  simp only [Act.put, List.setIfInBounds_toArray, List.set_cons_zero, List.set_cons_succ]
  refine wpAnyH_take (i := 2) (oi := { dst := some 57, op := Op.load 38 (Operand.tmp 56), type := 38, pos := _, after := #[{ on := 1, ground := Ground.data }], guard := none }) (v := ?_) rfl (by kernel_rfl) (by kernel_rfl) (by kernel_rfl) (fun _ _ _ h => h) (Or.inl ⟨by rfl, ?_⟩) (by assumption) ?_
  rotate_left
  · (intro w hSw; (try dsimp only at hSw); go_simp; try with_reducible rfl)
  simp only [Act.put, List.setIfInBounds_toArray, List.set_cons_zero, List.set_cons_succ]
  refine wpAnyH_take (i := 3) (oi := { dst := some 58, op := Op.fieldAddr 44 (Operand.tmp 5) 4, type := 0, pos := _, after := #[], guard := none }) (v := ?_) rfl (by kernel_rfl) (by kernel_rfl) (by kernel_rfl) (fun _ _ _ h => h) (Or.inl ⟨by rfl, ?_⟩) (by assumption) ?_
  rotate_left
  · (intro w hSw; (try dsimp only at hSw); go_simp; try with_reducible rfl)
  simp only [Act.put, List.setIfInBounds_toArray, List.set_cons_zero, List.set_cons_succ]
  refine wpAnyH_take (i := 4) (oi := { dst := some 59, op := Op.load 31 (Operand.tmp 58), type := 31, pos := _, after := #[{ on := 3, ground := Ground.data }], guard := none }) (v := ?_) rfl (by kernel_rfl) (by kernel_rfl) (by kernel_rfl) (fun _ _ _ h => h) (Or.inl ⟨by rfl, ?_⟩) (by assumption) ?_
  rotate_left
  · (intro w hSw; (try dsimp only at hSw); go_simp; try with_reducible rfl)
  simp only [Act.put, List.setIfInBounds_toArray, List.set_cons_zero, List.set_cons_succ]
  refine wpAnyH_take (i := 5) (oi := { dst := some 60, op := Op.fieldAddr 44 (Operand.tmp 5) 1, type := 0, pos := _, after := #[], guard := none }) (v := ?_) rfl (by kernel_rfl) (by kernel_rfl) (by kernel_rfl) (fun _ _ _ h => h) (Or.inl ⟨by rfl, ?_⟩) (by assumption) ?_
  rotate_left
  · (intro w hSw; (try dsimp only at hSw); go_simp; try with_reducible rfl)
  simp only [Act.put, List.setIfInBounds_toArray, List.set_cons_zero, List.set_cons_succ]
  refine wpAnyH_take (i := 6) (oi := { dst := some 61, op := Op.load 3 (Operand.tmp 60), type := 3, pos := _, after := #[{ on := 5, ground := Ground.data }], guard := none }) (v := ?_) rfl (by kernel_rfl) (by kernel_rfl) (by kernel_rfl) (fun _ _ _ h => h) (Or.inl ⟨by rfl, ?_⟩) (by assumption) ?_
  rotate_left
  · (intro w hSw; (try dsimp only at hSw); go_simp; try with_reducible rfl)
  simp only [Act.put, List.setIfInBounds_toArray, List.set_cons_zero, List.set_cons_succ]
  refine wpAnyH_take (i := 7) (oi := { dst := some 62, op := Op.fieldAddr 44 (Operand.tmp 5) 5, type := 0, pos := _, after := #[], guard := none }) (v := ?_) rfl (by kernel_rfl) (by kernel_rfl) (by kernel_rfl) (fun _ _ _ h => h) (Or.inl ⟨by rfl, ?_⟩) (by assumption) ?_
  rotate_left
  · (intro w hSw; (try dsimp only at hSw); go_simp; try with_reducible rfl)
  simp only [Act.put, List.setIfInBounds_toArray, List.set_cons_zero, List.set_cons_succ]
  refine wpAnyH_take (i := 8) (oi := { dst := some 63, op := Op.load 4 (Operand.tmp 62), type := 4, pos := _, after := #[{ on := 7, ground := Ground.data }], guard := none }) (v := ?_) rfl (by kernel_rfl) (by kernel_rfl) (by kernel_rfl) (fun _ _ _ h => h) (Or.inl ⟨by rfl, ?_⟩) (by assumption) ?_
  rotate_left
  · (intro w hSw; (try dsimp only at hSw); go_simp; try with_reducible rfl)
  simp only [Act.put, List.setIfInBounds_toArray, List.set_cons_zero, List.set_cons_succ]
  refine wpAnyH_take (i := 9) (oi := { dst := some 64, op := Op.fieldAddr 44 (Operand.tmp 5) 2, type := 0, pos := _, after := #[], guard := none }) (v := ?_) rfl (by kernel_rfl) (by kernel_rfl) (by kernel_rfl) (fun _ _ _ h => h) (Or.inl ⟨by rfl, ?_⟩) (by assumption) ?_
  rotate_left
  · (intro w hSw; (try dsimp only at hSw); go_simp; try with_reducible rfl)
  simp only [Act.put, List.setIfInBounds_toArray, List.set_cons_zero, List.set_cons_succ]
  refine wpAnyH_take (i := 10) (oi := { dst := some 65, op := Op.load 3 (Operand.tmp 64), type := 3, pos := _, after := #[{ on := 9, ground := Ground.data }], guard := none }) (v := ?_) rfl (by kernel_rfl) (by kernel_rfl) (by kernel_rfl) (fun _ _ _ h => h) (Or.inl ⟨by rfl, ?_⟩) (by assumption) ?_
  rotate_left
  · (intro w hSw; (try dsimp only at hSw); go_simp; try with_reducible rfl)
  simp only [Act.put, List.setIfInBounds_toArray, List.set_cons_zero, List.set_cons_succ]
  refine wpAnyH_take (i := 12) (oi := { dst := some 67, op := Op.move (Operand.tmp 1), type := 59, pos := _, after := #[], guard := none }) (v := ?_) rfl (by kernel_rfl) (by kernel_rfl) (by kernel_rfl) (fun _ _ _ h => h) (Or.inl ⟨by rfl, ?_⟩) (by assumption) ?_
  rotate_left
  · (intro w hSw; (try dsimp only at hSw); go_simp; try with_reducible rfl)
  simp only [Act.put, List.setIfInBounds_toArray, List.set_cons_zero, List.set_cons_succ]
  refine wpAnyH_take (i := 13) (oi := { dst := some 68, op := Op.fieldAddr 44 (Operand.tmp 5) 7, type := 0, pos := _, after := #[], guard := none }) (v := ?_) rfl (by kernel_rfl) (by kernel_rfl) (by kernel_rfl) (fun _ _ _ h => h) (Or.inl ⟨by rfl, ?_⟩) (by assumption) ?_
  rotate_left
  · (intro w hSw; (try dsimp only at hSw); go_simp; try with_reducible rfl)
  simp only [Act.put, List.setIfInBounds_toArray, List.set_cons_zero, List.set_cons_succ]
  refine wpAnyH_take (i := 14) (oi := { dst := some 69, op := Op.load 38 (Operand.tmp 68), type := 38, pos := _, after := #[{ on := 13, ground := Ground.data }], guard := none }) (v := ?_) rfl (by kernel_rfl) (by kernel_rfl) (by kernel_rfl) (fun _ _ _ h => h) (Or.inl ⟨by rfl, ?_⟩) (by assumption) ?_
  rotate_left
  · (intro w hSw; (try dsimp only at hSw); go_simp; try with_reducible rfl)
  simp only [Act.put, List.setIfInBounds_toArray, List.set_cons_zero, List.set_cons_succ]
  refine wpAnyH_take (i := 15) (oi := { dst := some 70, op := Op.fieldAddr 44 (Operand.tmp 5) 4, type := 0, pos := _, after := #[], guard := none }) (v := ?_) rfl (by kernel_rfl) (by kernel_rfl) (by kernel_rfl) (fun _ _ _ h => h) (Or.inl ⟨by rfl, ?_⟩) (by assumption) ?_
  rotate_left
  · (intro w hSw; (try dsimp only at hSw); go_simp; try with_reducible rfl)
  simp only [Act.put, List.setIfInBounds_toArray, List.set_cons_zero, List.set_cons_succ]
  refine wpAnyH_take (i := 16) (oi := { dst := some 71, op := Op.load 31 (Operand.tmp 70), type := 31, pos := _, after := #[{ on := 15, ground := Ground.data }], guard := none }) (v := ?_) rfl (by kernel_rfl) (by kernel_rfl) (by kernel_rfl) (fun _ _ _ h => h) (Or.inl ⟨by rfl, ?_⟩) (by assumption) ?_
  rotate_left
  · (intro w hSw; (try dsimp only at hSw); go_simp; try with_reducible rfl)
  simp only [Act.put, List.setIfInBounds_toArray, List.set_cons_zero, List.set_cons_succ]
  refine wpAnyH_take (i := 17) (oi := { dst := some 72, op := Op.fieldAddr 44 (Operand.tmp 5) 1, type := 0, pos := _, after := #[], guard := none }) (v := ?_) rfl (by kernel_rfl) (by kernel_rfl) (by kernel_rfl) (fun _ _ _ h => h) (Or.inl ⟨by rfl, ?_⟩) (by assumption) ?_
  rotate_left
  · (intro w hSw; (try dsimp only at hSw); go_simp; try with_reducible rfl)
  simp only [Act.put, List.setIfInBounds_toArray, List.set_cons_zero, List.set_cons_succ]
  refine wpAnyH_take (i := 18) (oi := { dst := some 73, op := Op.load 3 (Operand.tmp 72), type := 3, pos := _, after := #[{ on := 17, ground := Ground.data }], guard := none }) (v := ?_) rfl (by kernel_rfl) (by kernel_rfl) (by kernel_rfl) (fun _ _ _ h => h) (Or.inl ⟨by rfl, ?_⟩) (by assumption) ?_
  rotate_left
  · (intro w hSw; (try dsimp only at hSw); go_simp; try with_reducible rfl)
  simp only [Act.put, List.setIfInBounds_toArray, List.set_cons_zero, List.set_cons_succ]
  refine wpAnyH_take (i := 19) (oi := { dst := some 74, op := Op.fieldAddr 44 (Operand.tmp 5) 5, type := 0, pos := _, after := #[], guard := none }) (v := ?_) rfl (by kernel_rfl) (by kernel_rfl) (by kernel_rfl) (fun _ _ _ h => h) (Or.inl ⟨by rfl, ?_⟩) (by assumption) ?_
  rotate_left
  · (intro w hSw; (try dsimp only at hSw); go_simp; try with_reducible rfl)
  simp only [Act.put, List.setIfInBounds_toArray, List.set_cons_zero, List.set_cons_succ]
  refine wpAnyH_take (i := 20) (oi := { dst := some 75, op := Op.load 4 (Operand.tmp 74), type := 4, pos := _, after := #[{ on := 19, ground := Ground.data }], guard := none }) (v := ?_) rfl (by kernel_rfl) (by kernel_rfl) (by kernel_rfl) (fun _ _ _ h => h) (Or.inl ⟨by rfl, ?_⟩) (by assumption) ?_
  rotate_left
  · (intro w hSw; (try dsimp only at hSw); go_simp; try with_reducible rfl)
  simp only [Act.put, List.setIfInBounds_toArray, List.set_cons_zero, List.set_cons_succ]
  refine wpAnyH_take (i := 21) (oi := { dst := some 76, op := Op.fieldAddr 44 (Operand.tmp 5) 2, type := 0, pos := _, after := #[], guard := none }) (v := ?_) rfl (by kernel_rfl) (by kernel_rfl) (by kernel_rfl) (fun _ _ _ h => h) (Or.inl ⟨by rfl, ?_⟩) (by assumption) ?_
  rotate_left
  · (intro w hSw; (try dsimp only at hSw); go_simp; try with_reducible rfl)
  simp only [Act.put, List.setIfInBounds_toArray, List.set_cons_zero, List.set_cons_succ]
  refine wpAnyH_take (i := 22) (oi := { dst := some 77, op := Op.load 3 (Operand.tmp 76), type := 3, pos := _, after := #[{ on := 21, ground := Ground.data }], guard := none }) (v := ?_) rfl (by kernel_rfl) (by kernel_rfl) (by kernel_rfl) (fun _ _ _ h => h) (Or.inl ⟨by rfl, ?_⟩) (by assumption) ?_
  rotate_left
  · (intro w hSw; (try dsimp only at hSw); go_simp; try with_reducible rfl)
  simp only [Act.put, List.setIfInBounds_toArray, List.set_cons_zero, List.set_cons_succ]
  refine wpAnyH_ready (rs := [11]) (by kernel_rfl) (by simp) ?_
  refine AllReadyH.cons (o := { dst := some 66, op := Op.call { callee := Callee.value (Operand.func 11), args := #[Operand.tmp 55, Operand.tmp 57, Operand.tmp 59, Operand.tmp 61, Operand.tmp 63, Operand.tmp 65], argTypes := #[25, 38, 31, 3, 4, 3] }, type := 26, pos := _, after := #[{ on := 0, ground := Ground.data }, { on := 2, ground := Ground.data }, { on := 4, ground := Ground.data }, { on := 6, ground := Ground.data }, { on := 8, ground := Ground.data }, { on := 10, ground := Ground.data }], guard := none }) rfl (fun K hK => ?_) AllReadyH.nil
  go_simp
  (go_at_call 11; refine (HC.out _ HX.out.pa HX.out.tr).mono ?_; rintro e w1 ⟨rfl, hp, hT⟩; replace HX := hidW (HX.out.turnA hp hT); clear hp hT HC; go_wp2_with fail)
  refine hK.out _ _ ?_ (fun hHeld => ?_)
  · ((try dsimp only); with_reducible exact HX.out.held)
  clear hK K
  try simp only [Act.put, List.setIfInBounds_toArray, List.set_cons_zero, List.set_cons_succ]
  refine wpAnyH_ready (rs := [23]) (by kernel_rfl) (by simp) ?_
  refine AllReadyH.cons (o := { dst := some 78, op := Op.call { callee := Callee.value (Operand.func 42), args := #[Operand.tmp 67, Operand.tmp 69, Operand.tmp 71, Operand.tmp 73, Operand.tmp 75, Operand.tmp 77], argTypes := #[59, 38, 31, 3, 4, 3] }, type := 26, pos := _, after := #[{ on := 12, ground := Ground.data }, { on := 14, ground := Ground.data }, { on := 16, ground := Ground.data }, { on := 18, ground := Ground.data }, { on := 20, ground := Ground.data }, { on := 22, ground := Ground.data }, { on := 11, ground := Ground.chain }], guard := none }) rfl (fun K hK => ?_) AllReadyH.nil
  go_simp
  (go_at_call 42; refine (HD.out _ HX.out.pb).mono ?_; rintro e w1 ⟨rfl, hp, hT⟩; replace HX := hidW (HX.out.turnB hp hT); clear hp hT HD; go_wp2_with fail)
  refine hK.out _ _ ?_ (fun hHeld => ?_)
  · ((try dsimp only); with_reducible exact HX.out.held)
  clear hK K
  try simp only [Act.put, List.setIfInBounds_toArray, List.set_cons_zero, List.set_cons_succ]
  refine wpAnyH_take (i := 24) (oi := { dst := some 79, op := Op.binOp BinOp.eql 26 (Operand.tmp 66) (Operand.tmp 78) 26, type := 4, pos := _, after := #[{ on := 11, ground := Ground.data }, { on := 23, ground := Ground.data }], guard := none }) (v := ?_) rfl (by kernel_rfl) (by kernel_rfl) (by kernel_rfl) (fun _ _ _ h => h) (Or.inl ⟨by rfl, ?_⟩) (by assumption) ?_
  rotate_left
  · (intro w hSw; (try dsimp only at hSw); go_simp; try with_reducible rfl)
  simp only [Act.put, List.setIfInBounds_toArray, List.set_cons_zero, List.set_cons_succ]
  refine wpAnyH_take (i := 25) (oi := { dst := some 6, op := Op.assign (Operand.tmp 79), type := 4, pos := _, after := #[{ on := 24, ground := Ground.data }, { on := 23, ground := Ground.chain }, { on := 0, ground := Ground.phase }, { on := 1, ground := Ground.phase }, { on := 2, ground := Ground.phase }, { on := 3, ground := Ground.phase }, { on := 4, ground := Ground.phase }, { on := 5, ground := Ground.phase }, { on := 6, ground := Ground.phase }, { on := 7, ground := Ground.phase }, { on := 8, ground := Ground.phase }, { on := 9, ground := Ground.phase }, { on := 10, ground := Ground.phase }, { on := 11, ground := Ground.phase }, { on := 12, ground := Ground.phase }, { on := 13, ground := Ground.phase }, { on := 14, ground := Ground.phase }, { on := 15, ground := Ground.phase }, { on := 16, ground := Ground.phase }, { on := 17, ground := Ground.phase }, { on := 18, ground := Ground.phase }, { on := 19, ground := Ground.phase }, { on := 20, ground := Ground.phase }, { on := 21, ground := Ground.phase }, { on := 22, ground := Ground.phase }, { on := 23, ground := Ground.phase }, { on := 24, ground := Ground.phase }], guard := none }) (v := ?_) rfl (by kernel_rfl) (by kernel_rfl) (by kernel_rfl) (fun _ _ _ h => h) (Or.inl ⟨by rfl, ?_⟩) (by assumption) ?_
  rotate_left
  · (intro w hSw; (try dsimp only at hSw); go_simp; try with_reducible rfl)
  simp only [Act.put, List.setIfInBounds_toArray, List.set_cons_zero, List.set_cons_succ]
  refine wpAnyH_done (by kernel_rfl) ?_ _
  clear hHeld
  go_wp2
  go_ret
  exact ⟨by simp, HX.out.pa, HX.out.pb, HX.out.trn⟩
set_option maxRecDepth 100000 in
set_option maxHeartbeats 8000000 in
theorem step_3 (W : World) (A B : Ad) (X : Hi) (o : Opr) (h1 : PH 73 95 [] W A X) (h2 : PH 93 89 [.pointer none] W B X) (ht : TR W) (hd : ∀ x, A.S x → ¬ B.S x) (hO : OOk o) (hk : o.kind = 3) :
    Calls Tryd.prog 21 #[.pointer (some ⟨A.h, 0, none⟩), .pointer (some ⟨B.h, 0, none⟩), .agg #[.int .i64 o.kind, .int .i64 o.asid, .int .i64 o.pick, .int .i64 o.which, .int .u32 o.va, .bool o.fetch, .bool o.mfirst, .int .i64 o.b.asid, .int .i64 o.b.t.size, .int .u32 o.b.t.va, .int .u64 o.b.t.pa, .int .i64 o.b.t.dom, .int .i64 o.b.t.ap, .int .u32 o.b.t.bits, .bool o.b.t.ng, .bool o.b.t.xn, .int .i64 o.d.kind, .int .u32 o.d.va, .int .i64 o.d.asid]] W fun e w' => e = .returned (.bool true) ∧ PH 73 95 [] w' A (evH X o.which o.pick).2 ∧ PH 93 89 [.pointer none] w' B (evH X o.which o.pick).2 ∧ Turn (fun x => A.S x ∨ B.S x) W w' := by
  have HX := hidW (SX2.start o h1 h2 ht hd)
  have HC : Hid (∀ w, PH 73 95 [] w A X → TR w → Calls Tryd.prog 16 #[.pointer (some ⟨A.h, 0, none⟩), .int .i64 o.which, .int .i64 o.pick] w fun e w' => e = .returned (.bool (evH X o.which o.pick).1) ∧ PH 73 95 [] w' A (evH X o.which o.pick).2 ∧ Turn A.S w w') := fun w k k2 => hevict_any w A X o.which o.pick k
  have HD : Hid (∀ w, PH 93 89 [.pointer none] w B X → Calls Tryd.prog 43 #[.pointer (some ⟨B.h, 0, none⟩), .int .i64 o.which, .int .i64 o.pick] w fun e w' => e = .returned (.bool (evH X o.which o.pick).1) ∧ PH 93 89 [.pointer none] w' B (evH X o.which o.pick).2 ∧ Turn B.S w w') := fun w k => vevict_any w B X o.which o.pick k
  clear h1 h2 ht hO hd
  obtain ⟨ok, oa, op, ow, ova, of, om, ob, od⟩ := o
  dsimp only at *
  subst hk
  generalize (evH X ow op) = R at *
  obtain ⟨re, ry⟩ := R
  dsimp only at *
  go_enter Tryd.func21, Tryd.ntmps21
  go_wp2
  generalize World.alloc _ _ = w0 at *
  generalize hC : W.heap.size = C at HX ⊢
  clear hC
  replace HX := hidW HX.out.drew
  refine wp_region_held_drew (S := fun w' => w'.cell? ⟨C, 0, none⟩ = some (.int .i64 3) ∧ w'.cell? ⟨C, 1, none⟩ = some (.int .i64 oa) ∧ w'.cell? ⟨C, 2, none⟩ = some (.int .i64 op) ∧ w'.cell? ⟨C, 3, none⟩ = some (.int .i64 ow) ∧ w'.cell? ⟨C, 4, none⟩ = some (.int .u32 ova) ∧ w'.cell? ⟨C, 5, none⟩ = some (.bool of) ∧ w'.cell? ⟨C, 6, none⟩ = some (.bool om) ∧ w'.cell? ⟨C, 7, none⟩ = some (.int .i64 ob.asid) ∧ w'.cell? ⟨C, 8, none⟩ = some (.int .i64 ob.t.size) ∧ w'.cell? ⟨C, 9, none⟩ = some (.int .u32 ob.t.va) ∧ w'.cell? ⟨C, 10, none⟩ = some (.int .u64 ob.t.pa) ∧ w'.cell? ⟨C, 11, none⟩ = some (.int .i64 ob.t.dom) ∧ w'.cell? ⟨C, 12, none⟩ = some (.int .i64 ob.t.ap) ∧ w'.cell? ⟨C, 13, none⟩ = some (.int .u32 ob.t.bits) ∧ w'.cell? ⟨C, 14, none⟩ = some (.bool ob.t.ng) ∧ w'.cell? ⟨C, 15, none⟩ = some (.bool ob.t.xn) ∧ w'.cell? ⟨C, 16, none⟩ = some (.int .i64 od.kind) ∧ w'.cell? ⟨C, 17, none⟩ = some (.int .u32 od.va) ∧ w'.cell? ⟨C, 18, none⟩ = some (.int .i64 od.asid)) (by kernel_rfl) HX.out.held (fun hHeld => ?_)
  refine wpAnyH_take (i := 0) (oi := { dst := some 82, op := Op.move (Operand.tmp 0), type := 25, pos := _, after := #[], guard := none }) (v := ?_) rfl (by kernel_rfl) (by kernel_rfl) (by kernel_rfl) (fun _ _ _ h => h) (Or.inl ⟨by rfl, ?_⟩) (by assumption) ?_
  rotate_left
  · (intro w hSw; (try dsimp only at hSw); go_simp; try with_reducible rfl)
  simp only [Act.put, List.setIfInBounds_toArray, List.set_cons_zero, List.set_cons_succ]
  refine wpAnyH_take (i := 1) (oi := { dst := some 83, op := Op.fieldAddr 44 (Operand.tmp 5) 3, type := 0, pos := _, after := #[], guard := none }) (v := ?_) rfl (by kernel_rfl) (by kernel_rfl) (by kernel_rfl) (fun _ _ _ h => h) (Or.inl ⟨by rfl, ?_⟩) (by assumption) ?_
  rotate_left
  · (intro w hSw; (try dsimp only at hSw); go_simp; try with_reducible rfl)
  simp only [Act.put, List.setIfInBounds_toArray, List.set_cons_zero, List.set_cons_succ]
  refine wpAnyH_take (i := 2) (oi := { dst := some 84, op := Op.load 3 (Operand.tmp 83), type := 3, pos := _, after := #[{ on := 1, ground := Ground.data }], guard := none }) (v := ?_) rfl (by kernel_rfl) (by kernel_rfl) (by kernel_rfl) (fun _ _ _ h => h) (Or.inl ⟨by rfl, ?_⟩) (by assumption) ?_
  rotate_left
  · (intro w hSw; (try dsimp only at hSw); go_simp; try with_reducible rfl)
  simp only [Act.put, List.setIfInBounds_toArray, List.set_cons_zero, List.set_cons_succ]
  refine wpAnyH_take (i := 3) (oi := { dst := some 85, op := Op.fieldAddr 44 (Operand.tmp 5) 2, type := 0, pos := _, after := #[], guard := none }) (v := ?_) rfl (by kernel_rfl) (by kernel_rfl) (by kernel_rfl) (fun _ _ _ h => h) (Or.inl ⟨by rfl, ?_⟩) (by assumption) ?_
  rotate_left
  · (intro w hSw; (try dsimp only at hSw); go_simp; try with_reducible rfl)
  simp only [Act.put, List.setIfInBounds_toArray, List.set_cons_zero, List.set_cons_succ]
  refine wpAnyH_take (i := 4) (oi := { dst := some 86, op := Op.load 3 (Operand.tmp 85), type := 3, pos := _, after := #[{ on := 3, ground := Ground.data }], guard := none }) (v := ?_) rfl (by kernel_rfl) (by kernel_rfl) (by kernel_rfl) (fun _ _ _ h => h) (Or.inl ⟨by rfl, ?_⟩) (by assumption) ?_
  rotate_left
  · (intro w hSw; (try dsimp only at hSw); go_simp; try with_reducible rfl)
  simp only [Act.put, List.setIfInBounds_toArray, List.set_cons_zero, List.set_cons_succ]
  refine wpAnyH_take (i := 6) (oi := { dst := some 88, op := Op.move (Operand.tmp 1), type := 59, pos := _, after := #[], guard := none }) (v := ?_) rfl (by kernel_rfl) (by kernel_rfl) (by kernel_rfl) (fun _ _ _ h => h) (Or.inl ⟨by rfl, ?_⟩) (by assumption) ?_
  rotate_left
  · (intro w hSw; (try dsimp only at hSw); go_simp; try with_reducible rfl)
  simp only [Act.put, List.setIfInBounds_toArray, List.set_cons_zero, List.set_cons_succ]
  refine wpAnyH_take (i := 7) (oi := { dst := some 89, op := Op.fieldAddr 44 (Operand.tmp 5) 3, type := 0, pos := _, after := #[], guard := none }) (v := ?_) rfl (by kernel_rfl) (by kernel_rfl) (by kernel_rfl) (fun _ _ _ h => h) (Or.inl ⟨by rfl, ?_⟩) (by assumption) ?_
  rotate_left
  · (intro w hSw; (try dsimp only at hSw); go_simp; try with_reducible rfl)
  simp only [Act.put, List.setIfInBounds_toArray, List.set_cons_zero, List.set_cons_succ]
  refine wpAnyH_take (i := 8) (oi := { dst := some 90, op := Op.load 3 (Operand.tmp 89), type := 3, pos := _, after := #[{ on := 7, ground := Ground.data }], guard := none }) (v := ?_) rfl (by kernel_rfl) (by kernel_rfl) (by kernel_rfl) (fun _ _ _ h => h) (Or.inl ⟨by rfl, ?_⟩) (by assumption) ?_
  rotate_left
  · (intro w hSw; (try dsimp only at hSw); go_simp; try with_reducible rfl)
  simp only [Act.put, List.setIfInBounds_toArray, List.set_cons_zero, List.set_cons_succ]
  refine wpAnyH_take (i := 9) (oi := { dst := some 91, op := Op.fieldAddr 44 (Operand.tmp 5) 2, type := 0, pos := _, after := #[], guard := none }) (v := ?_) rfl (by kernel_rfl) (by kernel_rfl) (by kernel_rfl) (fun _ _ _ h => h) (Or.inl ⟨by rfl, ?_⟩) (by assumption) ?_
  rotate_left
  · (intro w hSw; (try dsimp only at hSw); go_simp; try with_reducible rfl)
  simp only [Act.put, List.setIfInBounds_toArray, List.set_cons_zero, List.set_cons_succ]
  refine wpAnyH_take (i := 10) (oi := { dst := some 92, op := Op.load 3 (Operand.tmp 91), type := 3, pos := _, after := #[{ on := 9, ground := Ground.data }], guard := none }) (v := ?_) rfl (by kernel_rfl) (by kernel_rfl) (by kernel_rfl) (fun _ _ _ h => h) (Or.inl ⟨by rfl, ?_⟩) (by assumption) ?_
  rotate_left
  · (intro w hSw; (try dsimp only at hSw); go_simp; try with_reducible rfl)
  simp only [Act.put, List.setIfInBounds_toArray, List.set_cons_zero, List.set_cons_succ]
  refine wpAnyH_ready (rs := [5]) (by kernel_rfl) (by simp) ?_
  refine AllReadyH.cons (o := { dst := some 87, op := Op.call { callee := Callee.value (Operand.func 16), args := #[Operand.tmp 82, Operand.tmp 84, Operand.tmp 86], argTypes := #[25, 3, 3] }, type := 4, pos := _, after := #[{ on := 0, ground := Ground.data }, { on := 2, ground := Ground.data }, { on := 4, ground := Ground.data }], guard := none }) rfl (fun K hK => ?_) AllReadyH.nil
  go_simp
  (go_at_call 16; refine (HC.out _ HX.out.pa HX.out.tr).mono ?_; rintro e w1 ⟨rfl, hp, hT⟩; replace HX := hidW (HX.out.turnA hp hT); clear hp hT HC; go_wp2_with fail)
  refine hK.out _ _ ?_ (fun hHeld => ?_)
  · ((try dsimp only); with_reducible exact HX.out.held)
  clear hK K
  try simp only [Act.put, List.setIfInBounds_toArray, List.set_cons_zero, List.set_cons_succ]
  refine wpAnyH_ready (rs := [11]) (by kernel_rfl) (by simp) ?_
  refine AllReadyH.cons (o := { dst := some 93, op := Op.call { callee := Callee.value (Operand.func 43), args := #[Operand.tmp 88, Operand.tmp 90, Operand.tmp 92], argTypes := #[59, 3, 3] }, type := 4, pos := _, after := #[{ on := 6, ground := Ground.data }, { on := 8, ground := Ground.data }, { on := 10, ground := Ground.data }, { on := 5, ground := Ground.chain }], guard := none }) rfl (fun K hK => ?_) AllReadyH.nil
  go_simp
  (go_at_call 43; refine (HD.out _ HX.out.pb).mono ?_; rintro e w1 ⟨rfl, hp, hT⟩; replace HX := hidW (HX.out.turnB hp hT); clear hp hT HD; go_wp2_with fail)
  refine hK.out _ _ ?_ (fun hHeld => ?_)
  · ((try dsimp only); with_reducible exact HX.out.held)
  clear hK K
  try simp only [Act.put, List.setIfInBounds_toArray, List.set_cons_zero, List.set_cons_succ]
  refine wpAnyH_take (i := 12) (oi := { dst := some 94, op := Op.binOp BinOp.eql 4 (Operand.tmp 87) (Operand.tmp 93) 4, type := 4, pos := _, after := #[{ on := 5, ground := Ground.data }, { on := 11, ground := Ground.data }], guard := none }) (v := ?_) rfl (by kernel_rfl) (by kernel_rfl) (by kernel_rfl) (fun _ _ _ h => h) (Or.inl ⟨by rfl, ?_⟩) (by assumption) ?_
  rotate_left
  · (intro w hSw; (try dsimp only at hSw); go_simp; try with_reducible rfl)
  simp only [Act.put, List.setIfInBounds_toArray, List.set_cons_zero, List.set_cons_succ]
  refine wpAnyH_take (i := 13) (oi := { dst := some 6, op := Op.assign (Operand.tmp 94), type := 4, pos := _, after := #[{ on := 12, ground := Ground.data }, { on := 11, ground := Ground.chain }, { on := 0, ground := Ground.phase }, { on := 1, ground := Ground.phase }, { on := 2, ground := Ground.phase }, { on := 3, ground := Ground.phase }, { on := 4, ground := Ground.phase }, { on := 5, ground := Ground.phase }, { on := 6, ground := Ground.phase }, { on := 7, ground := Ground.phase }, { on := 8, ground := Ground.phase }, { on := 9, ground := Ground.phase }, { on := 10, ground := Ground.phase }, { on := 11, ground := Ground.phase }, { on := 12, ground := Ground.phase }], guard := none }) (v := ?_) rfl (by kernel_rfl) (by kernel_rfl) (by kernel_rfl) (fun _ _ _ h => h) (Or.inl ⟨by rfl, ?_⟩) (by assumption) ?_
  rotate_left
  · (intro w hSw; (try dsimp only at hSw); go_simp; try with_reducible rfl)
  simp only [Act.put, List.setIfInBounds_toArray, List.set_cons_zero, List.set_cons_succ]
  refine wpAnyH_done (by kernel_rfl) ?_ _
  clear hHeld
  go_wp2
  go_ret
  exact ⟨by simp, HX.out.pa, HX.out.pb, HX.out.trn⟩
set_option maxRecDepth 100000 in
set_option maxHeartbeats 8000000 in
theorem step_4 (W : World) (A B : Ad) (X : Hi) (o : Opr) (h1 : PH 73 95 [] W A X) (h2 : PH 93 89 [.pointer none] W B X) (ht : TR W) (hd : ∀ x, A.S x → ¬ B.S x) (hO : OOk o) (hk : o.kind = 4) :
    Calls Tryd.prog 21 #[.pointer (some ⟨A.h, 0, none⟩), .pointer (some ⟨B.h, 0, none⟩), .agg #[.int .i64 o.kind, .int .i64 o.asid, .int .i64 o.pick, .int .i64 o.which, .int .u32 o.va, .bool o.fetch, .bool o.mfirst, .int .i64 o.b.asid, .int .i64 o.b.t.size, .int .u32 o.b.t.va, .int .u64 o.b.t.pa, .int .i64 o.b.t.dom, .int .i64 o.b.t.ap, .int .u32 o.b.t.bits, .bool o.b.t.ng, .bool o.b.t.xn, .int .i64 o.d.kind, .int .u32 o.d.va, .int .i64 o.d.asid]] W fun e w' => e = .returned (.bool true) ∧ PH 73 95 [] w' A (drH X o.d).2 ∧ PH 93 89 [.pointer none] w' B (drH X o.d).2 ∧ Turn (fun x => A.S x ∨ B.S x) W w' := by
  have HX := hidW (SX2.start o h1 h2 ht hd)
  have HC : Hid (∀ w, PH 73 95 [] w A X → TR w → Calls Tryd.prog 17 #[.pointer (some ⟨A.h, 0, none⟩), .agg #[.int .i64 o.d.kind, .int .u32 o.d.va, .int .i64 o.d.asid]] w fun e w' => e = .returned (.int .i64 (((drH X o.d).1 : Nat) : Int)) ∧ PH 73 95 [] w' A (drH X o.d).2 ∧ Turn A.S w w') := fun w k k2 => hdrop_any w A X o.d k k2 hO.dva
  have HD : Hid (∀ w, PH 93 89 [.pointer none] w B X → Calls Tryd.prog 44 #[.pointer (some ⟨B.h, 0, none⟩), .agg #[.int .i64 o.d.kind, .int .u32 o.d.va, .int .i64 o.d.asid]] w fun e w' => e = .returned (.int .i64 (((drH X o.d).1 : Nat) : Int)) ∧ PH 93 89 [.pointer none] w' B (drH X o.d).2 ∧ Turn B.S w w') := fun w k => vdrop_any w B X o.d k hO.dva
  clear h1 h2 ht hO hd
  obtain ⟨ok, oa, op, ow, ova, of, om, ob, od⟩ := o
  dsimp only at *
  subst hk
  generalize (drH X od) = R at *
  obtain ⟨re, ry⟩ := R
  dsimp only at *
  go_enter Tryd.func21, Tryd.ntmps21
  go_wp2
  generalize World.alloc _ _ = w0 at *
  generalize hC : W.heap.size = C at HX ⊢
  clear hC
  replace HX := hidW HX.out.drew
  refine wp_region_held_drew (S := fun w' => w'.cell? ⟨C, 0, none⟩ = some (.int .i64 4) ∧ w'.cell? ⟨C, 1, none⟩ = some (.int .i64 oa) ∧ w'.cell? ⟨C, 2, none⟩ = some (.int .i64 op) ∧ w'.cell? ⟨C, 3, none⟩ = some (.int .i64 ow) ∧ w'.cell? ⟨C, 4, none⟩ = some (.int .u32 ova) ∧ w'.cell? ⟨C, 5, none⟩ = some (.bool of) ∧ w'.cell? ⟨C, 6, none⟩ = some (.bool om) ∧ w'.cell? ⟨C, 7, none⟩ = some (.int .i64 ob.asid) ∧ w'.cell? ⟨C, 8, none⟩ = some (.int .i64 ob.t.size) ∧ w'.cell? ⟨C, 9, none⟩ = some (.int .u32 ob.t.va) ∧ w'.cell? ⟨C, 10, none⟩ = some (.int .u64 ob.t.pa) ∧ w'.cell? ⟨C, 11, none⟩ = some (.int .i64 ob.t.dom) ∧ w'.cell? ⟨C, 12, none⟩ = some (.int .i64 ob.t.ap) ∧ w'.cell? ⟨C, 13, none⟩ = some (.int .u32 ob.t.bits) ∧ w'.cell? ⟨C, 14, none⟩ = some (.bool ob.t.ng) ∧ w'.cell? ⟨C, 15, none⟩ = some (.bool ob.t.xn) ∧ w'.cell? ⟨C, 16, none⟩ = some (.int .i64 od.kind) ∧ w'.cell? ⟨C, 17, none⟩ = some (.int .u32 od.va) ∧ w'.cell? ⟨C, 18, none⟩ = some (.int .i64 od.asid)) (by kernel_rfl) HX.out.held (fun hHeld => ?_)
  refine wpAnyH_take (i := 0) (oi := { dst := some 97, op := Op.move (Operand.tmp 0), type := 25, pos := _, after := #[], guard := none }) (v := ?_) rfl (by kernel_rfl) (by kernel_rfl) (by kernel_rfl) (fun _ _ _ h => h) (Or.inl ⟨by rfl, ?_⟩) (by assumption) ?_
  rotate_left
  · (intro w hSw; (try dsimp only at hSw); go_simp; try with_reducible rfl)
  simp only [Act.put, List.setIfInBounds_toArray, List.set_cons_zero, List.set_cons_succ]
  refine wpAnyH_take (i := 1) (oi := { dst := some 98, op := Op.fieldAddr 44 (Operand.tmp 5) 8, type := 0, pos := _, after := #[], guard := none }) (v := ?_) rfl (by kernel_rfl) (by kernel_rfl) (by kernel_rfl) (fun _ _ _ h => h) (Or.inl ⟨by rfl, ?_⟩) (by assumption) ?_
  rotate_left
  · (intro w hSw; (try dsimp only at hSw); go_simp; try with_reducible rfl)
  simp only [Act.put, List.setIfInBounds_toArray, List.set_cons_zero, List.set_cons_succ]
  refine wpAnyH_take (i := 2) (oi := { dst := some 99, op := Op.load 42 (Operand.tmp 98), type := 42, pos := _, after := #[{ on := 1, ground := Ground.data }], guard := none }) (v := ?_) rfl (by kernel_rfl) (by kernel_rfl) (by kernel_rfl) (fun _ _ _ h => h) (Or.inl ⟨by rfl, ?_⟩) (by assumption) ?_
  rotate_left
  · (intro w hSw; (try dsimp only at hSw); go_simp; try with_reducible rfl)
  simp only [Act.put, List.setIfInBounds_toArray, List.set_cons_zero, List.set_cons_succ]
  refine wpAnyH_take (i := 4) (oi := { dst := some 101, op := Op.move (Operand.tmp 1), type := 59, pos := _, after := #[], guard := none }) (v := ?_) rfl (by kernel_rfl) (by kernel_rfl) (by kernel_rfl) (fun _ _ _ h => h) (Or.inl ⟨by rfl, ?_⟩) (by assumption) ?_
  rotate_left
  · (intro w hSw; (try dsimp only at hSw); go_simp; try with_reducible rfl)
  simp only [Act.put, List.setIfInBounds_toArray, List.set_cons_zero, List.set_cons_succ]
  refine wpAnyH_take (i := 5) (oi := { dst := some 102, op := Op.fieldAddr 44 (Operand.tmp 5) 8, type := 0, pos := _, after := #[], guard := none }) (v := ?_) rfl (by kernel_rfl) (by kernel_rfl) (by kernel_rfl) (fun _ _ _ h => h) (Or.inl ⟨by rfl, ?_⟩) (by assumption) ?_
  rotate_left
  · (intro w hSw; (try dsimp only at hSw); go_simp; try with_reducible rfl)
  simp only [Act.put, List.setIfInBounds_toArray, List.set_cons_zero, List.set_cons_succ]
  refine wpAnyH_take (i := 6) (oi := { dst := some 103, op := Op.load 42 (Operand.tmp 102), type := 42, pos := _, after := #[{ on := 5, ground := Ground.data }], guard := none }) (v := ?_) rfl (by kernel_rfl) (by kernel_rfl) (by kernel_rfl) (fun _ _ _ h => h) (Or.inl ⟨by rfl, ?_⟩) (by assumption) ?_
  rotate_left
  · (intro w hSw; (try dsimp only at hSw); go_simp; try with_reducible rfl)
  simp only [Act.put, List.setIfInBounds_toArray, List.set_cons_zero, List.set_cons_succ]
  refine wpAnyH_ready (rs := [3]) (by kernel_rfl) (by simp) ?_
  refine AllReadyH.cons (o := { dst := some 100, op := Op.call { callee := Callee.value (Operand.func 17), args := #[Operand.tmp 97, Operand.tmp 99], argTypes := #[25, 42] }, type := 3, pos := _, after := #[{ on := 0, ground := Ground.data }, { on := 2, ground := Ground.data }], guard := none }) rfl (fun K hK => ?_) AllReadyH.nil
  go_simp
  (go_at_call 17; refine (HC.out _ HX.out.pa HX.out.tr).mono ?_; rintro e w1 ⟨rfl, hp, hT⟩; replace HX := hidW (HX.out.turnA hp hT); clear hp hT HC; go_wp2_with fail)
  refine hK.out _ _ ?_ (fun hHeld => ?_)
  · ((try dsimp only); with_reducible exact HX.out.held)
  clear hK K
  try simp only [Act.put, List.setIfInBounds_toArray, List.set_cons_zero, List.set_cons_succ]
  refine wpAnyH_ready (rs := [7]) (by kernel_rfl) (by simp) ?_
  refine AllReadyH.cons (o := { dst := some 104, op := Op.call { callee := Callee.value (Operand.func 44), args := #[Operand.tmp 101, Operand.tmp 103], argTypes := #[59, 42] }, type := 3, pos := _, after := #[{ on := 4, ground := Ground.data }, { on := 6, ground := Ground.data }, { on := 3, ground := Ground.chain }], guard := none }) rfl (fun K hK => ?_) AllReadyH.nil
  go_simp
  (go_at_call 44; refine (HD.out _ HX.out.pb).mono ?_; rintro e w1 ⟨rfl, hp, hT⟩; replace HX := hidW (HX.out.turnB hp hT); clear hp hT HD; go_wp2_with fail)
  refine hK.out _ _ ?_ (fun hHeld => ?_)
  · ((try dsimp only); with_reducible exact HX.out.held)
  clear hK K
  try simp only [Act.put, List.setIfInBounds_toArray, List.set_cons_zero, List.set_cons_succ]
  refine wpAnyH_take (i := 8) (oi := { dst := some 105, op := Op.binOp BinOp.eql 3 (Operand.tmp 100) (Operand.tmp 104) 3, type := 4, pos := _, after := #[{ on := 3, ground := Ground.data }, { on := 7, ground := Ground.data }], guard := none }) (v := ?_) rfl (by kernel_rfl) (by kernel_rfl) (by kernel_rfl) (fun _ _ _ h => h) (Or.inl ⟨by rfl, ?_⟩) (by assumption) ?_
  rotate_left
  · (intro w hSw; (try dsimp only at hSw); go_simp; try with_reducible rfl)
  simp only [Act.put, List.setIfInBounds_toArray, List.set_cons_zero, List.set_cons_succ]
  refine wpAnyH_take (i := 9) (oi := { dst := some 6, op := Op.assign (Operand.tmp 105), type := 4, pos := _, after := #[{ on := 8, ground := Ground.data }, { on := 7, ground := Ground.chain }, { on := 0, ground := Ground.phase }, { on := 1, ground := Ground.phase }, { on := 2, ground := Ground.phase }, { on := 3, ground := Ground.phase }, { on := 4, ground := Ground.phase }, { on := 5, ground := Ground.phase }, { on := 6, ground := Ground.phase }, { on := 7, ground := Ground.phase }, { on := 8, ground := Ground.phase }], guard := none }) (v := ?_) rfl (by kernel_rfl) (by kernel_rfl) (by kernel_rfl) (fun _ _ _ h => h) (Or.inl ⟨by rfl, ?_⟩) (by assumption) ?_
  rotate_left
  · (intro w hSw; (try dsimp only at hSw); go_simp; try with_reducible rfl)
  simp only [Act.put, List.setIfInBounds_toArray, List.set_cons_zero, List.set_cons_succ]
  refine wpAnyH_done (by kernel_rfl) ?_ _
  clear hHeld
  go_wp2
  go_ret
  exact ⟨by simp, HX.out.pa, HX.out.pb, HX.out.trn⟩
set_option maxRecDepth 100000 in
set_option maxHeartbeats 8000000 in
theorem step_5 (W : World) (A B : Ad) (X : Hi) (o : Opr) (h1 : PH 73 95 [] W A X) (h2 : PH 93 89 [.pointer none] W B X) (ht : TR W) (hd : ∀ x, A.S x → ¬ B.S x) (hO : OOk o) (hk : o.kind = 5) :
    Calls Tryd.prog 21 #[.pointer (some ⟨A.h, 0, none⟩), .pointer (some ⟨B.h, 0, none⟩), .agg #[.int .i64 o.kind, .int .i64 o.asid, .int .i64 o.pick, .int .i64 o.which, .int .u32 o.va, .bool o.fetch, .bool o.mfirst, .int .i64 o.b.asid, .int .i64 o.b.t.size, .int .u32 o.b.t.va, .int .u64 o.b.t.pa, .int .i64 o.b.t.dom, .int .i64 o.b.t.ap, .int .u32 o.b.t.bits, .bool o.b.t.ng, .bool o.b.t.xn, .int .i64 o.d.kind, .int .u32 o.d.va, .int .i64 o.d.asid]] W fun e w' => e = .returned (.bool true) ∧ PH 73 95 [] w' A X ∧ PH 93 89 [.pointer none] w' B X ∧ Turn (fun x => A.S x ∨ B.S x) W w' := by
  have HX := hidW (SX2.start o h1 h2 ht hd)
  have HC : Hid (∀ w, PH 73 95 [] w A X → Calls Tryd.prog 19 #[.pointer (some ⟨A.h, 0, none⟩), .int .i64 o.which] w fun e w' => ∃ a, e = .returned (.slice a (plH X o.which).length (plH X o.which).length) ∧ Sv w' a (plH X o.which) ∧ Below w.heap.size w w') := fun w k => hplaces_any w A X o.which k
  have HD : Hid (∀ w, PH 93 89 [.pointer none] w B X → Calls Tryd.prog 23 #[.pointer (some ⟨B.h, 0, none⟩), .int .i64 o.which] w fun e w' => ∃ a cap, e = .returned (.slice a (plH X o.which).length cap) ∧ Sw w' a (plH X o.which) ∧ Below w.heap.size w w') := fun w k => vplaces_any w B X o.which k
  have HQ : Hid (∀ (w : World) (a b : Option Addr) (ca cb : Nat), Rv w a (plH X o.which) → Rv w b (plH X o.which) → Calls Tryd.prog 22 #[.slice a (plH X o.which).length ca, .slice b (plH X o.which).length cb] w fun e w' => e = .returned (.bool true) ∧ Below w.heap.size w w') := fun w a b ca cb k1 k2 => slots_yes w a b ca cb _ k1 k2 (plH_le h1 o.which)
  clear h1 h2 ht hO hd
  obtain ⟨ok, oa, op, ow, ova, of, om, ob, od⟩ := o
  dsimp only at *
  subst hk
  generalize (plH X ow) = L at *
  generalize L.length = n at *
  go_enter Tryd.func21, Tryd.ntmps21
  go_wp2
  generalize World.alloc _ _ = w0 at *
  generalize hC : W.heap.size = C at HX ⊢
  clear hC
  replace HX := hidW HX.out.drew
  refine wp_region_held_drew (S := fun w' => w'.cell? ⟨C, 0, none⟩ = some (.int .i64 5) ∧ w'.cell? ⟨C, 1, none⟩ = some (.int .i64 oa) ∧ w'.cell? ⟨C, 2, none⟩ = some (.int .i64 op) ∧ w'.cell? ⟨C, 3, none⟩ = some (.int .i64 ow) ∧ w'.cell? ⟨C, 4, none⟩ = some (.int .u32 ova) ∧ w'.cell? ⟨C, 5, none⟩ = some (.bool of) ∧ w'.cell? ⟨C, 6, none⟩ = some (.bool om) ∧ w'.cell? ⟨C, 7, none⟩ = some (.int .i64 ob.asid) ∧ w'.cell? ⟨C, 8, none⟩ = some (.int .i64 ob.t.size) ∧ w'.cell? ⟨C, 9, none⟩ = some (.int .u32 ob.t.va) ∧ w'.cell? ⟨C, 10, none⟩ = some (.int .u64 ob.t.pa) ∧ w'.cell? ⟨C, 11, none⟩ = some (.int .i64 ob.t.dom) ∧ w'.cell? ⟨C, 12, none⟩ = some (.int .i64 ob.t.ap) ∧ w'.cell? ⟨C, 13, none⟩ = some (.int .u32 ob.t.bits) ∧ w'.cell? ⟨C, 14, none⟩ = some (.bool ob.t.ng) ∧ w'.cell? ⟨C, 15, none⟩ = some (.bool ob.t.xn) ∧ w'.cell? ⟨C, 16, none⟩ = some (.int .i64 od.kind) ∧ w'.cell? ⟨C, 17, none⟩ = some (.int .u32 od.va) ∧ w'.cell? ⟨C, 18, none⟩ = some (.int .i64 od.asid)) (by kernel_rfl) HX.out.held (fun hHeld => ?_)
  refine wpAnyH_take (i := 0) (oi := { dst := some 108, op := Op.move (Operand.tmp 0), type := 25, pos := _, after := #[], guard := none }) (v := ?_) rfl (by kernel_rfl) (by kernel_rfl) (by kernel_rfl) (fun _ _ _ h => h) (Or.inl ⟨by rfl, ?_⟩) (by assumption) ?_
  rotate_left
  · (intro w hSw; (try dsimp only at hSw); go_simp; try with_reducible rfl)
  simp only [Act.put, List.setIfInBounds_toArray, List.set_cons_zero, List.set_cons_succ]
  refine wpAnyH_take (i := 1) (oi := { dst := some 109, op := Op.fieldAddr 44 (Operand.tmp 5) 3, type := 0, pos := _, after := #[], guard := none }) (v := ?_) rfl (by kernel_rfl) (by kernel_rfl) (by kernel_rfl) (fun _ _ _ h => h) (Or.inl ⟨by rfl, ?_⟩) (by assumption) ?_
  rotate_left
  · (intro w hSw; (try dsimp only at hSw); go_simp; try with_reducible rfl)
  simp only [Act.put, List.setIfInBounds_toArray, List.set_cons_zero, List.set_cons_succ]
  refine wpAnyH_take (i := 2) (oi := { dst := some 110, op := Op.load 3 (Operand.tmp 109), type := 3, pos := _, after := #[{ on := 1, ground := Ground.data }], guard := none }) (v := ?_) rfl (by kernel_rfl) (by kernel_rfl) (by kernel_rfl) (fun _ _ _ h => h) (Or.inl ⟨by rfl, ?_⟩) (by assumption) ?_
  rotate_left
  · (intro w hSw; (try dsimp only at hSw); go_simp; try with_reducible rfl)
  simp only [Act.put, List.setIfInBounds_toArray, List.set_cons_zero, List.set_cons_succ]
  refine wpAnyH_take (i := 4) (oi := { dst := some 112, op := Op.move (Operand.tmp 1), type := 59, pos := _, after := #[], guard := none }) (v := ?_) rfl (by kernel_rfl) (by kernel_rfl) (by kernel_rfl) (fun _ _ _ h => h) (Or.inl ⟨by rfl, ?_⟩) (by assumption) ?_
  rotate_left
  · (intro w hSw; (try dsimp only at hSw); go_simp; try with_reducible rfl)
  simp only [Act.put, List.setIfInBounds_toArray, List.set_cons_zero, List.set_cons_succ]
  refine wpAnyH_take (i := 5) (oi := { dst := some 113, op := Op.fieldAddr 44 (Operand.tmp 5) 3, type := 0, pos := _, after := #[], guard := none }) (v := ?_) rfl (by kernel_rfl) (by kernel_rfl) (by kernel_rfl) (fun _ _ _ h => h) (Or.inl ⟨by rfl, ?_⟩) (by assumption) ?_
  rotate_left
  · (intro w hSw; (try dsimp only at hSw); go_simp; try with_reducible rfl)
  simp only [Act.put, List.setIfInBounds_toArray, List.set_cons_zero, List.set_cons_succ]
  refine wpAnyH_take (i := 6) (oi := { dst := some 114, op := Op.load 3 (Operand.tmp 113), type := 3, pos := _, after := #[{ on := 5, ground := Ground.data }], guard := none }) (v := ?_) rfl (by kernel_rfl) (by kernel_rfl) (by kernel_rfl) (fun _ _ _ h => h) (Or.inl ⟨by rfl, ?_⟩) (by assumption) ?_
  rotate_left
  · (intro w hSw; (try dsimp only at hSw); go_simp; try with_reducible rfl)
  simp only [Act.put, List.setIfInBounds_toArray, List.set_cons_zero, List.set_cons_succ]
  refine wpAnyH_ready (rs := [3]) (by kernel_rfl) (by simp) ?_
  refine AllReadyH.cons (o := { dst := some 111, op := Op.call { callee := Callee.value (Operand.func 19), args := #[Operand.tmp 108, Operand.tmp 110], argTypes := #[25, 3] }, type := 54, pos := _, after := #[{ on := 0, ground := Ground.data }, { on := 2, ground := Ground.data }], guard := none }) rfl (fun K hK => ?_) AllReadyH.nil
  go_simp
  (go_at_call 19; refine (HC.out _ HX.out.pa).mono ?_; rintro e w1 ⟨a1, rfl, hs, hb⟩; replace HX := hidW (HX.out.step hb); have HV := hidW hs.rv; clear hb hs HC; go_wp2_with fail)
  refine hK.out _ _ ?_ (fun hHeld => ?_)
  · ((try dsimp only); with_reducible exact HX.out.held)
  clear hK K
  try simp only [Act.put, List.setIfInBounds_toArray, List.set_cons_zero, List.set_cons_succ]
  refine wpAnyH_ready (rs := [7]) (by kernel_rfl) (by simp) ?_
  refine AllReadyH.cons (o := { dst := some 115, op := Op.call { callee := Callee.value (Operand.func 23), args := #[Operand.tmp 112, Operand.tmp 114], argTypes := #[59, 3] }, type := 54, pos := _, after := #[{ on := 4, ground := Ground.data }, { on := 6, ground := Ground.data }, { on := 3, ground := Ground.chain }], guard := none }) rfl (fun K hK => ?_) AllReadyH.nil
  go_simp
  (go_at_call 23; refine (HD.out _ HX.out.pb).mono ?_; rintro e w1 ⟨a2, cap2, rfl, hs, hb⟩; replace HX := hidW (HX.out.step hb); replace HV := hidW (HV.out.below hb); have HW := hidW hs.rv; clear hb hs HD; go_wp2_with fail)
  refine hK.out _ _ ?_ (fun hHeld => ?_)
  · ((try dsimp only); with_reducible exact HX.out.held)
  clear hK K
  try simp only [Act.put, List.setIfInBounds_toArray, List.set_cons_zero, List.set_cons_succ]
  refine wpAnyH_ready (rs := [8]) (by kernel_rfl) (by simp) ?_
  refine AllReadyH.cons (o := { dst := some 116, op := Op.call { callee := Callee.value (Operand.func 22), args := #[Operand.tmp 111, Operand.tmp 115], argTypes := #[54, 54] }, type := 4, pos := _, after := #[{ on := 3, ground := Ground.data }, { on := 7, ground := Ground.data }, { on := 7, ground := Ground.chain }], guard := none }) rfl (fun K hK => ?_) AllReadyH.nil
  go_simp
  (go_at_call 22; refine (HQ.out _ _ _ _ _ HV.out HW.out).mono ?_; rintro e w1 ⟨rfl, hb⟩; replace HX := hidW (HX.out.step hb); clear hb HV HW HQ; go_wp2_with fail)
  refine hK.out _ _ ?_ (fun hHeld => ?_)
  · ((try dsimp only); with_reducible exact HX.out.held)
  clear hK K
  try simp only [Act.put, List.setIfInBounds_toArray, List.set_cons_zero, List.set_cons_succ]
  refine wpAnyH_take (i := 9) (oi := { dst := some 6, op := Op.assign (Operand.tmp 116), type := 4, pos := _, after := #[{ on := 8, ground := Ground.data }, { on := 8, ground := Ground.chain }, { on := 0, ground := Ground.phase }, { on := 1, ground := Ground.phase }, { on := 2, ground := Ground.phase }, { on := 3, ground := Ground.phase }, { on := 4, ground := Ground.phase }, { on := 5, ground := Ground.phase }, { on := 6, ground := Ground.phase }, { on := 7, ground := Ground.phase }, { on := 8, ground := Ground.phase }], guard := none }) (v := ?_) rfl (by kernel_rfl) (by kernel_rfl) (by kernel_rfl) (fun _ _ _ h => h) (Or.inl ⟨by rfl, ?_⟩) (by assumption) ?_
  rotate_left
  · (intro w hSw; (try dsimp only at hSw); go_simp; try with_reducible rfl)
  simp only [Act.put, List.setIfInBounds_toArray, List.set_cons_zero, List.set_cons_succ]
  refine wpAnyH_done (by kernel_rfl) ?_ _
  clear hHeld
  go_wp2
  go_ret
  exact ⟨by first | rfl | simp, HX.out.pa, HX.out.pb, HX.out.trn⟩
set_option maxRecDepth 100000 in
set_option maxHeartbeats 8000000 in
theorem step_no (W : World) (A B : Ad) (X : Hi) (o : Opr) (h1 : PH 73 95 [] W A X) (h2 : PH 93 89 [.pointer none] W B X) (ht : TR W) (hd : ∀ x, A.S x → ¬ B.S x) (hO : OOk o) (k1 : ¬ o.kind = 1) (k2 : ¬ o.kind = 2) (k3 : ¬ o.kind = 3) (k4 : ¬ o.kind = 4) (k5 : ¬ o.kind = 5) :
    Calls Tryd.prog 21 #[.pointer (some ⟨A.h, 0, none⟩), .pointer (some ⟨B.h, 0, none⟩), .agg #[.int .i64 o.kind, .int .i64 o.asid, .int .i64 o.pick, .int .i64 o.which, .int .u32 o.va, .bool o.fetch, .bool o.mfirst, .int .i64 o.b.asid, .int .i64 o.b.t.size, .int .u32 o.b.t.va, .int .u64 o.b.t.pa, .int .i64 o.b.t.dom, .int .i64 o.b.t.ap, .int .u32 o.b.t.bits, .bool o.b.t.ng, .bool o.b.t.xn, .int .i64 o.d.kind, .int .u32 o.d.va, .int .i64 o.d.asid]] W fun e w' => e = .returned (.bool true) ∧ PH 73 95 [] w' A X ∧ PH 93 89 [.pointer none] w' B X ∧ Turn (fun x => A.S x ∨ B.S x) W w' := by
  have HX := hidW (SX2.start o h1 h2 ht hd)
  clear h1 h2 ht hO hd
  obtain ⟨ok, oa, op, ow, ova, of, om, ob, od⟩ := o
  dsimp only at *
  go_enter Tryd.func21, Tryd.ntmps21
  go_wp2
  go_ret
  exact ⟨rfl, HX.out.pa, HX.out.pb, HX.out.trn⟩
theorem step_any (W : World) (A B : Ad) (X : Hi) (o : Opr) (h1 : PH 73 95 [] W A X) (h2 : PH 93 89 [.pointer none] W B X) (ht : TR W) (hd : ∀ x, A.S x → ¬ B.S x) (hO : OOk o) :
    Calls Tryd.prog 21 #[.pointer (some ⟨A.h, 0, none⟩), .pointer (some ⟨B.h, 0, none⟩), .agg #[.int .i64 o.kind, .int .i64 o.asid, .int .i64 o.pick, .int .i64 o.which, .int .u32 o.va, .bool o.fetch, .bool o.mfirst, .int .i64 o.b.asid, .int .i64 o.b.t.size, .int .u32 o.b.t.va, .int .u64 o.b.t.pa, .int .i64 o.b.t.dom, .int .i64 o.b.t.ap, .int .u32 o.b.t.bits, .bool o.b.t.ng, .bool o.b.t.xn, .int .i64 o.d.kind, .int .u32 o.d.va, .int .i64 o.d.asid]] W fun e w' => e = .returned (.bool true) ∧ PH 73 95 [] w' A (stF X o) ∧ PH 93 89 [.pointer none] w' B (stF X o) ∧ Turn (fun x => A.S x ∨ B.S x) W w' := by
  unfold stF
  by_cases k1 : o.kind = 1
  · rw [if_pos k1]; exact step_1 W A B X o h1 h2 ht hd hO k1
  rw [if_neg k1]
  by_cases k2 : o.kind = 2
  · rw [if_pos k2]; exact step_2 W A B X o h1 h2 ht hd hO k2
  rw [if_neg k2]
  by_cases k3 : o.kind = 3
  · rw [if_pos k3]; exact step_3 W A B X o h1 h2 ht hd hO k3
  rw [if_neg k3]
  by_cases k4 : o.kind = 4
  · rw [if_pos k4]; exact step_4 W A B X o h1 h2 ht hd hO k4
  rw [if_neg k4]
  by_cases k5 : o.kind = 5
  · exact step_5 W A B X o h1 h2 ht hd hO k5
  exact step_no W A B X o h1 h2 ht hd hO k1 k2 k3 k4 k5
end Go.Proofs.YtbbnodhpafiplaaDoor
