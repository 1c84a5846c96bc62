import Derived.Test.YtbbnodhpafiplaaDoorHc
namespace Go.Proofs.YtbbnodhpafiplaaDoor
open Go.RowKit
set_option linter.unusedVariables false
set_option linter.unusedSimpArgs false
theorem Hi.setS_self (X : Hi) (f : Bool) : X.setS f (X.sm f) = X := by
  cases f <;> rfl
theorem fi_s (X : Hi) (va asid pick : Int) (f : Bool) : fiF X va asid f pick false = (((sfF (X.sm f) X.m va asid pick).1.1, min (sfF (X.sm f) X.m va asid pick).1.2 2), X.setS f (sfF (X.sm f) X.m va asid pick).2) := by
  unfold fiF fiC sfF
  generalize lkF (X.sm f) va asid = a
  generalize lkF X.m va asid = k
  obtain ⟨ab, an⟩ := a
  obtain ⟨kb, kn⟩ := k
  have hx := X.setS_self f
  by_cases h : an = 0
  · subst h
    by_cases h1 : kn = 1
    · subst h1; simp
    · simp [h1, hx]
  · have h2 : 0 < an := by omega
    simp [h, h2, hx]
theorem fi_l (X : Hi) (va asid pick : Int) (f : Bool) : fiF X va asid f pick true = (((lfF (X.sm f) X.m va asid pick).1.1, min (lfF (X.sm f) X.m va asid pick).1.2 2), X.setS f (lfF (X.sm f) X.m va asid pick).2) := by
  unfold fiF fiC lfF filF
  generalize lkF (X.sm f) va asid = a
  generalize lkF X.m va asid = k
  obtain ⟨ab, an⟩ := a
  obtain ⟨kb, kn⟩ := k
  have hx := X.setS_self f
  by_cases h : kn = 0
  · subst h
    simp [hx]
  · have h0 : 0 < kn := by omega
    by_cases h1 : kn = 1
    · subst h1
      by_cases h2 : an = 0
      · subst h2; simp
      · simp [h2, hx]
    · simp [h, h0, h1, hx]
theorem sfF_le {Ls Lm : List Slo} (h1 : Ls.length ≤ 64) (h2 : Lm.length ≤ 64) (va asid pick : Int) : (sfF Ls Lm va asid pick).1.2 ≤ 64 := by
  have a := lkF_le Ls va asid
  have b := lkF_le Lm va asid
  unfold sfF
  split <;> simp only <;> omega
theorem lfF_le {Ls Lm : List Slo} (h1 : Ls.length ≤ 64) (h2 : Lm.length ≤ 64) (va asid pick : Int) : (lfF Ls Lm va asid pick).1.2 ≤ 64 := by
  have a := lkF_le Ls va asid
  have b := lkF_le Lm va asid
  unfold lfF
  split <;> simp only <;> omega
theorem min_two (n : Nat) : (if (2 : Int) < n then (2 : Int) else n) = ((min n 2 : Nat) : Int) := by
  split <;> omega
/-- Find: the boxes. -/
structure HF (W wr : World) (A : Ad) (X : Hi) (B0 B1 B2 s : Nat) (b : Blo) : Prop where
  trn : Turn A.S W wr
  ph : PH 73 95 [] wr A X
  br : Bl wr B0 38 [.int .i64 0, .int .i64 0, .int .u32 0, .int .u64 0, .int .i64 0, .int .i64 0, .int .u32 0, .bool false, .bool false]
  bs : Bl wr B1 70 [.pointer (some ⟨s, 0, none⟩)]
  bn : Bl wr B2 38 ([.int .i64 b.asid, .int .i64 b.t.size, .int .u32 b.t.va, .int .u64 b.t.pa, .int .i64 b.t.dom, .int .i64 b.t.ap, .int .u32 b.t.bits, .bool b.t.ng, .bool b.t.xn])
  h0 : W.heap.size ≤ B0
  h2 : W.heap.size ≤ B2
  n : B0 ≠ B2
section
variable {W wr w' : World} {A : Ad} {X Y : Hi} {B0 B1 B2 s : Nat} {b : Blo} {S : Nat → Prop}
theorem HF.step (h : HF W wr A X B0 B1 B2 s b) (hb : Below wr.heap.size wr w') : HF W w' A X B0 B1 B2 s b := ⟨h.trn.then (Turn.below hb), h.ph.below hb, h.br.below hb, h.bs.below hb, h.bn.below hb, h.h0, h.h2, h.n⟩
theorem HF.drew (h : HF W wr A X B0 B1 B2 s b) : HF W wr.drew A X B0 B1 B2 s b := h.step (below_drew (Below.refl _ _))
theorem HF.turn (h : HF W wr A X B0 B1 B2 s b) (hp : PH 73 95 [] w' A Y) (hT : Turn S wr w') (hS : ∀ x, S x → A.S x) : HF W w' A Y B0 B1 B2 s b := by
  have f : ∀ {p : Nat} {t : TypeId} {c : List Value}, Bl wr p t c → t ≠ 57 → ¬ S p := fun hq ht hs => by
    obtain ⟨c, hc⟩ := h.ph.row _ (hS _ hs)
    exact hq.ne hc ht rfl
  exact ⟨h.trn.trans hT (fun x hx => .inl (hS x hx)), hp, h.br.turn hT (f h.br (by decide)), h.bs.turn hT (f h.bs (by decide)), h.bn.turn hT (f h.bn (by decide)), h.h0, h.h2, h.n⟩
theorem PH.setB {TH T : TypeId} {z : List Value} {w : World} {B : Nat} {c0 : List Value} (h : PH TH T z w A X) (hB : Bl w B 38 c0) (h1 : TH ≠ 38) (h2 : T ≠ 38) (c : Blo) : PH TH T z (((((((((w.setCell ⟨B, 0, none⟩ (.int .i64 c.asid)).setCell ⟨B, 1, none⟩ (.int .i64 c.t.size)).setCell ⟨B, 2, none⟩ (.int .u32 c.t.va)).setCell ⟨B, 3, none⟩ (.int .u64 c.t.pa)).setCell ⟨B, 4, none⟩ (.int .i64 c.t.dom)).setCell ⟨B, 5, none⟩ (.int .i64 c.t.ap)).setCell ⟨B, 6, none⟩ (.int .u32 c.t.bits)).setCell ⟨B, 7, none⟩ (.bool c.t.ng)).setCell ⟨B, 8, none⟩ (.bool c.t.xn)) A X := by
  have hT := turn_setB w B c
  exact ⟨h.box.turn hT (h.box.ne hB h1), h.ti.turn hT (h.ti.box.ne hB h2) (h.ti.row.ne hB (by decide)), h.td.turn hT (h.td.box.ne hB h2) (h.td.row.ne hB (by decide)), h.tm.turn hT (h.tm.box.ne hB h2) (h.tm.row.ne hB (by decide)), h.n1, h.n2, h.n3, h.ne⟩
theorem HF.put (h : HF W wr A X B0 B1 B2 s b) (c : Blo) : HF W (((((((((wr.setCell ⟨B2, 0, none⟩ (.int .i64 c.asid)).setCell ⟨B2, 1, none⟩ (.int .i64 c.t.size)).setCell ⟨B2, 2, none⟩ (.int .u32 c.t.va)).setCell ⟨B2, 3, none⟩ (.int .u64 c.t.pa)).setCell ⟨B2, 4, none⟩ (.int .i64 c.t.dom)).setCell ⟨B2, 5, none⟩ (.int .i64 c.t.ap)).setCell ⟨B2, 6, none⟩ (.int .u32 c.t.bits)).setCell ⟨B2, 7, none⟩ (.bool c.t.ng)).setCell ⟨B2, 8, none⟩ (.bool c.t.xn)) A X B0 B1 B2 s c := by
  have hT := turn_setB wr B2 c
  have h2 := h.h2
  exact ⟨h.trn.trans hT (fun x hx => .inr (by have hx : x = B2 := hx; omega)), h.ph.setB h.bn (by decide) (by decide) c, h.br.turn hT h.n, h.bs.turn hT (h.bs.ne h.bn (by decide)), bl_setB h.bn c, h.h0, h.h2, h.n⟩
theorem HF.held (h : HF W wr A X B0 B1 B2 s b) : wr.cell? ⟨A.h, 2, none⟩ = some (.pointer (some ⟨A.pm, 0, none⟩)) ∧ wr.cell? ⟨B1, 0, none⟩ = some (.pointer (some ⟨s, 0, none⟩)) := ⟨h.ph.box.cell 2, h.bs.cell 0⟩
theorem HF.ends (h : HF W wr A X B0 B1 B2 s b) (c : Blo) : PH 73 95 [] (((((((((wr.setCell ⟨B0, 0, none⟩ (.int .i64 c.asid)).setCell ⟨B0, 1, none⟩ (.int .i64 c.t.size)).setCell ⟨B0, 2, none⟩ (.int .u32 c.t.va)).setCell ⟨B0, 3, none⟩ (.int .u64 c.t.pa)).setCell ⟨B0, 4, none⟩ (.int .i64 c.t.dom)).setCell ⟨B0, 5, none⟩ (.int .i64 c.t.ap)).setCell ⟨B0, 6, none⟩ (.int .u32 c.t.bits)).setCell ⟨B0, 7, none⟩ (.bool c.t.ng)).setCell ⟨B0, 8, none⟩ (.bool c.t.xn)) A X ∧ Turn A.S W (((((((((wr.setCell ⟨B0, 0, none⟩ (.int .i64 c.asid)).setCell ⟨B0, 1, none⟩ (.int .i64 c.t.size)).setCell ⟨B0, 2, none⟩ (.int .u32 c.t.va)).setCell ⟨B0, 3, none⟩ (.int .u64 c.t.pa)).setCell ⟨B0, 4, none⟩ (.int .i64 c.t.dom)).setCell ⟨B0, 5, none⟩ (.int .i64 c.t.ap)).setCell ⟨B0, 6, none⟩ (.int .u32 c.t.bits)).setCell ⟨B0, 7, none⟩ (.bool c.t.ng)).setCell ⟨B0, 8, none⟩ (.bool c.t.xn)) := by
  have hT := turn_setB wr B0 c
  have h0 := h.h0
  exact ⟨h.ph.setB h.br (by decide) (by decide) c, h.trn.trans hT (fun x hx => .inr (by have hx : x = B0 := hx; omega))⟩
/-- The boxes are laid one behind the other. -/
theorem HF.start {w1 w2 : World} (h : PH 73 95 [] W A X) (h1 : w1 = W.alloc (.cells ([.int .i64 0, .int .i64 0, .int .u32 0, .int .u64 0, .int .i64 0, .int .i64 0, .int .u32 0, .bool false, .bool false]).toArray 38)) (hb : Below w1.heap.size w1 w2) (s : Nat) :
    HF W ((w2.alloc (.cells #[.pointer (some ⟨s, 0, none⟩)] 70)).alloc (.cells ([.int .i64 0, .int .i64 0, .int .u32 0, .int .u64 0, .int .i64 0, .int .i64 0, .int .u32 0, .bool false, .bool false]).toArray 38)) A X W.heap.size w2.heap.size (w2.heap.size + 1) s bZ := by
  subst h1
  have b1 := below_new W (.cells ([.int .i64 0, .int .i64 0, .int .u32 0, .int .u64 0, .int .i64 0, .int .i64 0, .int .u32 0, .bool false, .bool false]).toArray 38)
  have b2 := below_new w2 (.cells #[.pointer (some ⟨s, 0, none⟩)] 70)
  have b3 := below_new (w2.alloc (.cells #[.pointer (some ⟨s, 0, none⟩)] 70)) (.cells ([.int .i64 0, .int .i64 0, .int .u32 0, .int .u64 0, .int .i64 0, .int .i64 0, .int .u32 0, .bool false, .bool false]).toArray 38)
  have l1 := Bl.new W 38 [.int .i64 0, .int .i64 0, .int .u32 0, .int .u64 0, .int .i64 0, .int .i64 0, .int .u32 0, .bool false, .bool false]
  have l2 := Bl.new w2 70 [.pointer (some ⟨s, 0, none⟩)]
  have l3 := Bl.new (w2.alloc (.cells #[.pointer (some ⟨s, 0, none⟩)] 70)) 38 [.int .i64 0, .int .i64 0, .int .u32 0, .int .u64 0, .int .i64 0, .int .i64 0, .int .u32 0, .bool false, .bool false]
  rw [show (w2.alloc (.cells #[.pointer (some ⟨s, 0, none⟩)] 70)).heap.size = w2.heap.size + 1 by simp] at l3
  have hl := (l1.below hb).lt
  exact ⟨Turn.below (Below.step (Below.step (Below.step b1 hb) b2) b3), (((h.below b1).below hb).below b2).below b3, ((l1.below hb).below b2).below b3, l2.below b3, l3, Nat.le_refl _, by omega, by omega⟩
end
set_option maxRecDepth 100000 in
set_option maxHeartbeats 8000000 in
theorem hfind_true_true (W : World) (A : Ad) (X : Hi) (va asid pick : Int) (h : PH 73 95 [] W A X) (ht : TR W) (hv : 0 ≤ va ∧ va < 4294967296) :
    Calls Tryd.prog 12 #[.pointer (some ⟨A.h, 0, none⟩), .int .u32 va, .int .i64 asid, .bool true, .int .i64 pick, .bool true] W fun e w' => e = .returned (.tuple #[.agg #[.int .i64 ((lfF X.i X.m va asid pick).1.1).asid, .int .i64 ((lfF X.i X.m va asid pick).1.1).t.size, .int .u32 ((lfF X.i X.m va asid pick).1.1).t.va, .int .u64 ((lfF X.i X.m va asid pick).1.1).t.pa, .int .i64 ((lfF X.i X.m va asid pick).1.1).t.dom, .int .i64 ((lfF X.i X.m va asid pick).1.1).t.ap, .int .u32 ((lfF X.i X.m va asid pick).1.1).t.bits, .bool ((lfF X.i X.m va asid pick).1.1).t.ng, .bool ((lfF X.i X.m va asid pick).1.1).t.xn], .int .i64 ((min (lfF X.i X.m va asid pick).1.2 2 : Nat) : Int)]) ∧ PH 73 95 [] w' A ⟨(lfF X.i X.m va asid pick).2, X.d, X.m⟩ ∧ Turn A.S W w' := by
  have hle := lfF_le (Ls := X.i) (Lm := X.m) (by exact h.ti.hi) h.tm.hi va asid pick
  have HT : Hid (∀ w, Turn A.S W w → TR w) := hidW (fun w k => h.tr ht k)
  have HS : Hid (∀ w, PH 73 95 [] w A X → Calls Tryd.prog 29 #[.pointer (some ⟨A.h, 0, none⟩), .bool true] w fun e w' => e = .returned (.agg #[.pointer (some ⟨A.pi, 0, none⟩)]) ∧ Below w.heap.size w w') := fun w k => hsmall_any w A X true k
  have HC : Hid (∀ w, PH 73 95 [] w A X → TR w → Calls Tryd.prog 30 #[.agg #[.pointer (some ⟨A.pm, 0, none⟩)], .agg #[.pointer (some ⟨A.pi, 0, none⟩)], .int .u32 va, .int .i64 asid, .int .i64 pick] w fun e w' => e = .returned (.tuple #[.agg #[.int .i64 ((lfF X.i X.m va asid pick).1.1).asid, .int .i64 ((lfF X.i X.m va asid pick).1.1).t.size, .int .u32 ((lfF X.i X.m va asid pick).1.1).t.va, .int .u64 ((lfF X.i X.m va asid pick).1.1).t.pa, .int .i64 ((lfF X.i X.m va asid pick).1.1).t.dom, .int .i64 ((lfF X.i X.m va asid pick).1.1).t.ap, .int .u32 ((lfF X.i X.m va asid pick).1.1).t.bits, .bool ((lfF X.i X.m va asid pick).1.1).t.ng, .bool ((lfF X.i X.m va asid pick).1.1).t.xn], .int .i64 ((lfF X.i X.m va asid pick).1.2 : Nat)]) ∧ PH 73 95 [] w' A ⟨(lfF X.i X.m va asid pick).2, X.d, X.m⟩ ∧ Turn (· = A.gi) w w') := fun w k k2 => (lfind_any w _ _ _ _ X.i X.m va asid pick k.ti k.tm k.n2 k2 hv).mono fun e w' q => ⟨q.1, k.setI q.2.1 q.2.2, q.2.2⟩
  have HP := hidW h
  have HSt : Hid (∀ w, Below (W.alloc (.cells ([.int .i64 0, .int .i64 0, .int .u32 0, .int .u64 0, .int .i64 0, .int .i64 0, .int .u32 0, .bool false, .bool false]).toArray 38)).heap.size (W.alloc (.cells ([.int .i64 0, .int .i64 0, .int .u32 0, .int .u64 0, .int .i64 0, .int .i64 0, .int .u32 0, .bool false, .bool false]).toArray 38)) w → HF W ((w.alloc (.cells #[.pointer (some ⟨A.pi, 0, none⟩)] 70)).alloc (.cells ([.int .i64 0, .int .i64 0, .int .u32 0, .int .u64 0, .int .i64 0, .int .i64 0, .int .u32 0, .bool false, .bool false]).toArray 38)) A X W.heap.size w.heap.size (w.heap.size + 1) A.pi bZ) := hidW (fun w k => HF.start h rfl k _)
  clear ht h
  generalize (lfF X.i X.m va asid pick) = E at *
  obtain ⟨⟨eb, en⟩, el⟩ := E
  dsimp only at *
  go_enter Tryd.func12, Tryd.ntmps12
  go_wp2_with (fail)
  go_at_call 29
  refine (HS.out _ (HP.out.below (below_new _ _))).mono ?_
  rintro e w1 ⟨rfl, hb⟩
  have HX := hidW (HSt.out _ hb)
  clear HSt hb HP HS
  generalize hA : W.heap.size = B0 at HX ⊢
  clear hA
  go_wp2
  generalize World.alloc _ _ = w2 at *
  generalize w1.heap.size + 1 = B2 at *
  generalize w1.heap.size = B1 at *
  replace HX := hidW HX.out.drew
  refine wp_region_held_drew (S := fun w' => w'.cell? ⟨A.h, 2, none⟩ = some (.pointer (some ⟨A.pm, 0, none⟩)) ∧ w'.cell? ⟨B1, 0, none⟩ = some (.pointer (some ⟨A.pi, 0, none⟩))) (by kernel_rfl) HX.out.held (fun hHeld => ?_)
  refine wpAnyH_take (i := 0) (oi := { dst := some 22, op := Op.move (Operand.tmp 0), type := 25, pos := _, after := #[], guard := none }) (v := ?_) rfl (by kernel_rfl) (by kernel_rfl) (by kernel_rfl) (fun _ _ _ h => h) (Or.inl ⟨by rfl, ?_⟩) (by assumption) ?_
  rotate_left
  · (intro w hSw; (try dsimp only at hSw); go_simp; try with_reducible rfl)
  simp only [Act.put, List.setIfInBounds_toArray, List.set_cons_zero, List.set_cons_succ]
  refine wpAnyH_take (i := 1) (oi := { dst := some 23, op := Op.nilCheck (Operand.tmp 22), type := 0, pos := _, after := #[{ on := 0, ground := Ground.data }], guard := none }) (v := ?_) rfl (by kernel_rfl) (by kernel_rfl) (by kernel_rfl) (fun _ _ _ h => h) (Or.inl ⟨by rfl, ?_⟩) (by assumption) ?_
  rotate_left
  · (intro w hSw; (try dsimp only at hSw); go_simp; try with_reducible rfl)
  simp only [Act.put, List.setIfInBounds_toArray, List.set_cons_zero, List.set_cons_succ]
  refine wpAnyH_take (i := 2) (oi := { dst := some 24, op := Op.fieldAddr 73 (Operand.tmp 23) 2, type := 0, pos := _, after := #[{ on := 1, ground := Ground.data }], guard := none }) (v := ?_) rfl (by kernel_rfl) (by kernel_rfl) (by kernel_rfl) (fun _ _ _ h => h) (Or.inl ⟨by rfl, ?_⟩) (by assumption) ?_
  rotate_left
  · (intro w hSw; (try dsimp only at hSw); go_simp; try with_reducible rfl)
  simp only [Act.put, List.setIfInBounds_toArray, List.set_cons_zero, List.set_cons_succ]
  refine wpAnyH_take (i := 3) (oi := { dst := some 25, op := Op.load 71 (Operand.tmp 24), type := 71, pos := _, after := #[{ on := 2, ground := Ground.data }], guard := none }) (v := ?_) rfl (by kernel_rfl) (by kernel_rfl) (by kernel_rfl) (fun _ _ _ h => h) (Or.inl ⟨by rfl, ?_⟩) (by assumption) ?_
  rotate_left
  · (intro w hSw; (try dsimp only at hSw); go_simp; try with_reducible rfl)
  simp only [Act.put, List.setIfInBounds_toArray, List.set_cons_zero, List.set_cons_succ]
  refine wpAnyH_take (i := 4) (oi := { dst := some 26, op := Op.load 70 (Operand.tmp 14), type := 70, pos := _, after := #[], guard := none }) (v := ?_) rfl (by kernel_rfl) (by kernel_rfl) (by kernel_rfl) (fun _ _ _ h => h) (Or.inl ⟨by rfl, ?_⟩) (by assumption) ?_
  rotate_left
  · (intro w hSw; (try dsimp only at hSw); go_simp; try with_reducible rfl)
  simp only [Act.put, List.setIfInBounds_toArray, List.set_cons_zero, List.set_cons_succ]
  refine wpAnyH_take (i := 5) (oi := { dst := some 27, op := Op.move (Operand.tmp 1), type := 31, pos := _, after := #[], guard := none }) (v := ?_) rfl (by kernel_rfl) (by kernel_rfl) (by kernel_rfl) (fun _ _ _ h => h) (Or.inl ⟨by rfl, ?_⟩) (by assumption) ?_
  rotate_left
  · (intro w hSw; (try dsimp only at hSw); go_simp; try with_reducible rfl)
  simp only [Act.put, List.setIfInBounds_toArray, List.set_cons_zero, List.set_cons_succ]
  refine wpAnyH_take (i := 6) (oi := { dst := some 28, op := Op.move (Operand.tmp 2), type := 3, pos := _, after := #[], guard := none }) (v := ?_) rfl (by kernel_rfl) (by kernel_rfl) (by kernel_rfl) (fun _ _ _ h => h) (Or.inl ⟨by rfl, ?_⟩) (by assumption) ?_
  rotate_left
  · (intro w hSw; (try dsimp only at hSw); go_simp; try with_reducible rfl)
  simp only [Act.put, List.setIfInBounds_toArray, List.set_cons_zero, List.set_cons_succ]
  refine wpAnyH_take (i := 7) (oi := { dst := some 29, op := Op.move (Operand.tmp 4), type := 3, pos := _, after := #[], guard := none }) (v := ?_) rfl (by kernel_rfl) (by kernel_rfl) (by kernel_rfl) (fun _ _ _ h => h) (Or.inl ⟨by rfl, ?_⟩) (by assumption) ?_
  rotate_left
  · (intro w hSw; (try dsimp only at hSw); go_simp; try with_reducible rfl)
  simp only [Act.put, List.setIfInBounds_toArray, List.set_cons_zero, List.set_cons_succ]
  refine wpAnyH_ready (rs := [8]) (by kernel_rfl) (by simp) ?_
  refine AllReadyH.cons (o := { dst := some 30, op := Op.call { callee := Callee.value (Operand.func 30), args := #[Operand.tmp 25, Operand.tmp 26, Operand.tmp 27, Operand.tmp 28, Operand.tmp 29], argTypes := #[71, 70, 31, 3, 3] }, type := 45, pos := _, after := #[{ on := 3, ground := Ground.data }, { on := 4, ground := Ground.data }, { on := 5, ground := Ground.data }, { on := 6, ground := Ground.data }, { on := 7, ground := Ground.data }], guard := none }) rfl (fun K hK => ?_) AllReadyH.nil
  go_simp
  (go_at_call 30; refine (HC.out _ HX.out.ph (HT.out _ HX.out.trn)).mono ?_; rintro e w3 ⟨rfl, hp, hT⟩; replace HX := hidW (HX.out.turn hp hT (fun x hx => .inl hx)); clear hp hT HC; have c1 := HX.out.bn.cell; have f1 := HX.out.bn.frozen; have l1 := HX.out.bn.lt; go_wp2_with fail)
  refine hK.out _ _ ?_ (fun hHeld => ?_)
  · ((try dsimp only); with_reducible exact HX.out.held)
  clear hK K
  try simp only [Act.put, List.setIfInBounds_toArray, List.set_cons_zero, List.set_cons_succ]
  refine wpAnyH_take (i := 9) (oi := { dst := some 21, op := Op.move (Operand.tmp 30), type := 45, pos := _, after := #[{ on := 8, ground := Ground.data }], guard := none }) (v := ?_) rfl (by kernel_rfl) (by kernel_rfl) (by kernel_rfl) (fun _ _ _ h => h) (Or.inl ⟨by rfl, ?_⟩) (by assumption) ?_
  rotate_left
  · (intro w hSw; (try dsimp only at hSw); go_simp; try with_reducible rfl)
  simp only [Act.put, List.setIfInBounds_toArray, List.set_cons_zero, List.set_cons_succ]
  refine wpAnyH_take (i := 10) (oi := { dst := some 31, op := Op.extract (Operand.tmp 21) 0, type := 38, pos := _, after := #[{ on := 9, ground := Ground.data }], guard := none }) (v := ?_) rfl (by kernel_rfl) (by kernel_rfl) (by kernel_rfl) (fun _ _ _ h => h) (Or.inl ⟨by rfl, ?_⟩) (by assumption) ?_
  rotate_left
  · (intro w hSw; (try dsimp only at hSw); go_simp; try with_reducible rfl)
  simp only [Act.put, List.setIfInBounds_toArray, List.set_cons_zero, List.set_cons_succ]
  refine wpAnyH_take (i := 11) (oi := { dst := some 32, op := Op.extract (Operand.tmp 21) 1, type := 3, pos := _, after := #[{ on := 9, ground := Ground.data }, { on := 12, ground := Ground.gcOnly Departure.lateStores }], guard := none }) (v := ?_) rfl (by kernel_rfl) (by kernel_rfl) (by kernel_rfl) (fun _ _ _ h => h) (Or.inl ⟨by rfl, ?_⟩) (by assumption) ?_
  rotate_left
  · (intro w hSw; (try dsimp only at hSw); go_simp; try with_reducible rfl)
  simp only [Act.put, List.setIfInBounds_toArray, List.set_cons_zero, List.set_cons_succ]
  refine wpAnyH_ready (rs := [12]) (by kernel_rfl) (by simp) ?_
  refine AllReadyH.cons (o := { dst := none, op := Op.store 38 (Operand.tmp 15) (Operand.tmp 31), type := 0, pos := _, after := #[{ on := 10, ground := Ground.data }, { on := 8, ground := Ground.chain }, { on := 0, ground := Ground.phase }, { on := 1, ground := Ground.phase }, { on := 2, ground := Ground.phase }, { on := 3, ground := Ground.phase }, { on := 4, ground := Ground.phase }, { on := 5, ground := Ground.phase }, { on := 6, ground := Ground.phase }, { on := 7, ground := Ground.phase }, { on := 8, ground := Ground.phase }, { on := 9, ground := Ground.phase }, { on := 10, ground := Ground.phase }, { on := 11, ground := Ground.textOnly Departure.lateStores }], guard := none }) rfl (fun K hK => ?_) AllReadyH.nil
  go_simp
  skip
  refine hK.out _ _ ?_ (fun hHeld => ?_)
  · ((try dsimp only); with_reducible exact (HX.out.put eb).held)
  clear hK K
  try simp only [Act.put, List.setIfInBounds_toArray, List.set_cons_zero, List.set_cons_succ]
  refine wpAnyH_take (i := 13) (oi := { dst := some 16, op := Op.assign (Operand.tmp 32), type := 3, pos := _, after := #[{ on := 11, ground := Ground.data }, { on := 12, ground := Ground.chain }, { on := 0, ground := Ground.phase }, { on := 1, ground := Ground.phase }, { on := 2, ground := Ground.phase }, { on := 3, ground := Ground.phase }, { on := 4, ground := Ground.phase }, { on := 5, ground := Ground.phase }, { on := 6, ground := Ground.phase }, { on := 7, ground := Ground.phase }, { on := 8, ground := Ground.phase }, { on := 9, ground := Ground.phase }, { on := 10, ground := Ground.phase }, { on := 11, ground := Ground.phase }, { on := 12, ground := Ground.phase }], guard := none }) (v := ?_) rfl (by kernel_rfl) (by kernel_rfl) (by kernel_rfl) (fun _ _ _ h => h) (Or.inl ⟨by rfl, ?_⟩) (by assumption) ?_
  rotate_left
  · (intro w hSw; (try dsimp only at hSw); go_simp; try with_reducible rfl)
  simp only [Act.put, List.setIfInBounds_toArray, List.set_cons_zero, List.set_cons_succ]
  refine wpAnyH_done (by kernel_rfl) ?_ _
  replace HX := hidW (HX.out.put eb)
  clear hHeld
  generalize World.setCell _ _ _ = w4 at *
  have r1 := HX.out.br.cell
  have r2 := HX.out.br.frozen
  have r3 := HX.out.br.lt
  have c2 := HX.out.bn.cell
  by_cases h3 : 2 < en
  · have h4 : ((min en 2 : Nat) : Int) = 2 := by omega
    have h4 := hidW h4
    have h5 : (2 : Int) < (en : Int) := by omega
    go_wp2
    refine bodyPost_ret (v := .tuple #[.agg #[.int .i64 eb.asid, .int .i64 eb.t.size, .int .u32 eb.t.va, .int .u64 eb.t.pa, .int .i64 eb.t.dom, .int .i64 eb.t.ap, .int .u32 eb.t.bits, .bool eb.t.ng, .bool eb.t.xn], .int .i64 2]) (by simp [results, Tryd.results12, go_sem, r1, r2, r3]) rfl ⟨by first | rfl | rw [h4.out], ?_⟩
    exact HX.out.ends eb
  · have h4 : ((min en 2 : Nat) : Int) = en := by omega
    have h4 := hidW h4
    have h5 : ¬ (2 : Int) < (en : Int) := by omega
    go_wp2
    refine bodyPost_ret (v := .tuple #[.agg #[.int .i64 eb.asid, .int .i64 eb.t.size, .int .u32 eb.t.va, .int .u64 eb.t.pa, .int .i64 eb.t.dom, .int .i64 eb.t.ap, .int .u32 eb.t.bits, .bool eb.t.ng, .bool eb.t.xn], .int .i64 en]) (by simp [results, Tryd.results12, go_sem, r1, r2, r3]) rfl ⟨by first | rfl | rw [h4.out], ?_⟩
    exact HX.out.ends eb
set_option maxRecDepth 100000 in
set_option maxHeartbeats 8000000 in
theorem hfind_true_false (W : World) (A : Ad) (X : Hi) (va asid pick : Int) (h : PH 73 95 [] W A X) (ht : TR W) (hv : 0 ≤ va ∧ va < 4294967296) :
    Calls Tryd.prog 12 #[.pointer (some ⟨A.h, 0, none⟩), .int .u32 va, .int .i64 asid, .bool true, .int .i64 pick, .bool false] W fun e w' => e = .returned (.tuple #[.agg #[.int .i64 ((sfF X.i X.m va asid pick).1.1).asid, .int .i64 ((sfF X.i X.m va asid pick).1.1).t.size, .int .u32 ((sfF X.i X.m va asid pick).1.1).t.va, .int .u64 ((sfF X.i X.m va asid pick).1.1).t.pa, .int .i64 ((sfF X.i X.m va asid pick).1.1).t.dom, .int .i64 ((sfF X.i X.m va asid pick).1.1).t.ap, .int .u32 ((sfF X.i X.m va asid pick).1.1).t.bits, .bool ((sfF X.i X.m va asid pick).1.1).t.ng, .bool ((sfF X.i X.m va asid pick).1.1).t.xn], .int .i64 ((min (sfF X.i X.m va asid pick).1.2 2 : Nat) : Int)]) ∧ PH 73 95 [] w' A ⟨(sfF X.i X.m va asid pick).2, X.d, X.m⟩ ∧ Turn A.S W w' := by
  have hle := sfF_le (Ls := X.i) (Lm := X.m) (by exact h.ti.hi) h.tm.hi va asid pick
  have HT : Hid (∀ w, Turn A.S W w → TR w) := hidW (fun w k => h.tr ht k)
  have HS : Hid (∀ w, PH 73 95 [] w A X → Calls Tryd.prog 29 #[.pointer (some ⟨A.h, 0, none⟩), .bool true] w fun e w' => e = .returned (.agg #[.pointer (some ⟨A.pi, 0, none⟩)]) ∧ Below w.heap.size w w') := fun w k => hsmall_any w A X true k
  have HC : Hid (∀ w, PH 73 95 [] w A X → TR w → Calls Tryd.prog 31 #[.agg #[.pointer (some ⟨A.pi, 0, none⟩)], .agg #[.pointer (some ⟨A.pm, 0, none⟩)], .int .u32 va, .int .i64 asid, .int .i64 pick] w fun e w' => e = .returned (.tuple #[.agg #[.int .i64 ((sfF X.i X.m va asid pick).1.1).asid, .int .i64 ((sfF X.i X.m va asid pick).1.1).t.size, .int .u32 ((sfF X.i X.m va asid pick).1.1).t.va, .int .u64 ((sfF X.i X.m va asid pick).1.1).t.pa, .int .i64 ((sfF X.i X.m va asid pick).1.1).t.dom, .int .i64 ((sfF X.i X.m va asid pick).1.1).t.ap, .int .u32 ((sfF X.i X.m va asid pick).1.1).t.bits, .bool ((sfF X.i X.m va asid pick).1.1).t.ng, .bool ((sfF X.i X.m va asid pick).1.1).t.xn], .int .i64 ((sfF X.i X.m va asid pick).1.2 : Nat)]) ∧ PH 73 95 [] w' A ⟨(sfF X.i X.m va asid pick).2, X.d, X.m⟩ ∧ Turn (· = A.gi) w w') := fun w k k2 => (sfind_any w _ _ _ _ X.i X.m va asid pick k.ti k.tm k.n2 k2 hv).mono fun e w' q => ⟨q.1, k.setI q.2.1 q.2.2, q.2.2⟩
  have HP := hidW h
  have HSt : Hid (∀ w, Below (W.alloc (.cells ([.int .i64 0, .int .i64 0, .int .u32 0, .int .u64 0, .int .i64 0, .int .i64 0, .int .u32 0, .bool false, .bool false]).toArray 38)).heap.size (W.alloc (.cells ([.int .i64 0, .int .i64 0, .int .u32 0, .int .u64 0, .int .i64 0, .int .i64 0, .int .u32 0, .bool false, .bool false]).toArray 38)) w → HF W ((w.alloc (.cells #[.pointer (some ⟨A.pi, 0, none⟩)] 70)).alloc (.cells ([.int .i64 0, .int .i64 0, .int .u32 0, .int .u64 0, .int .i64 0, .int .i64 0, .int .u32 0, .bool false, .bool false]).toArray 38)) A X W.heap.size w.heap.size (w.heap.size + 1) A.pi bZ) := hidW (fun w k => HF.start h rfl k _)
  clear ht h
  generalize (sfF X.i X.m va asid pick) = E at *
  obtain ⟨⟨eb, en⟩, el⟩ := E
  dsimp only at *
  go_enter Tryd.func12, Tryd.ntmps12
  go_wp2_with (fail)
  go_at_call 29
  refine (HS.out _ (HP.out.below (below_new _ _))).mono ?_
  rintro e w1 ⟨rfl, hb⟩
  have HX := hidW (HSt.out _ hb)
  clear HSt hb HP HS
  generalize hA : W.heap.size = B0 at HX ⊢
  clear hA
  go_wp2
  generalize World.alloc _ _ = w2 at *
  generalize w1.heap.size + 1 = B2 at *
  generalize w1.heap.size = B1 at *
  replace HX := hidW HX.out.drew
  refine wp_region_held_drew (S := fun w' => w'.cell? ⟨A.h, 2, none⟩ = some (.pointer (some ⟨A.pm, 0, none⟩)) ∧ w'.cell? ⟨B1, 0, none⟩ = some (.pointer (some ⟨A.pi, 0, none⟩))) (by kernel_rfl) HX.out.held (fun hHeld => ?_)
  refine wpAnyH_take (i := 0) (oi := { dst := some 34, op := Op.load 70 (Operand.tmp 14), type := 70, pos := _, after := #[], guard := none }) (v := ?_) rfl (by kernel_rfl) (by kernel_rfl) (by kernel_rfl) (fun _ _ _ h => h) (Or.inl ⟨by rfl, ?_⟩) (by assumption) ?_
  rotate_left
  · (intro w hSw; (try dsimp only at hSw); go_simp; try with_reducible rfl)
  simp only [Act.put, List.setIfInBounds_toArray, List.set_cons_zero, List.set_cons_succ]
  refine wpAnyH_take (i := 1) (oi := { dst := some 35, op := Op.move (Operand.tmp 0), type := 25, pos := _, after := #[], guard := none }) (v := ?_) rfl (by kernel_rfl) (by kernel_rfl) (by kernel_rfl) (fun _ _ _ h => h) (Or.inl ⟨by rfl, ?_⟩) (by assumption) ?_
  rotate_left
  · (intro w hSw; (try dsimp only at hSw); go_simp; try with_reducible rfl)
  simp only [Act.put, List.setIfInBounds_toArray, List.set_cons_zero, List.set_cons_succ]
  refine wpAnyH_take (i := 2) (oi := { dst := some 36, op := Op.nilCheck (Operand.tmp 35), type := 0, pos := _, after := #[{ on := 1, ground := Ground.data }], guard := none }) (v := ?_) rfl (by kernel_rfl) (by kernel_rfl) (by kernel_rfl) (fun _ _ _ h => h) (Or.inl ⟨by rfl, ?_⟩) (by assumption) ?_
  rotate_left
  · (intro w hSw; (try dsimp only at hSw); go_simp; try with_reducible rfl)
  simp only [Act.put, List.setIfInBounds_toArray, List.set_cons_zero, List.set_cons_succ]
  refine wpAnyH_take (i := 3) (oi := { dst := some 37, op := Op.fieldAddr 73 (Operand.tmp 36) 2, type := 0, pos := _, after := #[{ on := 2, ground := Ground.data }], guard := none }) (v := ?_) rfl (by kernel_rfl) (by kernel_rfl) (by kernel_rfl) (fun _ _ _ h => h) (Or.inl ⟨by rfl, ?_⟩) (by assumption) ?_
  rotate_left
  · (intro w hSw; (try dsimp only at hSw); go_simp; try with_reducible rfl)
  simp only [Act.put, List.setIfInBounds_toArray, List.set_cons_zero, List.set_cons_succ]
  refine wpAnyH_take (i := 4) (oi := { dst := some 38, op := Op.load 71 (Operand.tmp 37), type := 71, pos := _, after := #[{ on := 3, ground := Ground.data }], guard := none }) (v := ?_) rfl (by kernel_rfl) (by kernel_rfl) (by kernel_rfl) (fun _ _ _ h => h) (Or.inl ⟨by rfl, ?_⟩) (by assumption) ?_
  rotate_left
  · (intro w hSw; (try dsimp only at hSw); go_simp; try with_reducible rfl)
  simp only [Act.put, List.setIfInBounds_toArray, List.set_cons_zero, List.set_cons_succ]
  refine wpAnyH_take (i := 5) (oi := { dst := some 39, op := Op.move (Operand.tmp 1), type := 31, pos := _, after := #[], guard := none }) (v := ?_) rfl (by kernel_rfl) (by kernel_rfl) (by kernel_rfl) (fun _ _ _ h => h) (Or.inl ⟨by rfl, ?_⟩) (by assumption) ?_
  rotate_left
  · (intro w hSw; (try dsimp only at hSw); go_simp; try with_reducible rfl)
  simp only [Act.put, List.setIfInBounds_toArray, List.set_cons_zero, List.set_cons_succ]
  refine wpAnyH_take (i := 6) (oi := { dst := some 40, op := Op.move (Operand.tmp 2), type := 3, pos := _, after := #[], guard := none }) (v := ?_) rfl (by kernel_rfl) (by kernel_rfl) (by kernel_rfl) (fun _ _ _ h => h) (Or.inl ⟨by rfl, ?_⟩) (by assumption) ?_
  rotate_left
  · (intro w hSw; (try dsimp only at hSw); go_simp; try with_reducible rfl)
  simp only [Act.put, List.setIfInBounds_toArray, List.set_cons_zero, List.set_cons_succ]
  refine wpAnyH_take (i := 7) (oi := { dst := some 41, op := Op.move (Operand.tmp 4), type := 3, pos := _, after := #[], guard := none }) (v := ?_) rfl (by kernel_rfl) (by kernel_rfl) (by kernel_rfl) (fun _ _ _ h => h) (Or.inl ⟨by rfl, ?_⟩) (by assumption) ?_
  rotate_left
  · (intro w hSw; (try dsimp only at hSw); go_simp; try with_reducible rfl)
  simp only [Act.put, List.setIfInBounds_toArray, List.set_cons_zero, List.set_cons_succ]
  refine wpAnyH_ready (rs := [8]) (by kernel_rfl) (by simp) ?_
  refine AllReadyH.cons (o := { dst := some 42, op := Op.call { callee := Callee.value (Operand.func 31), args := #[Operand.tmp 34, Operand.tmp 38, Operand.tmp 39, Operand.tmp 40, Operand.tmp 41], argTypes := #[70, 71, 31, 3, 3] }, type := 45, pos := _, after := #[{ on := 0, ground := Ground.data }, { on := 4, ground := Ground.data }, { on := 5, ground := Ground.data }, { on := 6, ground := Ground.data }, { on := 7, ground := Ground.data }], guard := none }) rfl (fun K hK => ?_) AllReadyH.nil
  go_simp
  (go_at_call 31; refine (HC.out _ HX.out.ph (HT.out _ HX.out.trn)).mono ?_; rintro e w3 ⟨rfl, hp, hT⟩; replace HX := hidW (HX.out.turn hp hT (fun x hx => .inl hx)); clear hp hT HC; have c1 := HX.out.bn.cell; have f1 := HX.out.bn.frozen; have l1 := HX.out.bn.lt; go_wp2_with fail)
  refine hK.out _ _ ?_ (fun hHeld => ?_)
  · ((try dsimp only); with_reducible exact HX.out.held)
  clear hK K
  try simp only [Act.put, List.setIfInBounds_toArray, List.set_cons_zero, List.set_cons_succ]
  refine wpAnyH_take (i := 9) (oi := { dst := some 33, op := Op.move (Operand.tmp 42), type := 45, pos := _, after := #[{ on := 8, ground := Ground.data }], guard := none }) (v := ?_) rfl (by kernel_rfl) (by kernel_rfl) (by kernel_rfl) (fun _ _ _ h => h) (Or.inl ⟨by rfl, ?_⟩) (by assumption) ?_
  rotate_left
  · (intro w hSw; (try dsimp only at hSw); go_simp; try with_reducible rfl)
  simp only [Act.put, List.setIfInBounds_toArray, List.set_cons_zero, List.set_cons_succ]
  refine wpAnyH_take (i := 10) (oi := { dst := some 43, op := Op.extract (Operand.tmp 33) 0, type := 38, pos := _, after := #[{ on := 9, ground := Ground.data }], guard := none }) (v := ?_) rfl (by kernel_rfl) (by kernel_rfl) (by kernel_rfl) (fun _ _ _ h => h) (Or.inl ⟨by rfl, ?_⟩) (by assumption) ?_
  rotate_left
  · (intro w hSw; (try dsimp only at hSw); go_simp; try with_reducible rfl)
  simp only [Act.put, List.setIfInBounds_toArray, List.set_cons_zero, List.set_cons_succ]
  refine wpAnyH_take (i := 11) (oi := { dst := some 44, op := Op.extract (Operand.tmp 33) 1, type := 3, pos := _, after := #[{ on := 9, ground := Ground.data }, { on := 12, ground := Ground.gcOnly Departure.lateStores }], guard := none }) (v := ?_) rfl (by kernel_rfl) (by kernel_rfl) (by kernel_rfl) (fun _ _ _ h => h) (Or.inl ⟨by rfl, ?_⟩) (by assumption) ?_
  rotate_left
  · (intro w hSw; (try dsimp only at hSw); go_simp; try with_reducible rfl)
  simp only [Act.put, List.setIfInBounds_toArray, List.set_cons_zero, List.set_cons_succ]
  refine wpAnyH_ready (rs := [12]) (by kernel_rfl) (by simp) ?_
  refine AllReadyH.cons (o := { dst := none, op := Op.store 38 (Operand.tmp 15) (Operand.tmp 43), type := 0, pos := _, after := #[{ on := 10, ground := Ground.data }, { on := 8, ground := Ground.chain }, { on := 0, ground := Ground.phase }, { on := 1, ground := Ground.phase }, { on := 2, ground := Ground.phase }, { on := 3, ground := Ground.phase }, { on := 4, ground := Ground.phase }, { on := 5, ground := Ground.phase }, { on := 6, ground := Ground.phase }, { on := 7, ground := Ground.phase }, { on := 8, ground := Ground.phase }, { on := 9, ground := Ground.phase }, { on := 10, ground := Ground.phase }, { on := 11, ground := Ground.textOnly Departure.lateStores }], guard := none }) rfl (fun K hK => ?_) AllReadyH.nil
  go_simp
  skip
  refine hK.out _ _ ?_ (fun hHeld => ?_)
  · ((try dsimp only); with_reducible exact (HX.out.put eb).held)
  clear hK K
  try simp only [Act.put, List.setIfInBounds_toArray, List.set_cons_zero, List.set_cons_succ]
  refine wpAnyH_take (i := 13) (oi := { dst := some 16, op := Op.assign (Operand.tmp 44), type := 3, pos := _, after := #[{ on := 11, ground := Ground.data }, { on := 12, ground := Ground.chain }, { on := 0, ground := Ground.phase }, { on := 1, ground := Ground.phase }, { on := 2, ground := Ground.phase }, { on := 3, ground := Ground.phase }, { on := 4, ground := Ground.phase }, { on := 5, ground := Ground.phase }, { on := 6, ground := Ground.phase }, { on := 7, ground := Ground.phase }, { on := 8, ground := Ground.phase }, { on := 9, ground := Ground.phase }, { on := 10, ground := Ground.phase }, { on := 11, ground := Ground.phase }, { on := 12, ground := Ground.phase }], guard := none }) (v := ?_) rfl (by kernel_rfl) (by kernel_rfl) (by kernel_rfl) (fun _ _ _ h => h) (Or.inl ⟨by rfl, ?_⟩) (by assumption) ?_
  rotate_left
  · (intro w hSw; (try dsimp only at hSw); go_simp; try with_reducible rfl)
  simp only [Act.put, List.setIfInBounds_toArray, List.set_cons_zero, List.set_cons_succ]
  refine wpAnyH_done (by kernel_rfl) ?_ _
  replace HX := hidW (HX.out.put eb)
  clear hHeld
  generalize World.setCell _ _ _ = w4 at *
  have r1 := HX.out.br.cell
  have r2 := HX.out.br.frozen
  have r3 := HX.out.br.lt
  have c2 := HX.out.bn.cell
  by_cases h3 : 2 < en
  · have h4 : ((min en 2 : Nat) : Int) = 2 := by omega
    have h4 := hidW h4
    have h5 : (2 : Int) < (en : Int) := by omega
    go_wp2
    refine bodyPost_ret (v := .tuple #[.agg #[.int .i64 eb.asid, .int .i64 eb.t.size, .int .u32 eb.t.va, .int .u64 eb.t.pa, .int .i64 eb.t.dom, .int .i64 eb.t.ap, .int .u32 eb.t.bits, .bool eb.t.ng, .bool eb.t.xn], .int .i64 2]) (by simp [results, Tryd.results12, go_sem, r1, r2, r3]) rfl ⟨by first | rfl | rw [h4.out], ?_⟩
    exact HX.out.ends eb
  · have h4 : ((min en 2 : Nat) : Int) = en := by omega
    have h4 := hidW h4
    have h5 : ¬ (2 : Int) < (en : Int) := by omega
    go_wp2
    refine bodyPost_ret (v := .tuple #[.agg #[.int .i64 eb.asid, .int .i64 eb.t.size, .int .u32 eb.t.va, .int .u64 eb.t.pa, .int .i64 eb.t.dom, .int .i64 eb.t.ap, .int .u32 eb.t.bits, .bool eb.t.ng, .bool eb.t.xn], .int .i64 en]) (by simp [results, Tryd.results12, go_sem, r1, r2, r3]) rfl ⟨by first | rfl | rw [h4.out], ?_⟩
    exact HX.out.ends eb
set_option maxRecDepth 100000 in
set_option maxHeartbeats 8000000 in
theorem hfind_false_true (W : World) (A : Ad) (X : Hi) (va asid pick : Int) (h : PH 73 95 [] W A X) (ht : TR W) (hv : 0 ≤ va ∧ va < 4294967296) :
    Calls Tryd.prog 12 #[.pointer (some ⟨A.h, 0, none⟩), .int .u32 va, .int .i64 asid, .bool false, .int .i64 pick, .bool true] W fun e w' => e = .returned (.tuple #[.agg #[.int .i64 ((lfF X.d X.m va asid pick).1.1).asid, .int .i64 ((lfF X.d X.m va asid pick).1.1).t.size, .int .u32 ((lfF X.d X.m va asid pick).1.1).t.va, .int .u64 ((lfF X.d X.m va asid pick).1.1).t.pa, .int .i64 ((lfF X.d X.m va asid pick).1.1).t.dom, .int .i64 ((lfF X.d X.m va asid pick).1.1).t.ap, .int .u32 ((lfF X.d X.m va asid pick).1.1).t.bits, .bool ((lfF X.d X.m va asid pick).1.1).t.ng, .bool ((lfF X.d X.m va asid pick).1.1).t.xn], .int .i64 ((min (lfF X.d X.m va asid pick).1.2 2 : Nat) : Int)]) ∧ PH 73 95 [] w' A ⟨X.i, (lfF X.d X.m va asid pick).2, X.m⟩ ∧ Turn A.S W w' := by
  have hle := lfF_le (Ls := X.d) (Lm := X.m) (by exact h.td.hi) h.tm.hi va asid pick
  have HT : Hid (∀ w, Turn A.S W w → TR w) := hidW (fun w k => h.tr ht k)
  have HS : Hid (∀ w, PH 73 95 [] w A X → Calls Tryd.prog 29 #[.pointer (some ⟨A.h, 0, none⟩), .bool false] w fun e w' => e = .returned (.agg #[.pointer (some ⟨A.pd, 0, none⟩)]) ∧ Below w.heap.size w w') := fun w k => hsmall_any w A X false k
  have HC : Hid (∀ w, PH 73 95 [] w A X → TR w → Calls Tryd.prog 30 #[.agg #[.pointer (some ⟨A.pm, 0, none⟩)], .agg #[.pointer (some ⟨A.pd, 0, none⟩)], .int .u32 va, .int .i64 asid, .int .i64 pick] w fun e w' => e = .returned (.tuple #[.agg #[.int .i64 ((lfF X.d X.m va asid pick).1.1).asid, .int .i64 ((lfF X.d X.m va asid pick).1.1).t.size, .int .u32 ((lfF X.d X.m va asid pick).1.1).t.va, .int .u64 ((lfF X.d X.m va asid pick).1.1).t.pa, .int .i64 ((lfF X.d X.m va asid pick).1.1).t.dom, .int .i64 ((lfF X.d X.m va asid pick).1.1).t.ap, .int .u32 ((lfF X.d X.m va asid pick).1.1).t.bits, .bool ((lfF X.d X.m va asid pick).1.1).t.ng, .bool ((lfF X.d X.m va asid pick).1.1).t.xn], .int .i64 ((lfF X.d X.m va asid pick).1.2 : Nat)]) ∧ PH 73 95 [] w' A ⟨X.i, (lfF X.d X.m va asid pick).2, X.m⟩ ∧ Turn (· = A.gd) w w') := fun w k k2 => (lfind_any w _ _ _ _ X.d X.m va asid pick k.td k.tm k.n3 k2 hv).mono fun e w' q => ⟨q.1, k.setD q.2.1 q.2.2, q.2.2⟩
  have HP := hidW h
  have HSt : Hid (∀ w, Below (W.alloc (.cells ([.int .i64 0, .int .i64 0, .int .u32 0, .int .u64 0, .int .i64 0, .int .i64 0, .int .u32 0, .bool false, .bool false]).toArray 38)).heap.size (W.alloc (.cells ([.int .i64 0, .int .i64 0, .int .u32 0, .int .u64 0, .int .i64 0, .int .i64 0, .int .u32 0, .bool false, .bool false]).toArray 38)) w → HF W ((w.alloc (.cells #[.pointer (some ⟨A.pd, 0, none⟩)] 70)).alloc (.cells ([.int .i64 0, .int .i64 0, .int .u32 0, .int .u64 0, .int .i64 0, .int .i64 0, .int .u32 0, .bool false, .bool false]).toArray 38)) A X W.heap.size w.heap.size (w.heap.size + 1) A.pd bZ) := hidW (fun w k => HF.start h rfl k _)
  clear ht h
  generalize (lfF X.d X.m va asid pick) = E at *
  obtain ⟨⟨eb, en⟩, el⟩ := E
  dsimp only at *
  go_enter Tryd.func12, Tryd.ntmps12
  go_wp2_with (fail)
  go_at_call 29
  refine (HS.out _ (HP.out.below (below_new _ _))).mono ?_
  rintro e w1 ⟨rfl, hb⟩
  have HX := hidW (HSt.out _ hb)
  clear HSt hb HP HS
  generalize hA : W.heap.size = B0 at HX ⊢
  clear hA
  go_wp2
  generalize World.alloc _ _ = w2 at *
  generalize w1.heap.size + 1 = B2 at *
  generalize w1.heap.size = B1 at *
  replace HX := hidW HX.out.drew
  refine wp_region_held_drew (S := fun w' => w'.cell? ⟨A.h, 2, none⟩ = some (.pointer (some ⟨A.pm, 0, none⟩)) ∧ w'.cell? ⟨B1, 0, none⟩ = some (.pointer (some ⟨A.pd, 0, none⟩))) (by kernel_rfl) HX.out.held (fun hHeld => ?_)
  refine wpAnyH_take (i := 0) (oi := { dst := some 22, op := Op.move (Operand.tmp 0), type := 25, pos := _, after := #[], guard := none }) (v := ?_) rfl (by kernel_rfl) (by kernel_rfl) (by kernel_rfl) (fun _ _ _ h => h) (Or.inl ⟨by rfl, ?_⟩) (by assumption) ?_
  rotate_left
  · (intro w hSw; (try dsimp only at hSw); go_simp; try with_reducible rfl)
  simp only [Act.put, List.setIfInBounds_toArray, List.set_cons_zero, List.set_cons_succ]
  refine wpAnyH_take (i := 1) (oi := { dst := some 23, op := Op.nilCheck (Operand.tmp 22), type := 0, pos := _, after := #[{ on := 0, ground := Ground.data }], guard := none }) (v := ?_) rfl (by kernel_rfl) (by kernel_rfl) (by kernel_rfl) (fun _ _ _ h => h) (Or.inl ⟨by rfl, ?_⟩) (by assumption) ?_
  rotate_left
  · (intro w hSw; (try dsimp only at hSw); go_simp; try with_reducible rfl)
  simp only [Act.put, List.setIfInBounds_toArray, List.set_cons_zero, List.set_cons_succ]
  refine wpAnyH_take (i := 2) (oi := { dst := some 24, op := Op.fieldAddr 73 (Operand.tmp 23) 2, type := 0, pos := _, after := #[{ on := 1, ground := Ground.data }], guard := none }) (v := ?_) rfl (by kernel_rfl) (by kernel_rfl) (by kernel_rfl) (fun _ _ _ h => h) (Or.inl ⟨by rfl, ?_⟩) (by assumption) ?_
  rotate_left
  · (intro w hSw; (try dsimp only at hSw); go_simp; try with_reducible rfl)
  simp only [Act.put, List.setIfInBounds_toArray, List.set_cons_zero, List.set_cons_succ]
  refine wpAnyH_take (i := 3) (oi := { dst := some 25, op := Op.load 71 (Operand.tmp 24), type := 71, pos := _, after := #[{ on := 2, ground := Ground.data }], guard := none }) (v := ?_) rfl (by kernel_rfl) (by kernel_rfl) (by kernel_rfl) (fun _ _ _ h => h) (Or.inl ⟨by rfl, ?_⟩) (by assumption) ?_
  rotate_left
  · (intro w hSw; (try dsimp only at hSw); go_simp; try with_reducible rfl)
  simp only [Act.put, List.setIfInBounds_toArray, List.set_cons_zero, List.set_cons_succ]
  refine wpAnyH_take (i := 4) (oi := { dst := some 26, op := Op.load 70 (Operand.tmp 14), type := 70, pos := _, after := #[], guard := none }) (v := ?_) rfl (by kernel_rfl) (by kernel_rfl) (by kernel_rfl) (fun _ _ _ h => h) (Or.inl ⟨by rfl, ?_⟩) (by assumption) ?_
  rotate_left
  · (intro w hSw; (try dsimp only at hSw); go_simp; try with_reducible rfl)
  simp only [Act.put, List.setIfInBounds_toArray, List.set_cons_zero, List.set_cons_succ]
  refine wpAnyH_take (i := 5) (oi := { dst := some 27, op := Op.move (Operand.tmp 1), type := 31, pos := _, after := #[], guard := none }) (v := ?_) rfl (by kernel_rfl) (by kernel_rfl) (by kernel_rfl) (fun _ _ _ h => h) (Or.inl ⟨by rfl, ?_⟩) (by assumption) ?_
  rotate_left
  · (intro w hSw; (try dsimp only at hSw); go_simp; try with_reducible rfl)
  simp only [Act.put, List.setIfInBounds_toArray, List.set_cons_zero, List.set_cons_succ]
  refine wpAnyH_take (i := 6) (oi := { dst := some 28, op := Op.move (Operand.tmp 2), type := 3, pos := _, after := #[], guard := none }) (v := ?_) rfl (by kernel_rfl) (by kernel_rfl) (by kernel_rfl) (fun _ _ _ h => h) (Or.inl ⟨by rfl, ?_⟩) (by assumption) ?_
  rotate_left
  · (intro w hSw; (try dsimp only at hSw); go_simp; try with_reducible rfl)
  simp only [Act.put, List.setIfInBounds_toArray, List.set_cons_zero, List.set_cons_succ]
  refine wpAnyH_take (i := 7) (oi := { dst := some 29, op := Op.move (Operand.tmp 4), type := 3, pos := _, after := #[], guard := none }) (v := ?_) rfl (by kernel_rfl) (by kernel_rfl) (by kernel_rfl) (fun _ _ _ h => h) (Or.inl ⟨by rfl, ?_⟩) (by assumption) ?_
  rotate_left
  · (intro w hSw; (try dsimp only at hSw); go_simp; try with_reducible rfl)
  simp only [Act.put, List.setIfInBounds_toArray, List.set_cons_zero, List.set_cons_succ]
  refine wpAnyH_ready (rs := [8]) (by kernel_rfl) (by simp) ?_
  refine AllReadyH.cons (o := { dst := some 30, op := Op.call { callee := Callee.value (Operand.func 30), args := #[Operand.tmp 25, Operand.tmp 26, Operand.tmp 27, Operand.tmp 28, Operand.tmp 29], argTypes := #[71, 70, 31, 3, 3] }, type := 45, pos := _, after := #[{ on := 3, ground := Ground.data }, { on := 4, ground := Ground.data }, { on := 5, ground := Ground.data }, { on := 6, ground := Ground.data }, { on := 7, ground := Ground.data }], guard := none }) rfl (fun K hK => ?_) AllReadyH.nil
  go_simp
  (go_at_call 30; refine (HC.out _ HX.out.ph (HT.out _ HX.out.trn)).mono ?_; rintro e w3 ⟨rfl, hp, hT⟩; replace HX := hidW (HX.out.turn hp hT (fun x hx => .inr (.inl hx))); clear hp hT HC; have c1 := HX.out.bn.cell; have f1 := HX.out.bn.frozen; have l1 := HX.out.bn.lt; go_wp2_with fail)
  refine hK.out _ _ ?_ (fun hHeld => ?_)
  · ((try dsimp only); with_reducible exact HX.out.held)
  clear hK K
  try simp only [Act.put, List.setIfInBounds_toArray, List.set_cons_zero, List.set_cons_succ]
  refine wpAnyH_take (i := 9) (oi := { dst := some 21, op := Op.move (Operand.tmp 30), type := 45, pos := _, after := #[{ on := 8, ground := Ground.data }], guard := none }) (v := ?_) rfl (by kernel_rfl) (by kernel_rfl) (by kernel_rfl) (fun _ _ _ h => h) (Or.inl ⟨by rfl, ?_⟩) (by assumption) ?_
  rotate_left
  · (intro w hSw; (try dsimp only at hSw); go_simp; try with_reducible rfl)
  simp only [Act.put, List.setIfInBounds_toArray, List.set_cons_zero, List.set_cons_succ]
  refine wpAnyH_take (i := 10) (oi := { dst := some 31, op := Op.extract (Operand.tmp 21) 0, type := 38, pos := _, after := #[{ on := 9, ground := Ground.data }], guard := none }) (v := ?_) rfl (by kernel_rfl) (by kernel_rfl) (by kernel_rfl) (fun _ _ _ h => h) (Or.inl ⟨by rfl, ?_⟩) (by assumption) ?_
  rotate_left
  · (intro w hSw; (try dsimp only at hSw); go_simp; try with_reducible rfl)
  simp only [Act.put, List.setIfInBounds_toArray, List.set_cons_zero, List.set_cons_succ]
  refine wpAnyH_take (i := 11) (oi := { dst := some 32, op := Op.extract (Operand.tmp 21) 1, type := 3, pos := _, after := #[{ on := 9, ground := Ground.data }, { on := 12, ground := Ground.gcOnly Departure.lateStores }], guard := none }) (v := ?_) rfl (by kernel_rfl) (by kernel_rfl) (by kernel_rfl) (fun _ _ _ h => h) (Or.inl ⟨by rfl, ?_⟩) (by assumption) ?_
  rotate_left
  · (intro w hSw; (try dsimp only at hSw); go_simp; try with_reducible rfl)
  simp only [Act.put, List.setIfInBounds_toArray, List.set_cons_zero, List.set_cons_succ]
  refine wpAnyH_ready (rs := [12]) (by kernel_rfl) (by simp) ?_
  refine AllReadyH.cons (o := { dst := none, op := Op.store 38 (Operand.tmp 15) (Operand.tmp 31), type := 0, pos := _, after := #[{ on := 10, ground := Ground.data }, { on := 8, ground := Ground.chain }, { on := 0, ground := Ground.phase }, { on := 1, ground := Ground.phase }, { on := 2, ground := Ground.phase }, { on := 3, ground := Ground.phase }, { on := 4, ground := Ground.phase }, { on := 5, ground := Ground.phase }, { on := 6, ground := Ground.phase }, { on := 7, ground := Ground.phase }, { on := 8, ground := Ground.phase }, { on := 9, ground := Ground.phase }, { on := 10, ground := Ground.phase }, { on := 11, ground := Ground.textOnly Departure.lateStores }], guard := none }) rfl (fun K hK => ?_) AllReadyH.nil
  go_simp
  skip
  refine hK.out _ _ ?_ (fun hHeld => ?_)
  · ((try dsimp only); with_reducible exact (HX.out.put eb).held)
  clear hK K
  try simp only [Act.put, List.setIfInBounds_toArray, List.set_cons_zero, List.set_cons_succ]
  refine wpAnyH_take (i := 13) (oi := { dst := some 16, op := Op.assign (Operand.tmp 32), type := 3, pos := _, after := #[{ on := 11, ground := Ground.data }, { on := 12, ground := Ground.chain }, { on := 0, ground := Ground.phase }, { on := 1, ground := Ground.phase }, { on := 2, ground := Ground.phase }, { on := 3, ground := Ground.phase }, { on := 4, ground := Ground.phase }, { on := 5, ground := Ground.phase }, { on := 6, ground := Ground.phase }, { on := 7, ground := Ground.phase }, { on := 8, ground := Ground.phase }, { on := 9, ground := Ground.phase }, { on := 10, ground := Ground.phase }, { on := 11, ground := Ground.phase }, { on := 12, ground := Ground.phase }], guard := none }) (v := ?_) rfl (by kernel_rfl) (by kernel_rfl) (by kernel_rfl) (fun _ _ _ h => h) (Or.inl ⟨by rfl, ?_⟩) (by assumption) ?_
  rotate_left
  · (intro w hSw; (try dsimp only at hSw); go_simp; try with_reducible rfl)
  simp only [Act.put, List.setIfInBounds_toArray, List.set_cons_zero, List.set_cons_succ]
  refine wpAnyH_done (by kernel_rfl) ?_ _
  replace HX := hidW (HX.out.put eb)
  clear hHeld
  generalize World.setCell _ _ _ = w4 at *
  have r1 := HX.out.br.cell
  have r2 := HX.out.br.frozen
  have r3 := HX.out.br.lt
  have c2 := HX.out.bn.cell
  by_cases h3 : 2 < en
  · have h4 : ((min en 2 : Nat) : Int) = 2 := by omega
    have h4 := hidW h4
    have h5 : (2 : Int) < (en : Int) := by omega
    go_wp2
    refine bodyPost_ret (v := .tuple #[.agg #[.int .i64 eb.asid, .int .i64 eb.t.size, .int .u32 eb.t.va, .int .u64 eb.t.pa, .int .i64 eb.t.dom, .int .i64 eb.t.ap, .int .u32 eb.t.bits, .bool eb.t.ng, .bool eb.t.xn], .int .i64 2]) (by simp [results, Tryd.results12, go_sem, r1, r2, r3]) rfl ⟨by first | rfl | rw [h4.out], ?_⟩
    exact HX.out.ends eb
  · have h4 : ((min en 2 : Nat) : Int) = en := by omega
    have h4 := hidW h4
    have h5 : ¬ (2 : Int) < (en : Int) := by omega
    go_wp2
    refine bodyPost_ret (v := .tuple #[.agg #[.int .i64 eb.asid, .int .i64 eb.t.size, .int .u32 eb.t.va, .int .u64 eb.t.pa, .int .i64 eb.t.dom, .int .i64 eb.t.ap, .int .u32 eb.t.bits, .bool eb.t.ng, .bool eb.t.xn], .int .i64 en]) (by simp [results, Tryd.results12, go_sem, r1, r2, r3]) rfl ⟨by first | rfl | rw [h4.out], ?_⟩
    exact HX.out.ends eb
set_option maxRecDepth 100000 in
set_option maxHeartbeats 8000000 in
theorem hfind_false_false (W : World) (A : Ad) (X : Hi) (va asid pick : Int) (h : PH 73 95 [] W A X) (ht : TR W) (hv : 0 ≤ va ∧ va < 4294967296) :
    Calls Tryd.prog 12 #[.pointer (some ⟨A.h, 0, none⟩), .int .u32 va, .int .i64 asid, .bool false, .int .i64 pick, .bool false] W fun e w' => e = .returned (.tuple #[.agg #[.int .i64 ((sfF X.d X.m va asid pick).1.1).asid, .int .i64 ((sfF X.d X.m va asid pick).1.1).t.size, .int .u32 ((sfF X.d X.m va asid pick).1.1).t.va, .int .u64 ((sfF X.d X.m va asid pick).1.1).t.pa, .int .i64 ((sfF X.d X.m va asid pick).1.1).t.dom, .int .i64 ((sfF X.d X.m va asid pick).1.1).t.ap, .int .u32 ((sfF X.d X.m va asid pick).1.1).t.bits, .bool ((sfF X.d X.m va asid pick).1.1).t.ng, .bool ((sfF X.d X.m va asid pick).1.1).t.xn], .int .i64 ((min (sfF X.d X.m va asid pick).1.2 2 : Nat) : Int)]) ∧ PH 73 95 [] w' A ⟨X.i, (sfF X.d X.m va asid pick).2, X.m⟩ ∧ Turn A.S W w' := by
  have hle := sfF_le (Ls := X.d) (Lm := X.m) (by exact h.td.hi) h.tm.hi va asid pick
  have HT : Hid (∀ w, Turn A.S W w → TR w) := hidW (fun w k => h.tr ht k)
  have HS : Hid (∀ w, PH 73 95 [] w A X → Calls Tryd.prog 29 #[.pointer (some ⟨A.h, 0, none⟩), .bool false] w fun e w' => e = .returned (.agg #[.pointer (some ⟨A.pd, 0, none⟩)]) ∧ Below w.heap.size w w') := fun w k => hsmall_any w A X false k
  have HC : Hid (∀ w, PH 73 95 [] w A X → TR w → Calls Tryd.prog 31 #[.agg #[.pointer (some ⟨A.pd, 0, none⟩)], .agg #[.pointer (some ⟨A.pm, 0, none⟩)], .int .u32 va, .int .i64 asid, .int .i64 pick] w fun e w' => e = .returned (.tuple #[.agg #[.int .i64 ((sfF X.d X.m va asid pick).1.1).asid, .int .i64 ((sfF X.d X.m va asid pick).1.1).t.size, .int .u32 ((sfF X.d X.m va asid pick).1.1).t.va, .int .u64 ((sfF X.d X.m va asid pick).1.1).t.pa, .int .i64 ((sfF X.d X.m va asid pick).1.1).t.dom, .int .i64 ((sfF X.d X.m va asid pick).1.1).t.ap, .int .u32 ((sfF X.d X.m va asid pick).1.1).t.bits, .bool ((sfF X.d X.m va asid pick).1.1).t.ng, .bool ((sfF X.d X.m va asid pick).1.1).t.xn], .int .i64 ((sfF X.d X.m va asid pick).1.2 : Nat)]) ∧ PH 73 95 [] w' A ⟨X.i, (sfF X.d X.m va asid pick).2, X.m⟩ ∧ Turn (· = A.gd) w w') := fun w k k2 => (sfind_any w _ _ _ _ X.d X.m va asid pick k.td k.tm k.n3 k2 hv).mono fun e w' q => ⟨q.1, k.setD q.2.1 q.2.2, q.2.2⟩
  have HP := hidW h
  have HSt : Hid (∀ w, Below (W.alloc (.cells ([.int .i64 0, .int .i64 0, .int .u32 0, .int .u64 0, .int .i64 0, .int .i64 0, .int .u32 0, .bool false, .bool false]).toArray 38)).heap.size (W.alloc (.cells ([.int .i64 0, .int .i64 0, .int .u32 0, .int .u64 0, .int .i64 0, .int .i64 0, .int .u32 0, .bool false, .bool false]).toArray 38)) w → HF W ((w.alloc (.cells #[.pointer (some ⟨A.pd, 0, none⟩)] 70)).alloc (.cells ([.int .i64 0, .int .i64 0, .int .u32 0, .int .u64 0, .int .i64 0, .int .i64 0, .int .u32 0, .bool false, .bool false]).toArray 38)) A X W.heap.size w.heap.size (w.heap.size + 1) A.pd bZ) := hidW (fun w k => HF.start h rfl k _)
  clear ht h
  generalize (sfF X.d X.m va asid pick) = E at *
  obtain ⟨⟨eb, en⟩, el⟩ := E
  dsimp only at *
  go_enter Tryd.func12, Tryd.ntmps12
  go_wp2_with (fail)
  go_at_call 29
  refine (HS.out _ (HP.out.below (below_new _ _))).mono ?_
  rintro e w1 ⟨rfl, hb⟩
  have HX := hidW (HSt.out _ hb)
  clear HSt hb HP HS
  generalize hA : W.heap.size = B0 at HX ⊢
  clear hA
  go_wp2
  generalize World.alloc _ _ = w2 at *
  generalize w1.heap.size + 1 = B2 at *
  generalize w1.heap.size = B1 at *
  replace HX := hidW HX.out.drew
  refine wp_region_held_drew (S := fun w' => w'.cell? ⟨A.h, 2, none⟩ = some (.pointer (some ⟨A.pm, 0, none⟩)) ∧ w'.cell? ⟨B1, 0, none⟩ = some (.pointer (some ⟨A.pd, 0, none⟩))) (by kernel_rfl) HX.out.held (fun hHeld => ?_)
  refine wpAnyH_take (i := 0) (oi := { dst := some 34, op := Op.load 70 (Operand.tmp 14), type := 70, pos := _, after := #[], guard := none }) (v := ?_) rfl (by kernel_rfl) (by kernel_rfl) (by kernel_rfl) (fun _ _ _ h => h) (Or.inl ⟨by rfl, ?_⟩) (by assumption) ?_
  rotate_left
  · (intro w hSw; (try dsimp only at hSw); go_simp; try with_reducible rfl)
  simp only [Act.put, List.setIfInBounds_toArray, List.set_cons_zero, List.set_cons_succ]
  refine wpAnyH_take (i := 1) (oi := { dst := some 35, op := Op.move (Operand.tmp 0), type := 25, pos := _, after := #[], guard := none }) (v := ?_) rfl (by kernel_rfl) (by kernel_rfl) (by kernel_rfl) (fun _ _ _ h => h) (Or.inl ⟨by rfl, ?_⟩) (by assumption) ?_
  rotate_left
  · (intro w hSw; (try dsimp only at hSw); go_simp; try with_reducible rfl)
  simp only [Act.put, List.setIfInBounds_toArray, List.set_cons_zero, List.set_cons_succ]
  refine wpAnyH_take (i := 2) (oi := { dst := some 36, op := Op.nilCheck (Operand.tmp 35), type := 0, pos := _, after := #[{ on := 1, ground := Ground.data }], guard := none }) (v := ?_) rfl (by kernel_rfl) (by kernel_rfl) (by kernel_rfl) (fun _ _ _ h => h) (Or.inl ⟨by rfl, ?_⟩) (by assumption) ?_
  rotate_left
  · (intro w hSw; (try dsimp only at hSw); go_simp; try with_reducible rfl)
  simp only [Act.put, List.setIfInBounds_toArray, List.set_cons_zero, List.set_cons_succ]
  refine wpAnyH_take (i := 3) (oi := { dst := some 37, op := Op.fieldAddr 73 (Operand.tmp 36) 2, type := 0, pos := _, after := #[{ on := 2, ground := Ground.data }], guard := none }) (v := ?_) rfl (by kernel_rfl) (by kernel_rfl) (by kernel_rfl) (fun _ _ _ h => h) (Or.inl ⟨by rfl, ?_⟩) (by assumption) ?_
  rotate_left
  · (intro w hSw; (try dsimp only at hSw); go_simp; try with_reducible rfl)
  simp only [Act.put, List.setIfInBounds_toArray, List.set_cons_zero, List.set_cons_succ]
  refine wpAnyH_take (i := 4) (oi := { dst := some 38, op := Op.load 71 (Operand.tmp 37), type := 71, pos := _, after := #[{ on := 3, ground := Ground.data }], guard := none }) (v := ?_) rfl (by kernel_rfl) (by kernel_rfl) (by kernel_rfl) (fun _ _ _ h => h) (Or.inl ⟨by rfl, ?_⟩) (by assumption) ?_
  rotate_left
  · (intro w hSw; (try dsimp only at hSw); go_simp; try with_reducible rfl)
  simp only [Act.put, List.setIfInBounds_toArray, List.set_cons_zero, List.set_cons_succ]
  refine wpAnyH_take (i := 5) (oi := { dst := some 39, op := Op.move (Operand.tmp 1), type := 31, pos := _, after := #[], guard := none }) (v := ?_) rfl (by kernel_rfl) (by kernel_rfl) (by kernel_rfl) (fun _ _ _ h => h) (Or.inl ⟨by rfl, ?_⟩) (by assumption) ?_
  rotate_left
  · (intro w hSw; (try dsimp only at hSw); go_simp; try with_reducible rfl)
  simp only [Act.put, List.setIfInBounds_toArray, List.set_cons_zero, List.set_cons_succ]
  refine wpAnyH_take (i := 6) (oi := { dst := some 40, op := Op.move (Operand.tmp 2), type := 3, pos := _, after := #[], guard := none }) (v := ?_) rfl (by kernel_rfl) (by kernel_rfl) (by kernel_rfl) (fun _ _ _ h => h) (Or.inl ⟨by rfl, ?_⟩) (by assumption) ?_
  rotate_left
  · (intro w hSw; (try dsimp only at hSw); go_simp; try with_reducible rfl)
  simp only [Act.put, List.setIfInBounds_toArray, List.set_cons_zero, List.set_cons_succ]
  refine wpAnyH_take (i := 7) (oi := { dst := some 41, op := Op.move (Operand.tmp 4), type := 3, pos := _, after := #[], guard := none }) (v := ?_) rfl (by kernel_rfl) (by kernel_rfl) (by kernel_rfl) (fun _ _ _ h => h) (Or.inl ⟨by rfl, ?_⟩) (by assumption) ?_
  rotate_left
  · (intro w hSw; (try dsimp only at hSw); go_simp; try with_reducible rfl)
  simp only [Act.put, List.setIfInBounds_toArray, List.set_cons_zero, List.set_cons_succ]
  refine wpAnyH_ready (rs := [8]) (by kernel_rfl) (by simp) ?_
  refine AllReadyH.cons (o := { dst := some 42, op := Op.call { callee := Callee.value (Operand.func 31), args := #[Operand.tmp 34, Operand.tmp 38, Operand.tmp 39, Operand.tmp 40, Operand.tmp 41], argTypes := #[70, 71, 31, 3, 3] }, type := 45, pos := _, after := #[{ on := 0, ground := Ground.data }, { on := 4, ground := Ground.data }, { on := 5, ground := Ground.data }, { on := 6, ground := Ground.data }, { on := 7, ground := Ground.data }], guard := none }) rfl (fun K hK => ?_) AllReadyH.nil
  go_simp
  (go_at_call 31; refine (HC.out _ HX.out.ph (HT.out _ HX.out.trn)).mono ?_; rintro e w3 ⟨rfl, hp, hT⟩; replace HX := hidW (HX.out.turn hp hT (fun x hx => .inr (.inl hx))); clear hp hT HC; have c1 := HX.out.bn.cell; have f1 := HX.out.bn.frozen; have l1 := HX.out.bn.lt; go_wp2_with fail)
  refine hK.out _ _ ?_ (fun hHeld => ?_)
  · ((try dsimp only); with_reducible exact HX.out.held)
  clear hK K
  try simp only [Act.put, List.setIfInBounds_toArray, List.set_cons_zero, List.set_cons_succ]
  refine wpAnyH_take (i := 9) (oi := { dst := some 33, op := Op.move (Operand.tmp 42), type := 45, pos := _, after := #[{ on := 8, ground := Ground.data }], guard := none }) (v := ?_) rfl (by kernel_rfl) (by kernel_rfl) (by kernel_rfl) (fun _ _ _ h => h) (Or.inl ⟨by rfl, ?_⟩) (by assumption) ?_
  rotate_left
  · (intro w hSw; (try dsimp only at hSw); go_simp; try with_reducible rfl)
  simp only [Act.put, List.setIfInBounds_toArray, List.set_cons_zero, List.set_cons_succ]
  refine wpAnyH_take (i := 10) (oi := { dst := some 43, op := Op.extract (Operand.tmp 33) 0, type := 38, pos := _, after := #[{ on := 9, ground := Ground.data }], guard := none }) (v := ?_) rfl (by kernel_rfl) (by kernel_rfl) (by kernel_rfl) (fun _ _ _ h => h) (Or.inl ⟨by rfl, ?_⟩) (by assumption) ?_
  rotate_left
  · (intro w hSw; (try dsimp only at hSw); go_simp; try with_reducible rfl)
  simp only [Act.put, List.setIfInBounds_toArray, List.set_cons_zero, List.set_cons_succ]
  refine wpAnyH_take (i := 11) (oi := { dst := some 44, op := Op.extract (Operand.tmp 33) 1, type := 3, pos := _, after := #[{ on := 9, ground := Ground.data }, { on := 12, ground := Ground.gcOnly Departure.lateStores }], guard := none }) (v := ?_) rfl (by kernel_rfl) (by kernel_rfl) (by kernel_rfl) (fun _ _ _ h => h) (Or.inl ⟨by rfl, ?_⟩) (by assumption) ?_
  rotate_left
  · (intro w hSw; (try dsimp only at hSw); go_simp; try with_reducible rfl)
  simp only [Act.put, List.setIfInBounds_toArray, List.set_cons_zero, List.set_cons_succ]
  refine wpAnyH_ready (rs := [12]) (by kernel_rfl) (by simp) ?_
  refine AllReadyH.cons (o := { dst := none, op := Op.store 38 (Operand.tmp 15) (Operand.tmp 43), type := 0, pos := _, after := #[{ on := 10, ground := Ground.data }, { on := 8, ground := Ground.chain }, { on := 0, ground := Ground.phase }, { on := 1, ground := Ground.phase }, { on := 2, ground := Ground.phase }, { on := 3, ground := Ground.phase }, { on := 4, ground := Ground.phase }, { on := 5, ground := Ground.phase }, { on := 6, ground := Ground.phase }, { on := 7, ground := Ground.phase }, { on := 8, ground := Ground.phase }, { on := 9, ground := Ground.phase }, { on := 10, ground := Ground.phase }, { on := 11, ground := Ground.textOnly Departure.lateStores }], guard := none }) rfl (fun K hK => ?_) AllReadyH.nil
  go_simp
  skip
  refine hK.out _ _ ?_ (fun hHeld => ?_)
  · ((try dsimp only); with_reducible exact (HX.out.put eb).held)
  clear hK K
  try simp only [Act.put, List.setIfInBounds_toArray, List.set_cons_zero, List.set_cons_succ]
  refine wpAnyH_take (i := 13) (oi := { dst := some 16, op := Op.assign (Operand.tmp 44), type := 3, pos := _, after := #[{ on := 11, ground := Ground.data }, { on := 12, ground := Ground.chain }, { on := 0, ground := Ground.phase }, { on := 1, ground := Ground.phase }, { on := 2, ground := Ground.phase }, { on := 3, ground := Ground.phase }, { on := 4, ground := Ground.phase }, { on := 5, ground := Ground.phase }, { on := 6, ground := Ground.phase }, { on := 7, ground := Ground.phase }, { on := 8, ground := Ground.phase }, { on := 9, ground := Ground.phase }, { on := 10, ground := Ground.phase }, { on := 11, ground := Ground.phase }, { on := 12, ground := Ground.phase }], guard := none }) (v := ?_) rfl (by kernel_rfl) (by kernel_rfl) (by kernel_rfl) (fun _ _ _ h => h) (Or.inl ⟨by rfl, ?_⟩) (by assumption) ?_
  rotate_left
  · (intro w hSw; (try dsimp only at hSw); go_simp; try with_reducible rfl)
  simp only [Act.put, List.setIfInBounds_toArray, List.set_cons_zero, List.set_cons_succ]
  refine wpAnyH_done (by kernel_rfl) ?_ _
  replace HX := hidW (HX.out.put eb)
  clear hHeld
  generalize World.setCell _ _ _ = w4 at *
  have r1 := HX.out.br.cell
  have r2 := HX.out.br.frozen
  have r3 := HX.out.br.lt
  have c2 := HX.out.bn.cell
  by_cases h3 : 2 < en
  · have h4 : ((min en 2 : Nat) : Int) = 2 := by omega
    have h4 := hidW h4
    have h5 : (2 : Int) < (en : Int) := by omega
    go_wp2
    refine bodyPost_ret (v := .tuple #[.agg #[.int .i64 eb.asid, .int .i64 eb.t.size, .int .u32 eb.t.va, .int .u64 eb.t.pa, .int .i64 eb.t.dom, .int .i64 eb.t.ap, .int .u32 eb.t.bits, .bool eb.t.ng, .bool eb.t.xn], .int .i64 2]) (by simp [results, Tryd.results12, go_sem, r1, r2, r3]) rfl ⟨by first | rfl | rw [h4.out], ?_⟩
    exact HX.out.ends eb
  · have h4 : ((min en 2 : Nat) : Int) = en := by omega
    have h4 := hidW h4
    have h5 : ¬ (2 : Int) < (en : Int) := by omega
    go_wp2
    refine bodyPost_ret (v := .tuple #[.agg #[.int .i64 eb.asid, .int .i64 eb.t.size, .int .u32 eb.t.va, .int .u64 eb.t.pa, .int .i64 eb.t.dom, .int .i64 eb.t.ap, .int .u32 eb.t.bits, .bool eb.t.ng, .bool eb.t.xn], .int .i64 en]) (by simp [results, Tryd.results12, go_sem, r1, r2, r3]) rfl ⟨by first | rfl | rw [h4.out], ?_⟩
    exact HX.out.ends eb
theorem hfind_any (W : World) (A : Ad) (X : Hi) (va asid : Int) (f : Bool) (pick : Int) (mf : Bool) (h : PH 73 95 [] W A X) (ht : TR W) (hv : 0 ≤ va ∧ va < 4294967296) :
    Calls Tryd.prog 12 #[.pointer (some ⟨A.h, 0, none⟩), .int .u32 va, .int .i64 asid, .bool f, .int .i64 pick, .bool mf] W fun e w' => e = .returned (.tuple #[.agg #[.int .i64 ((fiF X va asid f pick mf).1.1).asid, .int .i64 ((fiF X va asid f pick mf).1.1).t.size, .int .u32 ((fiF X va asid f pick mf).1.1).t.va, .int .u64 ((fiF X va asid f pick mf).1.1).t.pa, .int .i64 ((fiF X va asid f pick mf).1.1).t.dom, .int .i64 ((fiF X va asid f pick mf).1.1).t.ap, .int .u32 ((fiF X va asid f pick mf).1.1).t.bits, .bool ((fiF X va asid f pick mf).1.1).t.ng, .bool ((fiF X va asid f pick mf).1.1).t.xn], .int .i64 (((fiF X va asid f pick mf).1.2 : Nat) : Int)]) ∧ PH 73 95 [] w' A (fiF X va asid f pick mf).2 ∧ Turn A.S W w' := by
  cases mf
  · rw [fi_s]
    cases f
    · exact hfind_false_false W A X va asid pick h ht hv
    · exact hfind_true_false W A X va asid pick h ht hv
  · rw [fi_l]
    cases f
    · exact hfind_false_true W A X va asid pick h ht hv
    · exact hfind_true_true W A X va asid pick h ht hv
end Go.Proofs.YtbbnodhpafiplaaDoor
