import Derived.Test.YtbbnodhpafiplaaDoorHd
namespace Go.Proofs.YtbbnodhpafiplaaDoor
open Go.RowKit
set_option linter.unusedVariables false
set_option linter.unusedSimpArgs false
theorem field_sml (p : Option Addr) (w : World) : (Instr.field 70 (.agg #[.pointer p]) 0).run Tryd.prog w = .ok (.pointer p) w := by
  have h := Tryd.underlying70
  simp [Instr.field, run_underlying h, go_sem]
  rfl
theorem flF_le {L : List Slo} (h : L.length ≤ 64) (d : Dro) : (flF L d).1 ≤ 64 := Nat.le_trans List.countP_le_length h
/-- Three TLBs, a box of another kind. -/
structure KF (TH T : TypeId) (z : List Value) (W wr : World) (A : Ad) (X : Hi) (B : Nat) (t : TypeId) (c : List Value) : Prop where
  trn : Turn A.S W wr
  ph : PH TH T z wr A X
  bb : Bl wr B t c
  nt : t ≠ 57
section
variable {TH T : TypeId} {z : List Value} {W wr w' : World} {A : Ad} {X Y : Hi} {B : Nat} {t : TypeId} {c : List Value} {S : Nat → Prop}
theorem KF.step (h : KF TH T z W wr A X B t c) (hb : Below wr.heap.size wr w') : KF TH T z W w' A X B t c := ⟨h.trn.then (Turn.below hb), h.ph.below hb, h.bb.below hb, h.nt⟩
theorem KF.drew (h : KF TH T z W wr A X B t c) : KF TH T z W wr.drew A X B t c := h.step (below_drew (Below.refl _ _))
theorem KF.turn (h : KF TH T z W wr A X B t c) (hp : PH TH T z w' A Y) (hT : Turn S wr w') (hS : ∀ x, S x → A.S x) : KF TH T z W w' A Y B t c :=
  ⟨h.trn.trans hT (fun x hx => .inl (hS x hx)), hp, h.bb.turn hT (fun hs => by obtain ⟨c, hc⟩ := h.ph.row _ (hS _ hs); exact h.bb.ne hc h.nt rfl), h.nt⟩
theorem KF.start (h : PH TH T z W A X) (t : TypeId) (c : List Value) (hn : t ≠ 57) : KF TH T z W (W.alloc (.cells c.toArray t)) A X W.heap.size t c := ⟨Turn.below (below_new _ _), h.below (below_new _ _), Bl.new _ _ _, hn⟩
end
theorem KF.heldB {W wr : World} {A : Ad} {X : Hi} {B : Nat} {b : Blo} (h : KF 73 95 [] W wr A X B 38 ([.int .i64 b.asid, .int .i64 b.t.size, .int .u32 b.t.va, .int .u64 b.t.pa, .int .i64 b.t.dom, .int .i64 b.t.ap, .int .u32 b.t.bits, .bool b.t.ng, .bool b.t.xn])) : wr.cell? ⟨A.h, 2, none⟩ = some (.pointer (some ⟨A.pm, 0, none⟩)) ∧ wr.cell? ⟨B, 0, none⟩ = some (.int .i64 b.asid) ∧ wr.cell? ⟨B, 1, none⟩ = some (.int .i64 b.t.size) ∧ wr.cell? ⟨B, 2, none⟩ = some (.int .u32 b.t.va) ∧ wr.cell? ⟨B, 3, none⟩ = some (.int .u64 b.t.pa) ∧ wr.cell? ⟨B, 4, none⟩ = some (.int .i64 b.t.dom) ∧ wr.cell? ⟨B, 5, none⟩ = some (.int .i64 b.t.ap) ∧ wr.cell? ⟨B, 6, none⟩ = some (.int .u32 b.t.bits) ∧ wr.cell? ⟨B, 7, none⟩ = some (.bool b.t.ng) ∧ wr.cell? ⟨B, 8, none⟩ = some (.bool b.t.xn) := ⟨h.ph.box.cell 2, h.bb.cell 0, h.bb.cell 1, h.bb.cell 2, h.bb.cell 3, h.bb.cell 4, h.bb.cell 5, h.bb.cell 6, h.bb.cell 7, h.bb.cell 8⟩
theorem KF.heldD {W wr : World} {A : Ad} {X : Hi} {B : Nat} {d : Dro} (h : KF 73 95 [] W wr A X B 42 ([.int .i64 d.kind, .int .u32 d.va, .int .i64 d.asid])) : (wr.cell? ⟨A.h, 0, none⟩ = some (.pointer (some ⟨A.pi, 0, none⟩)) ∧ wr.cell? ⟨A.h, 1, none⟩ = some (.pointer (some ⟨A.pd, 0, none⟩)) ∧ wr.cell? ⟨A.h, 2, none⟩ = some (.pointer (some ⟨A.pm, 0, none⟩))) ∧ wr.cell? ⟨B, 0, none⟩ = some (.int .i64 d.kind) ∧ wr.cell? ⟨B, 1, none⟩ = some (.int .u32 d.va) ∧ wr.cell? ⟨B, 2, none⟩ = some (.int .i64 d.asid) := ⟨⟨h.ph.box.cell 0, h.ph.box.cell 1, h.ph.box.cell 2⟩, h.bb.cell 0, h.bb.cell 1, h.bb.cell 2⟩
set_option maxRecDepth 100000 in
set_option maxHeartbeats 8000000 in
theorem hkeep_true (W : World) (A : Ad) (X : Hi) (b : Blo) (va asid pick : Int) (h : PH 73 95 [] W A X) (ht : TR W) (hb : BOk b) (hv : 0 ≤ va ∧ va < 4294967296) :
    Calls Tryd.prog 11 #[.pointer (some ⟨A.h, 0, none⟩), .agg #[.int .i64 b.asid, .int .i64 b.t.size, .int .u32 b.t.va, .int .u64 b.t.pa, .int .i64 b.t.dom, .int .i64 b.t.ap, .int .u32 b.t.bits, .bool b.t.ng, .bool b.t.xn], .int .u32 va, .int .i64 asid, .bool true, .int .i64 pick] W fun e w' => e = .returned (.int .i64 (keF X b va asid true pick).1) ∧ PH 73 95 [] w' A (keF X b va asid true pick).2 ∧ Turn A.S W w' := by
  have HT : Hid (∀ w, Turn A.S W w → TR w) := hidW (fun w k => h.tr ht k)
  have HO : Hid (∀ w, TR w → Calls Tryd.prog 14 #[.agg #[.int .i64 b.asid, .int .i64 b.t.size, .int .u32 b.t.va, .int .u64 b.t.pa, .int .i64 b.t.dom, .int .i64 b.t.ap, .int .u32 b.t.bits, .bool b.t.ng, .bool b.t.xn], .int .u32 va, .int .i64 asid] w fun e w' => e = .returned (.bool (ovF b va asid)) ∧ Below w.heap.size w w') := fun w k => over_any b va asid w k hb hv
  have HX := hidW (KF.start h 38 ([.int .i64 b.asid, .int .i64 b.t.size, .int .u32 b.t.va, .int .u64 b.t.pa, .int .i64 b.t.dom, .int .i64 b.t.ap, .int .u32 b.t.bits, .bool b.t.ng, .bool b.t.xn]) (by decide))
  cases ho : ovF b va asid
  · have he : keF X b va asid true pick = (101, X) := by simp [keF, ho]
    rw [he]
    rw [ho] at HO
    clear h ht ho he
    go_enter Tryd.func11, Tryd.ntmps11
    go_wp2_with (fail)
    go_at_call 14
    refine (HO.out _ (HT.out _ HX.out.trn)).mono ?_
    rintro e w1 ⟨rfl, hb1⟩
    replace HX := hidW (HX.out.step hb1)
    clear hb1 HO
    go_wp2
    go_ret
    exact ⟨rfl, HX.out.ph, HX.out.trn⟩
  · have he : keF X b va asid true pick = (0, (⟨filF X.i b va asid pick, X.d, filF X.m b va asid pick⟩ : Hi)) := by simp [keF, ho, Hi.setS, Hi.sm]
    rw [he]
    rw [ho] at HO
    have HS : Hid (∀ w Y, PH 73 95 [] w A Y → Calls Tryd.prog 29 #[.pointer (some ⟨A.h, 0, none⟩), .bool true] w fun e w' => e = .returned (.agg #[.pointer (some ⟨A.pi, 0, none⟩)]) ∧ Below w.heap.size w w') := fun w Y k => hsmall_any w A Y true k
    have HM : Hid (∀ w, PH 73 95 [] w A X → TR w → Calls Tryd.prog 28 #[.pointer (some ⟨A.pm, 0, none⟩), .agg #[.int .i64 b.asid, .int .i64 b.t.size, .int .u32 b.t.va, .int .u64 b.t.pa, .int .i64 b.t.dom, .int .i64 b.t.ap, .int .u32 b.t.bits, .bool b.t.ng, .bool b.t.xn], .int .u32 va, .int .i64 asid, .int .i64 pick] w fun e w' => e = .returned (.tuple #[]) ∧ PH 73 95 [] w' A ⟨X.i, X.d, filF X.m b va asid pick⟩ ∧ Turn (· = A.gm) w w') := fun w k k2 => (fill_any w _ _ X.m b va asid pick k.tm k2 hb hv).mono fun e w' q => ⟨q.1, k.setM q.2.1 q.2.2, q.2.2⟩
    have HC : Hid (∀ w, PH 73 95 [] w A ⟨X.i, X.d, filF X.m b va asid pick⟩ → TR w → Calls Tryd.prog 28 #[.pointer (some ⟨A.pi, 0, none⟩), .agg #[.int .i64 b.asid, .int .i64 b.t.size, .int .u32 b.t.va, .int .u64 b.t.pa, .int .i64 b.t.dom, .int .i64 b.t.ap, .int .u32 b.t.bits, .bool b.t.ng, .bool b.t.xn], .int .u32 va, .int .i64 asid, .int .i64 pick] w fun e w' => e = .returned (.tuple #[]) ∧ PH 73 95 [] w' A ⟨filF X.i b va asid pick, X.d, filF X.m b va asid pick⟩ ∧ Turn (· = A.gi) w w') := fun w k k2 => (fill_any w _ _ X.i b va asid pick k.ti k2 hb hv).mono fun e w' q => ⟨q.1, k.setI q.2.1 q.2.2, q.2.2⟩
    clear h ht ho he
    go_enter Tryd.func11, Tryd.ntmps11
    go_wp2_with (fail)
    go_at_call 14
    refine (HO.out _ (HT.out _ HX.out.trn)).mono ?_
    rintro e w1 ⟨rfl, hb1⟩
    replace HX := hidW (HX.out.step hb1)
    clear hb1 HO
    generalize hB : W.heap.size = B at HX ⊢
    clear hB
    go_wp2
    replace HX := hidW HX.out.drew
    refine wp_region_held_drew (S := fun w' => w'.cell? ⟨A.h, 2, none⟩ = some (.pointer (some ⟨A.pm, 0, none⟩)) ∧ w'.cell? ⟨B, 0, none⟩ = some (.int .i64 b.asid) ∧ w'.cell? ⟨B, 1, none⟩ = some (.int .i64 b.t.size) ∧ w'.cell? ⟨B, 2, none⟩ = some (.int .u32 b.t.va) ∧ w'.cell? ⟨B, 3, none⟩ = some (.int .u64 b.t.pa) ∧ w'.cell? ⟨B, 4, none⟩ = some (.int .i64 b.t.dom) ∧ w'.cell? ⟨B, 5, none⟩ = some (.int .i64 b.t.ap) ∧ w'.cell? ⟨B, 6, none⟩ = some (.int .u32 b.t.bits) ∧ w'.cell? ⟨B, 7, none⟩ = some (.bool b.t.ng) ∧ w'.cell? ⟨B, 8, none⟩ = some (.bool b.t.xn)) (by kernel_rfl) HX.out.heldB (fun hHeld => ?_)
    refine wpAnyH_take (i := 0) (oi := { dst := some 18, op := Op.move (Operand.tmp 0), type := 25, pos := _, after := #[], guard := none }) (v := ?_) rfl (by kernel_rfl) (by kernel_rfl) (by kernel_rfl) (fun _ _ _ h => h) (Or.inl ⟨by rfl, ?_⟩) (by assumption) ?_
    rotate_left
    · (intro w hSw; (try dsimp only at hSw); go_simp; try with_reducible rfl)
    simp only [Act.put, List.setIfInBounds_toArray, List.set_cons_zero, List.set_cons_succ]
    refine wpAnyH_take (i := 1) (oi := { dst := some 19, op := Op.nilCheck (Operand.tmp 18), type := 0, pos := _, after := #[{ on := 0, ground := Ground.data }], guard := none }) (v := ?_) rfl (by kernel_rfl) (by kernel_rfl) (by kernel_rfl) (fun _ _ _ h => h) (Or.inl ⟨by rfl, ?_⟩) (by assumption) ?_
    rotate_left
    · (intro w hSw; (try dsimp only at hSw); go_simp; try with_reducible rfl)
    simp only [Act.put, List.setIfInBounds_toArray, List.set_cons_zero, List.set_cons_succ]
    refine wpAnyH_take (i := 2) (oi := { dst := some 20, op := Op.fieldAddr 73 (Operand.tmp 19) 2, type := 0, pos := _, after := #[{ on := 1, ground := Ground.data }], guard := none }) (v := ?_) rfl (by kernel_rfl) (by kernel_rfl) (by kernel_rfl) (fun _ _ _ h => h) (Or.inl ⟨by rfl, ?_⟩) (by assumption) ?_
    rotate_left
    · (intro w hSw; (try dsimp only at hSw); go_simp; try with_reducible rfl)
    simp only [Act.put, List.setIfInBounds_toArray, List.set_cons_zero, List.set_cons_succ]
    refine wpAnyH_take (i := 3) (oi := { dst := some 21, op := Op.fieldAddr 71 (Operand.tmp 20) 0, type := 0, pos := _, after := #[{ on := 2, ground := Ground.data }], guard := none }) (v := ?_) rfl (by kernel_rfl) (by kernel_rfl) (by kernel_rfl) (fun _ _ _ h => h) (Or.inl ⟨by rfl, ?_⟩) (by assumption) ?_
    rotate_left
    · (intro w hSw; (try dsimp only at hSw); go_simp; try with_reducible rfl)
    simp only [Act.put, List.setIfInBounds_toArray, List.set_cons_zero, List.set_cons_succ]
    refine wpAnyH_take (i := 4) (oi := { dst := some 22, op := Op.load 66 (Operand.tmp 21), type := 66, pos := _, after := #[{ on := 3, ground := Ground.data }], guard := none }) (v := ?_) rfl (by kernel_rfl) (by kernel_rfl) (by kernel_rfl) (fun _ _ _ h => h) (Or.inl ⟨by rfl, ?_⟩) (by assumption) ?_
    rotate_left
    · (intro w hSw; (try dsimp only at hSw); go_simp; try with_reducible rfl)
    simp only [Act.put, List.setIfInBounds_toArray, List.set_cons_zero, List.set_cons_succ]
    refine wpAnyH_take (i := 5) (oi := { dst := some 23, op := Op.load 38 (Operand.tmp 7), type := 38, pos := _, after := #[], guard := none }) (v := ?_) rfl (by kernel_rfl) (by kernel_rfl) (by kernel_rfl) (fun _ _ _ h => h) (Or.inl ⟨by rfl, ?_⟩) (by assumption) ?_
    rotate_left
    · (intro w hSw; (try dsimp only at hSw); go_simp; try with_reducible rfl)
    simp only [Act.put, List.setIfInBounds_toArray, List.set_cons_zero, List.set_cons_succ]
    refine wpAnyH_take (i := 6) (oi := { dst := some 24, op := Op.move (Operand.tmp 2), type := 31, pos := _, after := #[], guard := none }) (v := ?_) rfl (by kernel_rfl) (by kernel_rfl) (by kernel_rfl) (fun _ _ _ h => h) (Or.inl ⟨by rfl, ?_⟩) (by assumption) ?_
    rotate_left
    · (intro w hSw; (try dsimp only at hSw); go_simp; try with_reducible rfl)
    simp only [Act.put, List.setIfInBounds_toArray, List.set_cons_zero, List.set_cons_succ]
    refine wpAnyH_take (i := 7) (oi := { dst := some 25, op := Op.move (Operand.tmp 3), type := 3, pos := _, after := #[], guard := none }) (v := ?_) rfl (by kernel_rfl) (by kernel_rfl) (by kernel_rfl) (fun _ _ _ h => h) (Or.inl ⟨by rfl, ?_⟩) (by assumption) ?_
    rotate_left
    · (intro w hSw; (try dsimp only at hSw); go_simp; try with_reducible rfl)
    simp only [Act.put, List.setIfInBounds_toArray, List.set_cons_zero, List.set_cons_succ]
    refine wpAnyH_take (i := 8) (oi := { dst := some 26, op := Op.move (Operand.tmp 5), type := 3, pos := _, after := #[], guard := none }) (v := ?_) rfl (by kernel_rfl) (by kernel_rfl) (by kernel_rfl) (fun _ _ _ h => h) (Or.inl ⟨by rfl, ?_⟩) (by assumption) ?_
    rotate_left
    · (intro w hSw; (try dsimp only at hSw); go_simp; try with_reducible rfl)
    simp only [Act.put, List.setIfInBounds_toArray, List.set_cons_zero, List.set_cons_succ]
    refine wpAnyH_ready (rs := [9]) (by kernel_rfl) (by simp) ?_
    refine AllReadyH.cons (o := { dst := some 27, op := Op.call { callee := Callee.value (Operand.func 28), args := #[Operand.tmp 22, Operand.tmp 23, Operand.tmp 24, Operand.tmp 25, Operand.tmp 26], argTypes := #[66, 38, 31, 3, 3] }, type := 0, pos := _, after := #[{ on := 4, ground := Ground.data }, { on := 5, ground := Ground.data }, { on := 6, ground := Ground.data }, { on := 7, ground := Ground.data }, { on := 8, ground := Ground.data }], guard := none }) rfl (fun K hK => ?_) AllReadyH.nil
    go_simp
    (go_at_call 28; refine (HM.out _ HX.out.ph (HT.out _ HX.out.trn)).mono ?_; rintro e w3 ⟨rfl, hp, hT⟩; replace HX := hidW (HX.out.turn hp hT (fun x hx => .inr (.inr hx))); clear hp hT HM; go_wp2_with fail)
    refine hK.out _ _ ?_ (fun hHeld => ?_)
    · ((try dsimp only); with_reducible exact HX.out.heldB)
    clear hK K
    try simp only [Act.put, List.setIfInBounds_toArray, List.set_cons_zero, List.set_cons_succ]
    refine wpAnyH_done (by kernel_rfl) ?_ _
    clear hHeld
    go_wp2
    have hfs := field_sml (some ⟨A.pi, 0, none⟩)
    replace HX := hidW HX.out.drew
    refine wp_region_held_drew (S := fun w' => w'.cell? ⟨A.h, 2, none⟩ = some (.pointer (some ⟨A.pm, 0, none⟩)) ∧ w'.cell? ⟨B, 0, none⟩ = some (.int .i64 b.asid) ∧ w'.cell? ⟨B, 1, none⟩ = some (.int .i64 b.t.size) ∧ w'.cell? ⟨B, 2, none⟩ = some (.int .u32 b.t.va) ∧ w'.cell? ⟨B, 3, none⟩ = some (.int .u64 b.t.pa) ∧ w'.cell? ⟨B, 4, none⟩ = some (.int .i64 b.t.dom) ∧ w'.cell? ⟨B, 5, none⟩ = some (.int .i64 b.t.ap) ∧ w'.cell? ⟨B, 6, none⟩ = some (.int .u32 b.t.bits) ∧ w'.cell? ⟨B, 7, none⟩ = some (.bool b.t.ng) ∧ w'.cell? ⟨B, 8, none⟩ = some (.bool b.t.xn)) (by kernel_rfl) HX.out.heldB (fun hHeld => ?_)
    refine wpAnyH_take (i := 0) (oi := { dst := some 28, op := Op.move (Operand.tmp 0), type := 25, pos := _, after := #[], guard := none }) (v := ?_) rfl (by kernel_rfl) (by kernel_rfl) (by kernel_rfl) (fun _ _ _ h => h) (Or.inl ⟨by rfl, ?_⟩) (by assumption) ?_
    rotate_left
    · (intro w hSw; (try dsimp only at hSw); go_simp; try with_reducible rfl)
    simp only [Act.put, List.setIfInBounds_toArray, List.set_cons_zero, List.set_cons_succ]
    refine wpAnyH_take (i := 1) (oi := { dst := some 29, op := Op.move (Operand.tmp 4), type := 4, pos := _, after := #[], guard := none }) (v := ?_) rfl (by kernel_rfl) (by kernel_rfl) (by kernel_rfl) (fun _ _ _ h => h) (Or.inl ⟨by rfl, ?_⟩) (by assumption) ?_
    rotate_left
    · (intro w hSw; (try dsimp only at hSw); go_simp; try with_reducible rfl)
    simp only [Act.put, List.setIfInBounds_toArray, List.set_cons_zero, List.set_cons_succ]
    refine wpAnyH_take (i := 4) (oi := { dst := some 32, op := Op.load 38 (Operand.tmp 7), type := 38, pos := _, after := #[], guard := none }) (v := ?_) rfl (by kernel_rfl) (by kernel_rfl) (by kernel_rfl) (fun _ _ _ h => h) (Or.inl ⟨by rfl, ?_⟩) (by assumption) ?_
    rotate_left
    · (intro w hSw; (try dsimp only at hSw); go_simp; try with_reducible rfl)
    simp only [Act.put, List.setIfInBounds_toArray, List.set_cons_zero, List.set_cons_succ]
    refine wpAnyH_take (i := 5) (oi := { dst := some 33, op := Op.move (Operand.tmp 2), type := 31, pos := _, after := #[], guard := none }) (v := ?_) rfl (by kernel_rfl) (by kernel_rfl) (by kernel_rfl) (fun _ _ _ h => h) (Or.inl ⟨by rfl, ?_⟩) (by assumption) ?_
    rotate_left
    · (intro w hSw; (try dsimp only at hSw); go_simp; try with_reducible rfl)
    simp only [Act.put, List.setIfInBounds_toArray, List.set_cons_zero, List.set_cons_succ]
    refine wpAnyH_take (i := 6) (oi := { dst := some 34, op := Op.move (Operand.tmp 3), type := 3, pos := _, after := #[], guard := none }) (v := ?_) rfl (by kernel_rfl) (by kernel_rfl) (by kernel_rfl) (fun _ _ _ h => h) (Or.inl ⟨by rfl, ?_⟩) (by assumption) ?_
    rotate_left
    · (intro w hSw; (try dsimp only at hSw); go_simp; try with_reducible rfl)
    simp only [Act.put, List.setIfInBounds_toArray, List.set_cons_zero, List.set_cons_succ]
    refine wpAnyH_take (i := 7) (oi := { dst := some 35, op := Op.move (Operand.tmp 5), type := 3, pos := _, after := #[], guard := none }) (v := ?_) rfl (by kernel_rfl) (by kernel_rfl) (by kernel_rfl) (fun _ _ _ h => h) (Or.inl ⟨by rfl, ?_⟩) (by assumption) ?_
    rotate_left
    · (intro w hSw; (try dsimp only at hSw); go_simp; try with_reducible rfl)
    simp only [Act.put, List.setIfInBounds_toArray, List.set_cons_zero, List.set_cons_succ]
    refine wpAnyH_ready (rs := [2]) (by kernel_rfl) (by simp) ?_
    refine AllReadyH.cons (o := { dst := some 30, op := Op.call { callee := Callee.value (Operand.func 29), args := #[Operand.tmp 28, Operand.tmp 29], argTypes := #[25, 4] }, type := 70, pos := _, after := #[{ on := 0, ground := Ground.data }, { on := 1, ground := Ground.data }], guard := none }) rfl (fun K hK => ?_) AllReadyH.nil
    go_simp
    (go_at_call 29; refine (HS.out _ _ HX.out.ph).mono ?_; rintro e w4 ⟨rfl, hb4⟩; replace HX := hidW (HX.out.step hb4); clear hb4 HS; go_wp2_with fail)
    refine hK.out _ _ ?_ (fun hHeld => ?_)
    · ((try dsimp only); with_reducible exact HX.out.heldB)
    clear hK K
    try simp only [Act.put, List.setIfInBounds_toArray, List.set_cons_zero, List.set_cons_succ]
    refine wpAnyH_take (i := 3) (oi := { dst := some 31, op := Op.field 70 (Operand.tmp 30) 0, type := 66, pos := _, after := #[{ on := 2, ground := Ground.data }], guard := none }) (v := ?_) rfl (by kernel_rfl) (by kernel_rfl) (by kernel_rfl) (fun _ _ _ h => h) (Or.inl ⟨by rfl, ?_⟩) (by assumption) ?_
    rotate_left
    · (intro w hSw; (try dsimp only at hSw); go_simp; try with_reducible rfl)
    simp only [Act.put, List.setIfInBounds_toArray, List.set_cons_zero, List.set_cons_succ]
    refine wpAnyH_ready (rs := [8]) (by kernel_rfl) (by simp) ?_
    refine AllReadyH.cons (o := { dst := some 36, op := Op.call { callee := Callee.value (Operand.func 28), args := #[Operand.tmp 31, Operand.tmp 32, Operand.tmp 33, Operand.tmp 34, Operand.tmp 35], argTypes := #[66, 38, 31, 3, 3] }, type := 0, pos := _, after := #[{ on := 3, ground := Ground.data }, { on := 4, ground := Ground.data }, { on := 5, ground := Ground.data }, { on := 6, ground := Ground.data }, { on := 7, ground := Ground.data }, { on := 2, ground := Ground.chain }], guard := none }) rfl (fun K hK => ?_) AllReadyH.nil
    go_simp
    (go_at_call 28; refine (HC.out _ HX.out.ph (HT.out _ HX.out.trn)).mono ?_; rintro e w5 ⟨rfl, hp, hT⟩; replace HX := hidW (HX.out.turn hp hT (fun x hx => .inl hx)); clear hp hT HC; go_wp2_with fail)
    refine hK.out _ _ ?_ (fun hHeld => ?_)
    · ((try dsimp only); with_reducible exact HX.out.heldB)
    clear hK K
    try simp only [Act.put, List.setIfInBounds_toArray, List.set_cons_zero, List.set_cons_succ]
    refine wpAnyH_done (by kernel_rfl) ?_ _
    clear hHeld
    go_wp2
    go_ret
    exact ⟨rfl, HX.out.ph, HX.out.trn⟩
set_option maxRecDepth 100000 in
set_option maxHeartbeats 8000000 in
theorem hkeep_false (W : World) (A : Ad) (X : Hi) (b : Blo) (va asid pick : Int) (h : PH 73 95 [] W A X) (ht : TR W) (hb : BOk b) (hv : 0 ≤ va ∧ va < 4294967296) :
    Calls Tryd.prog 11 #[.pointer (some ⟨A.h, 0, none⟩), .agg #[.int .i64 b.asid, .int .i64 b.t.size, .int .u32 b.t.va, .int .u64 b.t.pa, .int .i64 b.t.dom, .int .i64 b.t.ap, .int .u32 b.t.bits, .bool b.t.ng, .bool b.t.xn], .int .u32 va, .int .i64 asid, .bool false, .int .i64 pick] W fun e w' => e = .returned (.int .i64 (keF X b va asid false pick).1) ∧ PH 73 95 [] w' A (keF X b va asid false pick).2 ∧ Turn A.S W w' := by
  have HT : Hid (∀ w, Turn A.S W w → TR w) := hidW (fun w k => h.tr ht k)
  have HO : Hid (∀ w, TR w → Calls Tryd.prog 14 #[.agg #[.int .i64 b.asid, .int .i64 b.t.size, .int .u32 b.t.va, .int .u64 b.t.pa, .int .i64 b.t.dom, .int .i64 b.t.ap, .int .u32 b.t.bits, .bool b.t.ng, .bool b.t.xn], .int .u32 va, .int .i64 asid] w fun e w' => e = .returned (.bool (ovF b va asid)) ∧ Below w.heap.size w w') := fun w k => over_any b va asid w k hb hv
  have HX := hidW (KF.start h 38 ([.int .i64 b.asid, .int .i64 b.t.size, .int .u32 b.t.va, .int .u64 b.t.pa, .int .i64 b.t.dom, .int .i64 b.t.ap, .int .u32 b.t.bits, .bool b.t.ng, .bool b.t.xn]) (by decide))
  cases ho : ovF b va asid
  · have he : keF X b va asid false pick = (101, X) := by simp [keF, ho]
    rw [he]
    rw [ho] at HO
    clear h ht ho he
    go_enter Tryd.func11, Tryd.ntmps11
    go_wp2_with (fail)
    go_at_call 14
    refine (HO.out _ (HT.out _ HX.out.trn)).mono ?_
    rintro e w1 ⟨rfl, hb1⟩
    replace HX := hidW (HX.out.step hb1)
    clear hb1 HO
    go_wp2
    go_ret
    exact ⟨rfl, HX.out.ph, HX.out.trn⟩
  · have he : keF X b va asid false pick = (0, (⟨X.i, filF X.d b va asid pick, filF X.m b va asid pick⟩ : Hi)) := by simp [keF, ho, Hi.setS, Hi.sm]
    rw [he]
    rw [ho] at HO
    have HS : Hid (∀ w Y, PH 73 95 [] w A Y → Calls Tryd.prog 29 #[.pointer (some ⟨A.h, 0, none⟩), .bool false] w fun e w' => e = .returned (.agg #[.pointer (some ⟨A.pd, 0, none⟩)]) ∧ Below w.heap.size w w') := fun w Y k => hsmall_any w A Y false k
    have HM : Hid (∀ w, PH 73 95 [] w A X → TR w → Calls Tryd.prog 28 #[.pointer (some ⟨A.pm, 0, none⟩), .agg #[.int .i64 b.asid, .int .i64 b.t.size, .int .u32 b.t.va, .int .u64 b.t.pa, .int .i64 b.t.dom, .int .i64 b.t.ap, .int .u32 b.t.bits, .bool b.t.ng, .bool b.t.xn], .int .u32 va, .int .i64 asid, .int .i64 pick] w fun e w' => e = .returned (.tuple #[]) ∧ PH 73 95 [] w' A ⟨X.i, X.d, filF X.m b va asid pick⟩ ∧ Turn (· = A.gm) w w') := fun w k k2 => (fill_any w _ _ X.m b va asid pick k.tm k2 hb hv).mono fun e w' q => ⟨q.1, k.setM q.2.1 q.2.2, q.2.2⟩
    have HC : Hid (∀ w, PH 73 95 [] w A ⟨X.i, X.d, filF X.m b va asid pick⟩ → TR w → Calls Tryd.prog 28 #[.pointer (some ⟨A.pd, 0, none⟩), .agg #[.int .i64 b.asid, .int .i64 b.t.size, .int .u32 b.t.va, .int .u64 b.t.pa, .int .i64 b.t.dom, .int .i64 b.t.ap, .int .u32 b.t.bits, .bool b.t.ng, .bool b.t.xn], .int .u32 va, .int .i64 asid, .int .i64 pick] w fun e w' => e = .returned (.tuple #[]) ∧ PH 73 95 [] w' A ⟨X.i, filF X.d b va asid pick, filF X.m b va asid pick⟩ ∧ Turn (· = A.gd) w w') := fun w k k2 => (fill_any w _ _ X.d b va asid pick k.td k2 hb hv).mono fun e w' q => ⟨q.1, k.setD q.2.1 q.2.2, q.2.2⟩
    clear h ht ho he
    go_enter Tryd.func11, Tryd.ntmps11
    go_wp2_with (fail)
    go_at_call 14
    refine (HO.out _ (HT.out _ HX.out.trn)).mono ?_
    rintro e w1 ⟨rfl, hb1⟩
    replace HX := hidW (HX.out.step hb1)
    clear hb1 HO
    generalize hB : W.heap.size = B at HX ⊢
    clear hB
    go_wp2
    replace HX := hidW HX.out.drew
    refine wp_region_held_drew (S := fun w' => w'.cell? ⟨A.h, 2, none⟩ = some (.pointer (some ⟨A.pm, 0, none⟩)) ∧ w'.cell? ⟨B, 0, none⟩ = some (.int .i64 b.asid) ∧ w'.cell? ⟨B, 1, none⟩ = some (.int .i64 b.t.size) ∧ w'.cell? ⟨B, 2, none⟩ = some (.int .u32 b.t.va) ∧ w'.cell? ⟨B, 3, none⟩ = some (.int .u64 b.t.pa) ∧ w'.cell? ⟨B, 4, none⟩ = some (.int .i64 b.t.dom) ∧ w'.cell? ⟨B, 5, none⟩ = some (.int .i64 b.t.ap) ∧ w'.cell? ⟨B, 6, none⟩ = some (.int .u32 b.t.bits) ∧ w'.cell? ⟨B, 7, none⟩ = some (.bool b.t.ng) ∧ w'.cell? ⟨B, 8, none⟩ = some (.bool b.t.xn)) (by kernel_rfl) HX.out.heldB (fun hHeld => ?_)
    refine wpAnyH_take (i := 0) (oi := { dst := some 18, op := Op.move (Operand.tmp 0), type := 25, pos := _, after := #[], guard := none }) (v := ?_) rfl (by kernel_rfl) (by kernel_rfl) (by kernel_rfl) (fun _ _ _ h => h) (Or.inl ⟨by rfl, ?_⟩) (by assumption) ?_
    rotate_left
    · (intro w hSw; (try dsimp only at hSw); go_simp; try with_reducible rfl)
    simp only [Act.put, List.setIfInBounds_toArray, List.set_cons_zero, List.set_cons_succ]
    refine wpAnyH_take (i := 1) (oi := { dst := some 19, op := Op.nilCheck (Operand.tmp 18), type := 0, pos := _, after := #[{ on := 0, ground := Ground.data }], guard := none }) (v := ?_) rfl (by kernel_rfl) (by kernel_rfl) (by kernel_rfl) (fun _ _ _ h => h) (Or.inl ⟨by rfl, ?_⟩) (by assumption) ?_
    rotate_left
    · (intro w hSw; (try dsimp only at hSw); go_simp; try with_reducible rfl)
    simp only [Act.put, List.setIfInBounds_toArray, List.set_cons_zero, List.set_cons_succ]
    refine wpAnyH_take (i := 2) (oi := { dst := some 20, op := Op.fieldAddr 73 (Operand.tmp 19) 2, type := 0, pos := _, after := #[{ on := 1, ground := Ground.data }], guard := none }) (v := ?_) rfl (by kernel_rfl) (by kernel_rfl) (by kernel_rfl) (fun _ _ _ h => h) (Or.inl ⟨by rfl, ?_⟩) (by assumption) ?_
    rotate_left
    · (intro w hSw; (try dsimp only at hSw); go_simp; try with_reducible rfl)
    simp only [Act.put, List.setIfInBounds_toArray, List.set_cons_zero, List.set_cons_succ]
    refine wpAnyH_take (i := 3) (oi := { dst := some 21, op := Op.fieldAddr 71 (Operand.tmp 20) 0, type := 0, pos := _, after := #[{ on := 2, ground := Ground.data }], guard := none }) (v := ?_) rfl (by kernel_rfl) (by kernel_rfl) (by kernel_rfl) (fun _ _ _ h => h) (Or.inl ⟨by rfl, ?_⟩) (by assumption) ?_
    rotate_left
    · (intro w hSw; (try dsimp only at hSw); go_simp; try with_reducible rfl)
    simp only [Act.put, List.setIfInBounds_toArray, List.set_cons_zero, List.set_cons_succ]
    refine wpAnyH_take (i := 4) (oi := { dst := some 22, op := Op.load 66 (Operand.tmp 21), type := 66, pos := _, after := #[{ on := 3, ground := Ground.data }], guard := none }) (v := ?_) rfl (by kernel_rfl) (by kernel_rfl) (by kernel_rfl) (fun _ _ _ h => h) (Or.inl ⟨by rfl, ?_⟩) (by assumption) ?_
    rotate_left
    · (intro w hSw; (try dsimp only at hSw); go_simp; try with_reducible rfl)
    simp only [Act.put, List.setIfInBounds_toArray, List.set_cons_zero, List.set_cons_succ]
    refine wpAnyH_take (i := 5) (oi := { dst := some 23, op := Op.load 38 (Operand.tmp 7), type := 38, pos := _, after := #[], guard := none }) (v := ?_) rfl (by kernel_rfl) (by kernel_rfl) (by kernel_rfl) (fun _ _ _ h => h) (Or.inl ⟨by rfl, ?_⟩) (by assumption) ?_
    rotate_left
    · (intro w hSw; (try dsimp only at hSw); go_simp; try with_reducible rfl)
    simp only [Act.put, List.setIfInBounds_toArray, List.set_cons_zero, List.set_cons_succ]
    refine wpAnyH_take (i := 6) (oi := { dst := some 24, op := Op.move (Operand.tmp 2), type := 31, pos := _, after := #[], guard := none }) (v := ?_) rfl (by kernel_rfl) (by kernel_rfl) (by kernel_rfl) (fun _ _ _ h => h) (Or.inl ⟨by rfl, ?_⟩) (by assumption) ?_
    rotate_left
    · (intro w hSw; (try dsimp only at hSw); go_simp; try with_reducible rfl)
    simp only [Act.put, List.setIfInBounds_toArray, List.set_cons_zero, List.set_cons_succ]
    refine wpAnyH_take (i := 7) (oi := { dst := some 25, op := Op.move (Operand.tmp 3), type := 3, pos := _, after := #[], guard := none }) (v := ?_) rfl (by kernel_rfl) (by kernel_rfl) (by kernel_rfl) (fun _ _ _ h => h) (Or.inl ⟨by rfl, ?_⟩) (by assumption) ?_
    rotate_left
    · (intro w hSw; (try dsimp only at hSw); go_simp; try with_reducible rfl)
    simp only [Act.put, List.setIfInBounds_toArray, List.set_cons_zero, List.set_cons_succ]
    refine wpAnyH_take (i := 8) (oi := { dst := some 26, op := Op.move (Operand.tmp 5), type := 3, pos := _, after := #[], guard := none }) (v := ?_) rfl (by kernel_rfl) (by kernel_rfl) (by kernel_rfl) (fun _ _ _ h => h) (Or.inl ⟨by rfl, ?_⟩) (by assumption) ?_
    rotate_left
    · (intro w hSw; (try dsimp only at hSw); go_simp; try with_reducible rfl)
    simp only [Act.put, List.setIfInBounds_toArray, List.set_cons_zero, List.set_cons_succ]
    refine wpAnyH_ready (rs := [9]) (by kernel_rfl) (by simp) ?_
    refine AllReadyH.cons (o := { dst := some 27, op := Op.call { callee := Callee.value (Operand.func 28), args := #[Operand.tmp 22, Operand.tmp 23, Operand.tmp 24, Operand.tmp 25, Operand.tmp 26], argTypes := #[66, 38, 31, 3, 3] }, type := 0, pos := _, after := #[{ on := 4, ground := Ground.data }, { on := 5, ground := Ground.data }, { on := 6, ground := Ground.data }, { on := 7, ground := Ground.data }, { on := 8, ground := Ground.data }], guard := none }) rfl (fun K hK => ?_) AllReadyH.nil
    go_simp
    (go_at_call 28; refine (HM.out _ HX.out.ph (HT.out _ HX.out.trn)).mono ?_; rintro e w3 ⟨rfl, hp, hT⟩; replace HX := hidW (HX.out.turn hp hT (fun x hx => .inr (.inr hx))); clear hp hT HM; go_wp2_with fail)
    refine hK.out _ _ ?_ (fun hHeld => ?_)
    · ((try dsimp only); with_reducible exact HX.out.heldB)
    clear hK K
    try simp only [Act.put, List.setIfInBounds_toArray, List.set_cons_zero, List.set_cons_succ]
    refine wpAnyH_done (by kernel_rfl) ?_ _
    clear hHeld
    go_wp2
    have hfs := field_sml (some ⟨A.pd, 0, none⟩)
    replace HX := hidW HX.out.drew
    refine wp_region_held_drew (S := fun w' => w'.cell? ⟨A.h, 2, none⟩ = some (.pointer (some ⟨A.pm, 0, none⟩)) ∧ w'.cell? ⟨B, 0, none⟩ = some (.int .i64 b.asid) ∧ w'.cell? ⟨B, 1, none⟩ = some (.int .i64 b.t.size) ∧ w'.cell? ⟨B, 2, none⟩ = some (.int .u32 b.t.va) ∧ w'.cell? ⟨B, 3, none⟩ = some (.int .u64 b.t.pa) ∧ w'.cell? ⟨B, 4, none⟩ = some (.int .i64 b.t.dom) ∧ w'.cell? ⟨B, 5, none⟩ = some (.int .i64 b.t.ap) ∧ w'.cell? ⟨B, 6, none⟩ = some (.int .u32 b.t.bits) ∧ w'.cell? ⟨B, 7, none⟩ = some (.bool b.t.ng) ∧ w'.cell? ⟨B, 8, none⟩ = some (.bool b.t.xn)) (by kernel_rfl) HX.out.heldB (fun hHeld => ?_)
    refine wpAnyH_take (i := 0) (oi := { dst := some 28, op := Op.move (Operand.tmp 0), type := 25, pos := _, after := #[], guard := none }) (v := ?_) rfl (by kernel_rfl) (by kernel_rfl) (by kernel_rfl) (fun _ _ _ h => h) (Or.inl ⟨by rfl, ?_⟩) (by assumption) ?_
    rotate_left
    · (intro w hSw; (try dsimp only at hSw); go_simp; try with_reducible rfl)
    simp only [Act.put, List.setIfInBounds_toArray, List.set_cons_zero, List.set_cons_succ]
    refine wpAnyH_take (i := 1) (oi := { dst := some 29, op := Op.move (Operand.tmp 4), type := 4, pos := _, after := #[], guard := none }) (v := ?_) rfl (by kernel_rfl) (by kernel_rfl) (by kernel_rfl) (fun _ _ _ h => h) (Or.inl ⟨by rfl, ?_⟩) (by assumption) ?_
    rotate_left
    · (intro w hSw; (try dsimp only at hSw); go_simp; try with_reducible rfl)
    simp only [Act.put, List.setIfInBounds_toArray, List.set_cons_zero, List.set_cons_succ]
    refine wpAnyH_take (i := 4) (oi := { dst := some 32, op := Op.load 38 (Operand.tmp 7), type := 38, pos := _, after := #[], guard := none }) (v := ?_) rfl (by kernel_rfl) (by kernel_rfl) (by kernel_rfl) (fun _ _ _ h => h) (Or.inl ⟨by rfl, ?_⟩) (by assumption) ?_
    rotate_left
    · (intro w hSw; (try dsimp only at hSw); go_simp; try with_reducible rfl)
    simp only [Act.put, List.setIfInBounds_toArray, List.set_cons_zero, List.set_cons_succ]
    refine wpAnyH_take (i := 5) (oi := { dst := some 33, op := Op.move (Operand.tmp 2), type := 31, pos := _, after := #[], guard := none }) (v := ?_) rfl (by kernel_rfl) (by kernel_rfl) (by kernel_rfl) (fun _ _ _ h => h) (Or.inl ⟨by rfl, ?_⟩) (by assumption) ?_
    rotate_left
    · (intro w hSw; (try dsimp only at hSw); go_simp; try with_reducible rfl)
    simp only [Act.put, List.setIfInBounds_toArray, List.set_cons_zero, List.set_cons_succ]
    refine wpAnyH_take (i := 6) (oi := { dst := some 34, op := Op.move (Operand.tmp 3), type := 3, pos := _, after := #[], guard := none }) (v := ?_) rfl (by kernel_rfl) (by kernel_rfl) (by kernel_rfl) (fun _ _ _ h => h) (Or.inl ⟨by rfl, ?_⟩) (by assumption) ?_
    rotate_left
    · (intro w hSw; (try dsimp only at hSw); go_simp; try with_reducible rfl)
    simp only [Act.put, List.setIfInBounds_toArray, List.set_cons_zero, List.set_cons_succ]
    refine wpAnyH_take (i := 7) (oi := { dst := some 35, op := Op.move (Operand.tmp 5), type := 3, pos := _, after := #[], guard := none }) (v := ?_) rfl (by kernel_rfl) (by kernel_rfl) (by kernel_rfl) (fun _ _ _ h => h) (Or.inl ⟨by rfl, ?_⟩) (by assumption) ?_
    rotate_left
    · (intro w hSw; (try dsimp only at hSw); go_simp; try with_reducible rfl)
    simp only [Act.put, List.setIfInBounds_toArray, List.set_cons_zero, List.set_cons_succ]
    refine wpAnyH_ready (rs := [2]) (by kernel_rfl) (by simp) ?_
    refine AllReadyH.cons (o := { dst := some 30, op := Op.call { callee := Callee.value (Operand.func 29), args := #[Operand.tmp 28, Operand.tmp 29], argTypes := #[25, 4] }, type := 70, pos := _, after := #[{ on := 0, ground := Ground.data }, { on := 1, ground := Ground.data }], guard := none }) rfl (fun K hK => ?_) AllReadyH.nil
    go_simp
    (go_at_call 29; refine (HS.out _ _ HX.out.ph).mono ?_; rintro e w4 ⟨rfl, hb4⟩; replace HX := hidW (HX.out.step hb4); clear hb4 HS; go_wp2_with fail)
    refine hK.out _ _ ?_ (fun hHeld => ?_)
    · ((try dsimp only); with_reducible exact HX.out.heldB)
    clear hK K
    try simp only [Act.put, List.setIfInBounds_toArray, List.set_cons_zero, List.set_cons_succ]
    refine wpAnyH_take (i := 3) (oi := { dst := some 31, op := Op.field 70 (Operand.tmp 30) 0, type := 66, pos := _, after := #[{ on := 2, ground := Ground.data }], guard := none }) (v := ?_) rfl (by kernel_rfl) (by kernel_rfl) (by kernel_rfl) (fun _ _ _ h => h) (Or.inl ⟨by rfl, ?_⟩) (by assumption) ?_
    rotate_left
    · (intro w hSw; (try dsimp only at hSw); go_simp; try with_reducible rfl)
    simp only [Act.put, List.setIfInBounds_toArray, List.set_cons_zero, List.set_cons_succ]
    refine wpAnyH_ready (rs := [8]) (by kernel_rfl) (by simp) ?_
    refine AllReadyH.cons (o := { dst := some 36, op := Op.call { callee := Callee.value (Operand.func 28), args := #[Operand.tmp 31, Operand.tmp 32, Operand.tmp 33, Operand.tmp 34, Operand.tmp 35], argTypes := #[66, 38, 31, 3, 3] }, type := 0, pos := _, after := #[{ on := 3, ground := Ground.data }, { on := 4, ground := Ground.data }, { on := 5, ground := Ground.data }, { on := 6, ground := Ground.data }, { on := 7, ground := Ground.data }, { on := 2, ground := Ground.chain }], guard := none }) rfl (fun K hK => ?_) AllReadyH.nil
    go_simp
    (go_at_call 28; refine (HC.out _ HX.out.ph (HT.out _ HX.out.trn)).mono ?_; rintro e w5 ⟨rfl, hp, hT⟩; replace HX := hidW (HX.out.turn hp hT (fun x hx => .inr (.inl hx))); clear hp hT HC; go_wp2_with fail)
    refine hK.out _ _ ?_ (fun hHeld => ?_)
    · ((try dsimp only); with_reducible exact HX.out.heldB)
    clear hK K
    try simp only [Act.put, List.setIfInBounds_toArray, List.set_cons_zero, List.set_cons_succ]
    refine wpAnyH_done (by kernel_rfl) ?_ _
    clear hHeld
    go_wp2
    go_ret
    exact ⟨rfl, HX.out.ph, HX.out.trn⟩
theorem hkeep_any (W : World) (A : Ad) (X : Hi) (b : Blo) (va asid : Int) (f : Bool) (pick : Int) (h : PH 73 95 [] W A X) (ht : TR W) (hb : BOk b) (hv : 0 ≤ va ∧ va < 4294967296) :
    Calls Tryd.prog 11 #[.pointer (some ⟨A.h, 0, none⟩), .agg #[.int .i64 b.asid, .int .i64 b.t.size, .int .u32 b.t.va, .int .u64 b.t.pa, .int .i64 b.t.dom, .int .i64 b.t.ap, .int .u32 b.t.bits, .bool b.t.ng, .bool b.t.xn], .int .u32 va, .int .i64 asid, .bool f, .int .i64 pick] W fun e w' => e = .returned (.int .i64 (keF X b va asid f pick).1) ∧ PH 73 95 [] w' A (keF X b va asid f pick).2 ∧ Turn A.S W w' := by
  cases f
  · exact hkeep_false W A X b va asid pick h ht hb hv
  · exact hkeep_true W A X b va asid pick h ht hb hv
end Go.Proofs.YtbbnodhpafiplaaDoor
