import Derived.Test.YtbbnodhpafiplaaDoorHa
namespace Go.Proofs.YtbbnodhpafiplaaDoor
open Go.RowKit
set_option linter.unusedVariables false
set_option linter.unusedSimpArgs false
theorem lkF_ok {L : List Slo} (h : LOk L) (va asid : Int) : BOk (lkF L va asid).1 := by
  have h1 : ∀ (M : List Slo) (r : Blo × Nat), LOk M → BOk r.1 → BOk (M.foldl (lkS va asid) r).1 := by
    intro M
    induction M with
    | nil => intro r _ hr; exact hr
    | cons s M ih =>
      intro r hM hr
      refine ih _ (fun x hx => hM x (.tail _ hx)) ?_
      unfold lkS
      split
      · exact (hM s (.head _)).ok
      · exact hr
  unfold lkF
  split
  · exact h1 L _ h BOk.zero
  · exact BOk.zero
theorem lkF_le (L : List Slo) (va asid : Int) : (lkF L va asid).2 ≤ L.length := by
  have h := lkP_le va asid L
  unfold lkF
  split <;> exact h
/-- A TLB, a block's box. -/
structure VB (T : TypeId) (W wr : World) (p g A : Nat) (L : List Slo) (b : Blo) : Prop where
  trn : Turn (· = g) W wr
  pt : PT T wr p g L
  box : Bl wr A 38 ([.int .i64 b.asid, .int .i64 b.t.size, .int .u32 b.t.va, .int .u64 b.t.pa, .int .i64 b.t.dom, .int .i64 b.t.ap, .int .u32 b.t.bits, .bool b.t.ng, .bool b.t.xn])
theorem VB.step {T : TypeId} {W wr w' : World} {p g A : Nat} {L : List Slo} {b : Blo} (h : VB T W wr p g A L b) (hb : Below wr.heap.size wr w') : VB T W w' p g A L b := ⟨h.trn.then (Turn.below hb), h.pt.below hb, h.box.below hb⟩
theorem VB.start {T : TypeId} {W : World} {p g : Nat} {L : List Slo} (b : Blo) (h : PT T W p g L) : VB T W (W.alloc (.cells ([.int .i64 b.asid, .int .i64 b.t.size, .int .u32 b.t.va, .int .u64 b.t.pa, .int .i64 b.t.dom, .int .i64 b.t.ap, .int .u32 b.t.bits, .bool b.t.ng, .bool b.t.xn]).toArray 38)) p g W.heap.size L b := ⟨Turn.below (below_new _ _), h.below (below_new _ _), Bl.new _ _ _⟩
set_option maxRecDepth 100000 in
set_option maxHeartbeats 4000000 in
theorem fill_any (W : World) (p g : Nat) (L : List Slo) (b : Blo) (va asid pick : Int) (hP : PT 95 W p g L) (ht : TR W) (hb : BOk b) (hv : 0 ≤ va ∧ va < 4294967296) :
    Calls Tryd.prog 28 #[.pointer (some ⟨p, 0, none⟩), .agg #[.int .i64 b.asid, .int .i64 b.t.size, .int .u32 b.t.va, .int .u64 b.t.pa, .int .i64 b.t.dom, .int .i64 b.t.ap, .int .u32 b.t.bits, .bool b.t.ng, .bool b.t.xn], .int .u32 va, .int .i64 asid, .int .i64 pick] W fun e w' => e = .returned (.tuple #[]) ∧ PT 95 w' p g (filF L b va asid pick) ∧ Turn (· = g) W w' := by
  have HX := hidW (VB.start b hP)
  have HT : Hid (∀ w, Turn (· = g) W w → TR w) := hidW (fun w h => hP.tr ht h)
  have HK : Hid (∀ w, PT 95 w p g L → TR w → Calls Tryd.prog 45 #[.pointer (some ⟨p, 0, none⟩), .int .u32 va, .int .i64 asid] w fun e w' => e = .returned (.tuple #[.agg #[.int .i64 ((lkF L va asid).1).asid, .int .i64 ((lkF L va asid).1).t.size, .int .u32 ((lkF L va asid).1).t.va, .int .u64 ((lkF L va asid).1).t.pa, .int .i64 ((lkF L va asid).1).t.dom, .int .i64 ((lkF L va asid).1).t.ap, .int .u32 ((lkF L va asid).1).t.bits, .bool ((lkF L va asid).1).t.ng, .bool ((lkF L va asid).1).t.xn], .int .i64 ((lkF L va asid).2 : Nat)]) ∧ Below w.heap.size w w') := fun w h1 h2 => look_any w p g L va asid h1 h2.tb hv
  have HU : Hid (∀ w, PT 95 w p g L → TR w → Calls Tryd.prog 46 #[.pointer (some ⟨p, 0, none⟩), .agg #[.int .i64 b.asid, .int .i64 b.t.size, .int .u32 b.t.va, .int .u64 b.t.pa, .int .i64 b.t.dom, .int .i64 b.t.ap, .int .u32 b.t.bits, .bool b.t.ng, .bool b.t.xn], .int .i64 pick] w fun e w' => e = .returned (.tuple #[.int .i64 ((puF L b pick).1.1 : Nat), .int .i64 (puF L b pick).1.2]) ∧ PT 95 w' p g (puF L b pick).2 ∧ Turn (· = g) w w') := fun w h1 h2 => put_any w p g L b pick h1 h2 hb
  unfold filF
  generalize (puF L b pick) = Q at *
  generalize (lkF L va asid) = R at *
  obtain ⟨⟨qi, qe⟩, ql⟩ := Q
  obtain ⟨rb, rn⟩ := R
  clear hP ht hb
  dsimp only at *
  by_cases h0 : rn = 0
  · subst h0
    rw [if_pos rfl]
    go_enter Tryd.func28, Tryd.ntmps28
    go_wp2_with (fail)
    go_at_call 45
    refine (HK.out _ HX.out.pt (HT.out _ HX.out.trn)).mono ?_
    rintro e w1 ⟨rfl, hb⟩
    replace HX := hidW ((HX.out.step hb).step (below_new _ (.cells ([.int .i64 rb.asid, .int .i64 rb.t.size, .int .u32 rb.t.va, .int .u64 rb.t.pa, .int .i64 rb.t.dom, .int .i64 rb.t.ap, .int .u32 rb.t.bits, .bool rb.t.ng, .bool rb.t.xn]).toArray 38)))
    clear hb HK
    generalize hA : W.heap.size = A at HX ⊢
    clear hA
    have c0 := HX.out.box.cell
    go_wp2_with (fail)
    go_at_call 46
    generalize World.alloc _ _ = w2 at *
    refine (HU.out _ HX.out.pt (HT.out _ HX.out.trn)).mono ?_
    rintro e w3 ⟨rfl, hp, hT⟩
    have HE := hidW (HX.out.trn.then hT)
    have HP := hidW hp
    clear hp hT HU HT c0 HX
    go_wp2
    exact bodyPost_end (v := .tuple #[]) (by simp [results, Tryd.results28, go_sem]) rfl ⟨rfl, HP.out, HE.out⟩
  · have h1 : ¬ (rn : Int) = 0 := by omega
    rw [if_neg h0]
    go_enter Tryd.func28, Tryd.ntmps28
    go_wp2_with (fail)
    go_at_call 45
    refine (HK.out _ HX.out.pt (HT.out _ HX.out.trn)).mono ?_
    rintro e w1 ⟨rfl, hb⟩
    replace HX := hidW ((HX.out.step hb).step (below_new _ (.cells ([.int .i64 rb.asid, .int .i64 rb.t.size, .int .u32 rb.t.va, .int .u64 rb.t.pa, .int .i64 rb.t.dom, .int .i64 rb.t.ap, .int .u32 rb.t.bits, .bool rb.t.ng, .bool rb.t.xn]).toArray 38)))
    clear hb HK
    go_wp2
    exact bodyPost_end (v := .tuple #[]) (by simp [results, Tryd.results28, go_sem]) rfl ⟨rfl, HX.out.pt, HX.out.trn⟩
set_option maxRecDepth 100000 in
theorem hsmall_any (W : World) (A : Ad) (X : Hi) (f : Bool) (h : PH 73 95 [] W A X) :
    Calls Tryd.prog 29 #[.pointer (some ⟨A.h, 0, none⟩), .bool f] W fun e w' => e = .returned (.agg #[.pointer (some ⟨if f = true then A.pi else A.pd, 0, none⟩)]) ∧ Below W.heap.size W w' := by
  have c0 := h.box.cell 0
  have c1 := h.box.cell 1
  dsimp only [List.nil_append] at c0 c1
  have hlt := h.box.lt
  clear h
  obtain ⟨h, pi, gi, pd, gd, pm, gm⟩ := A
  dsimp only at *
  cases f
  · go_enter Tryd.func29, Tryd.ntmps29
    go_wp2
    refine bodyPost_ret (v := .agg #[.pointer (some ⟨pd, 0, none⟩)]) (by simp [results, Tryd.results29, go_sem]) rfl ⟨rfl, below_new _ _⟩
  · go_enter Tryd.func29, Tryd.ntmps29
    go_wp2
    refine bodyPost_ret (v := .agg #[.pointer (some ⟨pi, 0, none⟩)]) (by simp [results, Tryd.results29, go_sem]) rfl ⟨rfl, below_new _ _⟩
/-- What the two ways of asking answer. -/
def sfF (Ls Lm : List Slo) (va asid pick : Int) : (Blo × Nat) × List Slo :=
  if 0 < (lkF Ls va asid).2 then (lkF Ls va asid, Ls) else (lkF Lm va asid, if (lkF Lm va asid).2 = 1 then (puF Ls (lkF Lm va asid).1 pick).2 else Ls)
def lfF (Ls Lm : List Slo) (va asid pick : Int) : (Blo × Nat) × List Slo :=
  if (lkF Lm va asid).2 = 0 then (lkF Ls va asid, Ls) else (lkF Lm va asid, if (lkF Lm va asid).2 = 1 then filF Ls (lkF Lm va asid).1 va asid pick else Ls)
/-- Two TLBs, their boxes, the result's. -/
structure SfA (W wr : World) (s gs m gm Bs Bm B2 : Nat) (Ls Lm : List Slo) : Prop where
  trn : Turn (· = gs) W wr
  ps : PT 95 wr s gs Ls
  pm : PT 95 wr m gm Lm
  bs : Bl wr Bs 70 [.pointer (some ⟨s, 0, none⟩)]
  bm : Bl wr Bm 71 [.pointer (some ⟨m, 0, none⟩)]
  br : Bl wr B2 38 [.int .i64 0, .int .i64 0, .int .u32 0, .int .u64 0, .int .i64 0, .int .i64 0, .int .u32 0, .bool false, .bool false]
  ne : gs ≠ gm
  h2 : W.heap.size ≤ B2
structure SfB (W wr : World) (s gs m gm Bs Bm B2 B3 : Nat) (Ls Lm : List Slo) (b : Blo) : Prop where
  f1 : SfA W wr s gs m gm Bs Bm B2 Ls Lm
  bn : Bl wr B3 38 ([.int .i64 b.asid, .int .i64 b.t.size, .int .u32 b.t.va, .int .u64 b.t.pa, .int .i64 b.t.dom, .int .i64 b.t.ap, .int .u32 b.t.bits, .bool b.t.ng, .bool b.t.xn])
  h3 : W.heap.size ≤ B3
  n3 : B2 ≠ B3
section
variable {W wr w' : World} {s gs m gm Bs Bm B2 B3 : Nat} {Ls Lm K : List Slo} {b : Blo}
theorem SfA.step (h : SfA W wr s gs m gm Bs Bm B2 Ls Lm) (hb : Below wr.heap.size wr w') : SfA W w' s gs m gm Bs Bm B2 Ls Lm :=
  ⟨h.trn.then (Turn.below hb), h.ps.below hb, h.pm.below hb, h.bs.below hb, h.bm.below hb, h.br.below hb, h.ne, h.h2⟩
theorem SfB.step (h : SfB W wr s gs m gm Bs Bm B2 B3 Ls Lm b) (hb : Below wr.heap.size wr w') : SfB W w' s gs m gm Bs Bm B2 B3 Ls Lm b := ⟨h.f1.step hb, h.bn.below hb, h.h3, h.n3⟩
theorem SfA.with (h : SfA W wr s gs m gm Bs Bm B2 Ls Lm) (b : Blo) : SfB W (wr.alloc (.cells ([.int .i64 b.asid, .int .i64 b.t.size, .int .u32 b.t.va, .int .u64 b.t.pa, .int .i64 b.t.dom, .int .i64 b.t.ap, .int .u32 b.t.bits, .bool b.t.ng, .bool b.t.xn]).toArray 38)) s gs m gm Bs Bm B2 wr.heap.size Ls Lm b :=
  ⟨h.step (below_new _ _), Bl.new _ _ _, h.trn.size, Nat.ne_of_lt h.br.lt⟩
theorem SfA.turnS (h : SfA W wr s gs m gm Bs Bm B2 Ls Lm) (hp : PT 95 w' s gs K) (hT : Turn (· = gs) wr w') : SfA W w' s gs m gm Bs Bm B2 K Lm :=
  ⟨h.trn.then hT, hp, h.pm.turn hT (h.pm.box.ne h.ps.row h.pm.ne) (fun e => h.ne e.symm), h.bs.turn hT (h.bs.ne h.ps.row (by decide)), h.bm.turn hT (h.bm.ne h.ps.row (by decide)), h.br.turn hT (h.br.ne h.ps.row (by decide)), h.ne, h.h2⟩
theorem SfB.turnS (h : SfB W wr s gs m gm Bs Bm B2 B3 Ls Lm b) (hp : PT 95 w' s gs K) (hT : Turn (· = gs) wr w') : SfB W w' s gs m gm Bs Bm B2 B3 K Lm b :=
  ⟨h.f1.turnS hp hT, h.bn.turn hT (h.bn.ne h.f1.ps.row (by decide)), h.h3, h.n3⟩
theorem SfB.put (h : SfB W wr s gs m gm Bs Bm B2 B3 Ls Lm b) (c : Blo) : SfB W (((((((((wr.setCell ⟨B3, 0, none⟩ (.int .i64 c.asid)).setCell ⟨B3, 1, none⟩ (.int .i64 c.t.size)).setCell ⟨B3, 2, none⟩ (.int .u32 c.t.va)).setCell ⟨B3, 3, none⟩ (.int .u64 c.t.pa)).setCell ⟨B3, 4, none⟩ (.int .i64 c.t.dom)).setCell ⟨B3, 5, none⟩ (.int .i64 c.t.ap)).setCell ⟨B3, 6, none⟩ (.int .u32 c.t.bits)).setCell ⟨B3, 7, none⟩ (.bool c.t.ng)).setCell ⟨B3, 8, none⟩ (.bool c.t.xn)) s gs m gm Bs Bm B2 B3 Ls Lm c := by
  have hT := turn_setB wr B3 c
  have h3 := h.h3
  exact ⟨⟨h.f1.trn.trans hT (fun x hx => .inr (by have hx : x = B3 := hx; omega)), h.f1.ps.turn hT (h.f1.ps.box.ne h.bn (by decide)) (h.f1.ps.row.ne h.bn (by decide)), h.f1.pm.turn hT (h.f1.pm.box.ne h.bn (by decide)) (h.f1.pm.row.ne h.bn (by decide)), h.f1.bs.turn hT (h.f1.bs.ne h.bn (by decide)), h.f1.bm.turn hT (h.f1.bm.ne h.bn (by decide)), h.f1.br.turn hT h.n3, h.f1.ne, h.f1.h2⟩, bl_setB h.bn c, h.h3, h.n3⟩
/-- The answer is laid. -/
theorem SfA.ends (h : SfA W wr s gs m gm Bs Bm B2 Ls Lm) (c : Blo) : PT 95 (((((((((wr.setCell ⟨B2, 0, none⟩ (.int .i64 c.asid)).setCell ⟨B2, 1, none⟩ (.int .i64 c.t.size)).setCell ⟨B2, 2, none⟩ (.int .u32 c.t.va)).setCell ⟨B2, 3, none⟩ (.int .u64 c.t.pa)).setCell ⟨B2, 4, none⟩ (.int .i64 c.t.dom)).setCell ⟨B2, 5, none⟩ (.int .i64 c.t.ap)).setCell ⟨B2, 6, none⟩ (.int .u32 c.t.bits)).setCell ⟨B2, 7, none⟩ (.bool c.t.ng)).setCell ⟨B2, 8, none⟩ (.bool c.t.xn)) s gs Ls ∧ Turn (· = gs) W (((((((((wr.setCell ⟨B2, 0, none⟩ (.int .i64 c.asid)).setCell ⟨B2, 1, none⟩ (.int .i64 c.t.size)).setCell ⟨B2, 2, none⟩ (.int .u32 c.t.va)).setCell ⟨B2, 3, none⟩ (.int .u64 c.t.pa)).setCell ⟨B2, 4, none⟩ (.int .i64 c.t.dom)).setCell ⟨B2, 5, none⟩ (.int .i64 c.t.ap)).setCell ⟨B2, 6, none⟩ (.int .u32 c.t.bits)).setCell ⟨B2, 7, none⟩ (.bool c.t.ng)).setCell ⟨B2, 8, none⟩ (.bool c.t.xn)) := by
  have hT := turn_setB wr B2 c
  have h2 := h.h2
  exact ⟨h.ps.turn hT (h.ps.box.ne h.br (by decide)) (h.ps.row.ne h.br (by decide)), h.trn.trans hT (fun x hx => .inr (by have hx : x = B2 := hx; omega))⟩
theorem SfA.startS (h1 : PT 95 W s gs Ls) (h2 : PT 95 W m gm Lm) (hn : gs ≠ gm) :
    SfA W (((W.alloc (.cells #[.pointer (some ⟨s, 0, none⟩)] 70)).alloc (.cells #[.pointer (some ⟨m, 0, none⟩)] 71)).alloc (.cells ([.int .i64 0, .int .i64 0, .int .u32 0, .int .u64 0, .int .i64 0, .int .i64 0, .int .u32 0, .bool false, .bool false]).toArray 38)) s gs m gm W.heap.size (W.heap.size + 1) (W.heap.size + 1 + 1) Ls Lm := by
  have b1 := below_new W (.cells #[.pointer (some ⟨s, 0, none⟩)] 70)
  have b2 := below_new (W.alloc (.cells #[.pointer (some ⟨s, 0, none⟩)] 70)) (.cells #[.pointer (some ⟨m, 0, none⟩)] 71)
  have b3 := below_new ((W.alloc (.cells #[.pointer (some ⟨s, 0, none⟩)] 70)).alloc (.cells #[.pointer (some ⟨m, 0, none⟩)] 71)) (.cells ([.int .i64 0, .int .i64 0, .int .u32 0, .int .u64 0, .int .i64 0, .int .i64 0, .int .u32 0, .bool false, .bool false]).toArray 38)
  have l1 := Bl.new W 70 [.pointer (some ⟨s, 0, none⟩)]
  have l2 := Bl.new (W.alloc (.cells #[.pointer (some ⟨s, 0, none⟩)] 70)) 71 [.pointer (some ⟨m, 0, none⟩)]
  have l3 := Bl.new ((W.alloc (.cells #[.pointer (some ⟨s, 0, none⟩)] 70)).alloc (.cells #[.pointer (some ⟨m, 0, none⟩)] 71)) 38 [.int .i64 0, .int .i64 0, .int .u32 0, .int .u64 0, .int .i64 0, .int .i64 0, .int .u32 0, .bool false, .bool false]
  rw [show (W.alloc (.cells #[.pointer (some ⟨s, 0, none⟩)] 70)).heap.size = W.heap.size + 1 by simp] at l2
  rw [show ((W.alloc (.cells #[.pointer (some ⟨s, 0, none⟩)] 70)).alloc (.cells #[.pointer (some ⟨m, 0, none⟩)] 71)).heap.size = W.heap.size + 1 + 1 by simp] at l3
  exact ⟨Turn.below (Below.step (Below.step b1 b2) b3), ((h1.below b1).below b2).below b3, ((h2.below b1).below b2).below b3, (l1.below b2).below b3, l2.below b3, l3, hn, by omega⟩
theorem SfA.startL (h1 : PT 95 W s gs Ls) (h2 : PT 95 W m gm Lm) (hn : gs ≠ gm) :
    SfA W (((W.alloc (.cells #[.pointer (some ⟨m, 0, none⟩)] 71)).alloc (.cells #[.pointer (some ⟨s, 0, none⟩)] 70)).alloc (.cells ([.int .i64 0, .int .i64 0, .int .u32 0, .int .u64 0, .int .i64 0, .int .i64 0, .int .u32 0, .bool false, .bool false]).toArray 38)) s gs m gm (W.heap.size + 1) W.heap.size (W.heap.size + 1 + 1) Ls Lm := by
  have b1 := below_new W (.cells #[.pointer (some ⟨m, 0, none⟩)] 71)
  have b2 := below_new (W.alloc (.cells #[.pointer (some ⟨m, 0, none⟩)] 71)) (.cells #[.pointer (some ⟨s, 0, none⟩)] 70)
  have b3 := below_new ((W.alloc (.cells #[.pointer (some ⟨m, 0, none⟩)] 71)).alloc (.cells #[.pointer (some ⟨s, 0, none⟩)] 70)) (.cells ([.int .i64 0, .int .i64 0, .int .u32 0, .int .u64 0, .int .i64 0, .int .i64 0, .int .u32 0, .bool false, .bool false]).toArray 38)
  have l1 := Bl.new W 71 [.pointer (some ⟨m, 0, none⟩)]
  have l2 := Bl.new (W.alloc (.cells #[.pointer (some ⟨m, 0, none⟩)] 71)) 70 [.pointer (some ⟨s, 0, none⟩)]
  have l3 := Bl.new ((W.alloc (.cells #[.pointer (some ⟨m, 0, none⟩)] 71)).alloc (.cells #[.pointer (some ⟨s, 0, none⟩)] 70)) 38 [.int .i64 0, .int .i64 0, .int .u32 0, .int .u64 0, .int .i64 0, .int .i64 0, .int .u32 0, .bool false, .bool false]
  rw [show (W.alloc (.cells #[.pointer (some ⟨m, 0, none⟩)] 71)).heap.size = W.heap.size + 1 by simp] at l2
  rw [show ((W.alloc (.cells #[.pointer (some ⟨m, 0, none⟩)] 71)).alloc (.cells #[.pointer (some ⟨s, 0, none⟩)] 70)).heap.size = W.heap.size + 1 + 1 by simp] at l3
  exact ⟨Turn.below (Below.step (Below.step b1 b2) b3), ((h1.below b1).below b2).below b3, ((h2.below b1).below b2).below b3, l2.below b3, (l1.below b2).below b3, l3, hn, by omega⟩
end
end Go.Proofs.YtbbnodhpafiplaaDoor
