import Derived.Test.YtfbapflbjkmocaaDoorLl
namespace Go.Proofs.YtfbapflbjkmocaaDoor
open Go.RowKit
set_option linter.unusedVariables false
set_option linter.unusedSimpArgs false
/-- What a call leaves, where another kind is a Flush. -/
def opG (L : List Slo) (o : Opr) : List Slo := if o.kind = 1 then L else if o.kind = 2 then (puF L o.b o.n).2 else if o.kind = 3 then (evF L o.n).2 else (flF L o.d).2
theorem opG_len (L : List Slo) (o : Opr) : (opG L o).length = L.length := by
  unfold opG
  split
  · rfl
  · split
    · exact puF_len _ _ _
    · split
      · exact evF_len _ _
      · exact flF_len _ _
/-- Both TLBs, the call's box. -/
structure AX (W wr : World) (p g q h A : Nat) (L M : List Slo) (o : Opr) : Prop where
  trn : Turn (fun x => x = g ∨ x = h) W wr
  pt : PT 77 wr p g L
  pr : PT 67 wr q h M
  box : Bl wr A 45 ([.int .i64 o.kind, .int .u32 o.va, .int .i64 o.n, .int .i64 o.b.asid, .int .i64 o.b.t.size, .int .u32 o.b.t.va, .int .u64 o.b.t.pa, .int .i64 o.b.t.dom, .int .i64 o.b.t.ap, .int .u32 o.b.t.bits, .bool o.b.t.ng, .bool o.b.t.xn, .int .i64 o.d.kind, .int .u32 o.d.va, .int .i64 o.d.asid])
  tr : TR wr
  ne : g ≠ h
section
variable {W wr w' : World} {p g q h A : Nat} {L M K : List Slo} {o : Opr}
theorem AX.step (x : AX W wr p g q h A L M o) (hb : Below wr.heap.size wr w') : AX W w' p g q h A L M o := ⟨x.trn.then (Turn.below hb), x.pt.below hb, x.pr.below hb, x.box.below hb, x.tr.below hb, x.ne⟩
theorem AX.drew (x : AX W wr p g q h A L M o) : AX W wr.drew p g q h A L M o := x.step (below_drew (Below.refl _ _))
theorem AX.turnP (x : AX W wr p g q h A L M o) (hp : PT 77 w' p g K) (hT : Turn (· = g) wr w') : AX W w' p g q h A K M o :=
  ⟨x.trn.trans hT (fun y hy => .inl (.inl hy)), hp, x.pr.turn hT (fun e => (x.pr.box.ne x.pt.row (by decide)) e) (fun e => x.ne e.symm), x.box.turn hT (x.box.ne x.pt.row (by decide)), x.pt.tr x.tr hT, x.ne⟩
theorem AX.turnR (x : AX W wr p g q h A L M o) (hp : PT 67 w' q h K) (hT : Turn (· = h) wr w') : AX W w' p g q h A L K o :=
  ⟨x.trn.trans hT (fun y hy => .inl (.inr hy)), x.pt.turn hT (fun e => (x.pt.box.ne x.pr.row (by decide)) e) (fun e => x.ne e), hp, x.box.turn hT (x.box.ne x.pr.row (by decide)), x.pr.tr x.tr hT, x.ne⟩
theorem AX.start (o : Opr) (h1 : PT 77 W p g L) (h2 : PT 67 W q h L) (ht : TR W) (hn : g ≠ h) : AX W (W.alloc (.cells ([.int .i64 o.kind, .int .u32 o.va, .int .i64 o.n, .int .i64 o.b.asid, .int .i64 o.b.t.size, .int .u32 o.b.t.va, .int .u64 o.b.t.pa, .int .i64 o.b.t.dom, .int .i64 o.b.t.ap, .int .u32 o.b.t.bits, .bool o.b.t.ng, .bool o.b.t.xn, .int .i64 o.d.kind, .int .u32 o.d.va, .int .i64 o.d.asid]).toArray 45)) p g q h W.heap.size L L o :=
  ⟨Turn.below (below_new _ _), h1.below (below_new _ _), h2.below (below_new _ _), Bl.new _ _ _, ht.below (below_new _ _), hn⟩
end
set_option maxRecDepth 100000 in
set_option maxHeartbeats 4000000 in
theorem asked_1 (W : World) (p g q h : Nat) (L : List Slo) (o : Opr) (h1 : PT 77 W p g L) (h2 : PT 67 W q h L) (ht : TR W) (hn : g ≠ h) (hO : OOk o) (hk : o.kind = 1) :
    Calls Tryd.prog 26 #[.pointer (some ⟨p, 0, none⟩), .pointer (some ⟨q, 0, none⟩), .agg #[.int .i64 o.kind, .int .u32 o.va, .int .i64 o.n, .int .i64 o.b.asid, .int .i64 o.b.t.size, .int .u32 o.b.t.va, .int .u64 o.b.t.pa, .int .i64 o.b.t.dom, .int .i64 o.b.t.ap, .int .u32 o.b.t.bits, .bool o.b.t.ng, .bool o.b.t.xn, .int .i64 o.d.kind, .int .u32 o.d.va, .int .i64 o.d.asid]] W fun e w' => e = .returned (.bool true) ∧ PT 77 w' p g (opG L o) ∧ PT 67 w' q h (opG L o) ∧ Turn (fun x => x = g ∨ x = h) W w' := by
  have h3 : opG L o = L := by simp [opG, hk]
  rw [h3]
  have HX := hidW (AX.start o h1 h2 ht hn)
  have HC : Hid (∀ w, PT 77 w p g L → TR w → Calls Tryd.prog 16 #[.pointer (some ⟨p, 0, none⟩), .int .u32 o.va, .int .i64 o.n] w fun e w' => e = .returned (.tuple #[.agg #[.int .i64 ((lkF L o.va o.n).1).asid, .int .i64 ((lkF L o.va o.n).1).t.size, .int .u32 ((lkF L o.va o.n).1).t.va, .int .u64 ((lkF L o.va o.n).1).t.pa, .int .i64 ((lkF L o.va o.n).1).t.dom, .int .i64 ((lkF L o.va o.n).1).t.ap, .int .u32 ((lkF L o.va o.n).1).t.bits, .bool ((lkF L o.va o.n).1).t.ng, .bool ((lkF L o.va o.n).1).t.xn], .int .i64 ((lkF L o.va o.n).2 : Nat)]) ∧ Below w.heap.size w w') := fun w h1 h2 => look_any w p g L o.va o.n h1 h2.tb hO.va
  have HD : Hid (∀ w, PT 67 w q h L → TR w → Calls Tryd.prog 41 #[.pointer (some ⟨q, 0, none⟩), .int .u32 o.va, .int .i64 o.n] w fun e w' => e = .returned (.tuple #[.agg #[.int .i64 ((lkF L o.va o.n).1).asid, .int .i64 ((lkF L o.va o.n).1).t.size, .int .u32 ((lkF L o.va o.n).1).t.va, .int .u64 ((lkF L o.va o.n).1).t.pa, .int .i64 ((lkF L o.va o.n).1).t.dom, .int .i64 ((lkF L o.va o.n).1).t.ap, .int .u32 ((lkF L o.va o.n).1).t.bits, .bool ((lkF L o.va o.n).1).t.ng, .bool ((lkF L o.va o.n).1).t.xn], .int .i64 ((lkF L o.va o.n).2 : Nat)]) ∧ Below w.heap.size w w') := fun w h1 h2 => ulook_any w q h L o.va o.n h1 hO.va
  clear h1 h2 h3 ht hO hn
  obtain ⟨k, va, n, b, d⟩ := o
  dsimp only at *
  subst hk
  generalize (lkF L va n) = R at *
  obtain ⟨rb, rn⟩ := R
  dsimp only at *
  have he := eqB rb rb
  rw [Blo.same_self] at he
  go_enter Tryd.func26, Tryd.ntmps26
  go_wp2_with (fail)
  go_at_call 16
  refine (HC.out _ HX.out.pt HX.out.tr).mono ?_
  rintro e w1 ⟨rfl, hb⟩
  replace HX := hidW ((HX.out.step hb).step (below_new _ (.cells ([.int .i64 rb.asid, .int .i64 rb.t.size, .int .u32 rb.t.va, .int .u64 rb.t.pa, .int .i64 rb.t.dom, .int .i64 rb.t.ap, .int .u32 rb.t.bits, .bool rb.t.ng, .bool rb.t.xn]).toArray 29)))
  have HY := hidW (Bl.new w1 29 ([.int .i64 rb.asid, .int .i64 rb.t.size, .int .u32 rb.t.va, .int .u64 rb.t.pa, .int .i64 rb.t.dom, .int .i64 rb.t.ap, .int .u32 rb.t.bits, .bool rb.t.ng, .bool rb.t.xn]))
  clear hb HC
  generalize hA : W.heap.size = A at HX ⊢
  clear hA
  have c0 := HX.out.box.cell
  go_wp2_with (fail)
  go_at_call 41
  generalize World.alloc _ _ = w2 at *
  generalize w1.heap.size = B at *
  refine (HD.out _ HX.out.pr HX.out.tr).mono ?_
  rintro e w3 ⟨rfl, hb⟩
  replace HX := hidW ((HX.out.step hb).step (below_new _ (.cells ([.int .i64 rb.asid, .int .i64 rb.t.size, .int .u32 rb.t.va, .int .u64 rb.t.pa, .int .i64 rb.t.dom, .int .i64 rb.t.ap, .int .u32 rb.t.bits, .bool rb.t.ng, .bool rb.t.xn]).toArray 29)))
  replace HY := hidW ((HY.out.below hb).below (below_new _ (.cells ([.int .i64 rb.asid, .int .i64 rb.t.size, .int .u32 rb.t.va, .int .u64 rb.t.pa, .int .i64 rb.t.dom, .int .i64 rb.t.ap, .int .u32 rb.t.bits, .bool rb.t.ng, .bool rb.t.xn]).toArray 29)))
  have HZ := hidW (Bl.new w3 29 ([.int .i64 rb.asid, .int .i64 rb.t.size, .int .u32 rb.t.va, .int .u64 rb.t.pa, .int .i64 rb.t.dom, .int .i64 rb.t.ap, .int .u32 rb.t.bits, .bool rb.t.ng, .bool rb.t.xn]))
  clear hb HD c0
  have c1 := HY.out.cell
  have c2 := HZ.out.cell
  go_wp2
  go_ret
  exact ⟨by simp, HX.out.pt, HX.out.pr, HX.out.trn⟩
set_option maxRecDepth 100000 in
set_option maxHeartbeats 4000000 in
theorem asked_2 (W : World) (p g q h : Nat) (L : List Slo) (o : Opr) (h1 : PT 77 W p g L) (h2 : PT 67 W q h L) (ht : TR W) (hn : g ≠ h) (hO : OOk o) (hk : o.kind = 2) :
    Calls Tryd.prog 26 #[.pointer (some ⟨p, 0, none⟩), .pointer (some ⟨q, 0, none⟩), .agg #[.int .i64 o.kind, .int .u32 o.va, .int .i64 o.n, .int .i64 o.b.asid, .int .i64 o.b.t.size, .int .u32 o.b.t.va, .int .u64 o.b.t.pa, .int .i64 o.b.t.dom, .int .i64 o.b.t.ap, .int .u32 o.b.t.bits, .bool o.b.t.ng, .bool o.b.t.xn, .int .i64 o.d.kind, .int .u32 o.d.va, .int .i64 o.d.asid]] W fun e w' => e = .returned (.bool true) ∧ PT 77 w' p g (opG L o) ∧ PT 67 w' q h (opG L o) ∧ Turn (fun x => x = g ∨ x = h) W w' := by
  have h3 : opG L o = (puF L o.b o.n).2 := by simp [opG, hk]
  rw [h3]
  have HX := hidW (AX.start o h1 h2 ht hn)
  have HC : Hid (∀ w, PT 77 w p g L → TR w → Calls Tryd.prog 30 #[.pointer (some ⟨p, 0, none⟩), .agg #[.int .i64 o.b.asid, .int .i64 o.b.t.size, .int .u32 o.b.t.va, .int .u64 o.b.t.pa, .int .i64 o.b.t.dom, .int .i64 o.b.t.ap, .int .u32 o.b.t.bits, .bool o.b.t.ng, .bool o.b.t.xn], .int .i64 o.n] w fun e w' => e = .returned (.tuple #[.int .i64 ((puF L o.b o.n).1.1 : Nat), .int .i64 (puF L o.b o.n).1.2]) ∧ PT 77 w' p g (puF L o.b o.n).2 ∧ Turn (· = g) w w') := fun w h1 h2 => put_any w p g L o.b o.n h1 h2 hO.b
  have HD : Hid (∀ w, PT 67 w q h L → TR w → Calls Tryd.prog 42 #[.pointer (some ⟨q, 0, none⟩), .agg #[.int .i64 o.b.asid, .int .i64 o.b.t.size, .int .u32 o.b.t.va, .int .u64 o.b.t.pa, .int .i64 o.b.t.dom, .int .i64 o.b.t.ap, .int .u32 o.b.t.bits, .bool o.b.t.ng, .bool o.b.t.xn], .int .i64 o.n] w fun e w' => e = .returned (.tuple #[.int .i64 ((puF L o.b o.n).1.1 : Nat), .int .i64 (puF L o.b o.n).1.2]) ∧ PT 67 w' q h (puF L o.b o.n).2 ∧ Turn (· = h) w w') := fun w h1 h2 => uput_any w q h L o.b o.n h1 hO.b
  have hno := no_any
  clear h1 h2 h3 ht hO hn
  obtain ⟨k, va, n, b, d⟩ := o
  dsimp only at *
  subst hk
  generalize (puF L b n) = R at *
  obtain ⟨⟨ri, re⟩, rl⟩ := R
  dsimp only at *
  go_enter Tryd.func26, Tryd.ntmps26
  go_wp2_with (fail)
  go_at_call 30
  refine (HC.out _ HX.out.pt HX.out.tr).mono ?_
  rintro e w1 ⟨rfl, hp, hT⟩
  replace HX := hidW (HX.out.turnP hp hT)
  clear hp hT HC
  generalize hA : W.heap.size = A at HX ⊢
  clear hA
  have c0 := HX.out.box.cell
  go_wp2_with (fail)
  go_at_call 42
  refine (HD.out _ HX.out.pr HX.out.tr).mono ?_
  rintro e w3 ⟨rfl, hp, hT⟩
  replace HX := hidW (HX.out.turnR hp hT)
  clear hp hT HD c0
  go_wp2_with (go_at_call 25; refine (hno _ _).mono ?_; rintro e w' ⟨rfl, rfl⟩)
  go_ret
  exact ⟨by simp, HX.out.pt, HX.out.pr, HX.out.trn⟩
set_option maxRecDepth 100000 in
set_option maxHeartbeats 4000000 in
theorem asked_3 (W : World) (p g q h : Nat) (L : List Slo) (o : Opr) (h1 : PT 77 W p g L) (h2 : PT 67 W q h L) (ht : TR W) (hn : g ≠ h) (hO : OOk o) (hk : o.kind = 3) :
    Calls Tryd.prog 26 #[.pointer (some ⟨p, 0, none⟩), .pointer (some ⟨q, 0, none⟩), .agg #[.int .i64 o.kind, .int .u32 o.va, .int .i64 o.n, .int .i64 o.b.asid, .int .i64 o.b.t.size, .int .u32 o.b.t.va, .int .u64 o.b.t.pa, .int .i64 o.b.t.dom, .int .i64 o.b.t.ap, .int .u32 o.b.t.bits, .bool o.b.t.ng, .bool o.b.t.xn, .int .i64 o.d.kind, .int .u32 o.d.va, .int .i64 o.d.asid]] W fun e w' => e = .returned (.bool true) ∧ PT 77 w' p g (opG L o) ∧ PT 67 w' q h (opG L o) ∧ Turn (fun x => x = g ∨ x = h) W w' := by
  have h3 : opG L o = (evF L o.n).2 := by simp [opG, hk]
  rw [h3]
  have HX := hidW (AX.start o h1 h2 ht hn)
  have HC : Hid (∀ w, PT 77 w p g L → TR w → Calls Tryd.prog 37 #[.pointer (some ⟨p, 0, none⟩), .int .i64 o.n] w fun e w' => e = .returned (.bool (evF L o.n).1) ∧ PT 77 w' p g (evF L o.n).2 ∧ Turn (· = g) w w') := fun w h1 h2 => evict_any w p g L o.n h1
  have HD : Hid (∀ w, PT 67 w q h L → TR w → Calls Tryd.prog 43 #[.pointer (some ⟨q, 0, none⟩), .int .i64 o.n] w fun e w' => e = .returned (.bool (evF L o.n).1) ∧ PT 67 w' q h (evF L o.n).2 ∧ Turn (· = h) w w') := fun w h1 h2 => uevict_any w q h L o.n h1
  clear h1 h2 h3 ht hO hn
  obtain ⟨k, va, n, b, d⟩ := o
  dsimp only at *
  subst hk
  generalize (evF L n) = R at *
  obtain ⟨rb, rl⟩ := R
  dsimp only at *
  go_enter Tryd.func26, Tryd.ntmps26
  go_wp2
  generalize World.alloc _ _ = w0 at *
  generalize hA : W.heap.size = A at HX ⊢
  clear hA
  replace HX := hidW HX.out.drew
  refine wp_region_held_drew (S := fun w' => w'.cell? ⟨A, 2, none⟩ = some (.int .i64 n)) (by kernel_rfl) (HX.out.box.cell 2) (fun hHeld => ?_)
  refine wpAnyH_take (i := 0) (oi := { dst := some 76, op := Op.move (Operand.tmp 0), type := 39, pos := _, after := #[], guard := none }) (v := ?_) rfl (by kernel_rfl) (by kernel_rfl) (by kernel_rfl) (fun _ _ _ h => h) (Or.inl ⟨by rfl, ?_⟩) (by assumption) ?_
  rotate_left
  · (intro w hSw; (try dsimp only at hSw); go_simp; try with_reducible rfl)
  simp only [Act.put, List.setIfInBounds_toArray, List.set_cons_zero, List.set_cons_succ]
  refine wpAnyH_take (i := 1) (oi := { dst := some 77, op := Op.fieldAddr 45 (Operand.tmp 5) 2, type := 0, pos := _, after := #[], guard := none }) (v := ?_) rfl (by kernel_rfl) (by kernel_rfl) (by kernel_rfl) (fun _ _ _ h => h) (Or.inl ⟨by rfl, ?_⟩) (by assumption) ?_
  rotate_left
  · (intro w hSw; (try dsimp only at hSw); go_simp; try with_reducible rfl)
  simp only [Act.put, List.setIfInBounds_toArray, List.set_cons_zero, List.set_cons_succ]
  refine wpAnyH_take (i := 2) (oi := { dst := some 78, op := Op.load 3 (Operand.tmp 77), type := 3, pos := _, after := #[{ on := 1, ground := Ground.data }], guard := none }) (v := ?_) rfl (by kernel_rfl) (by kernel_rfl) (by kernel_rfl) (fun _ _ _ h => h) (Or.inl ⟨by rfl, ?_⟩) (by assumption) ?_
  rotate_left
  · (intro w hSw; (try dsimp only at hSw); go_simp; try with_reducible rfl)
  simp only [Act.put, List.setIfInBounds_toArray, List.set_cons_zero, List.set_cons_succ]
  refine wpAnyH_take (i := 4) (oi := { dst := some 80, op := Op.move (Operand.tmp 1), type := 61, pos := _, after := #[], guard := none }) (v := ?_) rfl (by kernel_rfl) (by kernel_rfl) (by kernel_rfl) (fun _ _ _ h => h) (Or.inl ⟨by rfl, ?_⟩) (by assumption) ?_
  rotate_left
  · (intro w hSw; (try dsimp only at hSw); go_simp; try with_reducible rfl)
  simp only [Act.put, List.setIfInBounds_toArray, List.set_cons_zero, List.set_cons_succ]
  refine wpAnyH_take (i := 5) (oi := { dst := some 81, op := Op.fieldAddr 45 (Operand.tmp 5) 2, type := 0, pos := _, after := #[], guard := none }) (v := ?_) rfl (by kernel_rfl) (by kernel_rfl) (by kernel_rfl) (fun _ _ _ h => h) (Or.inl ⟨by rfl, ?_⟩) (by assumption) ?_
  rotate_left
  · (intro w hSw; (try dsimp only at hSw); go_simp; try with_reducible rfl)
  simp only [Act.put, List.setIfInBounds_toArray, List.set_cons_zero, List.set_cons_succ]
  refine wpAnyH_take (i := 6) (oi := { dst := some 82, op := Op.load 3 (Operand.tmp 81), type := 3, pos := _, after := #[{ on := 5, ground := Ground.data }], guard := none }) (v := ?_) rfl (by kernel_rfl) (by kernel_rfl) (by kernel_rfl) (fun _ _ _ h => h) (Or.inl ⟨by rfl, ?_⟩) (by assumption) ?_
  rotate_left
  · (intro w hSw; (try dsimp only at hSw); go_simp; try with_reducible rfl)
  simp only [Act.put, List.setIfInBounds_toArray, List.set_cons_zero, List.set_cons_succ]
  refine wpAnyH_ready (rs := [3]) (by kernel_rfl) (by simp) ?_
  refine AllReadyH.cons (o := { dst := some 79, op := Op.call { callee := Callee.value (Operand.func 37), args := #[Operand.tmp 76, Operand.tmp 78], argTypes := #[39, 3] }, type := 4, pos := _, after := #[{ on := 0, ground := Ground.data }, { on := 2, ground := Ground.data }], guard := none }) rfl (fun K hK => ?_) AllReadyH.nil
  go_simp
  (go_at_call 37; refine (HC.out _ HX.out.pt HX.out.tr).mono ?_; rintro e w1 ⟨rfl, hp, hT⟩; replace HX := hidW (HX.out.turnP hp hT); clear hp hT HC; go_wp2_with fail)
  refine hK.out _ _ ?_ (fun hHeld => ?_)
  · ((try dsimp only); exact HX.out.box.cell 2)
  clear hK K
  try simp only [Act.put, List.setIfInBounds_toArray, List.set_cons_zero, List.set_cons_succ]
  refine wpAnyH_ready (rs := [7]) (by kernel_rfl) (by simp) ?_
  refine AllReadyH.cons (o := { dst := some 83, op := Op.call { callee := Callee.value (Operand.func 43), args := #[Operand.tmp 80, Operand.tmp 82], argTypes := #[61, 3] }, type := 4, pos := _, after := #[{ on := 4, ground := Ground.data }, { on := 6, ground := Ground.data }, { on := 3, ground := Ground.chain }], guard := none }) rfl (fun K hK => ?_) AllReadyH.nil
  go_simp
  (go_at_call 43; refine (HD.out _ HX.out.pr HX.out.tr).mono ?_; rintro e w1 ⟨rfl, hp, hT⟩; replace HX := hidW (HX.out.turnR hp hT); clear hp hT HD; go_wp2_with fail)
  refine hK.out _ _ ?_ (fun hHeld => ?_)
  · ((try dsimp only); exact HX.out.box.cell 2)
  clear hK K
  try simp only [Act.put, List.setIfInBounds_toArray, List.set_cons_zero, List.set_cons_succ]
  refine wpAnyH_take (i := 8) (oi := { dst := some 84, op := Op.binOp BinOp.eql 4 (Operand.tmp 79) (Operand.tmp 83) 4, type := 4, pos := _, after := #[{ on := 3, ground := Ground.data }, { on := 7, ground := Ground.data }], guard := none }) (v := ?_) rfl (by kernel_rfl) (by kernel_rfl) (by kernel_rfl) (fun _ _ _ h => h) (Or.inl ⟨by rfl, ?_⟩) (by assumption) ?_
  rotate_left
  · (intro w hSw; (try dsimp only at hSw); go_simp; try with_reducible rfl)
  simp only [Act.put, List.setIfInBounds_toArray, List.set_cons_zero, List.set_cons_succ]
  refine wpAnyH_take (i := 9) (oi := { dst := some 6, op := Op.assign (Operand.tmp 84), type := 4, pos := _, after := #[{ on := 8, ground := Ground.data }, { on := 7, ground := Ground.chain }, { on := 0, ground := Ground.phase }, { on := 1, ground := Ground.phase }, { on := 2, ground := Ground.phase }, { on := 3, ground := Ground.phase }, { on := 4, ground := Ground.phase }, { on := 5, ground := Ground.phase }, { on := 6, ground := Ground.phase }, { on := 7, ground := Ground.phase }, { on := 8, ground := Ground.phase }], guard := none }) (v := ?_) rfl (by kernel_rfl) (by kernel_rfl) (by kernel_rfl) (fun _ _ _ h => h) (Or.inl ⟨by rfl, ?_⟩) (by assumption) ?_
  rotate_left
  · (intro w hSw; (try dsimp only at hSw); go_simp; try with_reducible rfl)
  simp only [Act.put, List.setIfInBounds_toArray, List.set_cons_zero, List.set_cons_succ]
  refine wpAnyH_done (by kernel_rfl) ?_ _
  go_wp2
  go_ret
  exact ⟨by simp, HX.out.pt, HX.out.pr, HX.out.trn⟩
set_option maxRecDepth 100000 in
set_option maxHeartbeats 4000000 in
theorem asked_no (W : World) (p g q h : Nat) (L : List Slo) (o : Opr) (h1 : PT 77 W p g L) (h2 : PT 67 W q h L) (ht : TR W) (hn : g ≠ h) (hO : OOk o) (k1 : ¬ o.kind = 1) (k2 : ¬ o.kind = 2) (k3 : ¬ o.kind = 3) :
    Calls Tryd.prog 26 #[.pointer (some ⟨p, 0, none⟩), .pointer (some ⟨q, 0, none⟩), .agg #[.int .i64 o.kind, .int .u32 o.va, .int .i64 o.n, .int .i64 o.b.asid, .int .i64 o.b.t.size, .int .u32 o.b.t.va, .int .u64 o.b.t.pa, .int .i64 o.b.t.dom, .int .i64 o.b.t.ap, .int .u32 o.b.t.bits, .bool o.b.t.ng, .bool o.b.t.xn, .int .i64 o.d.kind, .int .u32 o.d.va, .int .i64 o.d.asid]] W fun e w' => e = .returned (.bool true) ∧ PT 77 w' p g (opG L o) ∧ PT 67 w' q h (opG L o) ∧ Turn (fun x => x = g ∨ x = h) W w' := by
  have h3 : opG L o = (flF L o.d).2 := by simp [opG, k1, k2, k3]
  rw [h3]
  have HX := hidW (AX.start o h1 h2 ht hn)
  have HC : Hid (∀ w, PT 77 w p g L → TR w → Calls Tryd.prog 32 #[.pointer (some ⟨p, 0, none⟩), .agg #[.int .i64 o.d.kind, .int .u32 o.d.va, .int .i64 o.d.asid]] w fun e w' => e = .returned (.int .i64 ((flF L o.d).1 : Nat)) ∧ PT 77 w' p g (flF L o.d).2 ∧ Turn (· = g) w w') := fun w h1 h2 => flush_any w p g L o.d h1 h2 hO.dva
  have HD : Hid (∀ w, PT 67 w q h L → TR w → Calls Tryd.prog 44 #[.pointer (some ⟨q, 0, none⟩), .agg #[.int .i64 o.d.kind, .int .u32 o.d.va, .int .i64 o.d.asid]] w fun e w' => e = .returned (.int .i64 ((flF L o.d).1 : Nat)) ∧ PT 67 w' q h (flF L o.d).2 ∧ Turn (· = h) w w') := fun w h1 h2 => uflush_any w q h L o.d h1 hO.dva
  clear h1 h2 h3 ht hO hn
  obtain ⟨k, va, n, b, d⟩ := o
  dsimp only at *
  generalize (flF L d) = R at *
  obtain ⟨rb, rl⟩ := R
  dsimp only at *
  go_enter Tryd.func26, Tryd.ntmps26
  go_wp2
  generalize World.alloc _ _ = w0 at *
  generalize hA : W.heap.size = A at HX ⊢
  clear hA
  replace HX := hidW HX.out.drew
  refine wp_region_held_drew (S := fun w' => w'.cell? ⟨A, 12, none⟩ = some (.int .i64 d.kind) ∧ w'.cell? ⟨A, 13, none⟩ = some (.int .u32 d.va) ∧ w'.cell? ⟨A, 14, none⟩ = some (.int .i64 d.asid)) (by kernel_rfl) ⟨HX.out.box.cell 12, HX.out.box.cell 13, HX.out.box.cell 14⟩ (fun hHeld => ?_)
  refine wpAnyH_take (i := 0) (oi := { dst := some 85, op := Op.move (Operand.tmp 0), type := 39, pos := _, after := #[], guard := none }) (v := ?_) rfl (by kernel_rfl) (by kernel_rfl) (by kernel_rfl) (fun _ _ _ h => h) (Or.inl ⟨by rfl, ?_⟩) (by assumption) ?_
  rotate_left
  · (intro w hSw; (try dsimp only at hSw); go_simp; try with_reducible rfl)
  simp only [Act.put, List.setIfInBounds_toArray, List.set_cons_zero, List.set_cons_succ]
  refine wpAnyH_take (i := 1) (oi := { dst := some 86, op := Op.fieldAddr 45 (Operand.tmp 5) 4, type := 0, pos := _, after := #[], guard := none }) (v := ?_) rfl (by kernel_rfl) (by kernel_rfl) (by kernel_rfl) (fun _ _ _ h => h) (Or.inl ⟨by rfl, ?_⟩) (by assumption) ?_
  rotate_left
  · (intro w hSw; (try dsimp only at hSw); go_simp; try with_reducible rfl)
  simp only [Act.put, List.setIfInBounds_toArray, List.set_cons_zero, List.set_cons_succ]
  refine wpAnyH_take (i := 2) (oi := { dst := some 87, op := Op.load 33 (Operand.tmp 86), type := 33, pos := _, after := #[{ on := 1, ground := Ground.data }], guard := none }) (v := ?_) rfl (by kernel_rfl) (by kernel_rfl) (by kernel_rfl) (fun _ _ _ h => h) (Or.inl ⟨by rfl, ?_⟩) (by assumption) ?_
  rotate_left
  · (intro w hSw; (try dsimp only at hSw); go_simp; try with_reducible rfl)
  simp only [Act.put, List.setIfInBounds_toArray, List.set_cons_zero, List.set_cons_succ]
  refine wpAnyH_take (i := 4) (oi := { dst := some 89, op := Op.move (Operand.tmp 1), type := 61, pos := _, after := #[], guard := none }) (v := ?_) rfl (by kernel_rfl) (by kernel_rfl) (by kernel_rfl) (fun _ _ _ h => h) (Or.inl ⟨by rfl, ?_⟩) (by assumption) ?_
  rotate_left
  · (intro w hSw; (try dsimp only at hSw); go_simp; try with_reducible rfl)
  simp only [Act.put, List.setIfInBounds_toArray, List.set_cons_zero, List.set_cons_succ]
  refine wpAnyH_take (i := 5) (oi := { dst := some 90, op := Op.fieldAddr 45 (Operand.tmp 5) 4, type := 0, pos := _, after := #[], guard := none }) (v := ?_) rfl (by kernel_rfl) (by kernel_rfl) (by kernel_rfl) (fun _ _ _ h => h) (Or.inl ⟨by rfl, ?_⟩) (by assumption) ?_
  rotate_left
  · (intro w hSw; (try dsimp only at hSw); go_simp; try with_reducible rfl)
  simp only [Act.put, List.setIfInBounds_toArray, List.set_cons_zero, List.set_cons_succ]
  refine wpAnyH_take (i := 6) (oi := { dst := some 91, op := Op.load 33 (Operand.tmp 90), type := 33, pos := _, after := #[{ on := 5, ground := Ground.data }], guard := none }) (v := ?_) rfl (by kernel_rfl) (by kernel_rfl) (by kernel_rfl) (fun _ _ _ h => h) (Or.inl ⟨by rfl, ?_⟩) (by assumption) ?_
  rotate_left
  · (intro w hSw; (try dsimp only at hSw); go_simp; try with_reducible rfl)
  simp only [Act.put, List.setIfInBounds_toArray, List.set_cons_zero, List.set_cons_succ]
  refine wpAnyH_ready (rs := [3]) (by kernel_rfl) (by simp) ?_
  refine AllReadyH.cons (o := { dst := some 88, op := Op.call { callee := Callee.value (Operand.func 32), args := #[Operand.tmp 85, Operand.tmp 87], argTypes := #[39, 33] }, type := 3, pos := _, after := #[{ on := 0, ground := Ground.data }, { on := 2, ground := Ground.data }], guard := none }) rfl (fun K hK => ?_) AllReadyH.nil
  go_simp
  (go_at_call 32; refine (HC.out _ HX.out.pt HX.out.tr).mono ?_; rintro e w1 ⟨rfl, hp, hT⟩; replace HX := hidW (HX.out.turnP hp hT); clear hp hT HC; go_wp2_with fail)
  refine hK.out _ _ ?_ (fun hHeld => ?_)
  · ((try dsimp only); exact ⟨HX.out.box.cell 12, HX.out.box.cell 13, HX.out.box.cell 14⟩)
  clear hK K
  try simp only [Act.put, List.setIfInBounds_toArray, List.set_cons_zero, List.set_cons_succ]
  refine wpAnyH_ready (rs := [7]) (by kernel_rfl) (by simp) ?_
  refine AllReadyH.cons (o := { dst := some 92, op := Op.call { callee := Callee.value (Operand.func 44), args := #[Operand.tmp 89, Operand.tmp 91], argTypes := #[61, 33] }, type := 3, pos := _, after := #[{ on := 4, ground := Ground.data }, { on := 6, ground := Ground.data }, { on := 3, ground := Ground.chain }], guard := none }) rfl (fun K hK => ?_) AllReadyH.nil
  go_simp
  (go_at_call 44; refine (HD.out _ HX.out.pr HX.out.tr).mono ?_; rintro e w1 ⟨rfl, hp, hT⟩; replace HX := hidW (HX.out.turnR hp hT); clear hp hT HD; go_wp2_with fail)
  refine hK.out _ _ ?_ (fun hHeld => ?_)
  · ((try dsimp only); exact ⟨HX.out.box.cell 12, HX.out.box.cell 13, HX.out.box.cell 14⟩)
  clear hK K
  try simp only [Act.put, List.setIfInBounds_toArray, List.set_cons_zero, List.set_cons_succ]
  refine wpAnyH_take (i := 8) (oi := { dst := some 93, op := Op.binOp BinOp.eql 3 (Operand.tmp 88) (Operand.tmp 92) 3, type := 4, pos := _, after := #[{ on := 3, ground := Ground.data }, { on := 7, ground := Ground.data }], guard := none }) (v := ?_) rfl (by kernel_rfl) (by kernel_rfl) (by kernel_rfl) (fun _ _ _ h => h) (Or.inl ⟨by rfl, ?_⟩) (by assumption) ?_
  rotate_left
  · (intro w hSw; (try dsimp only at hSw); go_simp; try with_reducible rfl)
  simp only [Act.put, List.setIfInBounds_toArray, List.set_cons_zero, List.set_cons_succ]
  refine wpAnyH_take (i := 9) (oi := { dst := some 6, op := Op.assign (Operand.tmp 93), type := 4, pos := _, after := #[{ on := 8, ground := Ground.data }, { on := 7, ground := Ground.chain }, { on := 0, ground := Ground.phase }, { on := 1, ground := Ground.phase }, { on := 2, ground := Ground.phase }, { on := 3, ground := Ground.phase }, { on := 4, ground := Ground.phase }, { on := 5, ground := Ground.phase }, { on := 6, ground := Ground.phase }, { on := 7, ground := Ground.phase }, { on := 8, ground := Ground.phase }], guard := none }) (v := ?_) rfl (by kernel_rfl) (by kernel_rfl) (by kernel_rfl) (fun _ _ _ h => h) (Or.inl ⟨by rfl, ?_⟩) (by assumption) ?_
  rotate_left
  · (intro w hSw; (try dsimp only at hSw); go_simp; try with_reducible rfl)
  simp only [Act.put, List.setIfInBounds_toArray, List.set_cons_zero, List.set_cons_succ]
  refine wpAnyH_done (by kernel_rfl) ?_ _
  go_wp2
  go_ret
  exact ⟨by simp, HX.out.pt, HX.out.pr, HX.out.trn⟩
theorem asked_any (W : World) (p g q h : Nat) (L : List Slo) (o : Opr) (h1 : PT 77 W p g L) (h2 : PT 67 W q h L) (ht : TR W) (hn : g ≠ h) (hO : OOk o) :
    Calls Tryd.prog 26 #[.pointer (some ⟨p, 0, none⟩), .pointer (some ⟨q, 0, none⟩), .agg #[.int .i64 o.kind, .int .u32 o.va, .int .i64 o.n, .int .i64 o.b.asid, .int .i64 o.b.t.size, .int .u32 o.b.t.va, .int .u64 o.b.t.pa, .int .i64 o.b.t.dom, .int .i64 o.b.t.ap, .int .u32 o.b.t.bits, .bool o.b.t.ng, .bool o.b.t.xn, .int .i64 o.d.kind, .int .u32 o.d.va, .int .i64 o.d.asid]] W fun e w' => e = .returned (.bool true) ∧ PT 77 w' p g (opG L o) ∧ PT 67 w' q h (opG L o) ∧ Turn (fun x => x = g ∨ x = h) W w' := by
  by_cases k1 : o.kind = 1
  · exact asked_1 W p g q h L o h1 h2 ht hn hO k1
  by_cases k2 : o.kind = 2
  · exact asked_2 W p g q h L o h1 h2 ht hn hO k2
  by_cases k3 : o.kind = 3
  · exact asked_3 W p g q h L o h1 h2 ht hn hO k3
  exact asked_no W p g q h L o h1 h2 ht hn hO k1 k2 k3
end Go.Proofs.YtfbapflbjkmocaaDoor
