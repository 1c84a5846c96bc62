import Derived.Test.YtfbapflbjkmocaaDoorLn
namespace Go.Proofs.YtfbapflbjkmocaaDoor
open Go.RowKit
set_option linter.unusedVariables false
set_option linter.unusedSimpArgs false
/-- Both TLBs, of one's own. -/
structure PX (W wr : World) (p g q h : Nat) (L : List Slo) : Prop where
  bel : Below W.heap.size W wr
  pt : PT 77 wr p g L
  pr : PT 67 wr q h L
  ne : g ≠ h
  ng : W.heap.size ≤ g
  nh : W.heap.size ≤ h
section
variable {W wr w' : World} {p g q h : Nat} {L M : List Slo}
theorem PX.step (x : PX W wr p g q h L) (hb : Below wr.heap.size wr w') : PX W w' p g q h L := ⟨Below.step x.bel hb, x.pt.below hb, x.pr.below hb, x.ne, x.ng, x.nh⟩
theorem PX.drew (x : PX W wr p g q h L) : PX W wr.drew p g q h L := x.step (below_drew (Below.refl _ _))
theorem PX.turn (x : PX W wr p g q h L) (h1 : PT 77 w' p g M) (h2 : PT 67 w' q h M) (hT : Turn (fun y => y = g ∨ y = h) wr w') : PX W w' p g q h M := by
  have hg := x.ng
  have hh := x.nh
  exact ⟨((Turn.below (S := fun y => y = g ∨ y = h) x.bel).trans hT (fun y hy => .inl hy)).to (fun y hy => by rcases hy with hy | hy <;> rw [hy] <;> assumption) (Nat.le_refl _), h1, h2, x.ne, x.ng, x.nh⟩
end
set_option maxRecDepth 100000 in
set_option maxHeartbeats 8000000 in
theorem plays_no (W : World) (x : Int) (sa : Option Addr) (cap m : Nat) (hT : TR W) (hx : x < 1 ∨ 64 < x) :
    Calls Tryd.prog 8 #[.int .i64 x, .slice sa m cap] W fun e w' => e = .returned (.bool true) ∧ Below W.heap.size W w' := by
  have HT : Hid (TR W) := hT
  have HA := hidW (new_no x W hx)
  have HB := hidW (unew_no x W hx)
  have hno := no_any
  clear hT hx
  go_enter Tryd.func8, Tryd.ntmps8
  go_wp2_with (fail)
  go_at_call 23
  refine HA.out.mono ?_
  rintro e w1 ⟨rfl, rfl⟩
  clear HA
  go_wp2_with (fail)
  go_at_call 24
  refine HB.out.mono ?_
  rintro e w1 ⟨rfl, rfl⟩
  clear HB
  go_wp2_with (go_at_call 25; refine (hno _ _).mono ?_; rintro e w' ⟨rfl, rfl⟩)
  go_at_call 9
  refine (live_any _ HT.out).mono ?_
  rintro e w2 ⟨rfl, hb⟩
  have HX := hidW hb
  clear hb
  go_wp2
  go_ret
  exact ⟨rfl, HX.out⟩
set_option maxRecDepth 100000 in
set_option maxHeartbeats 16000000 in
theorem plays_yes (W : World) (n : Nat) (sa : Option Addr) (cap : Nat) (ops : List Opr) (hS : Scr W sa ops) (hT : TR W) (hl : ops.length ≤ maxLen) (hn1 : 1 ≤ n) (hn2 : n ≤ 64) :
    Calls Tryd.prog 8 #[.int .i64 (n : Int), .slice sa ops.length cap] W fun e w' => e = .returned (.bool true) ∧ Below W.heap.size W w' := by
  unfold maxLen at hl
  have HT : Hid (∀ w, Below W.heap.size W w → TR w) := fun w h => hT.below h
  have HS0 : Hid (Scr W sa ops) := hS
  have HA := hidW (new_yes n W hn1 hn2)
  have HBB : Hid (∀ w, _) := hidW (fun w => unew_yes n w hn1 hn2)
  have hno := no_any
  generalize hn : ops.length = m at *
  have HM : Hid (ops.length = m) := hn
  clear hT hS hn
  go_enter Tryd.func8, Tryd.ntmps8
  go_wp2_with (fail)
  go_at_call 23
  refine HA.out.mono ?_
  rintro e w1 ⟨rfl, hp, hb⟩
  have H1 := hidW (And.intro hp hb)
  clear hp hb HA
  go_wp2_with (fail)
  go_at_call 24
  refine (HBB.out _).mono ?_
  rintro e w2 ⟨rfl, hp, hb⟩
  have hlt1 := H1.out.1.row.lt
  have HX : Hid (PX W w2 (W.heap.size + 1) W.heap.size (w1.heap.size + 1) w1.heap.size (List.replicate n sZ)) := hidW ⟨Below.step H1.out.2 hb, H1.out.1.below hb, hp, by omega, Nat.le_refl _, H1.out.2.size⟩
  clear hp hb HBB H1 hlt1
  generalize hPp : W.heap.size + 1 = p at HX ⊢
  generalize hG : W.heap.size = g at HX ⊢
  generalize hQ : w1.heap.size + 1 = q at HX ⊢
  generalize hH : w1.heap.size = h at HX ⊢
  clear hPp hG hQ hH
  go_wp2_with (go_at_call 25; refine (hno _ _).mono ?_; rintro e w' ⟨rfl, rfl⟩)
  go_at_call 9
  refine (live_any _ (HT.out _ HX.out.bel)).mono ?_
  rintro e w3 ⟨rfl, hb⟩
  replace HX := hidW (HX.out.step hb)
  clear hb
  go_wp2
  go_loopw [9] (fun i wr => ∃ (k : Nat) (L : List Slo), k ≤ m ∧ i = .int .i64 k ∧ L.length = n ∧ PX W wr p g q h L) (fun i _ => m - (intOf i).toNat)
  case atStart => exact ⟨0, _, by omega, rfl, zeros_len n, HX.out⟩
  case round =>
    clear HX
    obtain ⟨k, L, hk, rfl, hln, hX⟩ := hrel
    have HX := hidW hX
    have HN := hidW hln
    clear hX hln
    by_cases hlt : k < m
    · obtain ⟨o, b, off, hok, rfl, hoo, ec⟩ := HS0.out.at HX.out.bel (k := k) (by rw [HM.out]; exact hlt)
      have HC : Hid (∀ w, Below W.heap.size W w → (w.cell? ⟨b, off + k * 15, none⟩ = some (.int .i64 o.kind) ∧ w.cell? ⟨b, off + k * 15 + 1, none⟩ = some (.int .u32 o.va) ∧ w.cell? ⟨b, off + k * 15 + 2, none⟩ = some (.int .i64 o.n) ∧ w.cell? ⟨b, off + k * 15 + 3, none⟩ = some (.int .i64 o.b.asid) ∧ w.cell? ⟨b, off + k * 15 + 4, none⟩ = some (.int .i64 o.b.t.size) ∧ w.cell? ⟨b, off + k * 15 + 5, none⟩ = some (.int .u32 o.b.t.va) ∧ w.cell? ⟨b, off + k * 15 + 6, none⟩ = some (.int .u64 o.b.t.pa) ∧ w.cell? ⟨b, off + k * 15 + 7, none⟩ = some (.int .i64 o.b.t.dom) ∧ w.cell? ⟨b, off + k * 15 + 8, none⟩ = some (.int .i64 o.b.t.ap) ∧ w.cell? ⟨b, off + k * 15 + 9, none⟩ = some (.int .u32 o.b.t.bits) ∧ w.cell? ⟨b, off + k * 15 + 10, none⟩ = some (.bool o.b.t.ng) ∧ w.cell? ⟨b, off + k * 15 + 11, none⟩ = some (.bool o.b.t.xn) ∧ w.cell? ⟨b, off + k * 15 + 12, none⟩ = some (.int .i64 o.d.kind) ∧ w.cell? ⟨b, off + k * 15 + 13, none⟩ = some (.int .u32 o.d.va) ∧ w.cell? ⟨b, off + k * 15 + 14, none⟩ = some (.int .i64 o.d.asid))) := hidW (fun w hw => by
        obtain ⟨o', b', off', hok', he', _, ec'⟩ := HS0.out.at hw (k := k) (by rw [HM.out]; exact hlt)
        rw [hok] at hok'
        injection hok' with hok'
        injection he' with he'
        injection he' with e1 e2 _
        subst hok' e1 e2
        exact ec')
      have HD : Hid (∀ w L, PX W w p g q h L → Calls Tryd.prog 26 #[.pointer (some ⟨p, 0, none⟩), .pointer (some ⟨q, 0, none⟩), .agg #[.int .i64 o.kind, .int .u32 o.va, .int .i64 o.n, .int .i64 o.b.asid, .int .i64 o.b.t.size, .int .u32 o.b.t.va, .int .u64 o.b.t.pa, .int .i64 o.b.t.dom, .int .i64 o.b.t.ap, .int .u32 o.b.t.bits, .bool o.b.t.ng, .bool o.b.t.xn, .int .i64 o.d.kind, .int .u32 o.d.va, .int .i64 o.d.asid]] w fun e w' => e = .returned (.bool true) ∧ PT 77 w' p g (opG L o) ∧ PT 67 w' q h (opG L o) ∧ Turn (fun x => x = g ∨ x = h) w w') := fun w L h1 => asked_any w p g q h L o h1.pt h1.pr (HT.out _ h1.bel) h1.ne hoo
      have HL : Hid (∀ L : List Slo, L.length = n → (opG L o).length = n) := hidW (fun L h => (opG_len L o).trans h)
      have HK : Hid (∀ w L, PX W w p g q h L → L.length = n → ((w.cell? ⟨b, off + k * 15, none⟩ = some (.int .i64 o.kind) ∧ w.cell? ⟨b, off + k * 15 + 1, none⟩ = some (.int .u32 o.va) ∧ w.cell? ⟨b, off + k * 15 + 2, none⟩ = some (.int .i64 o.n) ∧ w.cell? ⟨b, off + k * 15 + 3, none⟩ = some (.int .i64 o.b.asid) ∧ w.cell? ⟨b, off + k * 15 + 4, none⟩ = some (.int .i64 o.b.t.size) ∧ w.cell? ⟨b, off + k * 15 + 5, none⟩ = some (.int .u32 o.b.t.va) ∧ w.cell? ⟨b, off + k * 15 + 6, none⟩ = some (.int .u64 o.b.t.pa) ∧ w.cell? ⟨b, off + k * 15 + 7, none⟩ = some (.int .i64 o.b.t.dom) ∧ w.cell? ⟨b, off + k * 15 + 8, none⟩ = some (.int .i64 o.b.t.ap) ∧ w.cell? ⟨b, off + k * 15 + 9, none⟩ = some (.int .u32 o.b.t.bits) ∧ w.cell? ⟨b, off + k * 15 + 10, none⟩ = some (.bool o.b.t.ng) ∧ w.cell? ⟨b, off + k * 15 + 11, none⟩ = some (.bool o.b.t.xn) ∧ w.cell? ⟨b, off + k * 15 + 12, none⟩ = some (.int .i64 o.d.kind) ∧ w.cell? ⟨b, off + k * 15 + 13, none⟩ = some (.int .u32 o.d.va) ∧ w.cell? ⟨b, off + k * 15 + 14, none⟩ = some (.int .i64 o.d.asid)) ∧ w.cell? ⟨q, 0, none⟩ = some (.slice (some ⟨h, 0, none⟩) n n))) := hidW (fun w L h1 h2 => ⟨HC.out w h1.bel, by have := h1.pr.cell; rw [h2] at this; exact this⟩)
      clear hok hoo HC ec
      replace HX := hidW HX.out.drew
      go_wp2
      refine wp_region_held_drew (S := fun w' => (w'.cell? ⟨b, off + k * 15, none⟩ = some (.int .i64 o.kind) ∧ w'.cell? ⟨b, off + k * 15 + 1, none⟩ = some (.int .u32 o.va) ∧ w'.cell? ⟨b, off + k * 15 + 2, none⟩ = some (.int .i64 o.n) ∧ w'.cell? ⟨b, off + k * 15 + 3, none⟩ = some (.int .i64 o.b.asid) ∧ w'.cell? ⟨b, off + k * 15 + 4, none⟩ = some (.int .i64 o.b.t.size) ∧ w'.cell? ⟨b, off + k * 15 + 5, none⟩ = some (.int .u32 o.b.t.va) ∧ w'.cell? ⟨b, off + k * 15 + 6, none⟩ = some (.int .u64 o.b.t.pa) ∧ w'.cell? ⟨b, off + k * 15 + 7, none⟩ = some (.int .i64 o.b.t.dom) ∧ w'.cell? ⟨b, off + k * 15 + 8, none⟩ = some (.int .i64 o.b.t.ap) ∧ w'.cell? ⟨b, off + k * 15 + 9, none⟩ = some (.int .u32 o.b.t.bits) ∧ w'.cell? ⟨b, off + k * 15 + 10, none⟩ = some (.bool o.b.t.ng) ∧ w'.cell? ⟨b, off + k * 15 + 11, none⟩ = some (.bool o.b.t.xn) ∧ w'.cell? ⟨b, off + k * 15 + 12, none⟩ = some (.int .i64 o.d.kind) ∧ w'.cell? ⟨b, off + k * 15 + 13, none⟩ = some (.int .u32 o.d.va) ∧ w'.cell? ⟨b, off + k * 15 + 14, none⟩ = some (.int .i64 o.d.asid)) ∧ w'.cell? ⟨q, 0, none⟩ = some (.slice (some ⟨h, 0, none⟩) n n)) (by kernel_rfl) (HK.out _ _ HX.out HN.out) (fun hHeld => ?_)
      refine wpAnyH_take (i := 0) (oi := { dst := some 43, op := Op.move (Operand.tmp 5), type := 39, pos := _, after := #[], guard := none }) (v := ?_) rfl (by kernel_rfl) (by kernel_rfl) (by kernel_rfl) (fun _ _ _ h => h) (Or.inl ⟨by rfl, ?_⟩) (by assumption) ?_
      rotate_left
      · (intro w hSw; (try dsimp only at hSw); go_simp; try with_reducible rfl)
      simp only [Act.put, List.setIfInBounds_toArray, List.set_cons_zero, List.set_cons_succ]
      refine wpAnyH_take (i := 1) (oi := { dst := some 44, op := Op.move (Operand.tmp 7), type := 61, pos := _, after := #[], guard := none }) (v := ?_) rfl (by kernel_rfl) (by kernel_rfl) (by kernel_rfl) (fun _ _ _ h => h) (Or.inl ⟨by rfl, ?_⟩) (by assumption) ?_
      rotate_left
      · (intro w hSw; (try dsimp only at hSw); go_simp; try with_reducible rfl)
      simp only [Act.put, List.setIfInBounds_toArray, List.set_cons_zero, List.set_cons_succ]
      refine wpAnyH_take (i := 2) (oi := { dst := some 45, op := Op.move (Operand.tmp 1), type := 38, pos := _, after := #[], guard := none }) (v := ?_) rfl (by kernel_rfl) (by kernel_rfl) (by kernel_rfl) (fun _ _ _ h => h) (Or.inl ⟨by rfl, ?_⟩) (by assumption) ?_
      rotate_left
      · (intro w hSw; (try dsimp only at hSw); go_simp; try with_reducible rfl)
      simp only [Act.put, List.setIfInBounds_toArray, List.set_cons_zero, List.set_cons_succ]
      refine wpAnyH_take (i := 3) (oi := { dst := some 46, op := Op.move (Operand.tmp 9), type := 3, pos := _, after := #[], guard := none }) (v := ?_) rfl (by kernel_rfl) (by kernel_rfl) (by kernel_rfl) (fun _ _ _ h => h) (Or.inl ⟨by rfl, ?_⟩) (by assumption) ?_
      rotate_left
      · (intro w hSw; (try dsimp only at hSw); go_simp; try with_reducible rfl)
      simp only [Act.put, List.setIfInBounds_toArray, List.set_cons_zero, List.set_cons_succ]
      refine wpAnyH_take (i := 4) (oi := { dst := some 47, op := Op.indexAddr 38 (Operand.tmp 45) (Operand.tmp 46), type := 0, pos := _, after := #[{ on := 2, ground := Ground.data }, { on := 3, ground := Ground.data }], guard := none }) (v := ?_) rfl (by kernel_rfl) (by kernel_rfl) (by kernel_rfl) (fun _ _ _ h => h) (Or.inl ⟨by rfl, ?_⟩) (by assumption) ?_
      rotate_left
      · (intro w hSw; (try dsimp only at hSw); go_simp; try with_reducible rfl)
      simp only [Act.put, List.setIfInBounds_toArray, List.set_cons_zero, List.set_cons_succ]
      refine wpAnyH_take (i := 5) (oi := { dst := some 48, op := Op.load 45 (Operand.tmp 47), type := 45, pos := _, after := #[{ on := 4, ground := Ground.data }], guard := none }) (v := ?_) rfl (by kernel_rfl) (by kernel_rfl) (by kernel_rfl) (fun _ _ _ h => h) (Or.inl ⟨by rfl, ?_⟩) (by assumption) ?_
      rotate_left
      · (intro w hSw; (try dsimp only at hSw); go_simp; try with_reducible rfl)
      simp only [Act.put, List.setIfInBounds_toArray, List.set_cons_zero, List.set_cons_succ]
      refine wpAnyH_ready (rs := [6]) (by kernel_rfl) (by simp) ?_
      refine AllReadyH.cons (o := { dst := some 49, op := Op.call { callee := Callee.value (Operand.func 26), args := #[Operand.tmp 43, Operand.tmp 44, Operand.tmp 48], argTypes := #[39, 61, 45] }, type := 4, pos := _, after := #[{ on := 0, ground := Ground.data }, { on := 1, ground := Ground.data }, { on := 5, ground := Ground.data }], guard := none }) rfl (fun K hK => ?_) AllReadyH.nil
      go_simp
      (go_at_call 26; refine (HD.out _ _ HX.out).mono ?_; rintro e w4 ⟨rfl, h1, h2, hT⟩; replace HX := hidW (HX.out.turn h1 h2 hT); replace HN := hidW (HL.out _ HN.out); clear h1 h2 hT HD HL; go_wp2_with fail)
      refine hK.out _ _ ?_ (fun hHeld => ?_)
      · ((try dsimp only); with_reducible exact HK.out _ _ HX.out HN.out)
      clear hK K
      try simp only [Act.put, List.setIfInBounds_toArray, List.set_cons_zero, List.set_cons_succ]
      refine wpAnyH_take (i := 7) (oi := { dst := some 50, op := Op.unOp UnOp.not 4 (Operand.tmp 49), type := 4, pos := _, after := #[{ on := 6, ground := Ground.data }], guard := none }) (v := ?_) rfl (by kernel_rfl) (by kernel_rfl) (by kernel_rfl) (fun _ _ _ h => h) (Or.inl ⟨by rfl, ?_⟩) (by assumption) ?_
      rotate_left
      · (intro w hSw; (try dsimp only at hSw); go_simp; try with_reducible rfl)
      simp only [Act.put, List.setIfInBounds_toArray, List.set_cons_zero, List.set_cons_succ]
      refine wpAnyH_take (i := 8) (oi := { dst := some 51, op := Op.move (Operand.tmp 50), type := 4, pos := _, after := #[{ on := 7, ground := Ground.data }, { on := 6, ground := Ground.chain }], guard := none }) (v := ?_) rfl (by kernel_rfl) (by kernel_rfl) (by kernel_rfl) (fun _ _ _ h => h) (Or.inl ⟨by rfl, ?_⟩) (by assumption) ?_
      rotate_left
      · (intro w hSw; (try dsimp only at hSw); go_simp; try with_reducible rfl)
      simp only [Act.put, List.setIfInBounds_toArray, List.set_cons_zero, List.set_cons_succ]
      refine wpAnyH_take (i := 9) (oi := { dst := some 52, op := Op.move (Operand.tmp 5), type := 39, pos := _, after := #[{ on := 8, ground := Ground.guard }], guard := some (8, false) }) (v := ?_) rfl (by kernel_rfl) (by kernel_rfl) (by kernel_rfl) (fun _ _ _ h => h) (Or.inl ⟨by rfl, ?_⟩) (by assumption) ?_
      rotate_left
      · (intro w hSw; (try dsimp only at hSw); go_simp; try with_reducible rfl)
      simp only [Act.put, List.setIfInBounds_toArray, List.set_cons_zero, List.set_cons_succ]
      refine wpAnyH_take (i := 11) (oi := { dst := some 54, op := Op.move (Operand.tmp 7), type := 61, pos := _, after := #[{ on := 8, ground := Ground.guard }], guard := some (8, false) }) (v := ?_) rfl (by kernel_rfl) (by kernel_rfl) (by kernel_rfl) (fun _ _ _ h => h) (Or.inl ⟨by rfl, ?_⟩) (by assumption) ?_
      rotate_left
      · (intro w hSw; (try dsimp only at hSw); go_simp; try with_reducible rfl)
      simp only [Act.put, List.setIfInBounds_toArray, List.set_cons_zero, List.set_cons_succ]
      refine wpAnyH_take (i := 12) (oi := { dst := some 55, op := Op.nilCheck (Operand.tmp 54), type := 0, pos := _, after := #[{ on := 11, ground := Ground.data }, { on := 8, ground := Ground.guard }], guard := some (8, false) }) (v := ?_) rfl (by kernel_rfl) (by kernel_rfl) (by kernel_rfl) (fun _ _ _ h => h) (Or.inl ⟨by rfl, ?_⟩) (by assumption) ?_
      rotate_left
      · (intro w hSw; (try dsimp only at hSw); go_simp; try with_reducible rfl)
      simp only [Act.put, List.setIfInBounds_toArray, List.set_cons_zero, List.set_cons_succ]
      refine wpAnyH_take (i := 13) (oi := { dst := some 56, op := Op.fieldAddr 67 (Operand.tmp 55) 0, type := 0, pos := _, after := #[{ on := 12, ground := Ground.data }, { on := 8, ground := Ground.guard }], guard := some (8, false) }) (v := ?_) rfl (by kernel_rfl) (by kernel_rfl) (by kernel_rfl) (fun _ _ _ h => h) (Or.inl ⟨by rfl, ?_⟩) (by assumption) ?_
      rotate_left
      · (intro w hSw; (try dsimp only at hSw); go_simp; try with_reducible rfl)
      simp only [Act.put, List.setIfInBounds_toArray, List.set_cons_zero, List.set_cons_succ]
      refine wpAnyH_take (i := 14) (oi := { dst := some 57, op := Op.load 46 (Operand.tmp 56), type := 46, pos := _, after := #[{ on := 13, ground := Ground.data }, { on := 8, ground := Ground.guard }], guard := some (8, false) }) (v := ?_) rfl (by kernel_rfl) (by kernel_rfl) (by kernel_rfl) (fun _ _ _ h => h) (Or.inl ⟨by rfl, ?_⟩) (by assumption) ?_
      rotate_left
      · (intro w hSw; (try dsimp only at hSw); go_simp; try with_reducible rfl)
      simp only [Act.put, List.setIfInBounds_toArray, List.set_cons_zero, List.set_cons_succ]
      refine wpAnyH_ready (rs := [10]) (by kernel_rfl) (by simp) ?_
      refine AllReadyH.cons (o := { dst := some 53, op := Op.call { callee := Callee.value (Operand.func 15), args := #[Operand.tmp 52], argTypes := #[39] }, type := 46, pos := _, after := #[{ on := 9, ground := Ground.data }, { on := 8, ground := Ground.chain }, { on := 8, ground := Ground.guard }], guard := some (8, false) }) rfl (fun K hK => ?_) AllReadyH.nil
      go_simp
      (go_at_call 15; refine (places_any _ _ _ _ HX.out.pt).mono ?_; rintro e w5 ⟨rfl, hrow, hb⟩; rw [HN.out]; replace HX := hidW (HX.out.step hb); have HRw := hidW hrow.rs0; clear hb hrow; generalize w4.heap.size = P at *; go_wp2_with fail)
      refine hK.out _ _ ?_ (fun hHeld => ?_)
      · ((try dsimp only); with_reducible exact HK.out _ _ HX.out HN.out)
      clear hK K
      try simp only [Act.put, List.setIfInBounds_toArray, List.set_cons_zero, List.set_cons_succ]
      refine wpAnyH_ready (rs := [15]) (by kernel_rfl) (by simp) ?_
      refine AllReadyH.cons (o := { dst := some 58, op := Op.call { callee := Callee.value (Operand.func 18), args := #[Operand.tmp 53, Operand.tmp 57], argTypes := #[46, 46] }, type := 4, pos := _, after := #[{ on := 10, ground := Ground.data }, { on := 14, ground := Ground.data }, { on := 10, ground := Ground.chain }, { on := 8, ground := Ground.guard }], guard := some (8, false) }) rfl (fun K hK => ?_) AllReadyH.nil
      go_simp
      (go_at_call 18; refine (same_yes _ _ _ _ _ _ _ HRw.out HX.out.pr.rs hn2 HN.out).mono ?_; rintro e w6 ⟨rfl, hb⟩; replace HX := hidW (HX.out.step hb); clear hb HRw; go_wp2_with fail)
      refine hK.out _ _ ?_ (fun hHeld => ?_)
      · ((try dsimp only); with_reducible exact HK.out _ _ HX.out HN.out)
      clear hK K
      try simp only [Act.put, List.setIfInBounds_toArray, List.set_cons_zero, List.set_cons_succ]
      refine wpAnyH_take (i := 16) (oi := { dst := some 59, op := Op.unOp UnOp.not 4 (Operand.tmp 58), type := 4, pos := _, after := #[{ on := 15, ground := Ground.data }, { on := 8, ground := Ground.guard }], guard := some (8, false) }) (v := ?_) rfl (by kernel_rfl) (by kernel_rfl) (by kernel_rfl) (fun _ _ _ h => h) (Or.inl ⟨by rfl, ?_⟩) (by assumption) ?_
      rotate_left
      · (intro w hSw; (try dsimp only at hSw); go_simp; try with_reducible rfl)
      simp only [Act.put, List.setIfInBounds_toArray, List.set_cons_zero, List.set_cons_succ]
      refine wpAnyH_take (i := 17) (oi := { dst := some 60, op := Op.pick (Operand.tmp 51) (Operand.const (Value.bool true)) (Operand.tmp 59), type := 4, pos := _, after := #[{ on := 8, ground := Ground.data }, { on := 16, ground := Ground.data }], guard := none }) (v := ?_) rfl (by kernel_rfl) (by kernel_rfl) (by kernel_rfl) (fun _ _ _ h => h) (Or.inl ⟨by rfl, ?_⟩) (by assumption) ?_
      rotate_left
      · (intro w hSw; (try dsimp only at hSw); go_simp; try with_reducible rfl)
      simp only [Act.put, List.setIfInBounds_toArray, List.set_cons_zero, List.set_cons_succ]
      refine wpAnyH_take (i := 18) (oi := { dst := some 61, op := Op.move (Operand.tmp 60), type := 4, pos := _, after := #[{ on := 17, ground := Ground.data }, { on := 15, ground := Ground.chain }], guard := none }) (v := ?_) rfl (by kernel_rfl) (by kernel_rfl) (by kernel_rfl) (fun _ _ _ h => h) (Or.inl ⟨by rfl, ?_⟩) (by assumption) ?_
      rotate_left
      · (intro w hSw; (try dsimp only at hSw); go_simp; try with_reducible rfl)
      simp only [Act.put, List.setIfInBounds_toArray, List.set_cons_zero, List.set_cons_succ]
      refine wpAnyH_take (i := 19) (oi := { dst := some 62, op := Op.move (Operand.tmp 5), type := 39, pos := _, after := #[{ on := 18, ground := Ground.guard }], guard := some (18, false) }) (v := ?_) rfl (by kernel_rfl) (by kernel_rfl) (by kernel_rfl) (fun _ _ _ h => h) (Or.inl ⟨by rfl, ?_⟩) (by assumption) ?_
      rotate_left
      · (intro w hSw; (try dsimp only at hSw); go_simp; try with_reducible rfl)
      simp only [Act.put, List.setIfInBounds_toArray, List.set_cons_zero, List.set_cons_succ]
      refine wpAnyH_take (i := 21) (oi := { dst := some 64, op := Op.move (Operand.tmp 7), type := 61, pos := _, after := #[{ on := 18, ground := Ground.guard }], guard := some (18, false) }) (v := ?_) rfl (by kernel_rfl) (by kernel_rfl) (by kernel_rfl) (fun _ _ _ h => h) (Or.inl ⟨by rfl, ?_⟩) (by assumption) ?_
      rotate_left
      · (intro w hSw; (try dsimp only at hSw); go_simp; try with_reducible rfl)
      simp only [Act.put, List.setIfInBounds_toArray, List.set_cons_zero, List.set_cons_succ]
      refine wpAnyH_ready (rs := [20]) (by kernel_rfl) (by simp) ?_
      refine AllReadyH.cons (o := { dst := some 63, op := Op.call { callee := Callee.value (Operand.func 27), args := #[Operand.tmp 62], argTypes := #[39] }, type := 3, pos := _, after := #[{ on := 19, ground := Ground.data }, { on := 18, ground := Ground.chain }, { on := 18, ground := Ground.guard }], guard := some (18, false) }) rfl (fun K hK => ?_) AllReadyH.nil
      go_simp
      (go_at_call 27; refine (len_any _ _ _ _ HX.out.pt).mono ?_; rintro e w7 ⟨rfl, hb⟩; replace HX := hidW (HX.out.step hb); clear hb; go_wp2_with fail)
      refine hK.out _ _ ?_ (fun hHeld => ?_)
      · ((try dsimp only); with_reducible exact HK.out _ _ HX.out HN.out)
      clear hK K
      try simp only [Act.put, List.setIfInBounds_toArray, List.set_cons_zero, List.set_cons_succ]
      refine wpAnyH_ready (rs := [22]) (by kernel_rfl) (by simp) ?_
      refine AllReadyH.cons (o := { dst := some 65, op := Op.call { callee := Callee.value (Operand.func 28), args := #[Operand.tmp 64], argTypes := #[61] }, type := 3, pos := _, after := #[{ on := 21, ground := Ground.data }, { on := 20, ground := Ground.chain }, { on := 18, ground := Ground.guard }], guard := some (18, false) }) rfl (fun K hK => ?_) AllReadyH.nil
      go_simp
      (go_at_call 28; refine (ulen_any _ _ _ _ HX.out.pr).mono ?_; rintro e w8 ⟨rfl, hb⟩; replace HX := hidW (HX.out.step hb); clear hb; go_wp2_with fail)
      refine hK.out _ _ ?_ (fun hHeld => ?_)
      · ((try dsimp only); with_reducible exact HK.out _ _ HX.out HN.out)
      clear hK K
      try simp only [Act.put, List.setIfInBounds_toArray, List.set_cons_zero, List.set_cons_succ]
      refine wpAnyH_take (i := 23) (oi := { dst := some 66, op := Op.binOp BinOp.neq 3 (Operand.tmp 63) (Operand.tmp 65) 3, type := 4, pos := _, after := #[{ on := 20, ground := Ground.data }, { on := 22, ground := Ground.data }, { on := 18, ground := Ground.guard }], guard := some (18, false) }) (v := ?_) rfl (by kernel_rfl) (by kernel_rfl) (by kernel_rfl) (fun _ _ _ h => h) (Or.inl ⟨by rfl, ?_⟩) (by assumption) ?_
      rotate_left
      · (intro w hSw; (try dsimp only at hSw); go_simp; try with_reducible rfl)
      simp only [Act.put, List.setIfInBounds_toArray, List.set_cons_zero, List.set_cons_succ]
      refine wpAnyH_take (i := 24) (oi := { dst := some 67, op := Op.pick (Operand.tmp 61) (Operand.const (Value.bool true)) (Operand.tmp 66), type := 4, pos := _, after := #[{ on := 18, ground := Ground.data }, { on := 23, ground := Ground.data }], guard := none }) (v := ?_) rfl (by kernel_rfl) (by kernel_rfl) (by kernel_rfl) (fun _ _ _ h => h) (Or.inl ⟨by rfl, ?_⟩) (by assumption) ?_
      rotate_left
      · (intro w hSw; (try dsimp only at hSw); go_simp; try with_reducible rfl)
      simp only [Act.put, List.setIfInBounds_toArray, List.set_cons_zero, List.set_cons_succ]
      refine wpAnyH_done (by kernel_rfl) ?_ _
      clear hHeld HK
      go_wp2
      go_roundw
      case rel => exact ⟨k + 1, _, by omega, by go_num, HN.out, HX.out⟩
      case measure => simp [intOf]; omega
    · obtain rfl : k = m := by omega
      clear HS0 HM hlt
      replace HX := hidW HX.out.drew
      have HK : Hid (∀ w L, PX W w p g q h L → L.length = n → w.cell? ⟨q, 0, none⟩ = some (.slice (some ⟨h, 0, none⟩) n n)) := hidW (fun w L h1 h2 => by have := h1.pr.cell; rw [h2] at this; exact this)
      go_wp2
      refine wp_region_held_drew (S := fun w' => w'.cell? ⟨q, 0, none⟩ = some (.slice (some ⟨h, 0, none⟩) n n)) (by kernel_rfl) (HK.out _ _ HX.out HN.out) (fun hHeld => ?_)
      refine wpAnyH_take (i := 0) (oi := { dst := some 68, op := Op.move (Operand.tmp 5), type := 39, pos := _, after := #[], guard := none }) (v := ?_) rfl (by kernel_rfl) (by kernel_rfl) (by kernel_rfl) (fun _ _ _ h => h) (Or.inl ⟨by rfl, ?_⟩) (by assumption) ?_
      rotate_left
      · (intro w hSw; (try dsimp only at hSw); go_simp; try with_reducible rfl)
      simp only [Act.put, List.setIfInBounds_toArray, List.set_cons_zero, List.set_cons_succ]
      refine wpAnyH_take (i := 2) (oi := { dst := some 70, op := Op.move (Operand.tmp 0), type := 3, pos := _, after := #[], guard := none }) (v := ?_) rfl (by kernel_rfl) (by kernel_rfl) (by kernel_rfl) (fun _ _ _ h => h) (Or.inl ⟨by rfl, ?_⟩) (by assumption) ?_
      rotate_left
      · (intro w hSw; (try dsimp only at hSw); go_simp; try with_reducible rfl)
      simp only [Act.put, List.setIfInBounds_toArray, List.set_cons_zero, List.set_cons_succ]
      refine wpAnyH_ready (rs := [1]) (by kernel_rfl) (by simp) ?_
      refine AllReadyH.cons (o := { dst := some 69, op := Op.call { callee := Callee.value (Operand.func 29), args := #[Operand.tmp 68], argTypes := #[39] }, type := 3, pos := _, after := #[{ on := 0, ground := Ground.data }], guard := none }) rfl (fun K hK => ?_) AllReadyH.nil
      go_simp
      (go_at_call 29; refine (cap_any _ _ _ _ HX.out.pt).mono ?_; rintro e w4 ⟨rfl, rfl⟩; rw [HN.out]; go_wp2_with fail)
      refine hK.out _ _ ?_ (fun hHeld => ?_)
      · ((try dsimp only); with_reducible exact HK.out _ _ HX.out HN.out)
      clear hK K
      try simp only [Act.put, List.setIfInBounds_toArray, List.set_cons_zero, List.set_cons_succ]
      refine wpAnyH_take (i := 3) (oi := { dst := some 71, op := Op.binOp BinOp.eql 3 (Operand.tmp 69) (Operand.tmp 70) 3, type := 4, pos := _, after := #[{ on := 1, ground := Ground.data }, { on := 2, ground := Ground.data }], guard := none }) (v := ?_) rfl (by kernel_rfl) (by kernel_rfl) (by kernel_rfl) (fun _ _ _ h => h) (Or.inl ⟨by rfl, ?_⟩) (by assumption) ?_
      rotate_left
      · (intro w hSw; (try dsimp only at hSw); go_simp; try with_reducible rfl)
      simp only [Act.put, List.setIfInBounds_toArray, List.set_cons_zero, List.set_cons_succ]
      refine wpAnyH_take (i := 4) (oi := { dst := some 72, op := Op.move (Operand.tmp 71), type := 4, pos := _, after := #[{ on := 3, ground := Ground.data }, { on := 1, ground := Ground.chain }], guard := none }) (v := ?_) rfl (by kernel_rfl) (by kernel_rfl) (by kernel_rfl) (fun _ _ _ h => h) (Or.inl ⟨by rfl, ?_⟩) (by assumption) ?_
      rotate_left
      · (intro w hSw; (try dsimp only at hSw); go_simp; try with_reducible rfl)
      simp only [Act.put, List.setIfInBounds_toArray, List.set_cons_zero, List.set_cons_succ]
      refine wpAnyH_take (i := 5) (oi := { dst := some 73, op := Op.move (Operand.tmp 5), type := 39, pos := _, after := #[{ on := 4, ground := Ground.guard }], guard := some (4, true) }) (v := ?_) rfl (by kernel_rfl) (by kernel_rfl) (by kernel_rfl) (fun _ _ _ h => h) (Or.inl ⟨by rfl, ?_⟩) (by assumption) ?_
      rotate_left
      · (intro w hSw; (try dsimp only at hSw); go_simp; try with_reducible rfl)
      simp only [Act.put, List.setIfInBounds_toArray, List.set_cons_zero, List.set_cons_succ]
      refine wpAnyH_take (i := 7) (oi := { dst := some 75, op := Op.move (Operand.tmp 7), type := 61, pos := _, after := #[{ on := 4, ground := Ground.guard }], guard := some (4, true) }) (v := ?_) rfl (by kernel_rfl) (by kernel_rfl) (by kernel_rfl) (fun _ _ _ h => h) (Or.inl ⟨by rfl, ?_⟩) (by assumption) ?_
      rotate_left
      · (intro w hSw; (try dsimp only at hSw); go_simp; try with_reducible rfl)
      simp only [Act.put, List.setIfInBounds_toArray, List.set_cons_zero, List.set_cons_succ]
      refine wpAnyH_take (i := 8) (oi := { dst := some 76, op := Op.nilCheck (Operand.tmp 75), type := 0, pos := _, after := #[{ on := 7, ground := Ground.data }, { on := 4, ground := Ground.guard }], guard := some (4, true) }) (v := ?_) rfl (by kernel_rfl) (by kernel_rfl) (by kernel_rfl) (fun _ _ _ h => h) (Or.inl ⟨by rfl, ?_⟩) (by assumption) ?_
      rotate_left
      · (intro w hSw; (try dsimp only at hSw); go_simp; try with_reducible rfl)
      simp only [Act.put, List.setIfInBounds_toArray, List.set_cons_zero, List.set_cons_succ]
      refine wpAnyH_take (i := 9) (oi := { dst := some 77, op := Op.fieldAddr 67 (Operand.tmp 76) 0, type := 0, pos := _, after := #[{ on := 8, ground := Ground.data }, { on := 4, ground := Ground.guard }], guard := some (4, true) }) (v := ?_) rfl (by kernel_rfl) (by kernel_rfl) (by kernel_rfl) (fun _ _ _ h => h) (Or.inl ⟨by rfl, ?_⟩) (by assumption) ?_
      rotate_left
      · (intro w hSw; (try dsimp only at hSw); go_simp; try with_reducible rfl)
      simp only [Act.put, List.setIfInBounds_toArray, List.set_cons_zero, List.set_cons_succ]
      refine wpAnyH_take (i := 10) (oi := { dst := some 78, op := Op.load 46 (Operand.tmp 77), type := 46, pos := _, after := #[{ on := 9, ground := Ground.data }, { on := 4, ground := Ground.guard }], guard := some (4, true) }) (v := ?_) rfl (by kernel_rfl) (by kernel_rfl) (by kernel_rfl) (fun _ _ _ h => h) (Or.inl ⟨by rfl, ?_⟩) (by assumption) ?_
      rotate_left
      · (intro w hSw; (try dsimp only at hSw); go_simp; try with_reducible rfl)
      simp only [Act.put, List.setIfInBounds_toArray, List.set_cons_zero, List.set_cons_succ]
      refine wpAnyH_ready (rs := [6]) (by kernel_rfl) (by simp) ?_
      refine AllReadyH.cons (o := { dst := some 74, op := Op.call { callee := Callee.value (Operand.func 15), args := #[Operand.tmp 73], argTypes := #[39] }, type := 46, pos := _, after := #[{ on := 5, ground := Ground.data }, { on := 4, ground := Ground.chain }, { on := 4, ground := Ground.guard }], guard := some (4, true) }) rfl (fun K hK => ?_) AllReadyH.nil
      go_simp
      (go_at_call 15; refine (places_any _ _ _ _ HX.out.pt).mono ?_; rintro e w5 ⟨rfl, hrow, hb⟩; rw [HN.out]; replace HX := hidW (HX.out.step hb); have HRw := hidW hrow.rs0; clear hb hrow; generalize World.heap (World.drew _) = hh at *; generalize hh.size = P at *; go_wp2_with fail)
      refine hK.out _ _ ?_ (fun hHeld => ?_)
      · ((try dsimp only); with_reducible exact HK.out _ _ HX.out HN.out)
      clear hK K
      try simp only [Act.put, List.setIfInBounds_toArray, List.set_cons_zero, List.set_cons_succ]
      refine wpAnyH_ready (rs := [11]) (by kernel_rfl) (by simp) ?_
      refine AllReadyH.cons (o := { dst := some 79, op := Op.call { callee := Callee.value (Operand.func 18), args := #[Operand.tmp 74, Operand.tmp 78], argTypes := #[46, 46] }, type := 4, pos := _, after := #[{ on := 6, ground := Ground.data }, { on := 10, ground := Ground.data }, { on := 6, ground := Ground.chain }, { on := 4, ground := Ground.guard }], guard := some (4, true) }) rfl (fun K hK => ?_) AllReadyH.nil
      go_simp
      (go_at_call 18; refine (same_yes _ _ _ _ _ _ _ HRw.out HX.out.pr.rs hn2 HN.out).mono ?_; rintro e w6 ⟨rfl, hb⟩; replace HX := hidW (HX.out.step hb); clear hb HRw; go_wp2_with fail)
      refine hK.out _ _ ?_ (fun hHeld => ?_)
      · ((try dsimp only); with_reducible exact HK.out _ _ HX.out HN.out)
      clear hK K
      try simp only [Act.put, List.setIfInBounds_toArray, List.set_cons_zero, List.set_cons_succ]
      refine wpAnyH_take (i := 12) (oi := { dst := some 80, op := Op.pick (Operand.tmp 72) (Operand.tmp 79) (Operand.const (Value.bool false)), type := 4, pos := _, after := #[{ on := 4, ground := Ground.data }, { on := 11, ground := Ground.data }], guard := none }) (v := ?_) rfl (by kernel_rfl) (by kernel_rfl) (by kernel_rfl) (fun _ _ _ h => h) (Or.inl ⟨by rfl, ?_⟩) (by assumption) ?_
      rotate_left
      · (intro w hSw; (try dsimp only at hSw); go_simp; try with_reducible rfl)
      simp only [Act.put, List.setIfInBounds_toArray, List.set_cons_zero, List.set_cons_succ]
      refine wpAnyH_take (i := 13) (oi := { dst := some 4, op := Op.assign (Operand.tmp 80), type := 4, pos := _, after := #[{ on := 12, ground := Ground.data }, { on := 11, ground := Ground.chain }, { on := 0, ground := Ground.phase }, { on := 1, ground := Ground.phase }, { on := 2, ground := Ground.phase }, { on := 3, ground := Ground.phase }, { on := 4, ground := Ground.phase }, { on := 5, ground := Ground.phase }, { on := 6, ground := Ground.phase }, { on := 7, ground := Ground.phase }, { on := 8, ground := Ground.phase }, { on := 9, ground := Ground.phase }, { on := 10, ground := Ground.phase }, { on := 11, ground := Ground.phase }, { on := 12, ground := Ground.phase }], guard := none }) (v := ?_) rfl (by kernel_rfl) (by kernel_rfl) (by kernel_rfl) (fun _ _ _ h => h) (Or.inl ⟨by rfl, ?_⟩) (by assumption) ?_
      rotate_left
      · (intro w hSw; (try dsimp only at hSw); go_simp; try with_reducible rfl)
      simp only [Act.put, List.setIfInBounds_toArray, List.set_cons_zero, List.set_cons_succ]
      refine wpAnyH_done (by kernel_rfl) ?_ _
      go_wp2
      go_ret
      exact ⟨by simp, HX.out.bel⟩
theorem law_plays (W : World) (x : Int) (sa : Option Addr) (cap : Nat) (ops : List Opr) (hS : Scr W sa ops) (hT : TR W) (hl : ops.length ≤ maxLen) :
    Calls Tryd.prog 8 #[.int .i64 x, .slice sa ops.length cap] W fun e w' => e = .returned (.bool true) ∧ Below W.heap.size W w' := by
  by_cases hx : x < 1 ∨ 64 < x
  · exact plays_no W x sa cap ops.length hT hx
  · obtain ⟨n, rfl⟩ := Int.eq_ofNat_of_zero_le (show 0 ≤ x by omega)
    exact plays_yes W n sa cap ops hS hT hl (by omega) (by omega)
end Go.Proofs.YtfbapflbjkmocaaDoor
