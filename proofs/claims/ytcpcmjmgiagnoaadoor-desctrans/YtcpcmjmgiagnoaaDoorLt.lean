import Derived.Test.YtcpcmjmgiagnoaaDoorRt
namespace Go.Proofs.YtcpcmjmgiagnoaaDoor
open Go.RowKit
set_option linter.unusedVariables false
set_option linter.unusedSimpArgs false
theorem dom_of_sb {e : Ent} (hO : Ok e) (h : e.kind = 2 ∨ e.kind = 3) (hs : (D1 (E e)).same e = true) : 0 ≤ e.dom ∧ e.dom ≤ 15 := by
  have g := (says1_iff e hO).1 ((Ent.same_iff _ _).1 hs)
  rcases g with g | ⟨g, _⟩ | ⟨_, _, g, _⟩ | ⟨_, _, g, _⟩
  · have := dZ_kind g; omega
  · omega
  · exact g
  · omega
theorem rtrans_any (e : Ent) (dm va : Int) (W : World) (hO : Ok e) (hva : 0 ≤ va ∧ va < 4294967296) :
    Calls Tryd.prog 27 #[.agg #[.int .i64 e.kind, .int .u64 e.base, .int .i64 e.dom, .bool e.ns, .int .i64 e.ap, .int .u32 e.bits, .bool e.ng, .bool e.xn], .int .i64 dm, .int .u32 va] W fun r w' => r = .returned (.agg #[.int .i64 (trF e dm va).size, .int .u32 (trF e dm va).va, .int .u64 (trF e dm va).pa, .int .i64 (trF e dm va).dom, .int .i64 (trF e dm va).ap, .int .u32 (trF e dm va).bits, .bool (trF e dm va).ng, .bool (trF e dm va).xn]) ∧ Below W.heap.size W w' := by
  have HZ := fun w => sizeOf_ref e.kind w
  have H1 := fun w => says1_ref e w hO
  have H2 := fun w => says2_ref e w hO
  by_cases hk : e.kind = 2 ∨ e.kind = 3 ∨ e.kind = 4 ∨ e.kind = 5
  · by_cases h1 : e.kind = 2 ∨ e.kind = 3
    · have hsb : sb e = (D1 (E e)).same e := by unfold sb; rw [if_pos h1]
      have hD : domOf e dm = e.dom := by unfold domOf; rw [if_pos h1]
      cases hs : (D1 (E e)).same e with
      | false =>
        rw [hs] at H1 hsb
        rw [show trF e dm va = tZ by unfold trF; rw [if_neg (by rw [hsb]; simp)]]
        rcases h1 with h | h
        · rw [h] at HZ H1 ⊢
          exact rtrans_2n _ _ _ _ _ _ _ dm va W HZ H1
        · rw [h] at HZ H1 ⊢
          exact rtrans_3n _ _ _ _ _ _ _ dm va W HZ H1
      | true =>
        have hdm := dom_of_sb hO h1 hs
        rw [hs] at H1 hsb
        rw [show trF e dm va = ⟨szK e.kind, va / byN (szK e.kind) * byN (szK e.kind), e.base, e.dom, e.ap, e.bits, e.ng, e.xn⟩ by unfold trF; rw [hD, if_pos ⟨hsb, hdm.1, hdm.2⟩]]
        rcases h1 with h | h
        · rw [h] at HZ H1 ⊢
          exact rtrans_2y _ _ _ _ _ _ _ dm va W HZ (fun w => refBytes_any 3 w) H1 hva
        · rw [h] at HZ H1 ⊢
          exact rtrans_3y _ _ _ _ _ _ _ dm va W HZ (fun w => refBytes_any 4 w) H1 hva
    · have h45 : e.kind = 4 ∨ e.kind = 5 := by omega
      have hsb : sb e = (D2 (E e)).same e := by unfold sb; rw [if_neg h1, if_pos h45]
      have hD : domOf e dm = dm := by unfold domOf; rw [if_neg h1]
      cases hs : (D2 (E e)).same e with
      | false =>
        rw [hs] at H2 hsb
        rw [show trF e dm va = tZ by unfold trF; rw [if_neg (by rw [hsb]; simp)]]
        rcases h45 with h | h
        · rw [h] at HZ H2 ⊢
          exact rtrans_4n _ _ _ _ _ _ _ dm va W HZ H2
        · rw [h] at HZ H2 ⊢
          exact rtrans_5n _ _ _ _ _ _ _ dm va W HZ H2
      | true =>
        rw [hs] at H2 hsb
        by_cases hlo : 0 ≤ dm
        · by_cases hhi : dm ≤ 15
          · rw [show trF e dm va = ⟨szK e.kind, va / byN (szK e.kind) * byN (szK e.kind), e.base, dm, e.ap, e.bits, e.ng, e.xn⟩ by unfold trF; rw [hD, if_pos ⟨hsb, hlo, hhi⟩]]
            rcases h45 with h | h
            · rw [h] at HZ H2 ⊢
              exact rtrans_4y _ _ _ _ _ _ _ dm va W HZ (fun w => refBytes_any 2 w) H2 hva (decide_eq_true hlo) (decide_eq_true hhi)
            · rw [h] at HZ H2 ⊢
              exact rtrans_5y _ _ _ _ _ _ _ dm va W HZ (fun w => refBytes_any 1 w) H2 hva (decide_eq_true hlo) (decide_eq_true hhi)
          · rw [show trF e dm va = tZ by unfold trF; rw [hD, if_neg (by omega)]]
            rcases h45 with h | h
            · rw [h] at HZ H2 ⊢
              exact rtrans_4hi _ _ _ _ _ _ _ dm va W HZ H2 (decide_eq_true hlo) (decide_eq_false hhi)
            · rw [h] at HZ H2 ⊢
              exact rtrans_5hi _ _ _ _ _ _ _ dm va W HZ H2 (decide_eq_true hlo) (decide_eq_false hhi)
        · rw [show trF e dm va = tZ by unfold trF; rw [hD, if_neg (by omega)]]
          rcases h45 with h | h
          · rw [h] at HZ H2 ⊢
            exact rtrans_4lo _ _ _ _ _ _ _ dm va W HZ H2 (decide_eq_false hlo)
          · rw [h] at HZ H2 ⊢
            exact rtrans_5lo _ _ _ _ _ _ _ dm va W HZ H2 (decide_eq_false hlo)
  · have hsb : sb e = false := by unfold sb; rw [if_neg (by omega), if_neg (by omega)]
    rw [show trF e dm va = tZ by unfold trF; rw [if_neg (by rw [hsb]; simp)]]
    rw [show szK e.kind = 0 by unfold szK; rw [if_neg (by omega), if_neg (by omega), if_neg (by omega), if_neg (by omega)]] at HZ
    exact rtrans_no _ _ _ _ _ _ _ _ dm va W HZ
set_option maxRecDepth 100000 in
set_option maxHeartbeats 4000000 in
theorem law_trans_w (k1 k2 k3 : Int) (k4 : Bool) (k5 k6 : Int) (k7 k8 : Bool) (dm va : Int) (g : Tra) (W : World) (ht : TT W)
    (HD : ∀ ww, TT ww → Calls Tryd.prog 26 #[.agg #[.int .i64 k1, .int .u64 k2, .int .i64 k3, .bool k4, .int .i64 k5, .int .u32 k6, .bool k7, .bool k8], .int .i64 dm, .int .u32 va] ww fun r w' => r = .returned (.agg #[.int .i64 g.size, .int .u32 g.va, .int .u64 g.pa, .int .i64 g.dom, .int .i64 g.ap, .int .u32 g.bits, .bool g.ng, .bool g.xn]) ∧ Below ww.heap.size ww w')
    (HR : ∀ ww, Calls Tryd.prog 27 #[.agg #[.int .i64 k1, .int .u64 k2, .int .i64 k3, .bool k4, .int .i64 k5, .int .u32 k6, .bool k7, .bool k8], .int .i64 dm, .int .u32 va] ww fun r w' => r = .returned (.agg #[.int .i64 g.size, .int .u32 g.va, .int .u64 g.pa, .int .i64 g.dom, .int .i64 g.ap, .int .u32 g.bits, .bool g.ng, .bool g.xn]) ∧ Below ww.heap.size ww w') :
    Calls Tryd.prog 8 #[.agg #[.int .i64 k1, .int .u64 k2, .int .i64 k3, .bool k4, .int .i64 k5, .int .u32 k6, .bool k7, .bool k8], .int .i64 dm, .int .u32 va] W fun r w' => r = .returned (.bool true) ∧ Below W.heap.size W w' := by
  have heq := eqT g g
  rw [Tra.same_self] at heq
  have hx1 := (Bl.new W 30 [.int .i64 k1, .int .u64 k2, .int .i64 k3, .bool k4, .int .i64 k5, .int .u32 k6, .bool k7, .bool k8]).drew
  have HT : Hid (TT W) := ht
  clear ht
  have HB : Hid (∀ o, Below W.heap.size W (W.alloc o).drew) := fun o => below_drew ((Below.refl _ _).alloc (Nat.le_refl _) o)
  go_enter Tryd.func8, Tryd.ntmps8
  go_wp2
  refine wp_region_held_drew (S := fun w' => w'.cell? ⟨W.heap.size, 0, none⟩ = some (.int .i64 k1) ∧ w'.cell? ⟨W.heap.size, 1, none⟩ = some (.int .u64 k2) ∧ w'.cell? ⟨W.heap.size, 2, none⟩ = some (.int .i64 k3) ∧ w'.cell? ⟨W.heap.size, 3, none⟩ = some (.bool k4) ∧ w'.cell? ⟨W.heap.size, 4, none⟩ = some (.int .i64 k5) ∧ w'.cell? ⟨W.heap.size, 5, none⟩ = some (.int .u32 k6) ∧ w'.cell? ⟨W.heap.size, 6, none⟩ = some (.bool k7) ∧ w'.cell? ⟨W.heap.size, 7, none⟩ = some (.bool k8)) (by kernel_rfl) (by (try dsimp only); exact ⟨hx1.cell 0, hx1.cell 1, hx1.cell 2, hx1.cell 3, hx1.cell 4, hx1.cell 5, hx1.cell 6, hx1.cell 7⟩) (fun hHeld => ?_)
  refine wpAnyH_take (i := 0) (oi := { dst := some 7, op := Op.load 30 (Operand.tmp 3), type := 30, pos := _, after := #[], guard := none }) (v := ?_) rfl (by kernel_rfl) (by kernel_rfl) (by kernel_rfl) (fun _ _ _ h => h) (Or.inl ⟨by rfl, ?_⟩) (by assumption) ?_
  rotate_left
  · (intro w hSw; (try dsimp only at hSw); go_simp; try with_reducible rfl)
  simp only [Act.put, List.setIfInBounds_toArray, List.set_cons_zero, List.set_cons_succ]
  refine wpAnyH_take (i := 1) (oi := { dst := some 8, op := Op.move (Operand.tmp 1), type := 3, pos := _, after := #[], guard := none }) (v := ?_) rfl (by kernel_rfl) (by kernel_rfl) (by kernel_rfl) (fun _ _ _ h => h) (Or.inl ⟨by rfl, ?_⟩) (by assumption) ?_
  rotate_left
  · (intro w hSw; (try dsimp only at hSw); go_simp; try with_reducible rfl)
  simp only [Act.put, List.setIfInBounds_toArray, List.set_cons_zero, List.set_cons_succ]
  refine wpAnyH_take (i := 2) (oi := { dst := some 9, op := Op.move (Operand.tmp 2), type := 26, pos := _, after := #[], guard := none }) (v := ?_) rfl (by kernel_rfl) (by kernel_rfl) (by kernel_rfl) (fun _ _ _ h => h) (Or.inl ⟨by rfl, ?_⟩) (by assumption) ?_
  rotate_left
  · (intro w hSw; (try dsimp only at hSw); go_simp; try with_reducible rfl)
  simp only [Act.put, List.setIfInBounds_toArray, List.set_cons_zero, List.set_cons_succ]
  refine wpAnyH_take (i := 4) (oi := { dst := some 11, op := Op.load 30 (Operand.tmp 3), type := 30, pos := _, after := #[], guard := none }) (v := ?_) rfl (by kernel_rfl) (by kernel_rfl) (by kernel_rfl) (fun _ _ _ h => h) (Or.inl ⟨by rfl, ?_⟩) (by assumption) ?_
  rotate_left
  · (intro w hSw; (try dsimp only at hSw); go_simp; try with_reducible rfl)
  simp only [Act.put, List.setIfInBounds_toArray, List.set_cons_zero, List.set_cons_succ]
  refine wpAnyH_take (i := 5) (oi := { dst := some 12, op := Op.move (Operand.tmp 1), type := 3, pos := _, after := #[], guard := none }) (v := ?_) rfl (by kernel_rfl) (by kernel_rfl) (by kernel_rfl) (fun _ _ _ h => h) (Or.inl ⟨by rfl, ?_⟩) (by assumption) ?_
  rotate_left
  · (intro w hSw; (try dsimp only at hSw); go_simp; try with_reducible rfl)
  simp only [Act.put, List.setIfInBounds_toArray, List.set_cons_zero, List.set_cons_succ]
  refine wpAnyH_take (i := 6) (oi := { dst := some 13, op := Op.move (Operand.tmp 2), type := 26, pos := _, after := #[], guard := none }) (v := ?_) rfl (by kernel_rfl) (by kernel_rfl) (by kernel_rfl) (fun _ _ _ h => h) (Or.inl ⟨by rfl, ?_⟩) (by assumption) ?_
  rotate_left
  · (intro w hSw; (try dsimp only at hSw); go_simp; try with_reducible rfl)
  simp only [Act.put, List.setIfInBounds_toArray, List.set_cons_zero, List.set_cons_succ]
  refine wpAnyH_ready (rs := [3]) (by kernel_rfl) (by simp) ?_
  refine AllReadyH.cons (o := { dst := some 10, op := Op.call { callee := Callee.value (Operand.func 26), args := #[Operand.tmp 7, Operand.tmp 8, Operand.tmp 9], argTypes := #[30, 3, 26] }, type := 34, pos := _, after := #[{ on := 0, ground := Ground.data }, { on := 1, ground := Ground.data }, { on := 2, ground := Ground.data }], guard := none }) rfl (fun K hK => ?_) AllReadyH.nil
  go_simp
  (go_at_call 26; refine (HD _ (HT.out.below (HB.out _))).mono ?_; rintro e w2 ⟨rfl, hb⟩; have hx2 := hx1.below hb; have HB2 : Hid (Below W.heap.size W w2) := Below.step (HB.out _) hb; clear hb; go_wp2_with fail)
  refine hK.out _ _ ?_ (fun hHeld => ?_)
  · ((try dsimp only); (first | (exact ⟨hx3.cell 0, hx3.cell 1, hx3.cell 2, hx3.cell 3, hx3.cell 4, hx3.cell 5, hx3.cell 6, hx3.cell 7⟩) | (exact ⟨hx2.cell 0, hx2.cell 1, hx2.cell 2, hx2.cell 3, hx2.cell 4, hx2.cell 5, hx2.cell 6, hx2.cell 7⟩)))
  clear hK K
  try simp only [Act.put, List.setIfInBounds_toArray, List.set_cons_zero, List.set_cons_succ]
  refine wpAnyH_ready (rs := [7]) (by kernel_rfl) (by simp) ?_
  refine AllReadyH.cons (o := { dst := some 14, op := Op.call { callee := Callee.value (Operand.func 27), args := #[Operand.tmp 11, Operand.tmp 12, Operand.tmp 13], argTypes := #[30, 3, 26] }, type := 34, pos := _, after := #[{ on := 4, ground := Ground.data }, { on := 5, ground := Ground.data }, { on := 6, ground := Ground.data }, { on := 3, ground := Ground.chain }], guard := none }) rfl (fun K hK => ?_) AllReadyH.nil
  go_simp
  (go_at_call 27; refine (HR _).mono ?_; rintro e w3 ⟨rfl, hb⟩; have hx3 := hx2.below hb; have HB3 : Hid (Below W.heap.size W w3) := Below.step HB2.out hb; clear hb; go_wp2_with fail)
  refine hK.out _ _ ?_ (fun hHeld => ?_)
  · ((try dsimp only); (first | (exact ⟨hx3.cell 0, hx3.cell 1, hx3.cell 2, hx3.cell 3, hx3.cell 4, hx3.cell 5, hx3.cell 6, hx3.cell 7⟩) | (exact ⟨hx2.cell 0, hx2.cell 1, hx2.cell 2, hx2.cell 3, hx2.cell 4, hx2.cell 5, hx2.cell 6, hx2.cell 7⟩)))
  clear hK K
  try simp only [Act.put, List.setIfInBounds_toArray, List.set_cons_zero, List.set_cons_succ]
  refine wpAnyH_take (i := 8) (oi := { dst := some 15, op := Op.binOp BinOp.eql 34 (Operand.tmp 10) (Operand.tmp 14) 34, type := 4, pos := _, after := #[{ on := 3, ground := Ground.data }, { on := 7, ground := Ground.data }], guard := none }) (v := ?_) rfl (by kernel_rfl) (by kernel_rfl) (by kernel_rfl) (fun _ _ _ h => h) (Or.inl ⟨by rfl, ?_⟩) (by assumption) ?_
  rotate_left
  · (intro w hSw; (try dsimp only at hSw); go_simp; try with_reducible rfl)
  simp only [Act.put, List.setIfInBounds_toArray, List.set_cons_zero, List.set_cons_succ]
  refine wpAnyH_take (i := 9) (oi := { dst := some 6, op := Op.assign (Operand.tmp 15), type := 4, pos := _, after := #[{ on := 8, ground := Ground.data }, { on := 7, ground := Ground.chain }, { on := 0, ground := Ground.phase }, { on := 1, ground := Ground.phase }, { on := 2, ground := Ground.phase }, { on := 3, ground := Ground.phase }, { on := 4, ground := Ground.phase }, { on := 5, ground := Ground.phase }, { on := 6, ground := Ground.phase }, { on := 7, ground := Ground.phase }, { on := 8, ground := Ground.phase }], guard := none }) (v := ?_) rfl (by kernel_rfl) (by kernel_rfl) (by kernel_rfl) (fun _ _ _ h => h) (Or.inl ⟨by rfl, ?_⟩) (by assumption) ?_
  rotate_left
  · (intro w hSw; (try dsimp only at hSw); go_simp; try with_reducible rfl)
  simp only [Act.put, List.setIfInBounds_toArray, List.set_cons_zero, List.set_cons_succ]
  refine wpAnyH_done (by kernel_rfl) ?_ _
  go_wp2
  go_ret
  exact ⟨rfl, HB3.out⟩
theorem law_trans (e : Ent) (dm va : Int) (W : World) (ht : TT W) (hO : Ok e) (hva : 0 ≤ va ∧ va < 4294967296) :
    Calls Tryd.prog 8 #[.agg #[.int .i64 e.kind, .int .u64 e.base, .int .i64 e.dom, .bool e.ns, .int .i64 e.ap, .int .u32 e.bits, .bool e.ng, .bool e.xn], .int .i64 dm, .int .u32 va] W fun r w' => r = .returned (.bool true) ∧ Below W.heap.size W w' :=
  law_trans_w _ _ _ _ _ _ _ _ dm va (trF e dm va) W ht (fun ww hh => trans_any e dm va ww hh hO hva) (fun ww => rtrans_any e dm va ww hO hva)
end Go.Proofs.YtcpcmjmgiagnoaaDoor
