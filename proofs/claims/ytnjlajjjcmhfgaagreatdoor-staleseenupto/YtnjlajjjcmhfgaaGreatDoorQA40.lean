import Derived.Test.YtnjlajjjcmhfgaaGreatDoorQA39
namespace Go.Proofs.YtnjlajjjcmhfgaaGreatDoor
open Go.RowKit
open Mm (Turn gr RM valV errV Byts setV RowAt)
set_option linter.unusedVariables false
set_option linter.unusedSimpArgs false
attribute [local go_sem] Oper.semAt_some
theorem ex_see : (⟨[], fun _ => none, .ram 16 mE⟩ : Pst).see cE = ⟨KE, JE, .ram 16 mE⟩ := by
  unfold Pst.see
  rw [if_pos (by decide)]
  show (⟨seK ME cE [], JE, .ram 16 mE⟩ : Pst) = _
  rw [ex_seK]
theorem ex_put : (⟨KE, JE, (Mst.ram 16 mE).put 20484 0⟩ : Pst) = ⟨KE, JE, .ram 16 mF⟩ := rfl
theorem LtG.full {α : Type} {enc : α → List Value} {T : TypeId} {w : World} {lo : Nat} {v : Value} {x : α} {L : List α} (h : LtG enc T w lo v (x :: L)) : ∃ g cap rest, v = .slice (some ⟨g, 0, none⟩) (L.length + 1) cap ∧ lo ≤ g ∧ RowAt w g T (rowG enc (x :: L) ++ rest) := by
  obtain ⟨a, cap, rfl, h⟩ := h
  rcases h with h | ⟨g, rest, rfl, h1, h2⟩
  · cases h
  · exact ⟨g, cap, rest, rfl, h1, h2⟩
theorem LtG.nil {α : Type} {enc : α → List Value} {T : TypeId} {w : World} {lo : Nat} {v : Value} (h : LtG enc T w lo v ([] : List α)) : ∃ a cap, v = .slice a 0 cap := by
  obtain ⟨a, cap, rfl, h⟩ := h
  exact ⟨a, cap, rfl⟩
set_option maxRecDepth 100000 in
set_option maxHeartbeats 8000000 in
theorem live_any (W : World) (hT : TS W) : Calls Tryz.prog 10 #[] W fun e w' => e = .returned (.bool true) ∧ Below W.heap.size W w' := by
  have HT := hidW hT
  have HE := hidW (example_any W)
  have HN := hidW (fun w => no_any 0 w)
  have heq := eqB bS bS
  rw [(Blo.same_iff bS bS).2 rfl] at heq
  simp only [bS, exS] at heq
  clear hT
  simp only [cE] at HE
  go_enter Tryz.func10, Tryz.ntmps10
  go_wp2_with fail
  go_at_call 42
  refine HE.out.mono ?_
  rintro e w1 ⟨r, S, rfl, g1, g2, g3⟩
  have HM := hidW g1
  have HS := hidW g2
  have HB := hidW g3
  clear g1 g2 g3 HE
  go_wp2_with fail
  go_at_call 40
  refine (knew_any _).mono ?_
  rintro e w3 ⟨rfl, g1, g2⟩
  have cc := (g2.block w1.heap.size (by simp)).trans (MapKept.heap_alloc w1 _).1
  generalize hq : (w1.alloc (.cells #[.bool true, .bool false, .bool false, .int .i64 2, .bool false, .bool false, .int .u64 16384, .int .u64 131072, .int .u32 5, .int .u32 0, .int .u32 0, .int .i64 7] 47)).heap.size = q at *
  have hq' : q = w1.heap.size + 1 := by rw [← hq]; simp
  have HX : Hid (TkX (fun b => b = w1.heap.size) W w3 (q + 2) q (q + 1) (.pointer (some ⟨r, 0, none⟩)) (.iface 52 (.pointer (some ⟨r, 0, none⟩))) ⟨[], fun _ => none, .ram 16 mE⟩) := by
    have b1 : Below w1.heap.size w1 w3 := Below.step (below_new w1 _) (hq.symm ▸ g2)
    have z1 := HB.out.size
    have z3 := g1.lt
    refine ⟨g1, ⟨S, ⟨r, rfl, rfl, HM.out.keep (S' := fun _ => False) (Turn.below b1) (fun _ _ h => h)⟩, fun b hb => ?_⟩, ⟨by omega, by omega, by omega⟩, HT.out.below (Below.step HB.out b1), Below.step HB.out b1, fun b hb => ?_⟩
    · have l1 := HM.out.low b hb
      have l2 := HS.out b hb
      exact ⟨by omega, by omega, by omega, by omega, by omega⟩
    · subst hb
      exact ⟨by omega, by omega, by omega⟩
  have HBx : Hid (Bl w3 w1.heap.size 47 [.bool true, .bool false, .bool false, .int .i64 2, .bool false, .bool false, .int .u64 16384, .int .u64 131072, .int .u32 5, .int .u32 0, .int .u32 0, .int .i64 7]) := cc
  have HSee := hidW (HX.out.see cE cE_ok (by show (0 : Nat) ≤ _; omega))
  rw [if_pos (Or.inl (by decide)), ex_see] at HSee
  simp only [cE] at HSee
  have hcell := HBx.out.cell
  clear g1 g2 cc hq hq' HM HS HB HX HBx
  go_wp2_with (first
    | (go_at_call 22; refine HSee.out.mono ?_; rintro e w4 ⟨rfl, g1, _⟩; have HX4 := hidW g1; clear g1))
  clear hcell HSee
  refine (HX4.out.known (by show (2 : Nat) * 56 ≤ _; omega)).mono ?_
  rintro e w5 ⟨v, rfl, hL, hb5⟩
  obtain ⟨g, cap, rest, rfl, hg, hr⟩ := LtG.full hL
  have HX5 : Hid (TkX (fun b => b = g) W w5 (q + 2) q (q + 1) (.pointer (some ⟨r, 0, none⟩)) (.iface 52 (.pointer (some ⟨r, 0, none⟩))) ⟨KE, JE, .ram 16 mE⟩) := HX4.out.more hb5 (fun b hb => by subst hb; exact .inr ⟨hg, hr.lt⟩)
  have HR := hidW hr
  have k0 : w5.cell? ⟨g, 0, none⟩ = some (.int .i64 (-1)) := hr.cell 0
  have k9 : w5.cell? ⟨g, 9, none⟩ = some (.int .i64 7) := hr.cell 9
  have k11 : w5.cell? ⟨g, 11, none⟩ = some (.int .u32 4096) := hr.cell 11
  have HSt := hidW (HX5.out.stale 7 4096 (by decide) (by decide))
  rw [show stF (Mst.ram 16 mE).mo KE JE 7 4096 = false from (stF_some JE_7).trans ex_st1] at HSt
  have HDi := hidW (fun ww hb => (HX5.out.below (w' := ww) hb).dirty (by show (diL ME KE JE).length * 64 ≤ _; rw [ex_di1]; decide))
  rw [show diL (Mst.ram 16 mE).mo KE JE = [] from ex_di1] at HDi
  have HPu := hidW (fun ww hb => (HX5.out.below (w' := ww) hb).put 20484 0 (by decide) (by decide) HT.out)
  rw [show (⟨KE, JE, (Mst.ram 16 mE).put 20484 0⟩ : Pst) = ⟨KE, JE, .ram 16 mF⟩ from rfl] at HPu
  clear hL hg hb5 HX4
  simp only [List.length_nil, List.length_cons, Nat.reduceAdd]
  go_wp2_with (first
    | (go_at_call 21; refine (HN.out _).mono ?_; rintro e w6 ⟨rfl, rfl⟩)
    | (go_at_call 30; refine HSt.out.mono ?_; rintro e w6 ⟨rfl, g6⟩; have H6 := hidW g6; clear g6)
    | (go_at_call 13; refine (HDi.out _ H6.out).mono ?_; rintro e w7 ⟨v7, rfl, hL7, g7⟩; obtain ⟨a7, cap7, rfl⟩ := LtG.nil hL7; have H7 := hidW (Below.step H6.out g7); clear g7 hL7)
    | (go_at_call 43; refine (HPu.out _ H7.out).mono ?_; rintro e w8 ⟨rfl, g8, q8⟩; have HX8 := hidW g8; have HR8 : Hid (RowAt w8 g 45 (rowG encB [bG, bS] ++ rest)) := ((q8 _ rfl).trans ((H7.out.block g HR.out.lt).trans HR.out)); clear g8 q8))
  clear HDi HPu HSt k0 k9 k11 H6 H7
  refine (HX8.out.dirty (by show (diL MF KE JE).length * 64 ≤ _; rw [ex_di2]; decide)).mono ?_
  rw [show diL (Mst.ram 16 mF).mo KE JE = [⟨7, bS⟩] from ex_di2]
  rintro e w9 ⟨v9, rfl, hL, hb9⟩
  obtain ⟨gd, capd, restd, rfl, hgd, hrd⟩ := LtG.full hL
  have hr9 : RowAt w9 g 45 (rowG encB [bG, bS] ++ rest) := (hb9.block g HR8.out.lt).trans HR8.out
  have HX9 : Hid (TkX (fun b => b = g ∨ b = gd) W w9 (q + 2) q (q + 1) (.pointer (some ⟨r, 0, none⟩)) (.iface 52 (.pointer (some ⟨r, 0, none⟩))) ⟨KE, JE, .ram 16 mF⟩) := HX8.out.more hb9 (fun b hb => by
    rcases hb with rfl | rfl
    · exact .inl rfl
    · exact .inr ⟨hgd, hrd.lt⟩)
  have HH : Hid (∀ ww : World, ww.heap[g]? = w9.heap[g]? → ww.heap[gd]? = w9.heap[gd]? → ww.cell? ⟨gd, 0, none⟩ = some (.int .i64 7) ∧ ww.cell? ⟨gd, 1, none⟩ = some (.int .i64 7) ∧ ww.cell? ⟨gd, 2, none⟩ = some (.int .i64 1) ∧ ww.cell? ⟨gd, 3, none⟩ = some (.int .u32 4096) ∧ ww.cell? ⟨gd, 4, none⟩ = some (.int .u64 28672) ∧ ww.cell? ⟨gd, 5, none⟩ = some (.int .i64 1) ∧ ww.cell? ⟨gd, 6, none⟩ = some (.int .i64 3) ∧ ww.cell? ⟨gd, 7, none⟩ = some (.int .u32 6) ∧ ww.cell? ⟨gd, 8, none⟩ = some (.bool true) ∧ ww.cell? ⟨gd, 9, none⟩ = some (.bool false) ∧ ww.cell? ⟨g, 9, none⟩ = some (.int .i64 7) ∧ ww.cell? ⟨g, 10, none⟩ = some (.int .i64 1) ∧ ww.cell? ⟨g, 11, none⟩ = some (.int .u32 4096) ∧ ww.cell? ⟨g, 12, none⟩ = some (.int .u64 28672) ∧ ww.cell? ⟨g, 13, none⟩ = some (.int .i64 1) ∧ ww.cell? ⟨g, 14, none⟩ = some (.int .i64 3) ∧ ww.cell? ⟨g, 15, none⟩ = some (.int .u32 6) ∧ ww.cell? ⟨g, 16, none⟩ = some (.bool true) ∧ ww.cell? ⟨g, 17, none⟩ = some (.bool false)) := by
    intro ww e1 e2
    have h1 : RowAt ww gd 74 (rowG encD [⟨7, bS⟩] ++ restd) := e2.trans hrd
    have h2 : RowAt ww g 45 (rowG encB [bG, bS] ++ rest) := e1.trans hr9
    exact ⟨h1.cell 0, h1.cell 1, h1.cell 2, h1.cell 3, h1.cell 4, h1.cell 5, h1.cell 6, h1.cell 7, h1.cell 8, h1.cell 9, h2.cell 9, h2.cell 10, h2.cell 11, h2.cell 12, h2.cell 13, h2.cell 14, h2.cell 15, h2.cell 16, h2.cell 17⟩
  have hg9 := hr9.lt
  have hgd9 := hrd.lt
  have HXd := hidW (HX9.out.below (below_drew (Below.refl _ w9)))
  have HJ := hidW (HH.out w9.drew rfl rfl)
  have HSt := hidW (HXd.out.stale 7 8191 (by decide) (by decide))
  rw [show stF (Mst.ram 16 mF).mo KE JE 7 8191 = true from (stF_some JE_7).trans ex_st2] at HSt
  have HSu := hidW (fun ww hb => (HXd.out.below (w' := ww) hb).stale 8 4096 (by decide) (by decide))
  rw [show stF (Mst.ram 16 mF).mo KE JE 8 4096 = false from stF_none JE_8] at HSu
  have HDr := hidW (fun ww hb => (HXd.out.below (w' := ww) hb).drop ⟨2, 4096, 7⟩ (by decide) (by show (2 : Nat) ≤ _; omega))
  rw [show KE.countP (tkF ⟨2, 4096, 7⟩) = 1 from ex_cnt, show drK ⟨2, 4096, 7⟩ KE = [bG] from ex_drK] at HDr
  clear hL hgd hb9 hr9 hrd HX8 HR8 HX9
  simp only [List.length_nil, List.length_cons, Nat.reduceAdd]
  go_wp2_with fail
  refine wp_region_held_drew (S := fun ww => ww.cell? ⟨gd, 0, none⟩ = some (.int .i64 7) ∧ ww.cell? ⟨gd, 1, none⟩ = some (.int .i64 7) ∧ ww.cell? ⟨gd, 2, none⟩ = some (.int .i64 1) ∧ ww.cell? ⟨gd, 3, none⟩ = some (.int .u32 4096) ∧ ww.cell? ⟨gd, 4, none⟩ = some (.int .u64 28672) ∧ ww.cell? ⟨gd, 5, none⟩ = some (.int .i64 1) ∧ ww.cell? ⟨gd, 6, none⟩ = some (.int .i64 3) ∧ ww.cell? ⟨gd, 7, none⟩ = some (.int .u32 6) ∧ ww.cell? ⟨gd, 8, none⟩ = some (.bool true) ∧ ww.cell? ⟨gd, 9, none⟩ = some (.bool false) ∧ ww.cell? ⟨g, 9, none⟩ = some (.int .i64 7) ∧ ww.cell? ⟨g, 10, none⟩ = some (.int .i64 1) ∧ ww.cell? ⟨g, 11, none⟩ = some (.int .u32 4096) ∧ ww.cell? ⟨g, 12, none⟩ = some (.int .u64 28672) ∧ ww.cell? ⟨g, 13, none⟩ = some (.int .i64 1) ∧ ww.cell? ⟨g, 14, none⟩ = some (.int .i64 3) ∧ ww.cell? ⟨g, 15, none⟩ = some (.int .u32 6) ∧ ww.cell? ⟨g, 16, none⟩ = some (.bool true) ∧ ww.cell? ⟨g, 17, none⟩ = some (.bool false)) (by kernel_rfl) ?_ (fun hHeld => ?_)
  · exact HJ.out
  refine wpAnyH_take (i := 0) (oi := { dst := some 71, op := Op.move (Operand.tmp 6), type := 48, pos := _, after := #[], guard := none }) (v := ?_) rfl (by kernel_rfl) (by kernel_rfl) (by kernel_rfl) (fun _ _ _ h => h) (Or.inl ⟨by rfl, ?_⟩) (by assumption) ?_
  rotate_left
  · (intro w hSw; (try dsimp only at hSw); go_simp; try with_reducible rfl)
  simp only [Act.put, List.setIfInBounds_toArray, List.set_cons_zero, List.set_cons_succ]
  refine wpAnyH_take (i := 1) (oi := { dst := some 72, op := Op.call { callee := Callee.builtin Builtin.len, args := #[Operand.tmp 71], argTypes := #[48] }, type := 3, pos := _, after := #[{ on := 0, ground := Ground.data }], guard := none }) (v := ?_) rfl (by kernel_rfl) (by kernel_rfl) (by kernel_rfl) (fun _ _ _ h => h) (Or.inl ⟨by rfl, ?_⟩) (by assumption) ?_
  rotate_left
  · (intro w hSw; (try dsimp only at hSw); go_simp; try with_reducible rfl)
  simp only [Act.put, List.setIfInBounds_toArray, List.set_cons_zero, List.set_cons_succ]
  refine wpAnyH_take (i := 2) (oi := { dst := some 73, op := Op.binOp BinOp.eql 3 (Operand.tmp 72) (Operand.const (Value.int IntKind.i64 1)) 3, type := 4, pos := _, after := #[{ on := 1, ground := Ground.data }], guard := none }) (v := ?_) rfl (by kernel_rfl) (by kernel_rfl) (by kernel_rfl) (fun _ _ _ h => h) (Or.inl ⟨by rfl, ?_⟩) (by assumption) ?_
  rotate_left
  · (intro w hSw; (try dsimp only at hSw); go_simp; try with_reducible rfl)
  simp only [Act.put, List.setIfInBounds_toArray, List.set_cons_zero, List.set_cons_succ]
  refine wpAnyH_take (i := 3) (oi := { dst := some 74, op := Op.move (Operand.tmp 73), type := 4, pos := _, after := #[{ on := 2, ground := Ground.data }], guard := none }) (v := ?_) rfl (by kernel_rfl) (by kernel_rfl) (by kernel_rfl) (fun _ _ _ h => h) (Or.inl ⟨by rfl, ?_⟩) (by assumption) ?_
  rotate_left
  · (intro w hSw; (try dsimp only at hSw); go_simp; try with_reducible rfl)
  simp only [Act.put, List.setIfInBounds_toArray, List.set_cons_zero, List.set_cons_succ]
  refine wpAnyH_take (i := 4) (oi := { dst := some 75, op := Op.move (Operand.tmp 6), type := 48, pos := _, after := #[{ on := 3, ground := Ground.guard }], guard := some (3, true) }) (v := ?_) rfl (by kernel_rfl) (by kernel_rfl) (by kernel_rfl) (fun _ _ _ h => h) (Or.inl ⟨by rfl, ?_⟩) (by assumption) ?_
  rotate_left
  · (intro w hSw; (try dsimp only at hSw); go_simp; try with_reducible rfl)
  simp only [Act.put, List.setIfInBounds_toArray, List.set_cons_zero, List.set_cons_succ]
  refine wpAnyH_take (i := 5) (oi := { dst := some 76, op := Op.indexAddr 48 (Operand.tmp 75) (Operand.const (Value.int IntKind.i64 0)), type := 0, pos := _, after := #[{ on := 4, ground := Ground.data }, { on := 3, ground := Ground.guard }], guard := some (3, true) }) (v := ?_) rfl (by kernel_rfl) (by kernel_rfl) (by kernel_rfl) (fun _ _ _ h => h) (Or.inl ⟨by rfl, ?_⟩) (by assumption) ?_
  rotate_left
  · (intro w hSw; (try dsimp only at hSw); go_simp; try with_reducible rfl)
  simp only [Act.put, List.setIfInBounds_toArray, List.set_cons_zero, List.set_cons_succ]
  refine wpAnyH_take (i := 6) (oi := { dst := some 77, op := Op.fieldAddr 74 (Operand.tmp 76) 0, type := 0, pos := _, after := #[{ on := 5, ground := Ground.data }, { on := 3, ground := Ground.guard }], guard := some (3, true) }) (v := ?_) rfl (by kernel_rfl) (by kernel_rfl) (by kernel_rfl) (fun _ _ _ h => h) (Or.inl ⟨by rfl, ?_⟩) (by assumption) ?_
  rotate_left
  · (intro w hSw; (try dsimp only at hSw); go_simp; try with_reducible rfl)
  simp only [Act.put, List.setIfInBounds_toArray, List.set_cons_zero, List.set_cons_succ]
  refine wpAnyH_take (i := 7) (oi := { dst := some 78, op := Op.load 3 (Operand.tmp 77), type := 3, pos := _, after := #[{ on := 6, ground := Ground.data }, { on := 3, ground := Ground.guard }], guard := some (3, true) }) (v := ?_) rfl (by kernel_rfl) (by kernel_rfl) (by kernel_rfl) (fun _ _ _ h => h) (Or.inl ⟨by rfl, ?_⟩) (by assumption) ?_
  rotate_left
  · (intro w hSw; (try dsimp only at hSw); go_simp; try with_reducible rfl)
  simp only [Act.put, List.setIfInBounds_toArray, List.set_cons_zero, List.set_cons_succ]
  refine wpAnyH_take (i := 8) (oi := { dst := some 79, op := Op.binOp BinOp.eql 3 (Operand.tmp 78) (Operand.const (Value.int IntKind.i64 7)) 3, type := 4, pos := _, after := #[{ on := 7, ground := Ground.data }, { on := 3, ground := Ground.guard }], guard := some (3, true) }) (v := ?_) rfl (by kernel_rfl) (by kernel_rfl) (by kernel_rfl) (fun _ _ _ h => h) (Or.inl ⟨by rfl, ?_⟩) (by assumption) ?_
  rotate_left
  · (intro w hSw; (try dsimp only at hSw); go_simp; try with_reducible rfl)
  simp only [Act.put, List.setIfInBounds_toArray, List.set_cons_zero, List.set_cons_succ]
  refine wpAnyH_take (i := 9) (oi := { dst := some 80, op := Op.pick (Operand.tmp 74) (Operand.tmp 79) (Operand.const (Value.bool false)), type := 4, pos := _, after := #[{ on := 3, ground := Ground.data }, { on := 8, ground := Ground.data }], guard := none }) (v := ?_) rfl (by kernel_rfl) (by kernel_rfl) (by kernel_rfl) (fun _ _ _ h => h) (Or.inl ⟨by rfl, ?_⟩) (by assumption) ?_
  rotate_left
  · (intro w hSw; (try dsimp only at hSw); go_simp; try with_reducible rfl)
  simp only [Act.put, List.setIfInBounds_toArray, List.set_cons_zero, List.set_cons_succ]
  refine wpAnyH_take (i := 10) (oi := { dst := some 81, op := Op.move (Operand.tmp 80), type := 4, pos := _, after := #[{ on := 9, ground := Ground.data }, { on := 3, ground := Ground.chain }], guard := none }) (v := ?_) rfl (by kernel_rfl) (by kernel_rfl) (by kernel_rfl) (fun _ _ _ h => h) (Or.inl ⟨by rfl, ?_⟩) (by assumption) ?_
  rotate_left
  · (intro w hSw; (try dsimp only at hSw); go_simp; try with_reducible rfl)
  simp only [Act.put, List.setIfInBounds_toArray, List.set_cons_zero, List.set_cons_succ]
  refine wpAnyH_take (i := 11) (oi := { dst := some 82, op := Op.move (Operand.tmp 6), type := 48, pos := _, after := #[{ on := 10, ground := Ground.guard }], guard := some (10, true) }) (v := ?_) rfl (by kernel_rfl) (by kernel_rfl) (by kernel_rfl) (fun _ _ _ h => h) (Or.inl ⟨by rfl, ?_⟩) (by assumption) ?_
  rotate_left
  · (intro w hSw; (try dsimp only at hSw); go_simp; try with_reducible rfl)
  simp only [Act.put, List.setIfInBounds_toArray, List.set_cons_zero, List.set_cons_succ]
  refine wpAnyH_take (i := 12) (oi := { dst := some 83, op := Op.indexAddr 48 (Operand.tmp 82) (Operand.const (Value.int IntKind.i64 0)), type := 0, pos := _, after := #[{ on := 11, ground := Ground.data }, { on := 10, ground := Ground.guard }], guard := some (10, true) }) (v := ?_) rfl (by kernel_rfl) (by kernel_rfl) (by kernel_rfl) (fun _ _ _ h => h) (Or.inl ⟨by rfl, ?_⟩) (by assumption) ?_
  rotate_left
  · (intro w hSw; (try dsimp only at hSw); go_simp; try with_reducible rfl)
  simp only [Act.put, List.setIfInBounds_toArray, List.set_cons_zero, List.set_cons_succ]
  refine wpAnyH_take (i := 13) (oi := { dst := some 84, op := Op.fieldAddr 74 (Operand.tmp 83) 1, type := 0, pos := _, after := #[{ on := 12, ground := Ground.data }, { on := 10, ground := Ground.guard }], guard := some (10, true) }) (v := ?_) rfl (by kernel_rfl) (by kernel_rfl) (by kernel_rfl) (fun _ _ _ h => h) (Or.inl ⟨by rfl, ?_⟩) (by assumption) ?_
  rotate_left
  · (intro w hSw; (try dsimp only at hSw); go_simp; try with_reducible rfl)
  simp only [Act.put, List.setIfInBounds_toArray, List.set_cons_zero, List.set_cons_succ]
  refine wpAnyH_take (i := 14) (oi := { dst := some 85, op := Op.load 45 (Operand.tmp 84), type := 45, pos := _, after := #[{ on := 13, ground := Ground.data }, { on := 10, ground := Ground.guard }], guard := some (10, true) }) (v := ?_) rfl (by kernel_rfl) (by kernel_rfl) (by kernel_rfl) (fun _ _ _ h => h) (Or.inl ⟨by rfl, ?_⟩) (by assumption) ?_
  rotate_left
  · (intro w hSw; (try dsimp only at hSw); go_simp; try with_reducible rfl)
  simp only [Act.put, List.setIfInBounds_toArray, List.set_cons_zero, List.set_cons_succ]
  refine wpAnyH_take (i := 15) (oi := { dst := some 86, op := Op.move (Operand.tmp 5), type := 31, pos := _, after := #[{ on := 10, ground := Ground.guard }], guard := some (10, true) }) (v := ?_) rfl (by kernel_rfl) (by kernel_rfl) (by kernel_rfl) (fun _ _ _ h => h) (Or.inl ⟨by rfl, ?_⟩) (by assumption) ?_
  rotate_left
  · (intro w hSw; (try dsimp only at hSw); go_simp; try with_reducible rfl)
  simp only [Act.put, List.setIfInBounds_toArray, List.set_cons_zero, List.set_cons_succ]
  refine wpAnyH_take (i := 16) (oi := { dst := some 87, op := Op.indexAddr 31 (Operand.tmp 86) (Operand.const (Value.int IntKind.i64 1)), type := 0, pos := _, after := #[{ on := 15, ground := Ground.data }, { on := 10, ground := Ground.guard }], guard := some (10, true) }) (v := ?_) rfl (by kernel_rfl) (by kernel_rfl) (by kernel_rfl) (fun _ _ _ h => h) (Or.inl ⟨by rfl, ?_⟩) (by assumption) ?_
  rotate_left
  · (intro w hSw; (try dsimp only at hSw); go_simp; try with_reducible rfl)
  simp only [Act.put, List.setIfInBounds_toArray, List.set_cons_zero, List.set_cons_succ]
  refine wpAnyH_take (i := 17) (oi := { dst := some 88, op := Op.load 45 (Operand.tmp 87), type := 45, pos := _, after := #[{ on := 16, ground := Ground.data }, { on := 10, ground := Ground.guard }], guard := some (10, true) }) (v := ?_) rfl (by kernel_rfl) (by kernel_rfl) (by kernel_rfl) (fun _ _ _ h => h) (Or.inl ⟨by rfl, ?_⟩) (by assumption) ?_
  rotate_left
  · (intro w hSw; (try dsimp only at hSw); go_simp; try with_reducible rfl)
  simp only [Act.put, List.setIfInBounds_toArray, List.set_cons_zero, List.set_cons_succ]
  refine wpAnyH_take (i := 18) (oi := { dst := some 89, op := Op.binOp BinOp.eql 45 (Operand.tmp 85) (Operand.tmp 88) 45, type := 4, pos := _, after := #[{ on := 14, ground := Ground.data }, { on := 17, ground := Ground.data }, { on := 10, ground := Ground.guard }], guard := some (10, true) }) (v := ?_) rfl (by kernel_rfl) (by kernel_rfl) (by kernel_rfl) (fun _ _ _ h => h) (Or.inl ⟨by rfl, ?_⟩) (by assumption) ?_
  rotate_left
  · (intro w hSw; (try dsimp only at hSw); go_simp; try with_reducible rfl)
  simp only [Act.put, List.setIfInBounds_toArray, List.set_cons_zero, List.set_cons_succ]
  refine wpAnyH_take (i := 19) (oi := { dst := some 90, op := Op.pick (Operand.tmp 81) (Operand.tmp 89) (Operand.const (Value.bool false)), type := 4, pos := _, after := #[{ on := 10, ground := Ground.data }, { on := 18, ground := Ground.data }], guard := none }) (v := ?_) rfl (by kernel_rfl) (by kernel_rfl) (by kernel_rfl) (fun _ _ _ h => h) (Or.inl ⟨by rfl, ?_⟩) (by assumption) ?_
  rotate_left
  · (intro w hSw; (try dsimp only at hSw); go_simp; try with_reducible rfl)
  simp only [Act.put, List.setIfInBounds_toArray, List.set_cons_zero, List.set_cons_succ]
  refine wpAnyH_take (i := 20) (oi := { dst := some 91, op := Op.move (Operand.tmp 90), type := 4, pos := _, after := #[{ on := 19, ground := Ground.data }, { on := 10, ground := Ground.chain }], guard := none }) (v := ?_) rfl (by kernel_rfl) (by kernel_rfl) (by kernel_rfl) (fun _ _ _ h => h) (Or.inl ⟨by rfl, ?_⟩) (by assumption) ?_
  rotate_left
  · (intro w hSw; (try dsimp only at hSw); go_simp; try with_reducible rfl)
  simp only [Act.put, List.setIfInBounds_toArray, List.set_cons_zero, List.set_cons_succ]
  refine wpAnyH_take (i := 21) (oi := { dst := some 92, op := Op.move (Operand.tmp 3), type := 49, pos := _, after := #[{ on := 20, ground := Ground.guard }], guard := some (20, true) }) (v := ?_) rfl (by kernel_rfl) (by kernel_rfl) (by kernel_rfl) (fun _ _ _ h => h) (Or.inl ⟨by rfl, ?_⟩) (by assumption) ?_
  rotate_left
  · (intro w hSw; (try dsimp only at hSw); go_simp; try with_reducible rfl)
  simp only [Act.put, List.setIfInBounds_toArray, List.set_cons_zero, List.set_cons_succ]
  refine wpAnyH_take (i := 22) (oi := { dst := some 93, op := Op.move (Operand.tmp 1), type := 52, pos := _, after := #[{ on := 20, ground := Ground.guard }], guard := some (20, true) }) (v := ?_) rfl (by kernel_rfl) (by kernel_rfl) (by kernel_rfl) (fun _ _ _ h => h) (Or.inl ⟨by rfl, ?_⟩) (by assumption) ?_
  rotate_left
  · (intro w hSw; (try dsimp only at hSw); go_simp; try with_reducible rfl)
  simp only [Act.put, List.setIfInBounds_toArray, List.set_cons_zero, List.set_cons_succ]
  refine wpAnyH_take (i := 23) (oi := { dst := some 94, op := Op.makeInterface 52 (Operand.tmp 93), type := 51, pos := _, after := #[{ on := 22, ground := Ground.data }, { on := 20, ground := Ground.guard }], guard := some (20, true) }) (v := ?_) rfl (by kernel_rfl) (by kernel_rfl) (by kernel_rfl) (fun _ _ _ h => h) (Or.inl ⟨by rfl, ?_⟩) (by assumption) ?_
  rotate_left
  · (intro w hSw; (try dsimp only at hSw); go_simp; try with_reducible rfl)
  simp only [Act.put, List.setIfInBounds_toArray, List.set_cons_zero, List.set_cons_succ]
  refine wpAnyH_ready (rs := [24]) (by kernel_rfl) (by simp) ?_
  refine AllReadyH.cons (o := { dst := some 95, op := Op.call { callee := Callee.value (Operand.func 30), args := #[Operand.tmp 92, Operand.tmp 94, Operand.const (Value.int IntKind.i64 7), Operand.const (Value.int IntKind.u32 8191)], argTypes := #[49, 51, 3, 32] }, type := 4, pos := _, after := #[{ on := 21, ground := Ground.data }, { on := 23, ground := Ground.data }, { on := 20, ground := Ground.chain }, { on := 20, ground := Ground.guard }], guard := some (20, true) }) rfl (fun K hK => ?_) AllReadyH.nil
  go_simp
  (first | (go_at_call 30; refine (HSu.out _ HA.out).mono ?_; rintro e wb ⟨rfl, gb⟩; have HB := hidW (Below.step HA.out gb); have HJ := hidW (HH.out wb (HB.out.block g hg9) (HB.out.block gd hgd9)); clear gb) | (go_at_call 30; refine HSt.out.mono ?_; rintro e wa ⟨rfl, ga⟩; have HA := hidW ga; have HJ := hidW (HH.out wa (ga.block g hg9) (ga.block gd hgd9)); clear ga))
  refine hK.out _ _ ?_ (fun hHeld => ?_)
  · ((try dsimp only); with_reducible exact HJ.out)
  clear hK K
  try simp only [Act.put, List.setIfInBounds_toArray, List.set_cons_zero, List.set_cons_succ]
  refine wpAnyH_take (i := 25) (oi := { dst := some 96, op := Op.pick (Operand.tmp 91) (Operand.tmp 95) (Operand.const (Value.bool false)), type := 4, pos := _, after := #[{ on := 20, ground := Ground.data }, { on := 24, ground := Ground.data }], guard := none }) (v := ?_) rfl (by kernel_rfl) (by kernel_rfl) (by kernel_rfl) (fun _ _ _ h => h) (Or.inl ⟨by rfl, ?_⟩) (by assumption) ?_
  rotate_left
  · (intro w hSw; (try dsimp only at hSw); go_simp; try with_reducible rfl)
  simp only [Act.put, List.setIfInBounds_toArray, List.set_cons_zero, List.set_cons_succ]
  refine wpAnyH_take (i := 26) (oi := { dst := some 97, op := Op.move (Operand.tmp 96), type := 4, pos := _, after := #[{ on := 25, ground := Ground.data }, { on := 24, ground := Ground.chain }], guard := none }) (v := ?_) rfl (by kernel_rfl) (by kernel_rfl) (by kernel_rfl) (fun _ _ _ h => h) (Or.inl ⟨by rfl, ?_⟩) (by assumption) ?_
  rotate_left
  · (intro w hSw; (try dsimp only at hSw); go_simp; try with_reducible rfl)
  simp only [Act.put, List.setIfInBounds_toArray, List.set_cons_zero, List.set_cons_succ]
  refine wpAnyH_take (i := 27) (oi := { dst := some 98, op := Op.move (Operand.tmp 3), type := 49, pos := _, after := #[{ on := 26, ground := Ground.guard }], guard := some (26, true) }) (v := ?_) rfl (by kernel_rfl) (by kernel_rfl) (by kernel_rfl) (fun _ _ _ h => h) (Or.inl ⟨by rfl, ?_⟩) (by assumption) ?_
  rotate_left
  · (intro w hSw; (try dsimp only at hSw); go_simp; try with_reducible rfl)
  simp only [Act.put, List.setIfInBounds_toArray, List.set_cons_zero, List.set_cons_succ]
  refine wpAnyH_take (i := 28) (oi := { dst := some 99, op := Op.move (Operand.tmp 1), type := 52, pos := _, after := #[{ on := 26, ground := Ground.guard }], guard := some (26, true) }) (v := ?_) rfl (by kernel_rfl) (by kernel_rfl) (by kernel_rfl) (fun _ _ _ h => h) (Or.inl ⟨by rfl, ?_⟩) (by assumption) ?_
  rotate_left
  · (intro w hSw; (try dsimp only at hSw); go_simp; try with_reducible rfl)
  simp only [Act.put, List.setIfInBounds_toArray, List.set_cons_zero, List.set_cons_succ]
  refine wpAnyH_take (i := 29) (oi := { dst := some 100, op := Op.makeInterface 52 (Operand.tmp 99), type := 51, pos := _, after := #[{ on := 28, ground := Ground.data }, { on := 26, ground := Ground.guard }], guard := some (26, true) }) (v := ?_) rfl (by kernel_rfl) (by kernel_rfl) (by kernel_rfl) (fun _ _ _ h => h) (Or.inl ⟨by rfl, ?_⟩) (by assumption) ?_
  rotate_left
  · (intro w hSw; (try dsimp only at hSw); go_simp; try with_reducible rfl)
  simp only [Act.put, List.setIfInBounds_toArray, List.set_cons_zero, List.set_cons_succ]
  refine wpAnyH_ready (rs := [30]) (by kernel_rfl) (by simp) ?_
  refine AllReadyH.cons (o := { dst := some 101, op := Op.call { callee := Callee.value (Operand.func 30), args := #[Operand.tmp 98, Operand.tmp 100, Operand.const (Value.int IntKind.i64 8), Operand.const (Value.int IntKind.u32 4096)], argTypes := #[49, 51, 3, 32] }, type := 4, pos := _, after := #[{ on := 27, ground := Ground.data }, { on := 29, ground := Ground.data }, { on := 26, ground := Ground.chain }, { on := 26, ground := Ground.guard }], guard := some (26, true) }) rfl (fun K hK => ?_) AllReadyH.nil
  go_simp
  (first | (go_at_call 30; refine (HSu.out _ HA.out).mono ?_; rintro e wb ⟨rfl, gb⟩; have HB := hidW (Below.step HA.out gb); have HJ := hidW (HH.out wb (HB.out.block g hg9) (HB.out.block gd hgd9)); clear gb) | (go_at_call 30; refine HSt.out.mono ?_; rintro e wa ⟨rfl, ga⟩; have HA := hidW ga; have HJ := hidW (HH.out wa (ga.block g hg9) (ga.block gd hgd9)); clear ga))
  refine hK.out _ _ ?_ (fun hHeld => ?_)
  · ((try dsimp only); with_reducible exact HJ.out)
  clear hK K
  try simp only [Act.put, List.setIfInBounds_toArray, List.set_cons_zero, List.set_cons_succ]
  refine wpAnyH_take (i := 31) (oi := { dst := some 102, op := Op.unOp UnOp.not 4 (Operand.tmp 101), type := 4, pos := _, after := #[{ on := 30, ground := Ground.data }, { on := 26, ground := Ground.guard }], guard := some (26, true) }) (v := ?_) rfl (by kernel_rfl) (by kernel_rfl) (by kernel_rfl) (fun _ _ _ h => h) (Or.inl ⟨by rfl, ?_⟩) (by assumption) ?_
  rotate_left
  · (intro w hSw; (try dsimp only at hSw); go_simp; try with_reducible rfl)
  simp only [Act.put, List.setIfInBounds_toArray, List.set_cons_zero, List.set_cons_succ]
  refine wpAnyH_take (i := 32) (oi := { dst := some 103, op := Op.pick (Operand.tmp 97) (Operand.tmp 102) (Operand.const (Value.bool false)), type := 4, pos := _, after := #[{ on := 26, ground := Ground.data }, { on := 31, ground := Ground.data }], guard := none }) (v := ?_) rfl (by kernel_rfl) (by kernel_rfl) (by kernel_rfl) (fun _ _ _ h => h) (Or.inl ⟨by rfl, ?_⟩) (by assumption) ?_
  rotate_left
  · (intro w hSw; (try dsimp only at hSw); go_simp; try with_reducible rfl)
  simp only [Act.put, List.setIfInBounds_toArray, List.set_cons_zero, List.set_cons_succ]
  refine wpAnyH_take (i := 33) (oi := { dst := some 104, op := Op.move (Operand.tmp 103), type := 4, pos := _, after := #[{ on := 32, ground := Ground.data }, { on := 30, ground := Ground.chain }], guard := none }) (v := ?_) rfl (by kernel_rfl) (by kernel_rfl) (by kernel_rfl) (fun _ _ _ h => h) (Or.inl ⟨by rfl, ?_⟩) (by assumption) ?_
  rotate_left
  · (intro w hSw; (try dsimp only at hSw); go_simp; try with_reducible rfl)
  simp only [Act.put, List.setIfInBounds_toArray, List.set_cons_zero, List.set_cons_succ]
  refine wpAnyH_take (i := 34) (oi := { dst := some 105, op := Op.move (Operand.tmp 3), type := 49, pos := _, after := #[{ on := 33, ground := Ground.guard }], guard := some (33, true) }) (v := ?_) rfl (by kernel_rfl) (by kernel_rfl) (by kernel_rfl) (fun _ _ _ h => h) (Or.inl ⟨by rfl, ?_⟩) (by assumption) ?_
  rotate_left
  · (intro w hSw; (try dsimp only at hSw); go_simp; try with_reducible rfl)
  simp only [Act.put, List.setIfInBounds_toArray, List.set_cons_zero, List.set_cons_succ]
  refine wpAnyH_take (i := 35) (oi := { dst := some 106, op := Op.build 34 #[(0, Operand.const (Value.int IntKind.i64 2)), (1, Operand.const (Value.int IntKind.u32 4096)), (2, Operand.const (Value.int IntKind.i64 7))], type := 34, pos := _, after := #[{ on := 33, ground := Ground.guard }], guard := some (33, true) }) (v := ?_) rfl (by kernel_rfl) (by kernel_rfl) (by kernel_rfl) (fun _ _ _ h => h) (Or.inl ⟨by rfl, ?_⟩) (by assumption) ?_
  rotate_left
  · (intro w hSw; (try dsimp only at hSw); go_simp; try with_reducible rfl)
  simp only [Act.put, List.setIfInBounds_toArray, List.set_cons_zero, List.set_cons_succ]
  refine wpAnyH_ready (rs := [36]) (by kernel_rfl) (by simp) ?_
  refine AllReadyH.cons (o := { dst := some 107, op := Op.call { callee := Callee.value (Operand.func 25), args := #[Operand.tmp 105, Operand.tmp 106], argTypes := #[49, 34] }, type := 3, pos := _, after := #[{ on := 34, ground := Ground.data }, { on := 35, ground := Ground.data }, { on := 33, ground := Ground.chain }, { on := 33, ground := Ground.guard }], guard := some (33, true) }) rfl (fun K hK => ?_) AllReadyH.nil
  go_simp
  (go_at_call 25; refine (HDr.out _ HB.out).mono ?_; rintro e wc ⟨rfl, gc, qc⟩; have HXc := hidW gc; have e1 := (qc g (Or.inl rfl)).trans (HB.out.block g hg9); have e2 := (qc gd (Or.inr rfl)).trans (HB.out.block gd hgd9); have HQ := hidW (And.intro e1 e2); have HJ := hidW (HH.out wc e1 e2); clear gc qc e1 e2)
  refine hK.out _ _ ?_ (fun hHeld => ?_)
  · ((try dsimp only); with_reducible exact HJ.out)
  clear hK K
  try simp only [Act.put, List.setIfInBounds_toArray, List.set_cons_zero, List.set_cons_succ]
  refine wpAnyH_take (i := 37) (oi := { dst := some 108, op := Op.binOp BinOp.eql 3 (Operand.tmp 107) (Operand.const (Value.int IntKind.i64 1)) 3, type := 4, pos := _, after := #[{ on := 36, ground := Ground.data }, { on := 33, ground := Ground.guard }], guard := some (33, true) }) (v := ?_) rfl (by kernel_rfl) (by kernel_rfl) (by kernel_rfl) (fun _ _ _ h => h) (Or.inl ⟨by rfl, ?_⟩) (by assumption) ?_
  rotate_left
  · (intro w hSw; (try dsimp only at hSw); go_simp; try with_reducible rfl)
  simp only [Act.put, List.setIfInBounds_toArray, List.set_cons_zero, List.set_cons_succ]
  refine wpAnyH_take (i := 38) (oi := { dst := some 109, op := Op.pick (Operand.tmp 104) (Operand.tmp 108) (Operand.const (Value.bool false)), type := 4, pos := _, after := #[{ on := 33, ground := Ground.data }, { on := 37, ground := Ground.data }], guard := none }) (v := ?_) rfl (by kernel_rfl) (by kernel_rfl) (by kernel_rfl) (fun _ _ _ h => h) (Or.inl ⟨by rfl, ?_⟩) (by assumption) ?_
  rotate_left
  · (intro w hSw; (try dsimp only at hSw); go_simp; try with_reducible rfl)
  simp only [Act.put, List.setIfInBounds_toArray, List.set_cons_zero, List.set_cons_succ]
  refine wpAnyH_take (i := 39) (oi := { dst := some 110, op := Op.move (Operand.tmp 109), type := 4, pos := _, after := #[{ on := 38, ground := Ground.data }, { on := 36, ground := Ground.chain }], guard := none }) (v := ?_) rfl (by kernel_rfl) (by kernel_rfl) (by kernel_rfl) (fun _ _ _ h => h) (Or.inl ⟨by rfl, ?_⟩) (by assumption) ?_
  rotate_left
  · (intro w hSw; (try dsimp only at hSw); go_simp; try with_reducible rfl)
  simp only [Act.put, List.setIfInBounds_toArray, List.set_cons_zero, List.set_cons_succ]
  refine wpAnyH_take (i := 40) (oi := { dst := some 111, op := Op.move (Operand.tmp 3), type := 49, pos := _, after := #[{ on := 39, ground := Ground.guard }], guard := some (39, true) }) (v := ?_) rfl (by kernel_rfl) (by kernel_rfl) (by kernel_rfl) (fun _ _ _ h => h) (Or.inl ⟨by rfl, ?_⟩) (by assumption) ?_
  rotate_left
  · (intro w hSw; (try dsimp only at hSw); go_simp; try with_reducible rfl)
  simp only [Act.put, List.setIfInBounds_toArray, List.set_cons_zero, List.set_cons_succ]
  refine wpAnyH_take (i := 41) (oi := { dst := some 112, op := Op.move (Operand.tmp 1), type := 52, pos := _, after := #[{ on := 39, ground := Ground.guard }], guard := some (39, true) }) (v := ?_) rfl (by kernel_rfl) (by kernel_rfl) (by kernel_rfl) (fun _ _ _ h => h) (Or.inl ⟨by rfl, ?_⟩) (by assumption) ?_
  rotate_left
  · (intro w hSw; (try dsimp only at hSw); go_simp; try with_reducible rfl)
  simp only [Act.put, List.setIfInBounds_toArray, List.set_cons_zero, List.set_cons_succ]
  refine wpAnyH_take (i := 42) (oi := { dst := some 113, op := Op.makeInterface 52 (Operand.tmp 112), type := 51, pos := _, after := #[{ on := 41, ground := Ground.data }, { on := 39, ground := Ground.guard }], guard := some (39, true) }) (v := ?_) rfl (by kernel_rfl) (by kernel_rfl) (by kernel_rfl) (fun _ _ _ h => h) (Or.inl ⟨by rfl, ?_⟩) (by assumption) ?_
  rotate_left
  · (intro w hSw; (try dsimp only at hSw); go_simp; try with_reducible rfl)
  simp only [Act.put, List.setIfInBounds_toArray, List.set_cons_zero, List.set_cons_succ]
  refine wpAnyH_ready (rs := [43]) (by kernel_rfl) (by simp) ?_
  refine AllReadyH.cons (o := { dst := some 114, op := Op.call { callee := Callee.value (Operand.func 13), args := #[Operand.tmp 111, Operand.tmp 113], argTypes := #[49, 51] }, type := 48, pos := _, after := #[{ on := 40, ground := Ground.data }, { on := 42, ground := Ground.data }, { on := 39, ground := Ground.chain }, { on := 39, ground := Ground.guard }], guard := some (39, true) }) rfl (fun K hK => ?_) AllReadyH.nil
  go_simp
  (go_at_call 13; refine (HXc.out.dirty (by show (diL MF [bG] JE).length * 64 ≤ _; rw [ex_di3]; decide)).mono ?_; rw [show diL (Mst.ram 16 mF).mo [bG] JE = [] from ex_di3]; rintro e wd ⟨vd, rfl, hLd, gd'⟩; obtain ⟨ad, capd, rfl⟩ := LtG.nil hLd; have HF := hidW (Below.step HXc.out.bel gd'); have z1 : gd < wc.heap.size := (HXc.out.gl gd (Or.inr rfl)).1; have z2 : g < wc.heap.size := (HXc.out.gl g (Or.inl rfl)).1; have HJ := hidW (HH.out wd ((gd'.block g z2).trans HQ.out.1) ((gd'.block gd z1).trans HQ.out.2)); clear gd' hLd z1 z2)
  refine hK.out _ _ ?_ (fun hHeld => ?_)
  · ((try dsimp only); with_reducible exact HJ.out)
  clear hK K
  try simp only [Act.put, List.setIfInBounds_toArray, List.set_cons_zero, List.set_cons_succ]
  refine wpAnyH_take (i := 44) (oi := { dst := some 115, op := Op.call { callee := Callee.builtin Builtin.len, args := #[Operand.tmp 114], argTypes := #[48] }, type := 3, pos := _, after := #[{ on := 43, ground := Ground.data }, { on := 39, ground := Ground.guard }], guard := some (39, true) }) (v := ?_) rfl (by kernel_rfl) (by kernel_rfl) (by kernel_rfl) (fun _ _ _ h => h) (Or.inl ⟨by rfl, ?_⟩) (by assumption) ?_
  rotate_left
  · (intro w hSw; (try dsimp only at hSw); go_simp; try with_reducible rfl)
  simp only [Act.put, List.setIfInBounds_toArray, List.set_cons_zero, List.set_cons_succ]
  refine wpAnyH_take (i := 45) (oi := { dst := some 116, op := Op.binOp BinOp.eql 3 (Operand.tmp 115) (Operand.const (Value.int IntKind.i64 0)) 3, type := 4, pos := _, after := #[{ on := 44, ground := Ground.data }, { on := 39, ground := Ground.guard }], guard := some (39, true) }) (v := ?_) rfl (by kernel_rfl) (by kernel_rfl) (by kernel_rfl) (fun _ _ _ h => h) (Or.inl ⟨by rfl, ?_⟩) (by assumption) ?_
  rotate_left
  · (intro w hSw; (try dsimp only at hSw); go_simp; try with_reducible rfl)
  simp only [Act.put, List.setIfInBounds_toArray, List.set_cons_zero, List.set_cons_succ]
  refine wpAnyH_take (i := 46) (oi := { dst := some 117, op := Op.pick (Operand.tmp 110) (Operand.tmp 116) (Operand.const (Value.bool false)), type := 4, pos := _, after := #[{ on := 39, ground := Ground.data }, { on := 45, ground := Ground.data }], guard := none }) (v := ?_) rfl (by kernel_rfl) (by kernel_rfl) (by kernel_rfl) (fun _ _ _ h => h) (Or.inl ⟨by rfl, ?_⟩) (by assumption) ?_
  rotate_left
  · (intro w hSw; (try dsimp only at hSw); go_simp; try with_reducible rfl)
  simp only [Act.put, List.setIfInBounds_toArray, List.set_cons_zero, List.set_cons_succ]
  refine wpAnyH_take (i := 47) (oi := { dst := some 0, op := Op.assign (Operand.tmp 117), type := 4, pos := _, after := #[{ on := 46, ground := Ground.data }, { on := 43, ground := Ground.chain }, { on := 0, ground := Ground.phase }, { on := 1, ground := Ground.phase }, { on := 2, ground := Ground.phase }, { on := 3, ground := Ground.phase }, { on := 4, ground := Ground.phase }, { on := 5, ground := Ground.phase }, { on := 6, ground := Ground.phase }, { on := 7, ground := Ground.phase }, { on := 8, ground := Ground.phase }, { on := 9, ground := Ground.phase }, { on := 10, ground := Ground.phase }, { on := 11, ground := Ground.phase }, { on := 12, ground := Ground.phase }, { on := 13, ground := Ground.phase }, { on := 14, ground := Ground.phase }, { on := 15, ground := Ground.phase }, { on := 16, ground := Ground.phase }, { on := 17, ground := Ground.phase }, { on := 18, ground := Ground.phase }, { on := 19, ground := Ground.phase }, { on := 20, ground := Ground.phase }, { on := 21, ground := Ground.phase }, { on := 22, ground := Ground.phase }, { on := 23, ground := Ground.phase }, { on := 24, ground := Ground.phase }, { on := 25, ground := Ground.phase }, { on := 26, ground := Ground.phase }, { on := 27, ground := Ground.phase }, { on := 28, ground := Ground.phase }, { on := 29, ground := Ground.phase }, { on := 30, ground := Ground.phase }, { on := 31, ground := Ground.phase }, { on := 32, ground := Ground.phase }, { on := 33, ground := Ground.phase }, { on := 34, ground := Ground.phase }, { on := 35, ground := Ground.phase }, { on := 36, ground := Ground.phase }, { on := 37, ground := Ground.phase }, { on := 38, ground := Ground.phase }, { on := 39, ground := Ground.phase }, { on := 40, ground := Ground.phase }, { on := 41, ground := Ground.phase }, { on := 42, ground := Ground.phase }, { on := 43, ground := Ground.phase }, { on := 44, ground := Ground.phase }, { on := 45, ground := Ground.phase }, { on := 46, ground := Ground.phase }], guard := none }) (v := ?_) rfl (by kernel_rfl) (by kernel_rfl) (by kernel_rfl) (fun _ _ _ h => h) (Or.inl ⟨by rfl, ?_⟩) (by assumption) ?_
  rotate_left
  · (intro w hSw; (try dsimp only at hSw); go_simp; try with_reducible rfl)
  simp only [Act.put, List.setIfInBounds_toArray, List.set_cons_zero, List.set_cons_succ]
  refine wpAnyH_done (by kernel_rfl) ?_ _
  go_wp2
  go_ret
  exact ⟨rfl, HF.out⟩
end Go.Proofs.YtnjlajjjcmhfgaaGreatDoor
