import Derived.Test.YtilhceajhlaojaaGreatDoorZ23
import Derived.Test.YtilhceajhlaojaaGreatDoorZ14
namespace Go.Proofs.YtilhceajhlaojaaGreatDoor
open Go.RowKit
set_option linter.unusedVariables false
set_option linter.unusedSimpArgs false
def nwZ : List Int := [0, 0, 0, 0, 0, 0, 0, 0, 0, 0, 0, 0, 0, 0, 0, 0, 0, 0, 0, 0, 0, 0, 0, 0, 0, 0, 0, 0, 0, 0]
theorem bl8 {w : World} {b : Nat} {t : TypeId} {a0 a1 a2 a3 a4 a5 a6 a7 : Value} (h : Bl w b t [a0, a1, a2, a3, a4, a5, a6, a7]) : w.cell? ⟨b, 0, none⟩ = some a0 ∧ w.cell? ⟨b, 1, none⟩ = some a1 ∧ w.cell? ⟨b, 2, none⟩ = some a2 ∧ w.cell? ⟨b, 3, none⟩ = some a3 ∧ w.cell? ⟨b, 4, none⟩ = some a4 ∧ w.cell? ⟨b, 5, none⟩ = some a5 ∧ w.cell? ⟨b, 6, none⟩ = some a6 ∧ w.cell? ⟨b, 7, none⟩ = some a7 :=
  ⟨h.cell 0, h.cell 1, h.cell 2, h.cell 3, h.cell 4, h.cell 5, h.cell 6, h.cell 7⟩
set_option maxRecDepth 100000 in
set_option maxHeartbeats 2000000 in
theorem glive (W : World) (te : TE W) : Calls Tryz.prog 10 #[] W fun e w' => e = .returned (.bool true) ∧ Below W.heap.size W w' := by
  have HN : Hid (Calls Tryz.prog 24 #[] W fun e w' => e = .returned (.pointer (some ⟨W.heap.size, 0, none⟩)) ∧ Below W.heap.size W w' ∧ RB w' W.heap.size 86 lr0 [.bool false]) := gNew W
  have hte : Hid _ := te
  clear te
  go_enter Tryz.func10, Tryz.ntmps10
  go_wp2_with (first | (go_at_call 24; refine HN.out.mono ?_; rintro e w1 ⟨rfl, hb, hc⟩; have HX := hidW (LV.first hb hc (Nat.le_refl _)); clear hb hc))
  change Hid (LV W ((w1.alloc (.cells #[.int .u32 3818913797, .int .u32 3796893701, .int .u32 60821505, .int .u32 3852410884, .int .u32 4009754631, .int .u32 0, .int .u32 287454020] 22)).alloc (.cells #[.slice none 0 0, .slice none 0 0, .slice none 0 0, .int .u32 0] 58)) _ _ _ _ _) at HX
  generalize ((w1.alloc (.cells #[.int .u32 3818913797, .int .u32 3796893701, .int .u32 60821505, .int .u32 3852410884, .int .u32 4009754631, .int .u32 0, .int .u32 287454020] 22)).alloc (.cells #[.slice none 0 0, .slice none 0 0, .slice none 0 0, .int .u32 0] 58)) = w2 at HX ⊢
  generalize w1.heap.size = sb at HX ⊢
  generalize hlb : sb + 1 = lb at HX ⊢
  go_loopw [4] (fun k wr => ∃ (n : Nat) (pv : Value), n ≤ 7 ∧ k = .int .i64 (n : Int) ∧ LV W wr W.heap.size sb lb pv n) (fun k _ => (7 - intOf k).toNat)
  case atStart => exact ⟨0, nilS, by omega, rfl, HX.out⟩
  case round =>
    clear HX
    obtain ⟨n, pv, h1, rfl, hX⟩ := hrel
    have HX := hidW hX
    clear hX
    by_cases h : n < 7
    · obtain ⟨p, hp⟩ : ∃ p, lvW[n]? = some p := ⟨_, List.getElem?_eq_getElem (by show n < 7; exact h)⟩
      have b1 : (n : Int) < 7 := by omega
      have b0 : (0 : Int) ≤ (n : Int) := by omega
      have b2 : decide ((n : Int) < 7) = true := decide_eq_true b1
      have hp1 : p.1 = 4 * (n : Int) := by
        have : ∀ n : Nat, n < 7 → (lvW[n]?).map Prod.fst = some (4 * (n : Int)) := by decide
        have := this n h
        rw [hp] at this
        exact Option.some.inj this
      obtain ⟨pa, pw⟩ := p
      have hp1 : pa = 4 * (n : Int) := hp1
      have HPut : Hid (∀ v qb, LV W v W.heap.size sb lb pv n → Bl v qb 45 [.int .u32 pa, .int .u32 pw] → _) := fun v qb hx hq => hx.put (by omega) (pa, pw) hp qb hq
      have HC : Hid (∀ v pv m, LV W v W.heap.size sb lb pv m → v.cell? ⟨sb, n, none⟩ = some (.int .u32 pw)) := fun v pv m hv => by
        rw [hv.sl.cell n, List.getElem?_map, hp]
        rfl
      have hp2 := hidW hp1
      have ez := hidW (show IntKind.u32.wrap (IntKind.i64.wrap pa) = pa by rw [IntKind.wrap_i64, IntKind.wrap_u32']; omega)
      clear hp hp1
      go_wp2
      have HX := hidW HX.out.drew
      refine wp_region_held_drew (S := fun v => v.cell? ⟨sb, n, none⟩ = some (.int .u32 pw)) (by kernel_rfl) (HC.out _ _ _ HX.out) (fun hHeld => ?_)
      clear hHeld
      generalize wr.drew = u2 at HX ⊢
      have K2 := hidW (HC.out _ _ _ HX.out)
      have k2 := HX.out.lx.cells.1.1
      refine wpAnyH_take (i := 0) (oi := { dst := some 23, op := Op.move (Operand.tmp 3), type := 42, pos := _, after := #[], guard := none }) (v := ?_) rfl (by kernel_rfl) (by kernel_rfl) (by kernel_rfl) (fun _ _ _ h => h) (Or.inl ⟨by rfl, ?_⟩) (by assumption) ?_
      rotate_left
      · (intro w hSw; (try dsimp only at hSw); go_simp; try with_reducible rfl)
      simp only [Act.put, List.setIfInBounds_toArray, List.set_cons_zero, List.set_cons_succ]
      refine wpAnyH_take (i := 1) (oi := { dst := some 24, op := Op.move (Operand.tmp 3), type := 42, pos := _, after := #[], guard := none }) (v := ?_) rfl (by kernel_rfl) (by kernel_rfl) (by kernel_rfl) (fun _ _ _ h => h) (Or.inl ⟨by rfl, ?_⟩) (by assumption) ?_
      rotate_left
      · (intro w hSw; (try dsimp only at hSw); go_simp; try with_reducible rfl)
      simp only [Act.put, List.setIfInBounds_toArray, List.set_cons_zero, List.set_cons_succ]
      refine wpAnyH_take (i := 2) (oi := { dst := some 25, op := Op.nilCheck (Operand.tmp 24), type := 0, pos := _, after := #[{ on := 1, ground := Ground.data }], guard := none }) (v := ?_) rfl (by kernel_rfl) (by kernel_rfl) (by kernel_rfl) (fun _ _ _ h => h) (Or.inl ⟨by rfl, ?_⟩) (by assumption) ?_
      rotate_left
      · (intro w hSw; (try dsimp only at hSw); go_simp; try with_reducible rfl)
      simp only [Act.put, List.setIfInBounds_toArray, List.set_cons_zero, List.set_cons_succ]
      refine wpAnyH_take (i := 3) (oi := { dst := some 26, op := Op.fieldAddr 58 (Operand.tmp 25) 0, type := 0, pos := _, after := #[{ on := 2, ground := Ground.data }], guard := none }) (v := ?_) rfl (by kernel_rfl) (by kernel_rfl) (by kernel_rfl) (fun _ _ _ h => h) (Or.inl ⟨by rfl, ?_⟩) (by assumption) ?_
      rotate_left
      · (intro w hSw; (try dsimp only at hSw); go_simp; try with_reducible rfl)
      simp only [Act.put, List.setIfInBounds_toArray, List.set_cons_zero, List.set_cons_succ]
      refine wpAnyH_take (i := 5) (oi := { dst := some 28, op := Op.move (Operand.tmp 4), type := 3, pos := _, after := #[], guard := none }) (v := ?_) rfl (by kernel_rfl) (by kernel_rfl) (by kernel_rfl) (fun _ _ _ h => h) (Or.inl ⟨by rfl, ?_⟩) (by assumption) ?_
      rotate_left
      · (intro w hSw; (try dsimp only at hSw); go_simp; try with_reducible rfl)
      simp only [Act.put, List.setIfInBounds_toArray, List.set_cons_zero, List.set_cons_succ]
      refine wpAnyH_take (i := 6) (oi := { dst := some 29, op := Op.binOp BinOp.mul 3 (Operand.const (Value.int IntKind.i64 4)) (Operand.tmp 28) 3, type := 3, pos := _, after := #[{ on := 5, ground := Ground.data }], guard := none }) (v := ?_) rfl (by kernel_rfl) (by kernel_rfl) (by kernel_rfl) (fun _ _ _ h => h) (Or.inl ⟨by rfl, ?_⟩) (by assumption) ?_
      rotate_left
      · (intro w hSw; (try dsimp only at hSw); go_simp; try with_reducible rfl)
      simp only [Act.put, List.setIfInBounds_toArray, List.set_cons_zero, List.set_cons_succ]
      refine wpAnyH_take (i := 7) (oi := { dst := some 30, op := Op.convert 3 22 (Operand.tmp 29), type := 22, pos := _, after := #[{ on := 6, ground := Ground.data }], guard := none }) (v := ?_) rfl (by kernel_rfl) (by kernel_rfl) (by kernel_rfl) (fun _ _ _ h => h) (Or.inl ⟨by rfl, ?_⟩) (by assumption) ?_
      rotate_left
      · (intro w hSw; (try dsimp only at hSw); go_simp; try with_reducible rfl)
      simp only [Act.put, List.setIfInBounds_toArray, List.set_cons_zero, List.set_cons_succ]
      refine wpAnyH_take (i := 8) (oi := { dst := some 31, op := Op.move (Operand.tmp 2), type := 71, pos := _, after := #[], guard := none }) (v := ?_) rfl (by kernel_rfl) (by kernel_rfl) (by kernel_rfl) (fun _ _ _ h => h) (Or.inl ⟨by rfl, ?_⟩) (by assumption) ?_
      rotate_left
      · (intro w hSw; (try dsimp only at hSw); go_simp; try with_reducible rfl)
      simp only [Act.put, List.setIfInBounds_toArray, List.set_cons_zero, List.set_cons_succ]
      refine wpAnyH_take (i := 9) (oi := { dst := some 32, op := Op.move (Operand.tmp 4), type := 3, pos := _, after := #[], guard := none }) (v := ?_) rfl (by kernel_rfl) (by kernel_rfl) (by kernel_rfl) (fun _ _ _ h => h) (Or.inl ⟨by rfl, ?_⟩) (by assumption) ?_
      rotate_left
      · (intro w hSw; (try dsimp only at hSw); go_simp; try with_reducible rfl)
      simp only [Act.put, List.setIfInBounds_toArray, List.set_cons_zero, List.set_cons_succ]
      refine wpAnyH_take (i := 10) (oi := { dst := some 33, op := Op.indexAddr 71 (Operand.tmp 31) (Operand.tmp 32), type := 0, pos := _, after := #[{ on := 8, ground := Ground.data }, { on := 9, ground := Ground.data }], guard := none }) (v := ?_) rfl (by kernel_rfl) (by kernel_rfl) (by kernel_rfl) (fun _ _ _ h => h) (Or.inl ⟨by rfl, ?_⟩) (by assumption) ?_
      rotate_left
      · (intro w hSw; (try dsimp only at hSw); go_simp; try with_reducible rfl)
      simp only [Act.put, List.setIfInBounds_toArray, List.set_cons_zero, List.set_cons_succ]
      refine wpAnyH_take (i := 11) (oi := { dst := some 34, op := Op.load 22 (Operand.tmp 33), type := 22, pos := _, after := #[{ on := 10, ground := Ground.data }], guard := none }) (v := ?_) rfl (by kernel_rfl) (by kernel_rfl) (by kernel_rfl) (fun _ _ _ h => h) (Or.inl ⟨by rfl, ?_⟩) (by assumption) ?_
      rotate_left
      · (intro w hSw; (try dsimp only at hSw); go_simp; try with_reducible rfl)
      simp only [Act.put, List.setIfInBounds_toArray, List.set_cons_zero, List.set_cons_succ]
      refine wpAnyH_take (i := 12) (oi := { dst := some 35, op := Op.build 45 #[(0, Operand.tmp 30), (1, Operand.tmp 34)], type := 45, pos := _, after := #[{ on := 7, ground := Ground.data }, { on := 11, ground := Ground.data }], guard := none }) (v := ?_) rfl (by kernel_rfl) (by kernel_rfl) (by kernel_rfl) (fun _ _ _ h => h) (Or.inl ⟨by rfl, ?_⟩) (by assumption) ?_
      rotate_left
      · (intro w hSw; (try dsimp only at hSw); go_simp; try with_reducible rfl)
      simp only [Act.put, List.setIfInBounds_toArray, List.set_cons_zero, List.set_cons_succ]
      refine wpAnyH_ready (rs := [4, 13]) (by kernel_rfl) (by simp) ?_
      refine (AllReadyH.cons (o := { dst := some 27, op := Op.load 46 (Operand.tmp 26), type := 46, pos := _, after := #[{ on := 3, ground := Ground.data }], guard := none }) rfl (fun K hK => ?_) (AllReadyH.cons (o := { dst := some 36, op := Op.buildSlice 46 1 #[(0, Operand.tmp 35)], type := 46, pos := _, after := #[{ on := 12, ground := Ground.data }], guard := none }) rfl (fun K hK => ?_) AllReadyH.nil))
      · go_simp
        skip
        refine hK.out _ _ ?_ (fun hHeld => ?_)
        · ((try dsimp only); with_reducible exact K2.out)
        clear hK K
        try simp only [Act.put, List.setIfInBounds_toArray, List.set_cons_zero, List.set_cons_succ]
        refine wpAnyH_ready (rs := [13]) (by kernel_rfl) (by simp) ?_
        refine (AllReadyH.cons (o := { dst := some 36, op := Op.buildSlice 46 1 #[(0, Operand.tmp 35)], type := 46, pos := _, after := #[{ on := 12, ground := Ground.data }], guard := none }) rfl (fun K hK => ?_) AllReadyH.nil)
        go_simp
        (try rw [← hp2.out]); (try rw [ez.out]); have HA := hidW (Bl.new u2 45 [.int .u32 pa, .int .u32 pw]); have HX := hidW (HX.out.step (below_new u2 (.cells #[.int .u32 pa, .int .u32 pw] 45))); generalize hw3 : World.alloc u2 _ = u3; generalize u2.heap.size = qb at HA ⊢; have e3 : u2.alloc (.cells #[.int .u32 pa, .int .u32 pw] 45) = u3 := hw3; have HA : Hid (Bl (u2.alloc (.cells #[.int .u32 pa, .int .u32 pw] 45)) qb 45 [.int .u32 pa, .int .u32 pw]) := HA; rw [e3] at HX HA; clear hw3 e3; have K2 := hidW (HC.out _ _ _ HX.out); have k2 := HX.out.lx.cells.1.1
        refine hK.out _ _ ?_ (fun hHeld => ?_)
        · ((try dsimp only); with_reducible exact K2.out)
        clear hK K
        try simp only [Act.put, List.setIfInBounds_toArray, List.set_cons_zero, List.set_cons_succ]
        refine wpAnyH_ready (rs := [14]) (by kernel_rfl) (by simp) ?_
        refine (AllReadyH.cons (o := { dst := some 37, op := Op.call { callee := Callee.builtin Builtin.append, args := #[Operand.tmp 27, Operand.tmp 36], argTypes := #[46, 46] }, type := 46, pos := _, after := #[{ on := 4, ground := Ground.data }, { on := 13, ground := Ground.data }], guard := none }) rfl (fun K hK => ?_) AllReadyH.nil)
        rw [if_pos (by kernel_rfl)]; obtain ⟨pv', w4, ⟨sa, sn, sc, rfl⟩, hr, HY, ⟨g2, g3⟩, K4⟩ := HPut.out _ _ HX.out HA.out; refine Lib.wp_append_run _ _ _ 46 46 rfl _ _ rfl rfl _ _ (hr _) ?_; clear hr; have K2 := hidW K4; have HY := hidW HY
        refine hK.out _ _ ?_ (fun hHeld => ?_)
        · ((try dsimp only); with_reducible exact K2.out)
        clear hK K
        try simp only [Act.put, List.setIfInBounds_toArray, List.set_cons_zero, List.set_cons_succ]
        refine wpAnyH_take (i := 15) (oi := { dst := some 38, op := Op.nilCheck (Operand.tmp 23), type := 0, pos := _, after := #[{ on := 0, ground := Ground.data }, { on := 0, ground := Ground.phase }, { on := 1, ground := Ground.phase }, { on := 2, ground := Ground.phase }, { on := 3, ground := Ground.phase }, { on := 4, ground := Ground.phase }, { on := 5, ground := Ground.phase }, { on := 6, ground := Ground.phase }, { on := 7, ground := Ground.phase }, { on := 8, ground := Ground.phase }, { on := 9, ground := Ground.phase }, { on := 10, ground := Ground.phase }, { on := 11, ground := Ground.phase }, { on := 12, ground := Ground.phase }, { on := 13, ground := Ground.phase }, { on := 14, ground := Ground.phase }], guard := none }) (v := ?_) rfl (by kernel_rfl) (by kernel_rfl) (by kernel_rfl) (fun _ _ _ h => h) (Or.inl ⟨by rfl, ?_⟩) (by assumption) ?_
        rotate_left
        · (intro w hSw; (try dsimp only at hSw); go_simp; try with_reducible rfl)
        simp only [Act.put, List.setIfInBounds_toArray, List.set_cons_zero, List.set_cons_succ]
        refine wpAnyH_take (i := 16) (oi := { dst := some 39, op := Op.fieldAddr 58 (Operand.tmp 38) 0, type := 0, pos := _, after := #[{ on := 15, ground := Ground.data }, { on := 0, ground := Ground.phase }, { on := 1, ground := Ground.phase }, { on := 2, ground := Ground.phase }, { on := 3, ground := Ground.phase }, { on := 4, ground := Ground.phase }, { on := 5, ground := Ground.phase }, { on := 6, ground := Ground.phase }, { on := 7, ground := Ground.phase }, { on := 8, ground := Ground.phase }, { on := 9, ground := Ground.phase }, { on := 10, ground := Ground.phase }, { on := 11, ground := Ground.phase }, { on := 12, ground := Ground.phase }, { on := 13, ground := Ground.phase }, { on := 14, ground := Ground.phase }], guard := none }) (v := ?_) rfl (by kernel_rfl) (by kernel_rfl) (by kernel_rfl) (fun _ _ _ h => h) (Or.inl ⟨by rfl, ?_⟩) (by assumption) ?_
        rotate_left
        · (intro w hSw; (try dsimp only at hSw); go_simp; try with_reducible rfl)
        simp only [Act.put, List.setIfInBounds_toArray, List.set_cons_zero, List.set_cons_succ]
        refine wpAnyH_ready (rs := [17]) (by kernel_rfl) (by simp) ?_
        refine (AllReadyH.cons (o := { dst := none, op := Op.store 46 (Operand.tmp 39) (Operand.tmp 37), type := 0, pos := _, after := #[{ on := 16, ground := Ground.data }, { on := 14, ground := Ground.data }, { on := 14, ground := Ground.chain }, { on := 0, ground := Ground.phase }, { on := 1, ground := Ground.phase }, { on := 2, ground := Ground.phase }, { on := 3, ground := Ground.phase }, { on := 4, ground := Ground.phase }, { on := 5, ground := Ground.phase }, { on := 6, ground := Ground.phase }, { on := 7, ground := Ground.phase }, { on := 8, ground := Ground.phase }, { on := 9, ground := Ground.phase }, { on := 10, ground := Ground.phase }, { on := 11, ground := Ground.phase }, { on := 12, ground := Ground.phase }, { on := 13, ground := Ground.phase }, { on := 14, ground := Ground.phase }], guard := none }) rfl (fun K hK => ?_) AllReadyH.nil)
        go_simp
        skip
        refine hK.out _ _ ?_ (fun hHeld => ?_)
        · ((try dsimp only); exact HC.out _ _ _ HY.out)
        clear hK K
        try simp only [Act.put, List.setIfInBounds_toArray, List.set_cons_zero, List.set_cons_succ]
        refine wpAnyH_done (by kernel_rfl) ?_ _
        go_wp2
        go_roundw
        case rel => exact ⟨n + 1, _, by omega, by go_num, HY.out⟩
        case measure => simp [intOf]; omega
      · go_simp
        (try rw [← hp2.out]); (try rw [ez.out]); have HA := hidW (Bl.new u2 45 [.int .u32 pa, .int .u32 pw]); have HX := hidW (HX.out.step (below_new u2 (.cells #[.int .u32 pa, .int .u32 pw] 45))); generalize hw3 : World.alloc u2 _ = u3; generalize u2.heap.size = qb at HA ⊢; have e3 : u2.alloc (.cells #[.int .u32 pa, .int .u32 pw] 45) = u3 := hw3; have HA : Hid (Bl (u2.alloc (.cells #[.int .u32 pa, .int .u32 pw] 45)) qb 45 [.int .u32 pa, .int .u32 pw]) := HA; rw [e3] at HX HA; clear hw3 e3; have K2 := hidW (HC.out _ _ _ HX.out); have k2 := HX.out.lx.cells.1.1
        refine hK.out _ _ ?_ (fun hHeld => ?_)
        · ((try dsimp only); with_reducible exact K2.out)
        clear hK K
        try simp only [Act.put, List.setIfInBounds_toArray, List.set_cons_zero, List.set_cons_succ]
        refine wpAnyH_ready (rs := [4]) (by kernel_rfl) (by simp) ?_
        refine (AllReadyH.cons (o := { dst := some 27, op := Op.load 46 (Operand.tmp 26), type := 46, pos := _, after := #[{ on := 3, ground := Ground.data }], guard := none }) rfl (fun K hK => ?_) AllReadyH.nil)
        go_simp
        skip
        refine hK.out _ _ ?_ (fun hHeld => ?_)
        · ((try dsimp only); with_reducible exact K2.out)
        clear hK K
        try simp only [Act.put, List.setIfInBounds_toArray, List.set_cons_zero, List.set_cons_succ]
        refine wpAnyH_ready (rs := [14]) (by kernel_rfl) (by simp) ?_
        refine (AllReadyH.cons (o := { dst := some 37, op := Op.call { callee := Callee.builtin Builtin.append, args := #[Operand.tmp 27, Operand.tmp 36], argTypes := #[46, 46] }, type := 46, pos := _, after := #[{ on := 4, ground := Ground.data }, { on := 13, ground := Ground.data }], guard := none }) rfl (fun K hK => ?_) AllReadyH.nil)
        rw [if_pos (by kernel_rfl)]; obtain ⟨pv', w4, ⟨sa, sn, sc, rfl⟩, hr, HY, ⟨g2, g3⟩, K4⟩ := HPut.out _ _ HX.out HA.out; refine Lib.wp_append_run _ _ _ 46 46 rfl _ _ rfl rfl _ _ (hr _) ?_; clear hr; have K2 := hidW K4; have HY := hidW HY
        refine hK.out _ _ ?_ (fun hHeld => ?_)
        · ((try dsimp only); with_reducible exact K2.out)
        clear hK K
        try simp only [Act.put, List.setIfInBounds_toArray, List.set_cons_zero, List.set_cons_succ]
        refine wpAnyH_take (i := 15) (oi := { dst := some 38, op := Op.nilCheck (Operand.tmp 23), type := 0, pos := _, after := #[{ on := 0, ground := Ground.data }, { on := 0, ground := Ground.phase }, { on := 1, ground := Ground.phase }, { on := 2, ground := Ground.phase }, { on := 3, ground := Ground.phase }, { on := 4, ground := Ground.phase }, { on := 5, ground := Ground.phase }, { on := 6, ground := Ground.phase }, { on := 7, ground := Ground.phase }, { on := 8, ground := Ground.phase }, { on := 9, ground := Ground.phase }, { on := 10, ground := Ground.phase }, { on := 11, ground := Ground.phase }, { on := 12, ground := Ground.phase }, { on := 13, ground := Ground.phase }, { on := 14, ground := Ground.phase }], guard := none }) (v := ?_) rfl (by kernel_rfl) (by kernel_rfl) (by kernel_rfl) (fun _ _ _ h => h) (Or.inl ⟨by rfl, ?_⟩) (by assumption) ?_
        rotate_left
        · (intro w hSw; (try dsimp only at hSw); go_simp; try with_reducible rfl)
        simp only [Act.put, List.setIfInBounds_toArray, List.set_cons_zero, List.set_cons_succ]
        refine wpAnyH_take (i := 16) (oi := { dst := some 39, op := Op.fieldAddr 58 (Operand.tmp 38) 0, type := 0, pos := _, after := #[{ on := 15, ground := Ground.data }, { on := 0, ground := Ground.phase }, { on := 1, ground := Ground.phase }, { on := 2, ground := Ground.phase }, { on := 3, ground := Ground.phase }, { on := 4, ground := Ground.phase }, { on := 5, ground := Ground.phase }, { on := 6, ground := Ground.phase }, { on := 7, ground := Ground.phase }, { on := 8, ground := Ground.phase }, { on := 9, ground := Ground.phase }, { on := 10, ground := Ground.phase }, { on := 11, ground := Ground.phase }, { on := 12, ground := Ground.phase }, { on := 13, ground := Ground.phase }, { on := 14, ground := Ground.phase }], guard := none }) (v := ?_) rfl (by kernel_rfl) (by kernel_rfl) (by kernel_rfl) (fun _ _ _ h => h) (Or.inl ⟨by rfl, ?_⟩) (by assumption) ?_
        rotate_left
        · (intro w hSw; (try dsimp only at hSw); go_simp; try with_reducible rfl)
        simp only [Act.put, List.setIfInBounds_toArray, List.set_cons_zero, List.set_cons_succ]
        refine wpAnyH_ready (rs := [17]) (by kernel_rfl) (by simp) ?_
        refine (AllReadyH.cons (o := { dst := none, op := Op.store 46 (Operand.tmp 39) (Operand.tmp 37), type := 0, pos := _, after := #[{ on := 16, ground := Ground.data }, { on := 14, ground := Ground.data }, { on := 14, ground := Ground.chain }, { on := 0, ground := Ground.phase }, { on := 1, ground := Ground.phase }, { on := 2, ground := Ground.phase }, { on := 3, ground := Ground.phase }, { on := 4, ground := Ground.phase }, { on := 5, ground := Ground.phase }, { on := 6, ground := Ground.phase }, { on := 7, ground := Ground.phase }, { on := 8, ground := Ground.phase }, { on := 9, ground := Ground.phase }, { on := 10, ground := Ground.phase }, { on := 11, ground := Ground.phase }, { on := 12, ground := Ground.phase }, { on := 13, ground := Ground.phase }, { on := 14, ground := Ground.phase }], guard := none }) rfl (fun K hK => ?_) AllReadyH.nil)
        go_simp
        skip
        refine hK.out _ _ ?_ (fun hHeld => ?_)
        · ((try dsimp only); exact HC.out _ _ _ HY.out)
        clear hK K
        try simp only [Act.put, List.setIfInBounds_toArray, List.set_cons_zero, List.set_cons_succ]
        refine wpAnyH_done (by kernel_rfl) ?_ _
        go_wp2
        go_roundw
        case rel => exact ⟨n + 1, _, by omega, by go_num, HY.out⟩
        case measure => simp [intOf]; omega
    · obtain rfl : n = 7 := by omega
      have HR := hidW HX.out.rn
      have hsz := hte.out.size
      have hW0 := HX.out.c0
      have h01 := HX.out.c1
      have h02 := HX.out.c2
      have hlo : 4 < lb := by omega
      clear HX
      go_wp2
      go_loopw [5] (fun k wr => ∃ (n : Nat), n ≤ 4 ∧ k = .int .i64 (n : Int) ∧ RN W wr W.heap.size lb lb sb (lvW.map (fun p => W32 p.2)) pv nilS (lvN n) (lrN n)) (fun k _ => (4 - intOf k).toNat)
      case atStart => exact ⟨0, by omega, rfl, HR.out⟩
      case round =>
        clear HR
        obtain ⟨n, h1, rfl, hX⟩ := hrel
        have HX := hidW hX
        clear hX
        by_cases h : n < 4
        · obtain ⟨p, hp⟩ : ∃ p, lvW[n]? = some p := ⟨_, List.getElem?_eq_getElem (by show n < 7; omega)⟩
          have hp1 : p.1 = 4 * (n : Int) := by
            have : ∀ n : Nat, n < 4 → (lvW[n]?).map Prod.fst = some (4 * (n : Int)) := by decide
            have := this n h
            rw [hp] at this
            exact Option.some.inj this
          obtain ⟨pa, pw⟩ := p
          have hp1 : pa = 4 * (n : Int) := hp1
          have b1 : (n : Int) < 4 := by omega
          have b0 : (0 : Int) ≤ (n : Int) := by omega
          have b3 : (n : Int) < 7 := by omega
          have b2 : decide ((n : Int) < 4) = true := decide_eq_true b1
          have hp2 := hidW hp1
          have HS : Hid (Calls Tryz.prog 16 #[.pointer (some ⟨W.heap.size, 0, none⟩), .iface 42 (.pointer (some ⟨lb, 0, none⟩))] wr fun e w' => e = .returned (.tuple #[.agg #[.int .i64 0, .int .u32 pa, .int .u32 pw, .int .u32 0, .int .i64 0, .int .i64 0, .int .i64 0, .bool false], .int .i64 0]) ∧ RN W w' W.heap.size lb lb sb (lvW.map (fun p => W32 p.2)) pv nilS (lvN (n + 1)) (lrN (n + 1))) := lstepN n h pa pw hp W wr _ _ _ _ _ _ _ HX.out hte.out hlo (Nat.le_refl _)
          have HC : Hid (∀ v m, RN W v W.heap.size lb lb sb (lvW.map (fun p => W32 p.2)) pv nilS (lvN m) (lrN m) → v.cell? ⟨sb, n, none⟩ = some (.int .u32 pw)) := fun v m hv => by
            rw [hv.sl.cell n, List.getElem?_map, hp]
            rfl
          clear hp hp1 HX
          go_wp2_with (first | (go_at_call 16; refine HS.out.mono ?_; rintro e w3 ⟨rfl, hx⟩; have HX := hidW hx; clear hx))
          have HQ := hidW (Bl.new w3 50 [.int .i64 0, .int .u32 (4 * (n : Int)), .int .u32 pw, .int .u32 0, .int .i64 0, .int .i64 0, .int .i64 0, .bool false])
          have HX := hidW (HX.out.step (below_new w3 (.cells (tkL ⟨0, 4 * (n : Int), pw, 0, 0, 0, 0, false⟩).toArray 50)))
          change Hid (RN W (w3.alloc (.cells #[.int .i64 0, .int .u32 (4 * (n : Int)), .int .u32 pw, .int .u32 0, .int .i64 0, .int .i64 0, .int .i64 0, .bool false] 50)) _ _ _ _ _ _ _ _ _) at HX
          change Hid (Bl (w3.alloc (.cells #[.int .i64 0, .int .u32 (4 * (n : Int)), .int .u32 pw, .int .u32 0, .int .i64 0, .int .i64 0, .int .i64 0, .bool false] 50)) _ _ _) at HQ
          generalize (w3.alloc (.cells #[.int .i64 0, .int .u32 (4 * (n : Int)), .int .u32 pw, .int .u32 0, .int .i64 0, .int .i64 0, .int .i64 0, .bool false] 50)) = w4 at HX HQ ⊢
          generalize w3.heap.size = q at HQ ⊢
          have HX := hidW HX.out.drew
          have HQ := hidW HQ.out.drew
          refine wp_region_held_drew (S := fun v => v.cell? ⟨sb, n, none⟩ = some (.int .u32 pw) ∧ v.rangeAt q 0 [.int .i64 0, .int .u32 (4 * (n : Int)), .int .u32 pw, .int .u32 0, .int .i64 0, .int .i64 0, .int .i64 0, .bool false]) (by kernel_rfl) ⟨HC.out _ _ HX.out, HQ.out.range⟩ (fun hHeld => ?_)
          clear hHeld
          generalize w4.drew = u2 at HX HQ ⊢
          have K2 := hidW (And.intro (HC.out _ _ HX.out) HQ.out.range)
          refine wpAnyH_take (i := 0) (oi := { dst := some 51, op := Op.move (Operand.tmp 7), type := 51, pos := _, after := #[], guard := none }) (v := ?_) rfl (by kernel_rfl) (by kernel_rfl) (by kernel_rfl) (fun _ _ _ h => h) (Or.inl ⟨by rfl, ?_⟩) (by assumption) ?_
          rotate_left
          · (intro w hSw; (try dsimp only at hSw); go_simp; try with_reducible rfl)
          simp only [Act.put, List.setIfInBounds_toArray, List.set_cons_zero, List.set_cons_succ]
          refine wpAnyH_ready (rs := [1]) (by kernel_rfl) (by simp) ?_
          refine (AllReadyH.cons (o := { dst := some 52, op := Op.call { callee := Callee.value (Operand.func 17), args := #[Operand.tmp 51], argTypes := #[51] }, type := 3, pos := _, after := #[{ on := 0, ground := Ground.data }], guard := none }) rfl (fun K hK => ?_) AllReadyH.nil)
          go_simp
          go_at_call 17; refine (gno 0 _).mono ?_; rintro e wu ⟨rfl, hwe⟩; have hwe := hwe.symm; subst hwe
          refine hK.out _ _ ?_ (fun hHeld => ?_)
          · exact K2.out
          clear hK K
          try simp only [Act.put, List.setIfInBounds_toArray, List.set_cons_zero, List.set_cons_succ]
          refine wpAnyH_take (i := 2) (oi := { dst := some 53, op := Op.binOp BinOp.neq 3 (Operand.tmp 52) (Operand.const (Value.int IntKind.i64 0)) 3, type := 4, pos := _, after := #[{ on := 1, ground := Ground.data }], guard := none }) (v := ?_) rfl (by kernel_rfl) (by kernel_rfl) (by kernel_rfl) (fun _ _ _ h => h) (Or.inl ⟨by rfl, ?_⟩) (by assumption) ?_
          rotate_left
          · (intro w hSw; (try dsimp only at hSw); go_simp; try with_reducible rfl)
          simp only [Act.put, List.setIfInBounds_toArray, List.set_cons_zero, List.set_cons_succ]
          refine wpAnyH_take (i := 3) (oi := { dst := some 54, op := Op.move (Operand.tmp 53), type := 4, pos := _, after := #[{ on := 2, ground := Ground.data }, { on := 1, ground := Ground.chain }], guard := none }) (v := ?_) rfl (by kernel_rfl) (by kernel_rfl) (by kernel_rfl) (fun _ _ _ h => h) (Or.inl ⟨by rfl, ?_⟩) (by assumption) ?_
          rotate_left
          · (intro w hSw; (try dsimp only at hSw); go_simp; try with_reducible rfl)
          simp only [Act.put, List.setIfInBounds_toArray, List.set_cons_zero, List.set_cons_succ]
          refine wpAnyH_take (i := 4) (oi := { dst := some 55, op := Op.load 50 (Operand.tmp 6), type := 50, pos := _, after := #[{ on := 3, ground := Ground.guard }], guard := some (3, false) }) (v := _) rfl (by kernel_rfl) (by kernel_rfl) (by kernel_rfl) (fun _ _ _ h => h) (yieldsIf_load_mid (by rfl) _ _ rfl q 0 rfl _ _ (fun _ h => h.2) Tryz.underlying50 rfl tk_info) (by assumption) ?_
          simp only [Act.put, List.setIfInBounds_toArray, List.set_cons_zero, List.set_cons_succ]
          refine wpAnyH_take (i := 5) (oi := { dst := some 56, op := Op.move (Operand.tmp 5), type := 3, pos := _, after := #[{ on := 3, ground := Ground.guard }], guard := some (3, false) }) (v := ?_) rfl (by kernel_rfl) (by kernel_rfl) (by kernel_rfl) (fun _ _ _ h => h) (Or.inl ⟨by rfl, ?_⟩) (by assumption) ?_
          rotate_left
          · (intro w hSw; (try dsimp only at hSw); go_simp; try with_reducible rfl)
          simp only [Act.put, List.setIfInBounds_toArray, List.set_cons_zero, List.set_cons_succ]
          refine wpAnyH_take (i := 6) (oi := { dst := some 57, op := Op.binOp BinOp.mul 3 (Operand.const (Value.int IntKind.i64 4)) (Operand.tmp 56) 3, type := 3, pos := _, after := #[{ on := 5, ground := Ground.data }, { on := 3, ground := Ground.guard }], guard := some (3, false) }) (v := .int .i64 (4 * (n : Int))) rfl (by kernel_rfl) (by kernel_rfl) (by kernel_rfl) (fun _ _ _ h => h) (Or.inl ⟨by rfl, fun w hSw => ex_mul _ _ 56 rfl n (by omega) rfl rfl w⟩) (by assumption) ?_
          simp only [Act.put, List.setIfInBounds_toArray, List.set_cons_zero, List.set_cons_succ]
          refine wpAnyH_take (i := 7) (oi := { dst := some 58, op := Op.convert 3 22 (Operand.tmp 57), type := 22, pos := _, after := #[{ on := 6, ground := Ground.data }, { on := 3, ground := Ground.guard }], guard := some (3, false) }) (v := .int .u32 (4 * (n : Int))) rfl (by kernel_rfl) (by kernel_rfl) (by kernel_rfl) (fun _ _ _ h => h) (Or.inl ⟨by rfl, fun w hSw => ex_conv _ _ 57 rfl n (by omega) rfl w⟩) (by assumption) ?_
          simp only [Act.put, List.setIfInBounds_toArray, List.set_cons_zero, List.set_cons_succ]
          refine wpAnyH_take (i := 8) (oi := { dst := some 59, op := Op.move (Operand.tmp 2), type := 71, pos := _, after := #[{ on := 3, ground := Ground.guard }], guard := some (3, false) }) (v := ?_) rfl (by kernel_rfl) (by kernel_rfl) (by kernel_rfl) (fun _ _ _ h => h) (Or.inl ⟨by rfl, ?_⟩) (by assumption) ?_
          rotate_left
          · (intro w hSw; (try dsimp only at hSw); go_simp; try with_reducible rfl)
          simp only [Act.put, List.setIfInBounds_toArray, List.set_cons_zero, List.set_cons_succ]
          refine wpAnyH_take (i := 9) (oi := { dst := some 60, op := Op.move (Operand.tmp 5), type := 3, pos := _, after := #[{ on := 3, ground := Ground.guard }], guard := some (3, false) }) (v := ?_) rfl (by kernel_rfl) (by kernel_rfl) (by kernel_rfl) (fun _ _ _ h => h) (Or.inl ⟨by rfl, ?_⟩) (by assumption) ?_
          rotate_left
          · (intro w hSw; (try dsimp only at hSw); go_simp; try with_reducible rfl)
          simp only [Act.put, List.setIfInBounds_toArray, List.set_cons_zero, List.set_cons_succ]
          refine wpAnyH_take (i := 10) (oi := { dst := some 61, op := Op.indexAddr 71 (Operand.tmp 59) (Operand.tmp 60), type := 0, pos := _, after := #[{ on := 8, ground := Ground.data }, { on := 9, ground := Ground.data }, { on := 3, ground := Ground.guard }], guard := some (3, false) }) (v := ?_) rfl (by kernel_rfl) (by kernel_rfl) (by kernel_rfl) (fun _ _ _ h => h) (Or.inl ⟨by rfl, ?_⟩) (by assumption) ?_
          rotate_left
          · (intro w hSw; (try dsimp only at hSw); go_simp; try with_reducible rfl)
          simp only [Act.put, List.setIfInBounds_toArray, List.set_cons_zero, List.set_cons_succ]
          refine wpAnyH_take (i := 11) (oi := { dst := some 62, op := Op.load 22 (Operand.tmp 61), type := 22, pos := _, after := #[{ on := 10, ground := Ground.data }, { on := 3, ground := Ground.guard }], guard := some (3, false) }) (v := ?_) rfl (by kernel_rfl) (by kernel_rfl) (by kernel_rfl) (fun _ _ _ h => h) (Or.inl ⟨by rfl, ?_⟩) (by assumption) ?_
          rotate_left
          · (intro w hSw; (try dsimp only at hSw); go_simp; try with_reducible rfl)
          simp only [Act.put, List.setIfInBounds_toArray, List.set_cons_zero, List.set_cons_succ]
          refine wpAnyH_take (i := 12) (oi := { dst := some 63, op := Op.build 50 #[(1, Operand.tmp 58), (2, Operand.tmp 62)], type := 50, pos := _, after := #[{ on := 7, ground := Ground.data }, { on := 11, ground := Ground.data }, { on := 3, ground := Ground.guard }], guard := some (3, false) }) (v := ?_) rfl (by kernel_rfl) (by kernel_rfl) (by kernel_rfl) (fun _ _ _ h => h) (Or.inl ⟨by rfl, ?_⟩) (by assumption) ?_
          rotate_left
          · (intro w hSw; (try dsimp only at hSw); go_simp; try with_reducible rfl)
          simp only [Act.put, List.setIfInBounds_toArray, List.set_cons_zero, List.set_cons_succ]
          refine wpAnyH_take (i := 13) (oi := { dst := some 64, op := Op.binOp BinOp.neq 50 (Operand.tmp 55) (Operand.tmp 63) 50, type := 4, pos := _, after := #[{ on := 4, ground := Ground.data }, { on := 12, ground := Ground.data }, { on := 3, ground := Ground.guard }], guard := some (3, false) }) (v := .bool false) rfl (by kernel_rfl) (by kernel_rfl) (by kernel_rfl) (fun _ _ _ h => h) (Or.inl ⟨by rfl, fun w hSw => ex_neqT _ _ 55 63 rfl 0 (4 * (n : Int)) pw rfl rfl w⟩) (by assumption) ?_
          simp only [Act.put, List.setIfInBounds_toArray, List.set_cons_zero, List.set_cons_succ]
          refine wpAnyH_take (i := 14) (oi := { dst := some 65, op := Op.pick (Operand.tmp 54) (Operand.const (Value.bool true)) (Operand.tmp 64), type := 4, pos := _, after := #[{ on := 3, ground := Ground.data }, { on := 13, ground := Ground.data }], guard := none }) (v := ?_) rfl (by kernel_rfl) (by kernel_rfl) (by kernel_rfl) (fun _ _ _ h => h) (Or.inl ⟨by rfl, ?_⟩) (by assumption) ?_
          rotate_left
          · (intro w hSw; (try dsimp only at hSw); go_simp; try with_reducible rfl)
          simp only [Act.put, List.setIfInBounds_toArray, List.set_cons_zero, List.set_cons_succ]
          refine wpAnyH_done (by kernel_rfl) ?_ _
          go_wp2
          go_roundw
          case rel => exact ⟨n + 1, by omega, by go_num, HX.out⟩
          case measure => simp [intOf]; omega
        · obtain rfl : n = 4 := by omega
          have HS : Hid (Calls Tryz.prog 16 #[.pointer (some ⟨W.heap.size, 0, none⟩), .iface 42 (.pointer (some ⟨lb, 0, none⟩))] wr fun e w' => e = .returned (.tuple #[.agg #[.int .i64 2, .int .u32 16, .int .u32 4009754631, .int .u32 0, .int .i64 0, .int .i64 0, .int .i64 0, .bool false], .int .i64 0]) ∧ RN W w' W.heap.size lb lb sb (lvW.map (fun p => W32 p.2)) pv nilS lv5 lr5) := lstep4 W wr _ _ _ _ _ _ _ HX.out hte.out hlo (Nat.le_refl _)
          have HSt : Hid (∀ v, RN W v W.heap.size lb lb sb (lvW.map (fun p => W32 p.2)) pv nilS lv5 lr5 → Calls Tryz.prog 11 #[.pointer (some ⟨W.heap.size, 0, none⟩)] v fun e w' => e = .returned (.agg (RL lr5).toArray) ∧ Below v.heap.size v w') := fun v h => gState v _ _ _ h.cpu
          have HBk : Hid (∀ v, RN W v W.heap.size lb lb sb (lvW.map (fun p => W32 p.2)) pv nilS lv5 lr5 → Calls Tryz.prog 18 #[.pointer (some ⟨W.heap.size, 0, none⟩), .int .u32 0] v fun e w' => e = .returned (.int .i64 0) ∧ RB w' W.heap.size 86 lr6 [.bool false] ∧ Below W.heap.size W w') := fun v h => lback W v _ _ _ _ _ _ _ h (Nat.le_refl _)
          have heq := eqT 2 16 4009754631
          clear HX hte hlo h01 h02 h1 h hsz hW0
          go_wp2_with (first | (go_at_call 16; refine HS.out.mono ?_; rintro e w3 ⟨rfl, hx⟩; have HX := hidW hx; clear hx HS) | (go_at_call 11; refine (HSt.out _ (HX.out.step (below_new _ _))).mono ?_; rintro e w4 ⟨rfl, hb⟩; have HX := hidW ((HX.out.step (below_new _ _)).step hb); have HQ := hidW ((Bl.new w3 50 [.int .i64 2, .int .u32 16, .int .u32 4009754631, .int .u32 0, .int .i64 0, .int .i64 0, .int .i64 0, .bool false]).below hb); clear hb HSt) | (guard_target =~ wpList _ _ _ (Oper.mk none (Op.store 26 _ _) _ _ _ _ :: _) _ _; refine wpList_store_mid rfl _ _ _ rfl w4.heap.size 0 (RL lr5).toArray rfl rfl ?hth ?hinf (RL_one lr5) ?_; (case hth => exact there_new w4 26 _ _ rfl); (case hinf => exact state_info); have HF := hidW (fill_new w4 26 (RL nwZ).toArray (RL lr5) rfl); generalize hW : World.setCells _ _ _ _ = w6; have e6 : (w4.alloc (.cells (RL nwZ).toArray 26)).setCells w4.heap.size 0 (RL lr5) = w6 := hW; rw [e6] at HF; have HX := hidW (HX.out.step HF.out.1); obtain ⟨q0, q1, q2, q3, q4, q5, q6, q7⟩ := bl8 (HQ.out.below HF.out.1); have s0 : w6.cell? ⟨w4.heap.size, 0, none⟩ = some (.int .u32 0) := HF.out.2.cell 0; have s1 : w6.cell? ⟨w4.heap.size, 1, none⟩ = some (.int .u32 1) := HF.out.2.cell 1; have s2 : w6.cell? ⟨w4.heap.size, 2, none⟩ = some (.int .u32 287454020) := HF.out.2.cell 2; have s19 : w6.cell? ⟨w4.heap.size, 19, none⟩ = some (.int .u32 20) := HF.out.2.cell 19; have s24 : w6.cell? ⟨w4.heap.size, 24, none⟩ = some (.int .u32 1610612883) := HF.out.2.cell 24; have s28 : w6.cell? ⟨w4.heap.size, 28, none⟩ = some (.int .u32 8) := HF.out.2.cell 28; clear HF HQ e6 hW) | (go_at_call 18; refine (HBk.out _ HX.out).mono ?_; rintro e w7 ⟨rfl, hc, hb⟩; have HC7 := hidW hc; have HB7 := hidW hb; clear hc hb q0 q1 q2 q3 q4 q5 q6 q7 s0 s1 s2 s19 s24 s28) | (go_at_call 27; refine (lreg _ _ HC7.out).mono ?_; rintro e w8 ⟨rfl, hb⟩; have HB8 := hidW (Below.step HB7.out hb); clear hb) | (go_at_call 17; refine (gno 0 _).mono ?_; rintro e w5 ⟨rfl, hwe⟩; have hwe := hwe.symm; subst hwe))
          exact bodyPost_ret (v := .bool true) (by simp [results, Tryz.results10, go_sem]) rfl ⟨rfl, HB8.out⟩
end Go.Proofs.YtilhceajhlaojaaGreatDoor
namespace Go.Proofs.YtilhceajhlaojaaGreatDoor
open Go.RowKit
set_option linter.unusedVariables false
set_option linter.unusedSimpArgs false
set_option maxRecDepth 100000 in
theorem infoHole : (Tryz.prog.info? 192).map (fun i => (i.zero, i.size, i.bytes)) = some (some (.agg #[.int .u32 0, .int .u32 0, .int .i64 0, .int .i64 0, .bool false]), 5, 32) := by kernel_rfl
theorem own_none (w : World) (lo : Nat) (e : TypeId) (size : Nat) : w.ownsRow lo e size (.slice none 0 0) 0 [] := ⟨by simp, .inl ⟨rfl, rfl⟩⟩
/-- A list laid anew. -/
theorem newPuts (w : World) (lo : Nat) (x : Value) (L : List (Int × Int)) (hx : Src Tryz.prog 2 46 x L.length (L.flatMap ptL) w) (hlo : lo ≤ w.heap.size) (hk : L.length ≤ 400000000000) :
    ∃ v' w', (∀ ty, (Builtin.append_ #[46, 46] ty #[.slice none 0 0, x]).run Tryz.prog w = .ok v' w') ∧ w'.ownsRow lo 45 2 v' L.length (L.flatMap ptL) ∧ Turn (fun _ => False) w w' ∧ (∀ g, v'.ownBlock = some g → w.heap.size ≤ g) ∧ ∃ a n c, v' = .slice a n c := by
  obtain ⟨i0, hi, hz0, hz1, hz2⟩ := info_parts infoPut
  have hm : maxLen = 9223372036854775807 := rfl
  obtain ⟨v', w', hr, ho', hg, hb⟩ := Mm.append_any (P := Tryz.prog) w 46 45 i0 _ Tryz.underlying46 hi hz0 (by rw [hz1]; rfl) lo 0 L.length (.slice none 0 0) x [] (L.flatMap ptL) (by rw [hz1]; exact own_none w lo 45 2) (by rw [hz1]; exact hx) hlo (by omega) (by rw [hz2]; omega)
  rw [hz1] at ho'
  rw [Nat.zero_add, List.nil_append] at ho'
  refine ⟨v', w', hr, ho', ?_, fun g hg => (hb g hg).resolve_left (fun e => by cases e), (by obtain ⟨a, c, e⟩ := own_slice ho'; exact ⟨a, _, c, e⟩)⟩
  have := turn_grown hg
  exact ⟨this.os, this.tape, this.output, this.size, fun k hk _ => this.block k hk (fun e => by cases e)⟩
theorem newHoles (w : World) (lo : Nat) (x : Value) (L : List Ho) (hx : Src Tryz.prog 5 55 x L.length (L.flatMap hoL) w) (hlo : lo ≤ w.heap.size) (hk : L.length ≤ 400000000000) :
    ∃ v' w', (∀ ty, (Builtin.append_ #[55, 55] ty #[.slice none 0 0, x]).run Tryz.prog w = .ok v' w') ∧ w'.ownsRow lo 192 5 v' L.length (L.flatMap hoL) ∧ Turn (fun _ => False) w w' ∧ (∀ g, v'.ownBlock = some g → w.heap.size ≤ g) ∧ ∃ a n c, v' = .slice a n c := by
  obtain ⟨i0, hi, hz0, hz1, hz2⟩ := info_parts infoHole
  have hm : maxLen = 9223372036854775807 := rfl
  obtain ⟨v', w', hr, ho', hg, hb⟩ := Mm.append_any (P := Tryz.prog) w 55 192 i0 _ Tryz.underlying55 hi hz0 (by rw [hz1]; rfl) lo 0 L.length (.slice none 0 0) x [] (L.flatMap hoL) (by rw [hz1]; exact own_none w lo 192 5) (by rw [hz1]; exact hx) hlo (by omega) (by rw [hz2]; omega)
  rw [hz1] at ho'
  rw [Nat.zero_add, List.nil_append] at ho'
  refine ⟨v', w', hr, ho', ?_, fun g hg => (hb g hg).resolve_left (fun e => by cases e), (by obtain ⟨a, c, e⟩ := own_slice ho'; exact ⟨a, _, c, e⟩)⟩
  have := turn_grown hg
  exact ⟨this.os, this.tape, this.output, this.size, fun k hk _ => this.block k hk (fun e => by cases e)⟩
theorem below_of_turn {a b : World} {B : Nat} (h : Turn (fun _ => False) a b) (hB : B ≤ a.heap.size) : Below B a b := h.to (fun x hx => hx.elim) hB
set_option maxRecDepth 100000 in
set_option maxHeartbeats 1000000 in
theorem gNewLine (w : World) (x y : Value) (L : List (Int × Int)) (M : List Ho) (hx : ∀ v, Below w.heap.size w v → Src Tryz.prog 2 46 x L.length (L.flatMap ptL) v) (hy : ∀ v, Below w.heap.size w v → Src Tryz.prog 5 55 y M.length (M.flatMap hoL) v) (hL : L.length ≤ 400000000000) (hM : M.length ≤ 400000000000) :
    Calls Tryz.prog 15 #[x, y] w fun e w' => e = .returned (.pointer (some ⟨w.heap.size, 0, none⟩)) ∧ Below w.heap.size w w' ∧ ∃ pv hv, LX w' w.heap.size w.heap.size pv hv (.slice none 0 0) ⟨L, M, [], 0⟩ := by
  have b1 := below_new w (.cells #[.slice none 0 0, .slice none 0 0, .slice none 0 0, .int .u32 0] 58)
  have l1 := Bl.new w 58 [.slice none 0 0, .slice none 0 0, .slice none 0 0, .int .u32 0]
  obtain ⟨v1, w2, hr1, ho1, hT1, hg1, a1, n1, c1, e1⟩ := newPuts (w.alloc (.cells #[.slice none 0 0, .slice none 0 0, .slice none 0 0, .int .u32 0] 58)) w.heap.size x L (hx _ b1) b1.size hL
  have b2 := b1.trans (below_of_turn hT1 b1.size)
  have l2 := l1.turn hT1 (fun e => e)
  have b3 := b2.setCell (p := ⟨w.heap.size, 0, none⟩) (Nat.le_refl _) v1
  have l3 := l2.set 0 v1
  have hs2 : w.heap.size < w2.heap.size := l2.lt
  have hs1 : (w.alloc (.cells #[.slice none 0 0, .slice none 0 0, .slice none 0 0, .int .u32 0] 58)).heap.size = w.heap.size + 1 := World.size_alloc _ _
  obtain ⟨v2, w4, hr2, ho2, hT2, hg2, a2, n2, c2, e2⟩ := newHoles (w2.setCell ⟨w.heap.size, 0, none⟩ v1) w.heap.size y M (hy _ b3) b3.size hM
  have b4 := b3.trans (below_of_turn hT2 b3.size)
  have l4 := l3.turn hT2 (fun e => e)
  have b5 := b4.setCell (p := ⟨w.heap.size, 1, none⟩) (Nat.le_refl _) v2
  have l5 := l4.set 1 v2
  have hsz3 : (w2.setCell ⟨w.heap.size, 0, none⟩ v1).heap.size = w2.heap.size := World.size_setCell _ _ _
  have q1 : v1.ownBlock ≠ some w.heap.size := fun e => by have := hg1 _ e; omega
  have q2 : v2.ownBlock ≠ some w.heap.size := fun e => by have := hg2 _ e; omega
  have T3 : TA w.heap.size w2 (w2.setCell ⟨w.heap.size, 0, none⟩ v1) := TA.set (Turn.refl _ _) 0 v1
  have T5 : TA w.heap.size w4 (w4.setCell ⟨w.heap.size, 1, none⟩ v2) := TA.set (Turn.refl _ _) 1 v2
  have HF : Hid (Below w.heap.size w (w4.setCell ⟨w.heap.size, 1, none⟩ v2) ∧ ∃ pv hv, LX (w4.setCell ⟨w.heap.size, 1, none⟩ v2) w.heap.size w.heap.size pv hv (.slice none 0 0) ⟨L, M, [], 0⟩) := by
    refine hidW ⟨b5, v1, v2, l5, own_turn (own_turn (own_turn ho1 T3 (fun g hg e => q1 ((show g = w.heap.size from e) ▸ hg))) hT2 (fun g hg e => e)) T5 (fun g hg e => q1 ((show g = w.heap.size from e) ▸ hg)), own_turn ho2 T5 (fun g hg e => q2 ((show g = w.heap.size from e) ▸ hg)), own_none _ _ _ _, Nat.le_refl _, q1, q2, (fun e => by cases e), fun g hg e => ?_, (fun g hg e => by cases e), (fun g hg e => by cases e)⟩
    have h1 := (Mm.own_block_new ho1 hg).2
    have h2 := hg2 _ e
    omega
  have d0 : w2.cell? ⟨w.heap.size, 0, none⟩ = some (.slice none 0 0) := l2.cell 0
  have f0 := l2.frozen 0
  have d1 : w4.cell? ⟨w.heap.size, 1, none⟩ = some (.slice none 0 0) := l4.cell 1
  have d1' : w2.cell? ⟨w.heap.size, 1, none⟩ = some (.slice none 0 0) := l2.cell 1
  have f1 := l4.frozen 1
  subst e1 e2
  clear b1 l1 b2 l2 b3 l3 b4 l4 b5 l5 hx hy ho1 ho2 hT1 hT2 T3 T5 hg1 hg2
  go_enter Tryz.func15, Tryz.ntmps15
  go_wp2_with (first | (at_builtin; refine Lib.wpList_append_run _ rfl _ _ 46 46 rfl _ _ rfl rfl _ _ (hr1 _) ?_) | (at_builtin; refine Lib.wpList_append_run _ rfl _ _ 55 55 rfl _ _ rfl rfl _ _ (hr2 _) ?_))
  exact bodyPost_ret (v := .pointer (some ⟨w.heap.size, 0, none⟩)) (by simp [results, Tryz.results15, go_sem]) rfl ⟨rfl, HF.out⟩
end Go.Proofs.YtilhceajhlaojaaGreatDoor
