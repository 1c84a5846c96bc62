import Derived.Test.YtdinmhjdnnhhjaaDoorRa
import Derived.Test.YtdinmhjdnnhhjaaDoorPc
namespace Go.Proofs.YtdinmhjdnnhhjaaDoor
open Go.RowKit
set_option linter.unusedVariables false
set_option linter.unusedSimpArgs false
set_option maxRecDepth 100000 in
set_option maxHeartbeats 4000000 in
theorem rtuple_any (r : Nat) (w : World) (hr : r < 13) : Calls Tryd.prog 39 #[.int .i64 (r : Int)] w fun e w' => e = .returned (.agg #[.int .i64 ((rg r).t).a, .int .i64 ((rg r).t).b, .int .i64 ((rg r).t).c, .int .i64 ((rg r).t).d]) ∧ Below w.heap.size w w' := by
  have hs := tupW_slice w r hr
  have hrow := tupW_row w r hr
  have hres := tupW_res w
  have hbel := tupW_below w
  have hi : (r : Int) < 13 := by omega
  unfold tupW at hs hrow hres hbel
  have HS : Hid _ := hs
  have HRow : Hid (Bl _ _ 3 ([.int .i64 ((rg r).t).a, .int .i64 ((rg r).t).b, .int .i64 ((rg r).t).c, .int .i64 ((rg r).t).d])) := hrow
  have HRes : Hid (Bl _ w.heap.size 27 [.int .i64 0, .int .i64 0, .int .i64 0, .int .i64 0]) := hres
  have HBel : Hid (Below w.heap.size w _) := hbel
  clear hs hrow hres hbel
  go_enter Tryd.func39, Tryd.ntmps39
  go_wp2
  rw [slice_at w.heap.size r hr]
  generalize World.alloc _ (Obj.cells _ 93) = V at *
  have c0 := HRow.out.cell
  have l0 := HRow.out.lt
  have r0 := HRes.out.cell
  have r1 := HRes.out.frozen
  have r2 := HRes.out.lt
  have hne : ¬ w.heap.size + (r + 1) = w.heap.size := by omega
  have hne2 : ¬ w.heap.size = w.heap.size + (r + 1) := by omega
  clear HS HRow
  generalize w.heap.size + (r + 1) = g at *
  generalize hT : (rg r).t = T at *
  have HT : Hid ((rg r).t = T) := hT
  clear hT
  go_region
  go_wp2
  refine bodyPost_ret (v := .agg #[.int .i64 T.a, .int .i64 T.b, .int .i64 T.c, .int .i64 T.d]) (by simp [results, Tryd.results39, go_sem, r0, r1, r2]) rfl ⟨by rw [HT.out], ?_⟩
  with_reducible refine below_drew ?_
  (repeat (with_reducible refine Below.setCell ?_ (by simp) _)); with_reducible exact HBel.out
set_option maxRecDepth 100000 in
set_option maxHeartbeats 4000000 in
theorem rregister_any (t : Tu) (w : World) :
    Calls Tryd.prog 33 #[.agg #[.int .i64 t.a, .int .i64 t.b, .int .i64 t.c, .int .i64 t.d]] w fun e w' => e = .returned (.tuple #[.int .i64 ((regOf t).getD 0 : Nat), .bool (regOf t).isSome]) ∧ Below w.heap.size w w' := by
  have HX0 : Hid (CX w (w.alloc (.cells ([.int .i64 t.a, .int .i64 t.b, .int .i64 t.c, .int .i64 t.d]).toArray 27)) t) := CX.new w t
  have HTu : Hid (∀ (r : Nat) (w : World), r < 13 → Calls Tryd.prog 39 #[.int .i64 (r : Int)] w fun e w' => e = .returned (.agg #[.int .i64 ((rg r).t).a, .int .i64 ((rg r).t).b, .int .i64 ((rg r).t).c, .int .i64 ((rg r).t).d]) ∧ Below w.heap.size w w') := fun r w h => rtuple_any r w h
  go_enter Tryd.func33, Tryd.ntmps33
  go_wp2
  go_loopw [4] (fun i wr => ∃ (k : Nat), k ≤ 13 ∧ i = .int .i64 k ∧ regOf t = nR (lRg.drop k) k t ∧ CX w wr t) (fun i _ => 13 - (intOf i).toNat)
  case atStart => exact ⟨0, by omega, rfl, rfl, HX0.out⟩
  case round =>
    obtain ⟨k, hk, rfl, hS, hX⟩ := hrel
    have HS : Hid (regOf t = nR (lRg.drop k) k t) := hS
    have HX : Hid (CX w wr t) := hX
    clear hS hX HX0
    by_cases h : k < 13
    · have hi : (k : Int) < 13 := by omega
      have HQ : Hid _ := HS.out.trans (nR_at k h t)
      have hw : IntKind.i64.wrap ((k : Int) + 1) = ((k + 1 : Nat) : Int) := by rw [IntKind.wrap_i64]; omega
      have he := eqT (rg k).t t
      have htu := HTu.out k wr.drew h
      have HZ : Hid (∀ w' : World, Bl w' w.heap.size 27 ([.int .i64 t.a, .int .i64 t.b, .int .i64 t.c, .int .i64 t.d]) → w'.cell? ⟨w.heap.size, 0, none⟩ = some (.int .i64 t.a) ∧ w'.cell? ⟨w.heap.size, 1, none⟩ = some (.int .i64 t.b) ∧ w'.cell? ⟨w.heap.size, 2, none⟩ = some (.int .i64 t.c) ∧ w'.cell? ⟨w.heap.size, 3, none⟩ = some (.int .i64 t.d)) := fun w' h => ⟨by rw [h.cell]; rfl, by rw [h.cell]; rfl, by rw [h.cell]; rfl, by rw [h.cell]; rfl⟩
      clear HS hk HTu
      generalize hT : (rg k).t = T at *
      clear hT
      cases hs : T.same t
      all_goals
        rw [hs] at he
        go_wp2
        refine wp_region_held_drew (S := fun w' => w'.cell? ⟨w.heap.size, 0, none⟩ = some (.int .i64 t.a) ∧ w'.cell? ⟨w.heap.size, 1, none⟩ = some (.int .i64 t.b) ∧ w'.cell? ⟨w.heap.size, 2, none⟩ = some (.int .i64 t.c) ∧ w'.cell? ⟨w.heap.size, 3, none⟩ = some (.int .i64 t.d)) (by kernel_rfl) (HZ.out _ HX.out.res.drew) (fun hHeld => ?_)
        refine wpAnyH_take (i := 0) (oi := { dst := some 9, op := Op.move (Operand.tmp 4), type := 3, pos := _, after := #[], guard := none }) (v := ?_) rfl (by kernel_rfl) (by kernel_rfl) (by kernel_rfl) (fun _ _ _ h => h) (Or.inl ⟨by rfl, ?_⟩) (by assumption) ?_
        rotate_left
        · (intro w hSw; (try dsimp only at hSw); go_simp; try with_reducible rfl)
        simp only [Act.put, List.setIfInBounds_toArray, List.set_cons_zero, List.set_cons_succ]
        refine wpAnyH_take (i := 2) (oi := { dst := some 11, op := Op.load 27 (Operand.tmp 1), type := 27, pos := _, after := #[], guard := none }) (v := ?_) rfl (by kernel_rfl) (by kernel_rfl) (by kernel_rfl) (fun _ _ _ h => h) (Or.inl ⟨by rfl, ?_⟩) (by assumption) ?_
        rotate_left
        · (intro w hSw; (try dsimp only at hSw); go_simp; try with_reducible rfl)
        simp only [Act.put, List.setIfInBounds_toArray, List.set_cons_zero, List.set_cons_succ]
        refine wpAnyH_ready (rs := [1]) (by kernel_rfl) (by simp) ?_
        refine AllReadyH.cons (o := { dst := some 10, op := Op.call { callee := Callee.value (Operand.func 39), args := #[Operand.tmp 9], argTypes := #[3] }, type := 27, pos := _, after := #[{ on := 0, ground := Ground.data }], guard := none }) rfl (fun K hK => ?_) AllReadyH.nil
        go_simp
        (go_at_call 39; refine htu.mono ?_; rintro e w2 ⟨rfl, hb⟩; have HX2 : Hid (CX w w2 t) := ⟨Below.step (below_drew HX.out.bel) hb, HX.out.res.drew.below hb⟩; clear hb; go_wp2_with fail)
        refine hK.out _ _ ?_ (fun hHeld => ?_)
        · ((try dsimp only); exact HZ.out _ HX2.out.res)
        clear hK K
        try simp only [Act.put, List.setIfInBounds_toArray, List.set_cons_zero, List.set_cons_succ]
        refine wpAnyH_take (i := 3) (oi := { dst := some 12, op := Op.binOp BinOp.eql 27 (Operand.tmp 10) (Operand.tmp 11) 27, type := 4, pos := _, after := #[{ on := 1, ground := Ground.data }, { on := 2, ground := Ground.data }], guard := none }) (v := ?_) rfl (by kernel_rfl) (by kernel_rfl) (by kernel_rfl) (fun _ _ _ h => h) (Or.inl ⟨by rfl, ?_⟩) (by assumption) ?_
        rotate_left
        · (intro w hSw; (try dsimp only at hSw); go_simp; try with_reducible rfl)
        simp only [Act.put, List.setIfInBounds_toArray, List.set_cons_zero, List.set_cons_succ]
        refine wpAnyH_done (by kernel_rfl) ?_ _
        go_wp2
      · have HV : Hid (regOf t = nR (lRg.drop (k + 1)) (k + 1) t) := by have := HQ.out; rwa [hs] at this
        go_roundw
        case rel => exact ⟨k + 1, by omega, rfl, HV.out, HX2.out⟩
        case measure => simp [intOf]; omega
      · have HV : Hid (regOf t = some k) := by have := HQ.out; rwa [hs] at this
        go_ret2
        exact ⟨by rw [HV.out]; rfl, HX2.out.bel⟩
    · obtain rfl : k = 13 := by omega
      have HV : Hid (regOf t = none) := HS.out
      clear HS h hk
      go_wp2
      go_ret2
      exact ⟨by rw [HV.out]; rfl, HX.out.bel⟩
end Go.Proofs.YtdinmhjdnnhhjaaDoor
