import Derived.Test.YtfdjfhhjfgdbaaaGreatDoorMn
import Derived.Test.YtfdjfhhjfgdbaaaGreatDoorLd
namespace Go.Proofs.YtfdjfhhjfgdbaaaGreatDoor
open Go.RowKit
set_option linter.unusedVariables false
set_option linter.unusedSimpArgs false
attribute [local go_sem] Oper.semAt_some
section
variable {W w w' : World} {P : Pl} {n : Int} {X : Hi}
theorem gplaces_any (h : MS W P n X) (k : Int) : Calls Tryz.prog 17 #[.pointer (some ⟨P.m, 0, none⟩), .int .i64 k] W fun e w' => ∃ a, e = .returned (.slice a (plH X k).length (plH X k).length) ∧ Sv w' a (plH X k) ∧ Below W.heap.size W w' := by
  have H := hidW (hplaces_any W P.A X k h.hi)
  have c := h.m2
  clear h
  generalize plH X k = L at *
  go_enter Tryz.func17, Tryz.ntmps17
  go_wp2_with (go_at_call 44; refine H.out.mono ?_; rintro e w1 ⟨a, rfl, g1, g2⟩; have HG := hidW (And.intro g1 g2); clear g1 g2)
  go_ret
  exact ⟨_, rfl, HG.out.1, HG.out.2⟩
set_option maxHeartbeats 1000000 in
theorem gjudge_any (h : MS W P n X) (a : Int) (h1 : -9223372036854775808 ≤ a) (h2 : a ≤ 9223372036854775807) : Calls Tryz.prog 19 #[.pointer (some ⟨P.m, 0, none⟩), .int .i64 a] W fun e w' => e = .returned (.tuple #[zCv, .bool false]) ∧ Below W.heap.size W w' := by
  have hb := below_new W (.cells zC.toArray 63)
  have HB0 : Hid (Bl (W.alloc (.cells zC.toArray 63)) W.heap.size 63 zC) := Bl.new _ _ _
  have H := hidW (kjudge_any (W.alloc (.cells zC.toArray 63)) P.pk P.kb P.jb (h.below hb).tk a h1 h2)
  have c := (h.below hb).m3
  have HB := hidW hb
  clear h hb
  simp only [zC] at H c HB HB0
  go_enter Tryz.func19, Tryz.ntmps19
  go_wp2_with fail
  go_at_call 45
  refine H.out.mono ?_
  rintro e w1 ⟨rfl, g1⟩
  have hB := HB0.out.below g1
  have r0 := hB.cell
  have r1 := hB.frozen
  have r2 := hB.lt
  have HB1 := hidW (Below.step HB.out g1)
  clear H HB HB0 g1 c
  go_wp2
  refine bodyPost_ret (by simp [results, Tryz.results19, go_sem, r0, r1, r2]) rfl ⟨rfl, ?_⟩
  (repeat (with_reducible refine Below.setCell ?_ (by simp) _))
  exact HB1.out
set_option maxRecDepth 100000 in
set_option maxHeartbeats 4000000 in
theorem gstale_any (h : MS W P n X) (a : Int) (h1 : -9223372036854775808 ≤ a) (h2 : a ≤ 9223372036854775807) : Calls Tryz.prog 22 #[.pointer (some ⟨P.m, 0, none⟩), .int .i64 a, .int .u32 0] W fun e w' => e = .returned (.bool false) ∧ Below W.heap.size W w' := by
  have hd := below_drew (Below.refl W.heap.size W)
  have HC : Hid (∀ ww, Below W.heap.size W ww → ww.cell? ⟨P.m, 3, none⟩ = some (.pointer (some ⟨P.pk, 0, none⟩)) ∧ ww.cell? ⟨P.m, 0, none⟩ = some (.pointer (some ⟨P.pr, 0, none⟩))) := fun ww hb => ⟨(h.below hb).m3, (h.below hb).m0⟩
  have HJ := hidW (HC.out _ hd)
  have H := hidW (kstale_any W.drew P.pk P.kb P.jb (h.below hd).tk (.iface 86 (.pointer (some ⟨P.pr, 0, none⟩))) a 0 h1 h2)
  clear h
  go_enter Tryz.func22, Tryz.ntmps22
  go_wp2_with fail
  refine wp_region_held_drew (S := fun ww => ww.cell? ⟨P.m, 3, none⟩ = some (.pointer (some ⟨P.pk, 0, none⟩)) ∧ ww.cell? ⟨P.m, 0, none⟩ = some (.pointer (some ⟨P.pr, 0, none⟩))) (by kernel_rfl) ?_ (fun hHeld => ?_)
  · exact HJ.out
  refine wpAnyH_take (i := 0) (oi := { dst := some 7, op := Op.move (Operand.tmp 0), type := 24, pos := _, after := #[], guard := none }) (v := ?_) rfl (by kernel_rfl) (by kernel_rfl) (by kernel_rfl) (fun _ _ _ h => h) (Or.inl ⟨by rfl, ?_⟩) (by assumption) ?_
  rotate_left
  · (intro w hSw; (try dsimp only at hSw); go_simp; try with_reducible rfl)
  simp only [Act.put, List.setIfInBounds_toArray, List.set_cons_zero, List.set_cons_succ]
  refine wpAnyH_take (i := 1) (oi := { dst := some 8, op := Op.nilCheck (Operand.tmp 7), type := 0, pos := _, after := #[{ on := 0, ground := Ground.data }], guard := none }) (v := ?_) rfl (by kernel_rfl) (by kernel_rfl) (by kernel_rfl) (fun _ _ _ h => h) (Or.inl ⟨by rfl, ?_⟩) (by assumption) ?_
  rotate_left
  · (intro w hSw; (try dsimp only at hSw); go_simp; try with_reducible rfl)
  simp only [Act.put, List.setIfInBounds_toArray, List.set_cons_zero, List.set_cons_succ]
  refine wpAnyH_take (i := 2) (oi := { dst := some 9, op := Op.fieldAddr 97 (Operand.tmp 8) 3, type := 0, pos := _, after := #[{ on := 1, ground := Ground.data }], guard := none }) (v := ?_) rfl (by kernel_rfl) (by kernel_rfl) (by kernel_rfl) (fun _ _ _ h => h) (Or.inl ⟨by rfl, ?_⟩) (by assumption) ?_
  rotate_left
  · (intro w hSw; (try dsimp only at hSw); go_simp; try with_reducible rfl)
  simp only [Act.put, List.setIfInBounds_toArray, List.set_cons_zero, List.set_cons_succ]
  refine wpAnyH_take (i := 3) (oi := { dst := some 10, op := Op.load 94 (Operand.tmp 9), type := 94, pos := _, after := #[{ on := 2, ground := Ground.data }], guard := none }) (v := ?_) rfl (by kernel_rfl) (by kernel_rfl) (by kernel_rfl) (fun _ _ _ h => h) (Or.inl ⟨by rfl, ?_⟩) (by assumption) ?_
  rotate_left
  · (intro w hSw; (try dsimp only at hSw); go_simp; try with_reducible rfl)
  simp only [Act.put, List.setIfInBounds_toArray, List.set_cons_zero, List.set_cons_succ]
  refine wpAnyH_take (i := 4) (oi := { dst := some 11, op := Op.move (Operand.tmp 0), type := 24, pos := _, after := #[], guard := none }) (v := ?_) rfl (by kernel_rfl) (by kernel_rfl) (by kernel_rfl) (fun _ _ _ h => h) (Or.inl ⟨by rfl, ?_⟩) (by assumption) ?_
  rotate_left
  · (intro w hSw; (try dsimp only at hSw); go_simp; try with_reducible rfl)
  simp only [Act.put, List.setIfInBounds_toArray, List.set_cons_zero, List.set_cons_succ]
  refine wpAnyH_take (i := 5) (oi := { dst := some 12, op := Op.nilCheck (Operand.tmp 11), type := 0, pos := _, after := #[{ on := 4, ground := Ground.data }], guard := none }) (v := ?_) rfl (by kernel_rfl) (by kernel_rfl) (by kernel_rfl) (fun _ _ _ h => h) (Or.inl ⟨by rfl, ?_⟩) (by assumption) ?_
  rotate_left
  · (intro w hSw; (try dsimp only at hSw); go_simp; try with_reducible rfl)
  simp only [Act.put, List.setIfInBounds_toArray, List.set_cons_zero, List.set_cons_succ]
  refine wpAnyH_take (i := 6) (oi := { dst := some 13, op := Op.fieldAddr 97 (Operand.tmp 12) 0, type := 0, pos := _, after := #[{ on := 5, ground := Ground.data }], guard := none }) (v := ?_) rfl (by kernel_rfl) (by kernel_rfl) (by kernel_rfl) (fun _ _ _ h => h) (Or.inl ⟨by rfl, ?_⟩) (by assumption) ?_
  rotate_left
  · (intro w hSw; (try dsimp only at hSw); go_simp; try with_reducible rfl)
  simp only [Act.put, List.setIfInBounds_toArray, List.set_cons_zero, List.set_cons_succ]
  refine wpAnyH_take (i := 7) (oi := { dst := some 14, op := Op.load 86 (Operand.tmp 13), type := 86, pos := _, after := #[{ on := 6, ground := Ground.data }], guard := none }) (v := ?_) rfl (by kernel_rfl) (by kernel_rfl) (by kernel_rfl) (fun _ _ _ h => h) (Or.inl ⟨by rfl, ?_⟩) (by assumption) ?_
  rotate_left
  · (intro w hSw; (try dsimp only at hSw); go_simp; try with_reducible rfl)
  simp only [Act.put, List.setIfInBounds_toArray, List.set_cons_zero, List.set_cons_succ]
  refine wpAnyH_take (i := 8) (oi := { dst := some 15, op := Op.makeInterface 86 (Operand.tmp 14), type := 174, pos := _, after := #[{ on := 7, ground := Ground.data }], guard := none }) (v := ?_) rfl (by kernel_rfl) (by kernel_rfl) (by kernel_rfl) (fun _ _ _ h => h) (Or.inl ⟨by rfl, ?_⟩) (by assumption) ?_
  rotate_left
  · (intro w hSw; (try dsimp only at hSw); go_simp; try with_reducible rfl)
  simp only [Act.put, List.setIfInBounds_toArray, List.set_cons_zero, List.set_cons_succ]
  refine wpAnyH_take (i := 9) (oi := { dst := some 16, op := Op.move (Operand.tmp 1), type := 3, pos := _, after := #[], guard := none }) (v := ?_) rfl (by kernel_rfl) (by kernel_rfl) (by kernel_rfl) (fun _ _ _ h => h) (Or.inl ⟨by rfl, ?_⟩) (by assumption) ?_
  rotate_left
  · (intro w hSw; (try dsimp only at hSw); go_simp; try with_reducible rfl)
  simp only [Act.put, List.setIfInBounds_toArray, List.set_cons_zero, List.set_cons_succ]
  refine wpAnyH_take (i := 10) (oi := { dst := some 17, op := Op.move (Operand.tmp 2), type := 29, pos := _, after := #[], guard := none }) (v := ?_) rfl (by kernel_rfl) (by kernel_rfl) (by kernel_rfl) (fun _ _ _ h => h) (Or.inl ⟨by rfl, ?_⟩) (by assumption) ?_
  rotate_left
  · (intro w hSw; (try dsimp only at hSw); go_simp; try with_reducible rfl)
  simp only [Act.put, List.setIfInBounds_toArray, List.set_cons_zero, List.set_cons_succ]
  refine wpAnyH_ready (rs := [11]) (by kernel_rfl) (by simp) ?_
  refine AllReadyH.cons (o := { dst := some 18, op := Op.call { callee := Callee.value (Operand.func 48), args := #[Operand.tmp 10, Operand.tmp 15, Operand.tmp 16, Operand.tmp 17], argTypes := #[94, 174, 3, 29] }, type := 4, pos := _, after := #[{ on := 3, ground := Ground.data }, { on := 8, ground := Ground.data }, { on := 9, ground := Ground.data }, { on := 10, ground := Ground.data }], guard := none }) rfl (fun K hK => ?_) AllReadyH.nil
  go_simp
  (go_at_call 48; refine H.out.mono ?_; rintro e w1 ⟨rfl, g1⟩; have HB := hidW (Below.step hd g1); have HJ := hidW (HC.out _ HB.out); clear g1)
  refine hK.out _ _ ?_ (fun hHeld => ?_)
  · ((try dsimp only); with_reducible exact HJ.out)
  clear hK K
  try simp only [Act.put, List.setIfInBounds_toArray, List.set_cons_zero, List.set_cons_succ]
  refine wpAnyH_take (i := 12) (oi := { dst := some 6, op := Op.assign (Operand.tmp 18), type := 4, pos := _, after := #[{ on := 11, ground := Ground.data }, { on := 11, ground := Ground.chain }, { on := 0, ground := Ground.phase }, { on := 1, ground := Ground.phase }, { on := 2, ground := Ground.phase }, { on := 3, ground := Ground.phase }, { on := 4, ground := Ground.phase }, { on := 5, ground := Ground.phase }, { on := 6, ground := Ground.phase }, { on := 7, ground := Ground.phase }, { on := 8, ground := Ground.phase }, { on := 9, ground := Ground.phase }, { on := 10, ground := Ground.phase }, { on := 11, ground := Ground.phase }], guard := none }) (v := ?_) rfl (by kernel_rfl) (by kernel_rfl) (by kernel_rfl) (fun _ _ _ h => h) (Or.inl ⟨by rfl, ?_⟩) (by assumption) ?_
  rotate_left
  · (intro w hSw; (try dsimp only at hSw); go_simp; try with_reducible rfl)
  simp only [Act.put, List.setIfInBounds_toArray, List.set_cons_zero, List.set_cons_succ]
  refine wpAnyH_done (by kernel_rfl) ?_ _
  go_wp2
  go_ret
  exact ⟨rfl, HB.out⟩
set_option maxRecDepth 100000 in
set_option maxHeartbeats 4000000 in
theorem gdirty_any (h : MS W P n X)  : Calls Tryz.prog 25 #[.pointer (some ⟨P.m, 0, none⟩)] W fun e w' => e = .returned (.slice none 0 0) ∧ Below W.heap.size W w' := by
  have hd := below_drew (Below.refl W.heap.size W)
  have HC : Hid (∀ ww, Below W.heap.size W ww → ww.cell? ⟨P.m, 3, none⟩ = some (.pointer (some ⟨P.pk, 0, none⟩)) ∧ ww.cell? ⟨P.m, 0, none⟩ = some (.pointer (some ⟨P.pr, 0, none⟩))) := fun ww hb => ⟨(h.below hb).m3, (h.below hb).m0⟩
  have HJ := hidW (HC.out _ hd)
  have H := hidW (kdirty_any W.drew P.pk P.kb P.jb (h.below hd).tk (.iface 86 (.pointer (some ⟨P.pr, 0, none⟩))))
  clear h
  go_enter Tryz.func25, Tryz.ntmps25
  go_wp2_with fail
  refine wp_region_held_drew (S := fun ww => ww.cell? ⟨P.m, 3, none⟩ = some (.pointer (some ⟨P.pk, 0, none⟩)) ∧ ww.cell? ⟨P.m, 0, none⟩ = some (.pointer (some ⟨P.pr, 0, none⟩))) (by kernel_rfl) ?_ (fun hHeld => ?_)
  · exact HJ.out
  refine wpAnyH_take (i := 0) (oi := { dst := some 3, op := Op.move (Operand.tmp 0), type := 24, pos := _, after := #[], guard := none }) (v := ?_) rfl (by kernel_rfl) (by kernel_rfl) (by kernel_rfl) (fun _ _ _ h => h) (Or.inl ⟨by rfl, ?_⟩) (by assumption) ?_
  rotate_left
  · (intro w hSw; (try dsimp only at hSw); go_simp; try with_reducible rfl)
  simp only [Act.put, List.setIfInBounds_toArray, List.set_cons_zero, List.set_cons_succ]
  refine wpAnyH_take (i := 1) (oi := { dst := some 4, op := Op.nilCheck (Operand.tmp 3), type := 0, pos := _, after := #[{ on := 0, ground := Ground.data }], guard := none }) (v := ?_) rfl (by kernel_rfl) (by kernel_rfl) (by kernel_rfl) (fun _ _ _ h => h) (Or.inl ⟨by rfl, ?_⟩) (by assumption) ?_
  rotate_left
  · (intro w hSw; (try dsimp only at hSw); go_simp; try with_reducible rfl)
  simp only [Act.put, List.setIfInBounds_toArray, List.set_cons_zero, List.set_cons_succ]
  refine wpAnyH_take (i := 2) (oi := { dst := some 5, op := Op.fieldAddr 97 (Operand.tmp 4) 3, type := 0, pos := _, after := #[{ on := 1, ground := Ground.data }], guard := none }) (v := ?_) rfl (by kernel_rfl) (by kernel_rfl) (by kernel_rfl) (fun _ _ _ h => h) (Or.inl ⟨by rfl, ?_⟩) (by assumption) ?_
  rotate_left
  · (intro w hSw; (try dsimp only at hSw); go_simp; try with_reducible rfl)
  simp only [Act.put, List.setIfInBounds_toArray, List.set_cons_zero, List.set_cons_succ]
  refine wpAnyH_take (i := 3) (oi := { dst := some 6, op := Op.load 94 (Operand.tmp 5), type := 94, pos := _, after := #[{ on := 2, ground := Ground.data }], guard := none }) (v := ?_) rfl (by kernel_rfl) (by kernel_rfl) (by kernel_rfl) (fun _ _ _ h => h) (Or.inl ⟨by rfl, ?_⟩) (by assumption) ?_
  rotate_left
  · (intro w hSw; (try dsimp only at hSw); go_simp; try with_reducible rfl)
  simp only [Act.put, List.setIfInBounds_toArray, List.set_cons_zero, List.set_cons_succ]
  refine wpAnyH_take (i := 4) (oi := { dst := some 7, op := Op.move (Operand.tmp 0), type := 24, pos := _, after := #[], guard := none }) (v := ?_) rfl (by kernel_rfl) (by kernel_rfl) (by kernel_rfl) (fun _ _ _ h => h) (Or.inl ⟨by rfl, ?_⟩) (by assumption) ?_
  rotate_left
  · (intro w hSw; (try dsimp only at hSw); go_simp; try with_reducible rfl)
  simp only [Act.put, List.setIfInBounds_toArray, List.set_cons_zero, List.set_cons_succ]
  refine wpAnyH_take (i := 5) (oi := { dst := some 8, op := Op.nilCheck (Operand.tmp 7), type := 0, pos := _, after := #[{ on := 4, ground := Ground.data }], guard := none }) (v := ?_) rfl (by kernel_rfl) (by kernel_rfl) (by kernel_rfl) (fun _ _ _ h => h) (Or.inl ⟨by rfl, ?_⟩) (by assumption) ?_
  rotate_left
  · (intro w hSw; (try dsimp only at hSw); go_simp; try with_reducible rfl)
  simp only [Act.put, List.setIfInBounds_toArray, List.set_cons_zero, List.set_cons_succ]
  refine wpAnyH_take (i := 6) (oi := { dst := some 9, op := Op.fieldAddr 97 (Operand.tmp 8) 0, type := 0, pos := _, after := #[{ on := 5, ground := Ground.data }], guard := none }) (v := ?_) rfl (by kernel_rfl) (by kernel_rfl) (by kernel_rfl) (fun _ _ _ h => h) (Or.inl ⟨by rfl, ?_⟩) (by assumption) ?_
  rotate_left
  · (intro w hSw; (try dsimp only at hSw); go_simp; try with_reducible rfl)
  simp only [Act.put, List.setIfInBounds_toArray, List.set_cons_zero, List.set_cons_succ]
  refine wpAnyH_take (i := 7) (oi := { dst := some 10, op := Op.load 86 (Operand.tmp 9), type := 86, pos := _, after := #[{ on := 6, ground := Ground.data }], guard := none }) (v := ?_) rfl (by kernel_rfl) (by kernel_rfl) (by kernel_rfl) (fun _ _ _ h => h) (Or.inl ⟨by rfl, ?_⟩) (by assumption) ?_
  rotate_left
  · (intro w hSw; (try dsimp only at hSw); go_simp; try with_reducible rfl)
  simp only [Act.put, List.setIfInBounds_toArray, List.set_cons_zero, List.set_cons_succ]
  refine wpAnyH_take (i := 8) (oi := { dst := some 11, op := Op.makeInterface 86 (Operand.tmp 10), type := 174, pos := _, after := #[{ on := 7, ground := Ground.data }], guard := none }) (v := ?_) rfl (by kernel_rfl) (by kernel_rfl) (by kernel_rfl) (fun _ _ _ h => h) (Or.inl ⟨by rfl, ?_⟩) (by assumption) ?_
  rotate_left
  · (intro w hSw; (try dsimp only at hSw); go_simp; try with_reducible rfl)
  simp only [Act.put, List.setIfInBounds_toArray, List.set_cons_zero, List.set_cons_succ]
  refine wpAnyH_ready (rs := [9]) (by kernel_rfl) (by simp) ?_
  refine AllReadyH.cons (o := { dst := some 12, op := Op.call { callee := Callee.value (Operand.func 50), args := #[Operand.tmp 6, Operand.tmp 11], argTypes := #[94, 174] }, type := 72, pos := _, after := #[{ on := 3, ground := Ground.data }, { on := 8, ground := Ground.data }], guard := none }) rfl (fun K hK => ?_) AllReadyH.nil
  go_simp
  (go_at_call 50; refine H.out.mono ?_; rintro e w1 ⟨rfl, g1⟩; have HB := hidW (Below.step hd g1); have HJ := hidW (HC.out _ HB.out); clear g1)
  refine hK.out _ _ ?_ (fun hHeld => ?_)
  · ((try dsimp only); with_reducible exact HJ.out)
  clear hK K
  try simp only [Act.put, List.setIfInBounds_toArray, List.set_cons_zero, List.set_cons_succ]
  refine wpAnyH_take (i := 10) (oi := { dst := some 2, op := Op.assign (Operand.tmp 12), type := 72, pos := _, after := #[{ on := 9, ground := Ground.data }, { on := 9, ground := Ground.chain }, { on := 0, ground := Ground.phase }, { on := 1, ground := Ground.phase }, { on := 2, ground := Ground.phase }, { on := 3, ground := Ground.phase }, { on := 4, ground := Ground.phase }, { on := 5, ground := Ground.phase }, { on := 6, ground := Ground.phase }, { on := 7, ground := Ground.phase }, { on := 8, ground := Ground.phase }, { on := 9, ground := Ground.phase }], guard := none }) (v := ?_) rfl (by kernel_rfl) (by kernel_rfl) (by kernel_rfl) (fun _ _ _ h => h) (Or.inl ⟨by rfl, ?_⟩) (by assumption) ?_
  rotate_left
  · (intro w hSw; (try dsimp only at hSw); go_simp; try with_reducible rfl)
  simp only [Act.put, List.setIfInBounds_toArray, List.set_cons_zero, List.set_cons_succ]
  refine wpAnyH_done (by kernel_rfl) ?_ _
  go_wp2
  go_ret
  exact ⟨rfl, HB.out⟩
theorem gknown_any (h : MS W P n X) : Calls Tryz.prog 27 #[.pointer (some ⟨P.m, 0, none⟩)] W fun e w' => ∃ a, e = .returned (.slice a 0 0) ∧ Below W.heap.size W w' := by
  have H := hidW (kknown_any W P.pk P.kb P.jb h.tk)
  have c := h.m3
  clear h
  go_enter Tryz.func27, Tryz.ntmps27
  go_wp2_with (go_at_call 51; refine H.out.mono ?_; rintro e w1 ⟨a, rfl, g1⟩; have HG := hidW g1; clear g1)
  go_ret
  exact ⟨_, rfl, HG.out⟩
end
set_option maxRecDepth 100000 in
set_option maxHeartbeats 1000000 in
theorem dirts_nil (W : World) (a b : Option Addr) (ca cb : Nat) : Calls Tryz.prog 24 #[.slice a 0 ca, .slice b 0 cb] W fun e w' => e = .returned (.bool true) ∧ W = w' := by
  go_enter Tryz.func24, Tryz.ntmps24
  go_wp2
  go_loopw [5] (fun i wr => i = .int .i64 0 ∧ Hid (W = wr)) (fun _ _ => 0)
  case atStart => exact ⟨rfl, rfl⟩
  case round =>
    obtain ⟨rfl, HK⟩ := hrel
    have e := HK.out
    subst e
    go_wp2
    go_ret
    exact ⟨rfl, rfl⟩
set_option maxRecDepth 100000 in
set_option maxHeartbeats 1000000 in
theorem blocks_nil (W : World) (a b : Option Addr) (ca cb : Nat) : Calls Tryz.prog 26 #[.slice a 0 ca, .slice b 0 cb] W fun e w' => e = .returned (.bool true) ∧ W = w' := by
  go_enter Tryz.func26, Tryz.ntmps26
  go_wp2
  go_loopw [5] (fun i wr => i = .int .i64 0 ∧ Hid (W = wr)) (fun _ _ => 0)
  case atStart => exact ⟨rfl, rfl⟩
  case round =>
    obtain ⟨rfl, HK⟩ := hrel
    have e := HK.out
    subst e
    go_wp2
    go_ret
    exact ⟨rfl, rfl⟩
set_option maxRecDepth 100000 in
set_option maxHeartbeats 1000000 in
theorem events_nil (W : World) (a b : Option Addr) (ca cb : Nat) : Calls Tryz.prog 28 #[.slice a 0 ca, .slice b 0 cb] W fun e w' => e = .returned (.bool true) ∧ W = w' := by
  go_enter Tryz.func28, Tryz.ntmps28
  go_wp2
  go_loopw [5] (fun i wr => i = .int .i64 0 ∧ Hid (W = wr)) (fun _ _ => 0)
  case atStart => exact ⟨rfl, rfl⟩
  case round =>
    obtain ⟨rfl, HK⟩ := hrel
    have e := HK.out
    subst e
    go_wp2
    go_ret
    exact ⟨rfl, rfl⟩
set_option maxHeartbeats 1000000 in
theorem gevents_any (W : World) (P : Pl) (m : Nat) (h : Bl W m 97 (mL P)) : Calls Tryz.prog 29 #[.pointer (some ⟨m, 0, none⟩)] W fun e w' => e = .returned (.slice none 0 0) ∧ Bl w' m 97 (mL P) ∧ Turn (· = m) W w' := by
  have c : W.cell? ⟨m, 6, none⟩ = some (.slice none 0 0) := h.cell 6
  have f := h.frozen 6
  have l := h.lt
  have H : Hid (Bl (W.setCell ⟨m, 6, none⟩ (.slice none 0 0)) m 97 (mL P)) := h.set 6 _
  clear h
  go_enter Tryz.func29, Tryz.ntmps29
  go_wp2
  go_ret
  exact ⟨rfl, H.out, (Turn.refl (fun x => x = m) W).setCell (p := ⟨m, 6, none⟩) (.inl rfl) _⟩
set_option maxHeartbeats 1000000 in
theorem jtake_any (W : World) (P : Pl) (m : Nat) (h : Bl W m 54 (rL P)) : Calls Tryz.prog 30 #[.pointer (some ⟨m, 0, none⟩)] W fun e w' => e = .returned (.slice none 0 0) ∧ Bl w' m 54 (rL P) ∧ Turn (· = m) W w' := by
  have c : W.cell? ⟨m, 5, none⟩ = some (.slice none 0 0) := h.cell 5
  have f := h.frozen 5
  have l := h.lt
  have H : Hid (Bl (W.setCell ⟨m, 5, none⟩ (.slice none 0 0)) m 54 (rL P)) := h.set 5 _
  clear h
  go_enter Tryz.func30, Tryz.ntmps30
  go_wp2
  go_ret
  exact ⟨rfl, H.out, (Turn.refl (fun x => x = m) W).setCell (p := ⟨m, 5, none⟩) (.inl rfl) _⟩
end Go.Proofs.YtfdjfhhjfgdbaaaGreatDoor
