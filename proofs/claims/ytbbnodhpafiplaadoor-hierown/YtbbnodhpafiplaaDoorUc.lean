import Derived.Test.YtbbnodhpafiplaaDoorUb
namespace Go.Proofs.YtbbnodhpafiplaaDoor
open Go.RowKit
set_option linter.unusedVariables false
set_option linter.unusedSimpArgs false
/-- The reference Flush: what has turned, the TLB, the dropping's box. -/
structure VX (W wr : World) (p g D : Nat) (L : List Slo) (d : Dro) : Prop where
  trn : Turn (· = g) W wr
  pt : PT 89 wr p g L
  bd : Bl wr D 42 ([.int .i64 d.kind, .int .u32 d.va, .int .i64 d.asid])
section
variable {W wr w' : World} {p g D : Nat} {L : List Slo} {d : Dro}
theorem VX.step (h : VX W wr p g D L d) (hb : Below wr.heap.size wr w') : VX W w' p g D L d := ⟨h.trn.then (Turn.below hb), h.pt.below hb, h.bd.below hb⟩
theorem VX.drew (h : VX W wr p g D L d) : VX W wr.drew p g D L d := ⟨h.trn.drew, h.pt.drew, h.bd⟩
theorem VX.drewN (h : VX W wr p g D L d) (q : Nat) : VX W (wr.drewN q) p g D L d := ⟨h.trn.drewN q, h.pt.drewN q, h.bd⟩
theorem VX.putZ (h : VX W wr p g D L d) (k : Nat) (hk : k < L.length) : VX W ((((((((((wr.setCell ⟨g, k * 10, none⟩ (.bool false)).setCell ⟨g, k * 10 + 1, none⟩ (.int .i64 0)).setCell ⟨g, k * 10 + 2, none⟩ (.int .i64 0)).setCell ⟨g, k * 10 + 3, none⟩ (.int .u32 0)).setCell ⟨g, k * 10 + 4, none⟩ (.int .u64 0)).setCell ⟨g, k * 10 + 5, none⟩ (.int .i64 0)).setCell ⟨g, k * 10 + 6, none⟩ (.int .i64 0)).setCell ⟨g, k * 10 + 7, none⟩ (.int .u32 0)).setCell ⟨g, k * 10 + 8, none⟩ (.bool false)).setCell ⟨g, k * 10 + 9, none⟩ (.bool false)) p g D (L.set k sZ) d := by
  have hT := turn_putZ (w := wr) (S := (· = g)) rfl k h.pt.row.lt
  have hn : D ≠ g := h.bd.ne h.pt.row (by decide)
  exact ⟨h.trn.then hT, h.pt.putZ k hk, h.bd.turn hT hn⟩
end
set_option maxRecDepth 100000 in
set_option maxHeartbeats 8000000 in
theorem uflush_any (W : World) (p g : Nat) (L : List Slo) (d : Dro) (hP : PT 89 W p g L) (hd : 0 ≤ d.va ∧ d.va < 4294967296) :
    Calls Tryd.prog 58 #[.pointer (some ⟨p, 0, none⟩), .agg #[.int .i64 d.kind, .int .u32 d.va, .int .i64 d.asid]] W fun e w' => e = .returned (.int .i64 ((flF L d).1 : Nat)) ∧ PT 89 w' p g (flF L d).2 ∧ Turn (· = g) W w' := by
  have HT : Hid (∀ b w, BOk b → Calls Tryd.prog 71 #[.agg #[.int .i64 d.kind, .int .u32 d.va, .int .i64 d.asid], .agg #[.int .i64 b.asid, .int .i64 b.t.size, .int .u32 b.t.va, .int .u64 b.t.pa, .int .i64 b.t.dom, .int .i64 b.t.ap, .int .u32 b.t.bits, .bool b.t.ng, .bool b.t.xn]] w fun e w' => e = .returned (.bool (tkF d b)) ∧ Below w.heap.size w w') := fun b w h => utakes_any d b w h hd
  have HX0 : Hid (VX W (W.alloc (.cells ([.int .i64 d.kind, .int .u32 d.va, .int .i64 d.asid]).toArray 42)) p g W.heap.size (flM L d 0) d) := by
    rw [flM_zero]
    exact hidW ⟨Turn.below (below_new _ _), hP.below (below_new _ _), Bl.new _ _ _⟩
  have hn := hP.hi
  clear hP hd
  generalize hl : L.length = n at *
  have HN : Hid (L.length = n) := hl
  clear hl
  go_enter Tryd.func58, Tryd.ntmps58
  go_wp2
  generalize World.alloc _ _ = w0 at *
  generalize hD : W.heap.size = D at HX0 ⊢
  clear hD
  go_loopw [5, 6] (fun c i wr => ∃ k : Nat, k ≤ n ∧ c = .int .i64 (((L.take k).countP (fkF d) : Nat) : Int) ∧ i = .int .i64 k ∧ VX W wr p g D (flM L d k) d) (fun _ i _ => n - (intOf i).toNat)
  case atStart => exact ⟨0, by omega, by simp, rfl, HX0.out⟩
  case round =>
    obtain ⟨k, hk, rfl, rfl, hX⟩ := hrel
    have HX := hidW hX
    have hML : Hid ((flM L d k).length = n) := by rw [flM_len _ _ _ (by rw [HN.out]; exact hk)]; exact HN
    have cp := HX.out.pt.cell
    rw [hML.out] at cp
    clear hX HX0
    have hc : (L.take k).countP (fkF d) ≤ k := by
      have h1 := List.countP_le_length (p := fkF d) (l := L.take k)
      rw [List.length_take] at h1
      omega
    by_cases hlt : k < n
    · have hlL : k < L.length := by rw [HN.out]; exact hlt
      obtain ⟨s, hs, hok, e0, e1, e2, e3, e4, e5, e6, e7, e8, e9⟩ := HX.out.pt.at (k := k) (by rw [hML.out]; exact hlt)
      have HM0 := hidW hs
      rw [flM_at d hlL] at hs
      have HQ := hidW (countP_take (fkF d) hs)
      have HS := hidW hok
      have HF1 : Hid (fkF d s = false → flM L d (k + 1) = flM L d k) := hidW (fun h => flM_same d hs h)
      have HF2 : Hid (fkF d s = true → flM L d (k + 1) = (flM L d k).set k sZ) := hidW (fun h => by rw [flM_next d hs]; simp [flS, h])
      clear hs hok hlL
      generalize (L.take k).countP (fkF d) = C at *
      obtain ⟨fu, sb⟩ := s
      dsimp only at *
      cases fu
      · have hf : fkF d ⟨false, sb⟩ = false := rfl
        have HM := hidW (HF1.out hf)
        have HQ2 : Hid ((L.take (k + 1)).countP (fkF d) = C) := hidW (by have := HQ.out; rw [hf] at this; simpa using this)
        have HD := fun q => hidW (HX.out.drewN q)
        clear HF1 HF2 HQ hf HS HX HT
        go_wp2
        go_quiet (fail)
        go_wp2
        go_roundw
        case rel => exact ⟨k + 1, by omega, by rw [HQ2.out], by go_num, by rw [HM.out]; exact (HD _).out⟩
        case measure => simp [intOf]; omega
      · have HO := hidW HS.out.ok
        have hf : fkF d ⟨true, sb⟩ = tkF d sb := by simp [fkF]
        rw [hf] at HF1 HF2 HQ
        clear HS hf
        replace HX := hidW HX.out.drew
        have K1 : Hid (wr.drew.cell? ⟨p, 0, none⟩ = some (.slice (some ⟨g, 0, none⟩) n n) ∧ (wr.drew.cell? ⟨D, 0, none⟩ = some (.int .i64 d.kind) ∧ wr.drew.cell? ⟨D, 1, none⟩ = some (.int .u32 d.va) ∧ wr.drew.cell? ⟨D, 2, none⟩ = some (.int .i64 d.asid)) ∧ wr.drew.cell? ⟨g, k * 10, none⟩ = some (.bool true) ∧ wr.drew.cell? ⟨g, k * 10 + 1, none⟩ = some (.int .i64 sb.asid) ∧ wr.drew.cell? ⟨g, k * 10 + 2, none⟩ = some (.int .i64 sb.t.size) ∧ wr.drew.cell? ⟨g, k * 10 + 3, none⟩ = some (.int .u32 sb.t.va) ∧ wr.drew.cell? ⟨g, k * 10 + 4, none⟩ = some (.int .u64 sb.t.pa) ∧ wr.drew.cell? ⟨g, k * 10 + 5, none⟩ = some (.int .i64 sb.t.dom) ∧ wr.drew.cell? ⟨g, k * 10 + 6, none⟩ = some (.int .i64 sb.t.ap) ∧ wr.drew.cell? ⟨g, k * 10 + 7, none⟩ = some (.int .u32 sb.t.bits) ∧ wr.drew.cell? ⟨g, k * 10 + 8, none⟩ = some (.bool sb.t.ng) ∧ wr.drew.cell? ⟨g, k * 10 + 9, none⟩ = some (.bool sb.t.xn)) := hidW ⟨cp, ⟨HX.out.bd.cell 0, HX.out.bd.cell 1, HX.out.bd.cell 2⟩, e0, e1, e2, e3, e4, e5, e6, e7, e8, e9⟩
        go_wp2
        refine wp_region_held_drew (S := fun w' => w'.cell? ⟨p, 0, none⟩ = some (.slice (some ⟨g, 0, none⟩) n n) ∧ (w'.cell? ⟨D, 0, none⟩ = some (.int .i64 d.kind) ∧ w'.cell? ⟨D, 1, none⟩ = some (.int .u32 d.va) ∧ w'.cell? ⟨D, 2, none⟩ = some (.int .i64 d.asid)) ∧ w'.cell? ⟨g, k * 10, none⟩ = some (.bool true) ∧ w'.cell? ⟨g, k * 10 + 1, none⟩ = some (.int .i64 sb.asid) ∧ w'.cell? ⟨g, k * 10 + 2, none⟩ = some (.int .i64 sb.t.size) ∧ w'.cell? ⟨g, k * 10 + 3, none⟩ = some (.int .u32 sb.t.va) ∧ w'.cell? ⟨g, k * 10 + 4, none⟩ = some (.int .u64 sb.t.pa) ∧ w'.cell? ⟨g, k * 10 + 5, none⟩ = some (.int .i64 sb.t.dom) ∧ w'.cell? ⟨g, k * 10 + 6, none⟩ = some (.int .i64 sb.t.ap) ∧ w'.cell? ⟨g, k * 10 + 7, none⟩ = some (.int .u32 sb.t.bits) ∧ w'.cell? ⟨g, k * 10 + 8, none⟩ = some (.bool sb.t.ng) ∧ w'.cell? ⟨g, k * 10 + 9, none⟩ = some (.bool sb.t.xn)) (by kernel_rfl) K1.out (fun hHeld => ?_)
        clear K1
        refine wpAnyH_take (i := 0) (oi := { dst := some 16, op := Op.move (Operand.tmp 0), type := 90, pos := _, after := #[], guard := none }) (v := ?_) rfl (by kernel_rfl) (by kernel_rfl) (by kernel_rfl) (fun _ _ _ h => h) (Or.inl ⟨by rfl, ?_⟩) (by assumption) ?_
        rotate_left
        · (intro w hSw; (try dsimp only at hSw); go_simp; try with_reducible rfl)
        simp only [Act.put, List.setIfInBounds_toArray, List.set_cons_zero, List.set_cons_succ]
        refine wpAnyH_take (i := 1) (oi := { dst := some 17, op := Op.nilCheck (Operand.tmp 16), type := 0, pos := _, after := #[{ on := 0, ground := Ground.data }], guard := none }) (v := ?_) rfl (by kernel_rfl) (by kernel_rfl) (by kernel_rfl) (fun _ _ _ h => h) (Or.inl ⟨by rfl, ?_⟩) (by assumption) ?_
        rotate_left
        · (intro w hSw; (try dsimp only at hSw); go_simp; try with_reducible rfl)
        simp only [Act.put, List.setIfInBounds_toArray, List.set_cons_zero, List.set_cons_succ]
        refine wpAnyH_take (i := 2) (oi := { dst := some 18, op := Op.fieldAddr 89 (Operand.tmp 17) 0, type := 0, pos := _, after := #[{ on := 1, ground := Ground.data }], guard := none }) (v := ?_) rfl (by kernel_rfl) (by kernel_rfl) (by kernel_rfl) (fun _ _ _ h => h) (Or.inl ⟨by rfl, ?_⟩) (by assumption) ?_
        rotate_left
        · (intro w hSw; (try dsimp only at hSw); go_simp; try with_reducible rfl)
        simp only [Act.put, List.setIfInBounds_toArray, List.set_cons_zero, List.set_cons_succ]
        refine wpAnyH_take (i := 3) (oi := { dst := some 19, op := Op.load 54 (Operand.tmp 18), type := 54, pos := _, after := #[{ on := 2, ground := Ground.data }], guard := none }) (v := ?_) rfl (by kernel_rfl) (by kernel_rfl) (by kernel_rfl) (fun _ _ _ h => h) (Or.inl ⟨by rfl, ?_⟩) (by assumption) ?_
        rotate_left
        · (intro w hSw; (try dsimp only at hSw); go_simp; try with_reducible rfl)
        simp only [Act.put, List.setIfInBounds_toArray, List.set_cons_zero, List.set_cons_succ]
        refine wpAnyH_take (i := 4) (oi := { dst := some 20, op := Op.move (Operand.tmp 6), type := 3, pos := _, after := #[], guard := none }) (v := ?_) rfl (by kernel_rfl) (by kernel_rfl) (by kernel_rfl) (fun _ _ _ h => h) (Or.inl ⟨by rfl, ?_⟩) (by assumption) ?_
        rotate_left
        · (intro w hSw; (try dsimp only at hSw); go_simp; try with_reducible rfl)
        simp only [Act.put, List.setIfInBounds_toArray, List.set_cons_zero, List.set_cons_succ]
        refine wpAnyH_take (i := 5) (oi := { dst := some 21, op := Op.indexAddr 54 (Operand.tmp 19) (Operand.tmp 20), type := 0, pos := _, after := #[{ on := 3, ground := Ground.data }, { on := 4, ground := Ground.data }], guard := none }) (v := ?_) rfl (by kernel_rfl) (by kernel_rfl) (by kernel_rfl) (fun _ _ _ h => h) (Or.inl ⟨by rfl, ?_⟩) (by assumption) ?_
        rotate_left
        · (intro w hSw; (try dsimp only at hSw); go_simp; try with_reducible rfl)
        simp only [Act.put, List.setIfInBounds_toArray, List.set_cons_zero, List.set_cons_succ]
        refine wpAnyH_take (i := 6) (oi := { dst := some 22, op := Op.fieldAddr 57 (Operand.tmp 21) 0, type := 0, pos := _, after := #[{ on := 5, ground := Ground.data }], guard := none }) (v := ?_) rfl (by kernel_rfl) (by kernel_rfl) (by kernel_rfl) (fun _ _ _ h => h) (Or.inl ⟨by rfl, ?_⟩) (by assumption) ?_
        rotate_left
        · (intro w hSw; (try dsimp only at hSw); go_simp; try with_reducible rfl)
        simp only [Act.put, List.setIfInBounds_toArray, List.set_cons_zero, List.set_cons_succ]
        refine wpAnyH_take (i := 7) (oi := { dst := some 23, op := Op.load 4 (Operand.tmp 22), type := 4, pos := _, after := #[{ on := 6, ground := Ground.data }], guard := none }) (v := ?_) rfl (by kernel_rfl) (by kernel_rfl) (by kernel_rfl) (fun _ _ _ h => h) (Or.inl ⟨by rfl, ?_⟩) (by assumption) ?_
        rotate_left
        · (intro w hSw; (try dsimp only at hSw); go_simp; try with_reducible rfl)
        simp only [Act.put, List.setIfInBounds_toArray, List.set_cons_zero, List.set_cons_succ]
        refine wpAnyH_take (i := 8) (oi := { dst := some 24, op := Op.move (Operand.tmp 23), type := 4, pos := _, after := #[{ on := 7, ground := Ground.data }], guard := none }) (v := ?_) rfl (by kernel_rfl) (by kernel_rfl) (by kernel_rfl) (fun _ _ _ h => h) (Or.inl ⟨by rfl, ?_⟩) (by assumption) ?_
        rotate_left
        · (intro w hSw; (try dsimp only at hSw); go_simp; try with_reducible rfl)
        simp only [Act.put, List.setIfInBounds_toArray, List.set_cons_zero, List.set_cons_succ]
        refine wpAnyH_take (i := 9) (oi := { dst := some 25, op := Op.load 42 (Operand.tmp 3), type := 42, pos := _, after := #[{ on := 8, ground := Ground.guard }], guard := some (8, true) }) (v := ?_) rfl (by kernel_rfl) (by kernel_rfl) (by kernel_rfl) (fun _ _ _ h => h) (Or.inl ⟨by rfl, ?_⟩) (by assumption) ?_
        rotate_left
        · (intro w hSw; (try dsimp only at hSw); go_simp; try with_reducible rfl)
        simp only [Act.put, List.setIfInBounds_toArray, List.set_cons_zero, List.set_cons_succ]
        refine wpAnyH_take (i := 10) (oi := { dst := some 26, op := Op.move (Operand.tmp 0), type := 90, pos := _, after := #[{ on := 8, ground := Ground.guard }], guard := some (8, true) }) (v := ?_) rfl (by kernel_rfl) (by kernel_rfl) (by kernel_rfl) (fun _ _ _ h => h) (Or.inl ⟨by rfl, ?_⟩) (by assumption) ?_
        rotate_left
        · (intro w hSw; (try dsimp only at hSw); go_simp; try with_reducible rfl)
        simp only [Act.put, List.setIfInBounds_toArray, List.set_cons_zero, List.set_cons_succ]
        refine wpAnyH_take (i := 11) (oi := { dst := some 27, op := Op.nilCheck (Operand.tmp 26), type := 0, pos := _, after := #[{ on := 10, ground := Ground.data }, { on := 8, ground := Ground.guard }], guard := some (8, true) }) (v := ?_) rfl (by kernel_rfl) (by kernel_rfl) (by kernel_rfl) (fun _ _ _ h => h) (Or.inl ⟨by rfl, ?_⟩) (by assumption) ?_
        rotate_left
        · (intro w hSw; (try dsimp only at hSw); go_simp; try with_reducible rfl)
        simp only [Act.put, List.setIfInBounds_toArray, List.set_cons_zero, List.set_cons_succ]
        refine wpAnyH_take (i := 12) (oi := { dst := some 28, op := Op.fieldAddr 89 (Operand.tmp 27) 0, type := 0, pos := _, after := #[{ on := 11, ground := Ground.data }, { on := 8, ground := Ground.guard }], guard := some (8, true) }) (v := ?_) rfl (by kernel_rfl) (by kernel_rfl) (by kernel_rfl) (fun _ _ _ h => h) (Or.inl ⟨by rfl, ?_⟩) (by assumption) ?_
        rotate_left
        · (intro w hSw; (try dsimp only at hSw); go_simp; try with_reducible rfl)
        simp only [Act.put, List.setIfInBounds_toArray, List.set_cons_zero, List.set_cons_succ]
        refine wpAnyH_take (i := 13) (oi := { dst := some 29, op := Op.load 54 (Operand.tmp 28), type := 54, pos := _, after := #[{ on := 12, ground := Ground.data }, { on := 8, ground := Ground.guard }], guard := some (8, true) }) (v := ?_) rfl (by kernel_rfl) (by kernel_rfl) (by kernel_rfl) (fun _ _ _ h => h) (Or.inl ⟨by rfl, ?_⟩) (by assumption) ?_
        rotate_left
        · (intro w hSw; (try dsimp only at hSw); go_simp; try with_reducible rfl)
        simp only [Act.put, List.setIfInBounds_toArray, List.set_cons_zero, List.set_cons_succ]
        refine wpAnyH_take (i := 14) (oi := { dst := some 30, op := Op.move (Operand.tmp 6), type := 3, pos := _, after := #[{ on := 8, ground := Ground.guard }], guard := some (8, true) }) (v := ?_) rfl (by kernel_rfl) (by kernel_rfl) (by kernel_rfl) (fun _ _ _ h => h) (Or.inl ⟨by rfl, ?_⟩) (by assumption) ?_
        rotate_left
        · (intro w hSw; (try dsimp only at hSw); go_simp; try with_reducible rfl)
        simp only [Act.put, List.setIfInBounds_toArray, List.set_cons_zero, List.set_cons_succ]
        refine wpAnyH_take (i := 15) (oi := { dst := some 31, op := Op.indexAddr 54 (Operand.tmp 29) (Operand.tmp 30), type := 0, pos := _, after := #[{ on := 13, ground := Ground.data }, { on := 14, ground := Ground.data }, { on := 8, ground := Ground.guard }], guard := some (8, true) }) (v := ?_) rfl (by kernel_rfl) (by kernel_rfl) (by kernel_rfl) (fun _ _ _ h => h) (Or.inl ⟨by rfl, ?_⟩) (by assumption) ?_
        rotate_left
        · (intro w hSw; (try dsimp only at hSw); go_simp; try with_reducible rfl)
        simp only [Act.put, List.setIfInBounds_toArray, List.set_cons_zero, List.set_cons_succ]
        refine wpAnyH_take (i := 16) (oi := { dst := some 32, op := Op.fieldAddr 57 (Operand.tmp 31) 1, type := 0, pos := _, after := #[{ on := 15, ground := Ground.data }, { on := 8, ground := Ground.guard }], guard := some (8, true) }) (v := ?_) rfl (by kernel_rfl) (by kernel_rfl) (by kernel_rfl) (fun _ _ _ h => h) (Or.inl ⟨by rfl, ?_⟩) (by assumption) ?_
        rotate_left
        · (intro w hSw; (try dsimp only at hSw); go_simp; try with_reducible rfl)
        simp only [Act.put, List.setIfInBounds_toArray, List.set_cons_zero, List.set_cons_succ]
        refine wpAnyH_take (i := 17) (oi := { dst := some 33, op := Op.load 38 (Operand.tmp 32), type := 38, pos := _, after := #[{ on := 16, ground := Ground.data }, { on := 8, ground := Ground.guard }], guard := some (8, true) }) (v := ?_) rfl (by kernel_rfl) (by kernel_rfl) (by kernel_rfl) (fun _ _ _ h => h) (Or.inl ⟨by rfl, ?_⟩) (by assumption) ?_
        rotate_left
        · (intro w hSw; (try dsimp only at hSw); go_simp; try with_reducible rfl)
        simp only [Act.put, List.setIfInBounds_toArray, List.set_cons_zero, List.set_cons_succ]
        refine wpAnyH_ready (rs := [18]) (by kernel_rfl) (by simp) ?_
        refine AllReadyH.cons (o := { dst := some 34, op := Op.call { callee := Callee.value (Operand.func 71), args := #[Operand.tmp 25, Operand.tmp 33], argTypes := #[42, 38] }, type := 4, pos := _, after := #[{ on := 9, ground := Ground.data }, { on := 17, ground := Ground.data }, { on := 8, ground := Ground.chain }, { on := 8, ground := Ground.guard }], guard := some (8, true) }) rfl (fun K hK => ?_) AllReadyH.nil
        go_simp
        (go_at_call 71; refine (HT.out sb _ HO.out).mono ?_; rintro e w2 ⟨rfl, hb⟩; replace HX := hidW (HX.out.step hb); have cp2 := HX.out.pt.cell; rw [hML.out] at cp2; obtain ⟨x0, x1, x2, x3, x4, x5, x6, x7, x8, x9⟩ := rowS_cells HX.out.pt.row HM0.out; have K2 : Hid (w2.cell? ⟨p, 0, none⟩ = some (.slice (some ⟨g, 0, none⟩) n n) ∧ (w2.cell? ⟨D, 0, none⟩ = some (.int .i64 d.kind) ∧ w2.cell? ⟨D, 1, none⟩ = some (.int .u32 d.va) ∧ w2.cell? ⟨D, 2, none⟩ = some (.int .i64 d.asid)) ∧ w2.cell? ⟨g, k * 10, none⟩ = some (.bool true) ∧ w2.cell? ⟨g, k * 10 + 1, none⟩ = some (.int .i64 sb.asid) ∧ w2.cell? ⟨g, k * 10 + 2, none⟩ = some (.int .i64 sb.t.size) ∧ w2.cell? ⟨g, k * 10 + 3, none⟩ = some (.int .u32 sb.t.va) ∧ w2.cell? ⟨g, k * 10 + 4, none⟩ = some (.int .u64 sb.t.pa) ∧ w2.cell? ⟨g, k * 10 + 5, none⟩ = some (.int .i64 sb.t.dom) ∧ w2.cell? ⟨g, k * 10 + 6, none⟩ = some (.int .i64 sb.t.ap) ∧ w2.cell? ⟨g, k * 10 + 7, none⟩ = some (.int .u32 sb.t.bits) ∧ w2.cell? ⟨g, k * 10 + 8, none⟩ = some (.bool sb.t.ng) ∧ w2.cell? ⟨g, k * 10 + 9, none⟩ = some (.bool sb.t.xn)) := hidW ⟨cp2, ⟨HX.out.bd.cell 0, HX.out.bd.cell 1, HX.out.bd.cell 2⟩, x0, x1, x2, x3, x4, x5, x6, x7, x8, x9⟩; clear hb HT cp cp2 x0 x1 x2 x3 x4 x5 x6 x7 x8 x9 e0 e1 e2 e3 e4 e5 e6 e7 e8 e9; go_wp2_with fail)
        refine hK.out _ _ ?_ (fun hHeld => ?_)
        · (with_reducible exact K2.out)
        clear hK K
        try simp only [Act.put, List.setIfInBounds_toArray, List.set_cons_zero, List.set_cons_succ]
        refine wpAnyH_take (i := 19) (oi := { dst := some 35, op := Op.pick (Operand.tmp 24) (Operand.tmp 34) (Operand.const (Value.bool false)), type := 4, pos := _, after := #[{ on := 8, ground := Ground.data }, { on := 18, ground := Ground.data }], guard := none }) (v := ?_) rfl (by kernel_rfl) (by kernel_rfl) (by kernel_rfl) (fun _ _ _ h => h) (Or.inl ⟨by rfl, ?_⟩) (by assumption) ?_
        rotate_left
        · (intro w hSw; (try dsimp only at hSw); go_simp; try with_reducible rfl)
        simp only [Act.put, List.setIfInBounds_toArray, List.set_cons_zero, List.set_cons_succ]
        refine wpAnyH_done (by kernel_rfl) ?_ _
        clear K2 hHeld
        cases hm : tkF d sb
        · rw [hm] at HF1 HQ
          have HM := hidW (HF1.out rfl)
          have HQ2 : Hid ((L.take (k + 1)).countP (fkF d) = C) := hidW (by simpa using HQ.out)
          clear HF1 HF2 HQ hm HO
          go_wp2
          go_roundw
          case rel => exact ⟨k + 1, by omega, by rw [HQ2.out], by go_num, by rw [HM.out]; exact HX.out⟩
          case measure => simp [intOf]; omega
        · rw [hm] at HF2 HQ
          have HM := hidW (HF2.out rfl)
          have HQ2 : Hid ((L.take (k + 1)).countP (fkF d) = C + 1) := hidW (by simpa using HQ.out)
          clear HF1 HF2 HQ hm HO
          have c0 := HX.out.pt.cell
          rw [hML.out] at c0
          have f0 := HX.out.pt.row.frozen
          have l0 := HX.out.pt.row.lt
          obtain ⟨x0, x1, x2, x3, x4, x5, x6, x7, x8, x9⟩ := rowS_cells HX.out.pt.row HM0.out
          have HX3 := hidW (HX.out.putZ k (by rw [hML.out]; exact hlt))
          clear HX HM0
          go_wp2
          go_roundw
          case rel => exact ⟨k + 1, by omega, by rw [HQ2.out]; go_num, by go_num, by rw [HM.out]; exact HX3.out⟩
          case measure => simp [intOf]; omega
    · obtain rfl : k = n := by omega
      have HM : Hid (flM L d k = (flF L d).2) := hidW (by rw [← HN.out]; exact flM_all L d)
      go_wp2
      go_ret
      exact ⟨by rw [← HN.out, List.take_length]; rfl, by rw [← HM.out]; exact HX.out.pt, HX.out.trn⟩
end Go.Proofs.YtbbnodhpafiplaaDoor
