import Derived.Test.YtilhceajhlaojaaGreatDoorZ10
import Derived.Deep.Cut
namespace Go.Proofs.YtilhceajhlaojaaGreatDoor
open Go.RowKit
set_option linter.unusedVariables false
set_option linter.unusedSimpArgs false
theorem bl_cells {w : World} {q : Nat} {t : TypeId} {i : Is.Ins} (h : Bl w q t (Is.insL i)) :
    (w.cell? ⟨q, 0, none⟩ = some (.int .i64 i.cond) ∧ w.cell? ⟨q, 1, none⟩ = some (.int .i64 i.op) ∧ w.cell? ⟨q, 2, none⟩ = some (.bool i.s) ∧ w.cell? ⟨q, 3, none⟩ = some (.int .i64 i.form) ∧ w.cell? ⟨q, 4, none⟩ = some (.int .i64 i.rd) ∧ w.cell? ⟨q, 5, none⟩ = some (.int .i64 i.rn) ∧ w.cell? ⟨q, 6, none⟩ = some (.int .i64 i.rm) ∧ w.cell? ⟨q, 7, none⟩ = some (.int .i64 i.rs) ∧ w.cell? ⟨q, 8, none⟩ = some (.int .i64 i.ra) ∧ w.cell? ⟨q, 9, none⟩ = some (.int .u32 i.imm)) ∧
    (w.cell? ⟨q, 10, none⟩ = some (.int .i64 i.shift) ∧ w.cell? ⟨q, 11, none⟩ = some (.int .i64 i.amount) ∧ w.cell? ⟨q, 12, none⟩ = some (.bool i.pre) ∧ w.cell? ⟨q, 13, none⟩ = some (.bool i.up) ∧ w.cell? ⟨q, 14, none⟩ = some (.bool i.write) ∧ w.cell? ⟨q, 15, none⟩ = some (.int .u16 i.list)) := by
  have := ins_cells (o := 0) (q := q) (w := w) h.range
  simp only [Nat.zero_add] at this
  exact this
set_option maxRecDepth 100000 in
set_option maxHeartbeats 1000000 in
theorem goperand_head (w : World) (b : Nat) (R : List Int) (ln : Bool) (bus : Value) (i : Is.Ins) (t : Tk) (h : DB w b R ln bus i t) (hi : IR i) (V : Int) (B : Bool)
    (h1 : i.form = 1 → (V, B) = (((Al.expW i.imm.toNat : Nat) : Int), Al.expC i.imm.toNat (flR R).c))
    (h3 : i.form = 3 → (V, B) = (((Al.shX i.shift (vlR R t.at_ i.rm).toNat (vlR R t.at_ i.rs % 256) (flR R).c).1 : Int), (Al.shX i.shift (vlR R t.at_ i.rm).toNat (vlR R t.at_ i.rs % 256) (flR R).c).2))
    (h0 : ¬ i.form = 1 → ¬ i.form = 3 → (V, B) = (((Al.shX (Al.deF i.shift i.amount).1 (vlR R t.at_ i.rm).toNat (Al.deF i.shift i.amount).2 (flR R).c).1 : Int), (Al.shX (Al.deF i.shift i.amount).1 (vlR R t.at_ i.rm).toNat (Al.deF i.shift i.amount).2 (flR R).c).2)) :
    Calls Tryz.prog 81 #[.pointer (some ⟨b, 0, none⟩)] w fun e w' => e = .returned (.tuple #[.int .u32 V, .bool B]) ∧ Below w.heap.size w w' := by
  have HF : Hid (∀ v, DB v b R ln bus i t → Calls Tryz.prog 57 #[.pointer (some ⟨b, 0, none⟩)] v fun e w' => e = .returned (.agg #[.bool (flR R).n, .bool (flR R).z, .bool (flR R).c, .bool (flR R).v]) ∧ Below v.heap.size v w') := fun v h => gflagsR v b R (RB.rs h)
  have HU := hidW h.drew
  have HB : Hid (Below w.heap.size w w.drew) := below_drew (Below.refl _ _)
  have hbw : b < w.heap.size := h.bl.lt
  have HS : Hid (∀ v q L, Below w.heap.size w v → DB v b R ln bus i t → Bl v q 35 L → L.length = 20 → w.heap.size ≤ q → OX w (v.setCells q 0 (Is.insL i)) q b R ln bus i t) := fun v q L hb h hq hL hW => OX.put hb h L hq hL hW hbw
  have HR : Hid (∀ v, DB v b R ln bus i t → v.rangeAt b 32 (Is.insL i)) := fun v h => DB.ins h
  have HC : Hid (∀ v q, OX w v q b R ln bus i t → _) := fun v q h => bl_cells h.box
  have HI : Hid ((Tryz.prog.info? 35).map (·.size) = some (Is.insL i).length) := ins_info
  have HJ : Hid ((Tryz.prog.info? 35).map (·.size) = some (Is.insL i).toArray.size) := ins_info
  have HO : Hid ((Is.insL i).toArray.all (·.oneCell') = true) := ins_one i
  have HT : Hid (∀ (v : World) (q : Nat) (L : List Value), Bl v q 35 L → L.length = 20 → v.there q 0 (Is.insL i).toArray.size) := fun v q L h hL => h.there _ (by rw [hL]; rfl)
  have HG : Hid (∀ (v : World) (o : Obj), v.rangeAt b 32 (Is.insL i) → (v.alloc o).rangeAt b 32 (Is.insL i)) := fun v o h => Is.range_keep h (below_new _ _)
  generalize Is.insL i = IL at *
  generalize flR R = f at *
  obtain ⟨fn, fz, fc, fv⟩ := f
  have hfield : ∀ w, (Instr.field 40 (.agg #[.bool fn, .bool fz, .bool fc, .bool fv]) 2).run Tryz.prog w = .ok (.bool fc) w := fun w => by kernel_rfl
  clear h
  go_enter Tryz.func81, Tryz.ntmps81
  go_wp2
  go_cut [4, 5] from 8 (fun s4 s5 wx => ∃ q, s4 = .pointer (some ⟨q, 0, none⟩) ∧ s5 = .bool fc ∧ OX w wx q b R ln bus i t)
  case first =>
    refine wp_region_held_drew (S := fun v => v.rangeAt b 32 IL) (by kernel_rfl) (HR.out _ HU.out) (fun hHeld => ?_)
    clear hHeld
    generalize w.drew = w1 at HU HB ⊢
    have K2 := hidW (HR.out _ HU.out)
    refine wpAnyH_take (i := 0) (oi := { dst := some 8, op := Op.move (Operand.tmp 0), type := 122, pos := _, after := #[], guard := none }) (v := ?_) rfl (by kernel_rfl) (by kernel_rfl) (by kernel_rfl) (fun _ _ _ h => h) (Or.inl ⟨by rfl, ?_⟩) (by assumption) ?_
    rotate_left
    · (intro w hSw; (try dsimp only at hSw); go_simp; try with_reducible rfl)
    simp only [Act.put, List.setIfInBounds_toArray, List.set_cons_zero, List.set_cons_succ]
    refine wpAnyH_take (i := 1) (oi := { dst := some 9, op := Op.nilCheck (Operand.tmp 8), type := 0, pos := _, after := #[{ on := 0, ground := Ground.data }], guard := none }) (v := ?_) rfl (by kernel_rfl) (by kernel_rfl) (by kernel_rfl) (fun _ _ _ h => h) (Or.inl ⟨by rfl, ?_⟩) (by assumption) ?_
    rotate_left
    · (intro w hSw; (try dsimp only at hSw); go_simp; try with_reducible rfl)
    simp only [Act.put, List.setIfInBounds_toArray, List.set_cons_zero, List.set_cons_succ]
    refine wpAnyH_take (i := 2) (oi := { dst := some 10, op := Op.fieldAddr 124 (Operand.tmp 9) 3, type := 0, pos := _, after := #[{ on := 1, ground := Ground.data }], guard := none }) (v := ?_) rfl (by kernel_rfl) (by kernel_rfl) (by kernel_rfl) (fun _ _ _ h => h) (Or.inl ⟨by rfl, ?_⟩) (by assumption) ?_
    rotate_left
    · (intro w hSw; (try dsimp only at hSw); go_simp; try with_reducible rfl)
    simp only [Act.put, List.setIfInBounds_toArray, List.set_cons_zero, List.set_cons_succ]
    refine wpAnyH_take (i := 3) (oi := { dst := some 11, op := Op.load 35 (Operand.tmp 10), type := 35, pos := _, after := #[{ on := 2, ground := Ground.data }], guard := none }) (v := _) rfl (by kernel_rfl) (by kernel_rfl) (by kernel_rfl) (fun _ _ _ h => h) (yieldsIf_load_mid (by rfl) _ _ rfl b 32 rfl _ _ (fun _ h => h) Tryz.underlying35 rfl HI.out) (by assumption) ?_
    simp only [Act.put, List.setIfInBounds_toArray, List.set_cons_zero, List.set_cons_succ]
    refine wpAnyH_take (i := 4) (oi := { dst := some 12, op := Op.move (Operand.tmp 0), type := 122, pos := _, after := #[], guard := none }) (v := ?_) rfl (by kernel_rfl) (by kernel_rfl) (by kernel_rfl) (fun _ _ _ h => h) (Or.inl ⟨by rfl, ?_⟩) (by assumption) ?_
    rotate_left
    · (intro w hSw; (try dsimp only at hSw); go_simp; try with_reducible rfl)
    simp only [Act.put, List.setIfInBounds_toArray, List.set_cons_zero, List.set_cons_succ]
    refine wpAnyH_take (i := 5) (oi := { dst := some 13, op := Op.nilCheck (Operand.tmp 12), type := 0, pos := _, after := #[{ on := 4, ground := Ground.data }], guard := none }) (v := ?_) rfl (by kernel_rfl) (by kernel_rfl) (by kernel_rfl) (fun _ _ _ h => h) (Or.inl ⟨by rfl, ?_⟩) (by assumption) ?_
    rotate_left
    · (intro w hSw; (try dsimp only at hSw); go_simp; try with_reducible rfl)
    simp only [Act.put, List.setIfInBounds_toArray, List.set_cons_zero, List.set_cons_succ]
    refine wpAnyH_take (i := 6) (oi := { dst := some 14, op := Op.fieldAddr 124 (Operand.tmp 13) 0, type := 0, pos := _, after := #[{ on := 5, ground := Ground.data }], guard := none }) (v := ?_) rfl (by kernel_rfl) (by kernel_rfl) (by kernel_rfl) (fun _ _ _ h => h) (Or.inl ⟨by rfl, ?_⟩) (by assumption) ?_
    rotate_left
    · (intro w hSw; (try dsimp only at hSw); go_simp; try with_reducible rfl)
    simp only [Act.put, List.setIfInBounds_toArray, List.set_cons_zero, List.set_cons_succ]
    refine wpAnyH_ready (rs := [7, 9]) (by kernel_rfl) (by simp) ?_
    refine (AllReadyH.cons (o := { dst := some 15, op := Op.call { callee := Callee.value (Operand.func 57), args := #[Operand.tmp 14], argTypes := #[84] }, type := 40, pos := _, after := #[{ on := 6, ground := Ground.data }], guard := none }) rfl (fun K hK => ?_) (AllReadyH.cons (o := { dst := some 4, op := Op.alloc 35, type := 0, pos := _, after := #[], guard := none }) rfl (fun K hK => ?_) AllReadyH.nil))
    · go_simp
      go_at_call 57; refine (HF.out _ HU.out).mono ?_; rintro e w2 ⟨rfl, hb⟩; have HU := hidW (RB.below HU.out hb); have HB := hidW (Below.step HB.out hb); have K2 := hidW (HR.out _ HU.out); (try have HQ := hidW (Bl.below HQ.out hb)); clear hb
      refine hK.out _ _ ?_ (fun hHeld => ?_)
      · exact K2.out
      clear hK K
      try simp only [Act.put, List.setIfInBounds_toArray, List.set_cons_zero, List.set_cons_succ]
      refine wpAnyH_take (i := 8) (oi := { dst := some 16, op := Op.field 40 (Operand.tmp 15) 2, type := 4, pos := _, after := #[{ on := 7, ground := Ground.data }, { on := 10, ground := Ground.gcOnly Departure.lateStores }], guard := none }) (v := ?_) rfl (by kernel_rfl) (by kernel_rfl) (by kernel_rfl) (fun _ _ _ h => h) (Or.inl ⟨by rfl, ?_⟩) (by assumption) ?_
      rotate_left
      · (intro w hSw; (try dsimp only at hSw); go_simp; try with_reducible rfl)
      simp only [Act.put, List.setIfInBounds_toArray, List.set_cons_zero, List.set_cons_succ]
      refine wpAnyH_ready (rs := [9]) (by kernel_rfl) (by simp) ?_
      refine (AllReadyH.cons (o := { dst := some 4, op := Op.alloc 35, type := 0, pos := _, after := #[], guard := none }) rfl (fun K hK => ?_) AllReadyH.nil)
      go_simp
      (first | (generalize hq : w2.alloc _ = w3; have e3 : w2.alloc (.cells (Is.insL Is.insZ).toArray 35) = w3 := hq; have HQ := hidW (Bl.new w2 35 (Is.insL Is.insZ)); have hbn := below_new w2 (.cells (Is.insL Is.insZ).toArray 35); have HU := hidW (RB.below HU.out hbn); have HZ : Hid (w.heap.size ≤ w2.heap.size) := HB.out.size; have HB := hidW (Below.step HB.out hbn); rw [e3] at HQ HB HU; clear hbn e3 hq; generalize w2.heap.size = q at HQ HZ ⊢; have K2 := hidW (HR.out _ HU.out)) | (generalize hq : w1.alloc _ = w3; have e3 : w1.alloc (.cells (Is.insL Is.insZ).toArray 35) = w3 := hq; have HQ := hidW (Bl.new w1 35 (Is.insL Is.insZ)); have hbn := below_new w1 (.cells (Is.insL Is.insZ).toArray 35); have HU := hidW (RB.below HU.out hbn); have HZ : Hid (w.heap.size ≤ w1.heap.size) := HB.out.size; have HB := hidW (Below.step HB.out hbn); rw [e3] at HQ HB HU; clear hbn e3 hq; generalize w1.heap.size = q at HQ HZ ⊢; have K2 := hidW (HR.out _ HU.out))); refine hK.out _ _ ?_ (fun hHeld => ?_); (focus exact K2.out)
      clear hK K
      try simp only [Act.put, List.setIfInBounds_toArray, List.set_cons_zero, List.set_cons_succ]
      refine wpAnyH_ready (rs := [10]) (by kernel_rfl) (by simp) ?_
      refine (AllReadyH.cons (o := { dst := none, op := Op.store 35 (Operand.tmp 4) (Operand.tmp 11), type := 0, pos := _, after := #[{ on := 9, ground := Ground.data }, { on := 3, ground := Ground.data }, { on := 7, ground := Ground.chain }, { on := 0, ground := Ground.phase }, { on := 1, ground := Ground.phase }, { on := 2, ground := Ground.phase }, { on := 3, ground := Ground.phase }, { on := 4, ground := Ground.textOnly Departure.lateStores }, { on := 5, ground := Ground.textOnly Departure.lateStores }, { on := 6, ground := Ground.textOnly Departure.lateStores }, { on := 7, ground := Ground.textOnly Departure.lateStoresUnsure }, { on := 8, ground := Ground.textOnly Departure.lateStores }, { on := 9, ground := Ground.phase }], guard := none }) rfl (fun K hK => ?_) AllReadyH.nil)
      (rw [if_pos (by kernel_rfl)]; refine wp_store_mid _ _ _ rfl _ 0 _ rfl rfl (HT.out _ _ _ HQ.out rfl) HJ.out HO.out ?_; have HX := hidW (HS.out _ _ _ HB.out HU.out HQ.out rfl HZ.out); generalize World.setCells _ _ _ _ = w4 at HX ⊢; refine hK.out _ _ (HR.out _ HX.out.db) (fun hHeld => ?_))
      clear hK K
      try simp only [Act.put, List.setIfInBounds_toArray, List.set_cons_zero, List.set_cons_succ]
      refine wpAnyH_take (i := 11) (oi := { dst := some 5, op := Op.assign (Operand.tmp 16), type := 4, pos := _, after := #[{ on := 8, ground := Ground.data }, { on := 10, ground := Ground.chain }, { on := 0, ground := Ground.phase }, { on := 1, ground := Ground.phase }, { on := 2, ground := Ground.phase }, { on := 3, ground := Ground.phase }, { on := 4, ground := Ground.phase }, { on := 5, ground := Ground.phase }, { on := 6, ground := Ground.phase }, { on := 7, ground := Ground.phase }, { on := 8, ground := Ground.phase }, { on := 9, ground := Ground.phase }, { on := 10, ground := Ground.phase }], guard := none }) (v := ?_) rfl (by kernel_rfl) (by kernel_rfl) (by kernel_rfl) (fun _ _ _ h => h) (Or.inl ⟨by rfl, ?_⟩) (by assumption) ?_
      rotate_left
      · (intro w hSw; (try dsimp only at hSw); go_simp; try with_reducible rfl)
      simp only [Act.put, List.setIfInBounds_toArray, List.set_cons_zero, List.set_cons_succ]
      refine wpAnyH_done (by kernel_rfl) ?_ _
      (go_wp2_with fail); go_meet; exact ⟨_, rfl, rfl, HX.out⟩
    · go_simp
      (first | (generalize hq : w2.alloc _ = w3; have e3 : w2.alloc (.cells (Is.insL Is.insZ).toArray 35) = w3 := hq; have HQ := hidW (Bl.new w2 35 (Is.insL Is.insZ)); have hbn := below_new w2 (.cells (Is.insL Is.insZ).toArray 35); have HU := hidW (RB.below HU.out hbn); have HZ : Hid (w.heap.size ≤ w2.heap.size) := HB.out.size; have HB := hidW (Below.step HB.out hbn); rw [e3] at HQ HB HU; clear hbn e3 hq; generalize w2.heap.size = q at HQ HZ ⊢; have K2 := hidW (HR.out _ HU.out)) | (generalize hq : w1.alloc _ = w3; have e3 : w1.alloc (.cells (Is.insL Is.insZ).toArray 35) = w3 := hq; have HQ := hidW (Bl.new w1 35 (Is.insL Is.insZ)); have hbn := below_new w1 (.cells (Is.insL Is.insZ).toArray 35); have HU := hidW (RB.below HU.out hbn); have HZ : Hid (w.heap.size ≤ w1.heap.size) := HB.out.size; have HB := hidW (Below.step HB.out hbn); rw [e3] at HQ HB HU; clear hbn e3 hq; generalize w1.heap.size = q at HQ HZ ⊢; have K2 := hidW (HR.out _ HU.out))); refine hK.out _ _ ?_ (fun hHeld => ?_); (focus exact K2.out)
      clear hK K
      try simp only [Act.put, List.setIfInBounds_toArray, List.set_cons_zero, List.set_cons_succ]
      refine wpAnyH_ready (rs := [7]) (by kernel_rfl) (by simp) ?_
      refine (AllReadyH.cons (o := { dst := some 15, op := Op.call { callee := Callee.value (Operand.func 57), args := #[Operand.tmp 14], argTypes := #[84] }, type := 40, pos := _, after := #[{ on := 6, ground := Ground.data }], guard := none }) rfl (fun K hK => ?_) AllReadyH.nil)
      go_simp
      go_at_call 57; refine (HF.out _ HU.out).mono ?_; rintro e w2 ⟨rfl, hb⟩; have HU := hidW (RB.below HU.out hb); have HB := hidW (Below.step HB.out hb); have K2 := hidW (HR.out _ HU.out); (try have HQ := hidW (Bl.below HQ.out hb)); clear hb
      refine hK.out _ _ ?_ (fun hHeld => ?_)
      · exact K2.out
      clear hK K
      try simp only [Act.put, List.setIfInBounds_toArray, List.set_cons_zero, List.set_cons_succ]
      refine wpAnyH_take (i := 8) (oi := { dst := some 16, op := Op.field 40 (Operand.tmp 15) 2, type := 4, pos := _, after := #[{ on := 7, ground := Ground.data }, { on := 10, ground := Ground.gcOnly Departure.lateStores }], guard := none }) (v := ?_) rfl (by kernel_rfl) (by kernel_rfl) (by kernel_rfl) (fun _ _ _ h => h) (Or.inl ⟨by rfl, ?_⟩) (by assumption) ?_
      rotate_left
      · (intro w hSw; (try dsimp only at hSw); go_simp; try with_reducible rfl)
      simp only [Act.put, List.setIfInBounds_toArray, List.set_cons_zero, List.set_cons_succ]
      refine wpAnyH_ready (rs := [10]) (by kernel_rfl) (by simp) ?_
      refine (AllReadyH.cons (o := { dst := none, op := Op.store 35 (Operand.tmp 4) (Operand.tmp 11), type := 0, pos := _, after := #[{ on := 9, ground := Ground.data }, { on := 3, ground := Ground.data }, { on := 7, ground := Ground.chain }, { on := 0, ground := Ground.phase }, { on := 1, ground := Ground.phase }, { on := 2, ground := Ground.phase }, { on := 3, ground := Ground.phase }, { on := 4, ground := Ground.textOnly Departure.lateStores }, { on := 5, ground := Ground.textOnly Departure.lateStores }, { on := 6, ground := Ground.textOnly Departure.lateStores }, { on := 7, ground := Ground.textOnly Departure.lateStoresUnsure }, { on := 8, ground := Ground.textOnly Departure.lateStores }, { on := 9, ground := Ground.phase }], guard := none }) rfl (fun K hK => ?_) AllReadyH.nil)
      (rw [if_pos (by kernel_rfl)]; refine wp_store_mid _ _ _ rfl _ 0 _ rfl rfl (HT.out _ _ _ HQ.out rfl) HJ.out HO.out ?_; have HX := hidW (HS.out _ _ _ HB.out HU.out HQ.out rfl HZ.out); generalize World.setCells _ _ _ _ = w4 at HX ⊢; refine hK.out _ _ (HR.out _ HX.out.db) (fun hHeld => ?_))
      clear hK K
      try simp only [Act.put, List.setIfInBounds_toArray, List.set_cons_zero, List.set_cons_succ]
      refine wpAnyH_take (i := 11) (oi := { dst := some 5, op := Op.assign (Operand.tmp 16), type := 4, pos := _, after := #[{ on := 8, ground := Ground.data }, { on := 10, ground := Ground.chain }, { on := 0, ground := Ground.phase }, { on := 1, ground := Ground.phase }, { on := 2, ground := Ground.phase }, { on := 3, ground := Ground.phase }, { on := 4, ground := Ground.phase }, { on := 5, ground := Ground.phase }, { on := 6, ground := Ground.phase }, { on := 7, ground := Ground.phase }, { on := 8, ground := Ground.phase }, { on := 9, ground := Ground.phase }, { on := 10, ground := Ground.phase }], guard := none }) (v := ?_) rfl (by kernel_rfl) (by kernel_rfl) (by kernel_rfl) (fun _ _ _ h => h) (Or.inl ⟨by rfl, ?_⟩) (by assumption) ?_
      rotate_left
      · (intro w hSw; (try dsimp only at hSw); go_simp; try with_reducible rfl)
      simp only [Act.put, List.setIfInBounds_toArray, List.set_cons_zero, List.set_cons_succ]
      refine wpAnyH_done (by kernel_rfl) ?_ _
      (go_wp2_with fail); go_meet; exact ⟨_, rfl, rfl, HX.out⟩
  case rest =>
    obtain ⟨q, rfl, rfl, hX⟩ := hcut
    have HX := hidW hX
    have HV : Hid (∀ v n, OX w v q b R ln bus i t → 0 ≤ n ∧ n ≤ 15 → Calls Tryz.prog 83 #[.pointer (some ⟨b, 0, none⟩), .int .i64 n] v fun e w' => e = .returned (.int .u32 (vlR R t.at_ n)) ∧ Below v.heap.size v w') := fun v n h hn => gvalue v b R ln bus i t n h.db hn
    have hrg := vlR_range hX.db.ok t.at_
    obtain ⟨⟨c0, c1, c2, c3, c4, c5, c6, c7, c8, c9⟩, c10, c11, c12, c13, c14, c15⟩ := HC.out _ _ hX
    clear hX HC HR HS HF HT HG HB HU HO HJ HI
    have HSh : Hid (∀ (k n : Int) (x : Int) (c : Bool) (v : World), 0 ≤ x ∧ x < 4294967296 → Calls Tryz.prog 101 #[.int .i64 k, .int .u32 x, .int .i64 n, .bool c] v fun e w' => e = .returned (.tuple #[.int .u32 ((Al.shX k x.toNat n c).1 : Nat), .bool (Al.shX k x.toNat n c).2]) ∧ Below v.heap.size v w') := fun k n x c v hx => by
      have := Al.gshift_any k n x.toNat c v (nat_of hx).2
      rw [(nat_of hx).1] at this
      exact this
    by_cases hf1 : i.form = 1
    · have hV := h1 hf1
      rw [hf1] at c3
      have HE : Hid (∀ v, Calls Tryz.prog 100 #[.int .u32 i.imm, .bool fc] v fun e w' => e = .returned (.tuple #[.int .u32 V, .bool B]) ∧ Below v.heap.size v w') := fun v => by
        have := Al.gexpand_any i.imm.toNat fc v (nat_of hi.imm).2
        rw [(nat_of hi.imm).1] at this
        injection hV with e1 e2
        rw [e1, e2]
        exact this
      clear h1 h3 h0 hV hf1 hi hrg
      go_wp2_with (first | (go_at_call 100; refine (HE.out _).mono ?_; rintro e w1 ⟨rfl, hb⟩; have HX := hidW (HX.out.step hb); clear hb))
      exact bodyPost_ret (v := .tuple #[.int .u32 V, .bool B]) (by simp [results, Tryz.results81, go_sem]) rfl ⟨rfl, HX.out.bel⟩
    · by_cases hf3 : i.form = 3
      · have hV := h3 hf3
        rw [hf3] at c3
        have e255 : bits .and .u32 (vlR R t.at_ i.rs) 255 = vlR R t.at_ i.rs % 256 := band_mod 8 255 _ (by decide) (by decide) (hrg _)
        have ei : IntKind.i64.wrap (vlR R t.at_ i.rs % 256) = vlR R t.at_ i.rs % 256 := by rw [IntKind.wrap_i64]; omega
        have HSx : Hid (∀ v, Calls Tryz.prog 101 #[.int .i64 i.shift, .int .u32 (vlR R t.at_ i.rm), .int .i64 (vlR R t.at_ i.rs % 256), .bool fc] v fun e w' => e = .returned (.tuple #[.int .u32 V, .bool B]) ∧ Below v.heap.size v w') := fun v => by
          have := HSh.out i.shift (vlR R t.at_ i.rs % 256) (vlR R t.at_ i.rm) fc v (hrg _)
          injection hV with e1 e2
          rw [e1, e2]
          exact this
        have hm := hidW hi.rm
        have hs := hidW hi.rs
        clear h1 h3 h0 hV hf1 hf3 hi hrg HSh
        generalize vlR R t.at_ i.rs % 256 = sa at *
        go_wp2
        have HX := hidW HX.out.drew
        go_region_held3 (fun v => v.cell? ⟨q, 10, none⟩ = some (.int .i64 i.shift) ∧ v.cell? ⟨q, 6, none⟩ = some (.int .i64 i.rm) ∧ v.cell? ⟨q, 7, none⟩ = some (.int .i64 i.rs)) (first | exact ⟨(bl_cells HX.out.box).2.1, (bl_cells HX.out.box).1.2.2.2.2.2.2.1, (bl_cells HX.out.box).1.2.2.2.2.2.2.2.1⟩) ((first | (go_at_call 83; refine (HV.out _ _ HX.out (by first | exact hm.out | exact hs.out)).mono ?_; rintro e w1 ⟨rfl, hb⟩; have HX := hidW (HX.out.step hb); clear hb) | (go_at_call 101; refine (HSx.out _).mono ?_; rintro e w1 ⟨rfl, hb⟩; have HX := hidW (HX.out.step hb); clear hb)))
        go_wp2_with fail
        exact bodyPost_ret (v := .tuple #[.int .u32 V, .bool B]) (by simp [results, Tryz.results81, go_sem]) rfl ⟨rfl, HX.out.bel⟩
      · have hV := h0 hf1 hf3
        have b1 : (i.form == 1) = false := beq_eq_false_iff_ne.2 hf1
        have b3 : (i.form == 3) = false := beq_eq_false_iff_ne.2 hf3
        have HD : Hid (∀ v, Calls Tryz.prog 102 #[.int .i64 i.shift, .int .i64 i.amount] v fun e w' => e = .returned (.tuple #[.int .i64 (Al.deF i.shift i.amount).1, .int .i64 (Al.deF i.shift i.amount).2]) ∧ Below v.heap.size v w') := fun v => Al.gdecode_any _ _ v
        have HSx : Hid (∀ v, Calls Tryz.prog 101 #[.int .i64 (Al.deF i.shift i.amount).1, .int .u32 (vlR R t.at_ i.rm), .int .i64 (Al.deF i.shift i.amount).2, .bool fc] v fun e w' => e = .returned (.tuple #[.int .u32 V, .bool B]) ∧ Below v.heap.size v w') := fun v => by
          have := HSh.out (Al.deF i.shift i.amount).1 (Al.deF i.shift i.amount).2 (vlR R t.at_ i.rm) fc v (hrg _)
          injection hV with e1 e2
          rw [e1, e2]
          exact this
        have hm := hidW hi.rm
        clear h1 h3 h0 hV hf1 hf3 hi hrg HSh
        generalize (Al.deF i.shift i.amount).1 = dk at *
        generalize (Al.deF i.shift i.amount).2 = dn at *
        go_wp2_with (first | (go_at_call 102; refine (HD.out _).mono ?_; rintro e w1 ⟨rfl, hb⟩; have HX := hidW (HX.out.step hb); obtain ⟨⟨c0, c1, c2, c3, c4, c5, c6, c7, c8, c9⟩, c10, c11, c12, c13, c14, c15⟩ := bl_cells HX.out.box; clear hb) | (go_at_call 83; refine (HV.out _ _ HX.out hm.out).mono ?_; rintro e w1 ⟨rfl, hb⟩; have HX := hidW (HX.out.step hb); clear hb) | (go_at_call 101; refine (HSx.out _).mono ?_; rintro e w1 ⟨rfl, hb⟩; have HX := hidW (HX.out.step hb); clear hb))
        exact bodyPost_ret (v := .tuple #[.int .u32 V, .bool B]) (by simp [results, Tryz.results81, go_sem]) rfl ⟨rfl, HX.out.bel⟩
theorem goperand (w : World) (b : Nat) (R : List Int) (ln : Bool) (bus : Value) (i : Is.Ins) (t : Tk) (h : DB w b R ln bus i t) (hi : IR i) :
    Calls Tryz.prog 81 #[.pointer (some ⟨b, 0, none⟩)] w fun e w' => e = .returned (.tuple #[.int .u32 (opdP R t.at_ i).1, .bool (opdP R t.at_ i).2]) ∧ Below w.heap.size w w' :=
  goperand_head w b R ln bus i t h hi _ _ (fun h1 => by unfold opdP; rw [if_pos h1]) (fun h3 => by unfold opdP; rw [if_neg (by omega), if_pos h3]) (fun h1 h3 => by unfold opdP; rw [if_neg h1, if_neg h3])
end Go.Proofs.YtilhceajhlaojaaGreatDoor
namespace Go.Proofs.YtilhceajhlaojaaGreatDoor
open Go.RowKit
set_option linter.unusedVariables false
set_option linter.unusedSimpArgs false
theorem RB.setE {w : World} {b : Nat} {t : TypeId} {R : List Int} {E : List Value} (h : RB w b t R E) (j k : Nat) (hk : k = 30 + j) (v : Value) : RB (w.setCell ⟨b, k, none⟩ v) b t R (E.set j v) := by
  refine ⟨h.ok, ?_⟩
  have := h.bl.set k v
  rw [List.set_append_right _ _ (by rw [RL_len h.ok]; omega), RL_len h.ok, show k - 30 = j by omega] at this
  exact this
set_option maxRecDepth 100000 in
theorem gcall (w : World) (b : Nat) (R : List Int) (ln : Bool) (bus : Value) (i : Is.Ins) (t : Tk) (h : DB w b R ln bus i t) : Calls Tryz.prog 73 #[.pointer (some ⟨b, 0, none⟩)] w fun e w' => e = .returned (.tuple #[]) ∧ TA b w w' ∧ DB w' b R ln bus i { t with kind := 2 } := by
  have c52 : w.cell? ⟨b, 52, none⟩ = some (.int .i64 t.kind) := DB.tk h 0 _ rfl
  have f52 := RB.frz h 52
  have HE : Hid (TA b w (w.setCell ⟨b, 52, none⟩ (.int .i64 2)) ∧ DB (w.setCell ⟨b, 52, none⟩ (.int .i64 2)) b R ln bus i { t with kind := 2 }) := ⟨ta_put (Below.refl _ _), RB.setE h 22 52 rfl _⟩
  clear h
  go_enter Tryz.func73, Tryz.ntmps73
  go_wp2
  exact bodyPost_end (v := .tuple #[]) (by simp [results, Tryz.results73, go_sem]) rfl ⟨rfl, HE.out⟩
set_option maxRecDepth 100000 in
theorem gundef (w : World) (b : Nat) (R : List Int) (ln : Bool) (bus : Value) (i : Is.Ins) (t : Tk) (h : DB w b R ln bus i t) : Calls Tryz.prog 84 #[.pointer (some ⟨b, 0, none⟩)] w fun e w' => e = .returned (.tuple #[]) ∧ TA b w w' ∧ DB w' b R ln bus i { t with kind := 1 } := by
  have c52 : w.cell? ⟨b, 52, none⟩ = some (.int .i64 t.kind) := DB.tk h 0 _ rfl
  have f52 := RB.frz h 52
  have HE : Hid (TA b w (w.setCell ⟨b, 52, none⟩ (.int .i64 1)) ∧ DB (w.setCell ⟨b, 52, none⟩ (.int .i64 1)) b R ln bus i { t with kind := 1 }) := ⟨ta_put (Below.refl _ _), RB.setE h 22 52 rfl _⟩
  clear h
  go_enter Tryz.func84, Tryz.ntmps84
  go_wp2
  exact bodyPost_end (v := .tuple #[]) (by simp [results, Tryz.results84, go_sem]) rfl ⟨rfl, HE.out⟩
/-- How many bytes. -/
def byP (op : Int) : Int := if op = 33 ∨ op = 34 ∨ op = 37 then 1 else if op = 35 ∨ op = 36 ∨ op = 38 then 2 else 4
set_option maxRecDepth 100000 in
theorem gbytes_o (op : Int) (w : World) (h : ¬ op = 33 ∧ ¬ op = 34 ∧ ¬ op = 37 ∧ ¬ op = 35 ∧ ¬ op = 36 ∧ ¬ op = 38) : Calls Tryz.prog 91 #[.int .i64 op] w fun e w' => e = .returned (.int .i64 4) ∧ w' = w := by
  obtain ⟨h1, h2, h3, h4, h5, h6⟩ := h
  have b1 : (op == 33) = false := beq_eq_false_iff_ne.2 h1
  have b2 : (op == 34) = false := beq_eq_false_iff_ne.2 h2
  have b3 : (op == 37) = false := beq_eq_false_iff_ne.2 h3
  have b4 : (op == 35) = false := beq_eq_false_iff_ne.2 h4
  have b5 : (op == 36) = false := beq_eq_false_iff_ne.2 h5
  have b6 : (op == 38) = false := beq_eq_false_iff_ne.2 h6
  clear h1 h2 h3 h4 h5 h6
  go_enter Tryz.func91, Tryz.ntmps91
  go_wp2
  exact bodyPost_ret (v := .int .i64 4) (by simp [results, Tryz.results91, go_sem]) rfl ⟨rfl, rfl⟩
set_option maxRecDepth 100000 in
theorem gbytes (op : Int) (w : World) : Calls Tryz.prog 91 #[.int .i64 op] w fun e w' => e = .returned (.int .i64 (byP op)) ∧ w' = w := by
  by_cases h1 : op = 33
  · subst h1
    go_enter Tryz.func91, Tryz.ntmps91
    go_wp2
    exact bodyPost_ret (v := .int .i64 1) (by simp [results, Tryz.results91, go_sem]) rfl ⟨rfl, rfl⟩
  by_cases h2 : op = 34
  · subst h2
    go_enter Tryz.func91, Tryz.ntmps91
    go_wp2
    exact bodyPost_ret (v := .int .i64 1) (by simp [results, Tryz.results91, go_sem]) rfl ⟨rfl, rfl⟩
  by_cases h3 : op = 37
  · subst h3
    go_enter Tryz.func91, Tryz.ntmps91
    go_wp2
    exact bodyPost_ret (v := .int .i64 1) (by simp [results, Tryz.results91, go_sem]) rfl ⟨rfl, rfl⟩
  by_cases h4 : op = 35
  · subst h4
    go_enter Tryz.func91, Tryz.ntmps91
    go_wp2
    exact bodyPost_ret (v := .int .i64 2) (by simp [results, Tryz.results91, go_sem]) rfl ⟨rfl, rfl⟩
  by_cases h5 : op = 36
  · subst h5
    go_enter Tryz.func91, Tryz.ntmps91
    go_wp2
    exact bodyPost_ret (v := .int .i64 2) (by simp [results, Tryz.results91, go_sem]) rfl ⟨rfl, rfl⟩
  by_cases h6 : op = 38
  · subst h6
    go_enter Tryz.func91, Tryz.ntmps91
    go_wp2
    exact bodyPost_ret (v := .int .i64 2) (by simp [results, Tryz.results91, go_sem]) rfl ⟨rfl, rfl⟩
  have e : byP op = 4 := by unfold byP; rw [if_neg (by omega), if_neg (by omega)]
  rw [e]
  exact gbytes_o op w ⟨h1, h2, h3, h4, h5, h6⟩
/-- The offset. -/
def ofP (R : List Int) (a : Int) (i : Is.Ins) : Int := if i.form = 1 then i.imm else (opdP R a i).1
theorem opdP_range {R : List Int} (a : Int) (i : Is.Ins) (hi : IR i) : 0 ≤ (opdP R a i).1 := by
  unfold opdP
  split
  · exact Int.natCast_nonneg _
  split
  · exact Int.natCast_nonneg _
  · exact Int.natCast_nonneg _
set_option maxRecDepth 100000 in
theorem goffset (w : World) (b : Nat) (R : List Int) (ln : Bool) (bus : Value) (i : Is.Ins) (t : Tk) (h : DB w b R ln bus i t) (hi : IR i) :
    Calls Tryz.prog 109 #[.pointer (some ⟨b, 0, none⟩)] w fun e w' => e = .returned (.int .u32 (ofP R t.at_ i)) ∧ Below w.heap.size w w' := by
  have c35 : w.cell? ⟨b, 35, none⟩ = some (.int .i64 i.form) := DB.ins h 3 _ rfl
  have c41 : w.cell? ⟨b, 41, none⟩ = some (.int .u32 i.imm) := DB.ins h 9 _ rfl
  have HO : Hid (Calls Tryz.prog 81 #[.pointer (some ⟨b, 0, none⟩)] w fun e w' => e = .returned (.tuple #[.int .u32 (opdP R t.at_ i).1, .bool (opdP R t.at_ i).2]) ∧ Below w.heap.size w w') := goperand w b R ln bus i t h hi
  unfold ofP
  generalize (opdP R t.at_ i).1 = V at *
  generalize (opdP R t.at_ i).2 = B at *
  clear h hi
  by_cases hf : i.form = 1
  · rw [if_pos hf]
    rw [hf] at c35
    clear HO hf
    go_enter Tryz.func109, Tryz.ntmps109
    go_wp2
    exact bodyPost_ret (v := .int .u32 i.imm) (by simp [results, Tryz.results109, go_sem]) rfl ⟨rfl, Below.refl _ _⟩
  · rw [if_neg hf]
    have b1 : (i.form == 1) = false := beq_eq_false_iff_ne.2 hf
    clear hf
    go_enter Tryz.func109, Tryz.ntmps109
    go_wp2_with (first | (go_at_call 81; refine HO.out.mono ?_; rintro e w1 ⟨rfl, hb⟩))
    exact bodyPost_ret (v := .int .u32 V) (by simp [results, Tryz.results109, go_sem]) rfl ⟨rfl, hb⟩
end Go.Proofs.YtilhceajhlaojaaGreatDoor
