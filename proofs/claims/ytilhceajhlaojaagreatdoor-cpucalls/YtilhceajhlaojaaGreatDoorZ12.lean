import Derived.Test.YtilhceajhlaojaaGreatDoorZ11
import Derived.Test.YtilhceajhlaojaaGreatDoorZ10
namespace Go.Proofs.YtilhceajhlaojaaGreatDoor
open Go.RowKit
set_option linter.unusedVariables false
set_option linter.unusedSimpArgs false
/-- Rn taken along. -/
def mvP (R : List Int) (i : Is.Ins) (v : Int) : List Int := if !i.pre || i.write then stR R i.rn v else R
set_option maxRecDepth 100000 in
theorem gmove_at (w : World) (b : Nat) (R : List Int) (ln : Bool) (bus : Value) (i : Is.Ins) (t : Tk) (v : Int) (h : DB w b R ln bus i t) (hi : IR i) (hv : 0 ≤ v ∧ v < 4294967296) (p wr : Bool) (hp : i.pre = p) (hw : i.write = wr) :
    Calls Tryz.prog 92 #[.pointer (some ⟨b, 0, none⟩), .int .u32 v] w fun e w' => e = .returned (.tuple #[]) ∧ TA b w w' ∧ DB w' b (if !p || wr then stR R i.rn v else R) ln bus i t := by
  have c44 : w.cell? ⟨b, 44, none⟩ = some (.bool i.pre) := DB.ins h 12 _ rfl
  have c46 : w.cell? ⟨b, 46, none⟩ = some (.bool i.write) := DB.ins h 14 _ rfl
  have c37 : w.cell? ⟨b, 37, none⟩ = some (.int .i64 i.rn) := DB.ins h 5 _ rfl
  have HS : Hid (∀ u, DB u b R ln bus i t → Calls Tryz.prog 39 #[.pointer (some ⟨b, 0, none⟩), .int .i64 i.rn, .int .u32 v] u fun e w' => e = .returned (.tuple #[]) ∧ TA b u w' ∧ DB w' b (stR R i.rn v) ln bus i t) := fun u hu => gset u b 124 R _ i.rn v hu hi.rn hv
  have HK : Hid (∀ u, DB u b (stR R i.rn v) ln bus i t → u.cell? ⟨b, 37, none⟩ = some (.int .i64 i.rn)) := fun u hu => DB.ins hu 5 _ rfl
  have HU := hidW h.drew
  have HU0 := hidW h
  rw [hp] at c44
  rw [hw] at c46
  clear h hi hv hp hw
  have d37 : w.drew.cell? ⟨b, 37, none⟩ = some (.int .i64 i.rn) := c37
  generalize i.rn = n at *
  generalize stR R n v = R' at *
  cases p
  · go_enter Tryz.func92, Tryz.ntmps92
    go_wp2
    go_region_held3 (fun u => u.cell? ⟨b, 37, none⟩ = some (.int .i64 n)) (first | exact d37 | exact HK.out _ HZ.out) ((first | (go_at_call 39; refine (HS.out _ HU.out).mono ?_; rintro e w1 ⟨rfl, ht, hz⟩; have HT := hidW ht; have HZ := hidW hz; clear ht hz)))
    go_wp2_with fail
    exact bodyPost_end (v := .tuple #[]) (by simp [results, Tryz.results92, go_sem]) rfl ⟨rfl, (Turn.below (below_drew (Below.refl _ _))).then HT.out, HZ.out⟩
  · cases wr
    · go_enter Tryz.func92, Tryz.ntmps92
      go_wp2
      exact bodyPost_end (v := .tuple #[]) (by simp [results, Tryz.results92, go_sem]) rfl ⟨rfl, Turn.refl _ _, HU0.out⟩
    · go_enter Tryz.func92, Tryz.ntmps92
      go_wp2
      go_region_held3 (fun u => u.cell? ⟨b, 37, none⟩ = some (.int .i64 n)) (first | exact d37 | exact HK.out _ HZ.out) ((first | (go_at_call 39; refine (HS.out _ HU.out).mono ?_; rintro e w1 ⟨rfl, ht, hz⟩; have HT := hidW ht; have HZ := hidW hz; clear ht hz)))
      go_wp2_with fail
      exact bodyPost_end (v := .tuple #[]) (by simp [results, Tryz.results92, go_sem]) rfl ⟨rfl, (Turn.below (below_drew (Below.refl _ _))).then HT.out, HZ.out⟩
theorem gmove (w : World) (b : Nat) (R : List Int) (ln : Bool) (bus : Value) (i : Is.Ins) (t : Tk) (v : Int) (h : DB w b R ln bus i t) (hi : IR i) (hv : 0 ≤ v ∧ v < 4294967296) :
    Calls Tryz.prog 92 #[.pointer (some ⟨b, 0, none⟩), .int .u32 v] w fun e w' => e = .returned (.tuple #[]) ∧ TA b w w' ∧ DB w' b (mvP R i v) ln bus i t := gmove_at w b R ln bus i t v h hi hv _ _ rfl rfl
/-- The addresses. -/
def adP (R : List Int) (a : Int) (i : Is.Ins) : Int × Int :=
  let y := if i.up then (vlR R a i.rn + ofP R a i) % 4294967296 else (vlR R a i.rn - ofP R a i) % 4294967296
  if i.pre then (y, y) else (vlR R a i.rn, y)
set_option maxRecDepth 100000 in
set_option maxHeartbeats 1000000 in
theorem gaddr_at (w : World) (b : Nat) (R : List Int) (ln : Bool) (bus : Value) (i : Is.Ins) (t : Tk) (h : DB w b R ln bus i t) (hi : IR i) (p u : Bool) (hp : i.pre = p) (hu : i.up = u) (X Y : Int) (hXX : (if u then (vlR R t.at_ i.rn + ofP R t.at_ i) % 4294967296 else (vlR R t.at_ i.rn - ofP R t.at_ i) % 4294967296) = Y) (hY : (if p then Y else vlR R t.at_ i.rn) = X) :
    Calls Tryz.prog 89 #[.pointer (some ⟨b, 0, none⟩)] w fun e w' => e = .returned (.tuple #[.int .u32 X, .int .u32 Y]) ∧ Below w.heap.size w w' := by
  have HV : Hid (∀ v, DB v b R ln bus i t → Calls Tryz.prog 83 #[.pointer (some ⟨b, 0, none⟩), .int .i64 i.rn] v fun e w' => e = .returned (.int .u32 (vlR R t.at_ i.rn)) ∧ Below v.heap.size v w') := fun v h => gvalue v b R ln bus i t _ h hi.rn
  have HF : Hid (∀ v, DB v b R ln bus i t → Calls Tryz.prog 109 #[.pointer (some ⟨b, 0, none⟩)] v fun e w' => e = .returned (.int .u32 (ofP R t.at_ i)) ∧ Below v.heap.size v w') := fun v h => goffset v b R ln bus i t h hi
  have HU := hidW h.drew
  have HB : Hid (Below w.heap.size w w.drew) := below_drew (Below.refl _ _)
  have hbw : b < w.heap.size := h.bl.lt
  have HS : Hid (∀ v q L, Below w.heap.size w v → DB v b R ln bus i t → Bl v q 35 L → L.length = 20 → w.heap.size ≤ q → OX w (v.setCells q 0 (Is.insL i)) q b R ln bus i t) := fun v q L hb h hq hL hW => OX.put hb h L hq hL hW hbw
  have HR : Hid (∀ v, DB v b R ln bus i t → v.rangeAt b 32 (Is.insL i) ∧ v.cell? ⟨b, 37, none⟩ = some (.int .i64 i.rn)) := fun v h => ⟨DB.ins h, DB.ins h 5 _ rfl⟩
  have HC : Hid (∀ v q, OX w v q b R ln bus i t → _) := fun v q h => bl_cells h.box
  have HI : Hid ((Tryz.prog.info? 35).map (·.size) = some (Is.insL i).length) := ins_info
  have HJ : Hid ((Tryz.prog.info? 35).map (·.size) = some (Is.insL i).toArray.size) := ins_info
  have HO : Hid ((Is.insL i).toArray.all (·.oneCell') = true) := ins_one i
  have HT : Hid (∀ (v : World) (q : Nat) (L : List Value), Bl v q 35 L → L.length = 20 → v.there q 0 (Is.insL i).toArray.size) := fun v q L h hL => h.there _ (by rw [hL]; rfl)
  have ea : IntKind.u32.wrap (vlR R t.at_ i.rn + ofP R t.at_ i) = (vlR R t.at_ i.rn + ofP R t.at_ i) % 4294967296 := by rw [IntKind.wrap_u32']
  have es : IntKind.u32.wrap (vlR R t.at_ i.rn - ofP R t.at_ i) = (vlR R t.at_ i.rn - ofP R t.at_ i) % 4294967296 := by rw [IntKind.wrap_u32']
  generalize Is.insL i = IL at *
  generalize vlR R t.at_ i.rn = base at *
  generalize ofP R t.at_ i = off at *
  generalize (base + off) % 4294967296 = ya at *
  generalize (base - off) % 4294967296 = ys at *
  clear h
  go_enter Tryz.func89, Tryz.ntmps89
  go_wp2
  go_cut [4, 5, 6] from 8 (fun s4 s5 s6 wx => ∃ q, s4 = .pointer (some ⟨q, 0, none⟩) ∧ s5 = .int .u32 base ∧ s6 = .int .u32 off ∧ OX w wx q b R ln bus i t)
  case first =>
    refine wp_region_held_drew (S := fun v => v.rangeAt b 32 IL ∧ v.cell? ⟨b, 37, none⟩ = some (.int .i64 i.rn)) (by kernel_rfl) (HR.out _ HU.out) (fun hHeld => ?_)
    clear hHeld
    generalize w.drew = w1 at HU HB ⊢
    have K2 := hidW (HR.out _ HU.out)
    refine wpAnyH_take (i := 0) (oi := { dst := some 8, op := Op.move (Operand.tmp 0), type := 122, pos := _, after := #[], guard := none }) (v := ?_) rfl (by kernel_rfl) (by kernel_rfl) (by kernel_rfl) (fun _ _ _ h => h) (Or.inl ⟨by rfl, ?_⟩) (by assumption) ?_
    rotate_left
    · (intro w hSw; (try dsimp only at hSw); go_simp; try with_reducible rfl)
    simp only [Act.put, List.setIfInBounds_toArray, List.set_cons_zero, List.set_cons_succ]
    refine wpAnyH_take (i := 1) (oi := { dst := some 9, op := Op.nilCheck (Operand.tmp 8), type := 0, pos := _, after := #[{ on := 0, ground := Ground.data }], guard := none }) (v := ?_) rfl (by kernel_rfl) (by kernel_rfl) (by kernel_rfl) (fun _ _ _ h => h) (Or.inl ⟨by rfl, ?_⟩) (by assumption) ?_
    rotate_left
    · (intro w hSw; (try dsimp only at hSw); go_simp; try with_reducible rfl)
    simp only [Act.put, List.setIfInBounds_toArray, List.set_cons_zero, List.set_cons_succ]
    refine wpAnyH_take (i := 2) (oi := { dst := some 10, op := Op.fieldAddr 124 (Operand.tmp 9) 3, type := 0, pos := _, after := #[{ on := 1, ground := Ground.data }], guard := none }) (v := ?_) rfl (by kernel_rfl) (by kernel_rfl) (by kernel_rfl) (fun _ _ _ h => h) (Or.inl ⟨by rfl, ?_⟩) (by assumption) ?_
    rotate_left
    · (intro w hSw; (try dsimp only at hSw); go_simp; try with_reducible rfl)
    simp only [Act.put, List.setIfInBounds_toArray, List.set_cons_zero, List.set_cons_succ]
    refine wpAnyH_take (i := 3) (oi := { dst := some 11, op := Op.load 35 (Operand.tmp 10), type := 35, pos := _, after := #[{ on := 2, ground := Ground.data }], guard := none }) (v := _) rfl (by kernel_rfl) (by kernel_rfl) (by kernel_rfl) (fun _ _ _ h => h) (yieldsIf_load_mid (by rfl) _ _ rfl b 32 rfl _ _ (fun _ h => h.1) Tryz.underlying35 rfl HI.out) (by assumption) ?_
    simp only [Act.put, List.setIfInBounds_toArray, List.set_cons_zero, List.set_cons_succ]
    refine wpAnyH_take (i := 4) (oi := { dst := some 12, op := Op.move (Operand.tmp 0), type := 122, pos := _, after := #[], guard := none }) (v := ?_) rfl (by kernel_rfl) (by kernel_rfl) (by kernel_rfl) (fun _ _ _ h => h) (Or.inl ⟨by rfl, ?_⟩) (by assumption) ?_
    rotate_left
    · (intro w hSw; (try dsimp only at hSw); go_simp; try with_reducible rfl)
    simp only [Act.put, List.setIfInBounds_toArray, List.set_cons_zero, List.set_cons_succ]
    refine wpAnyH_take (i := 5) (oi := { dst := some 13, op := Op.move (Operand.tmp 0), type := 122, pos := _, after := #[], guard := none }) (v := ?_) rfl (by kernel_rfl) (by kernel_rfl) (by kernel_rfl) (fun _ _ _ h => h) (Or.inl ⟨by rfl, ?_⟩) (by assumption) ?_
    rotate_left
    · (intro w hSw; (try dsimp only at hSw); go_simp; try with_reducible rfl)
    simp only [Act.put, List.setIfInBounds_toArray, List.set_cons_zero, List.set_cons_succ]
    refine wpAnyH_take (i := 6) (oi := { dst := some 14, op := Op.nilCheck (Operand.tmp 13), type := 0, pos := _, after := #[{ on := 5, ground := Ground.data }], guard := none }) (v := ?_) rfl (by kernel_rfl) (by kernel_rfl) (by kernel_rfl) (fun _ _ _ h => h) (Or.inl ⟨by rfl, ?_⟩) (by assumption) ?_
    rotate_left
    · (intro w hSw; (try dsimp only at hSw); go_simp; try with_reducible rfl)
    simp only [Act.put, List.setIfInBounds_toArray, List.set_cons_zero, List.set_cons_succ]
    refine wpAnyH_take (i := 7) (oi := { dst := some 15, op := Op.fieldAddr 124 (Operand.tmp 14) 3, type := 0, pos := _, after := #[{ on := 6, ground := Ground.data }], guard := none }) (v := ?_) rfl (by kernel_rfl) (by kernel_rfl) (by kernel_rfl) (fun _ _ _ h => h) (Or.inl ⟨by rfl, ?_⟩) (by assumption) ?_
    rotate_left
    · (intro w hSw; (try dsimp only at hSw); go_simp; try with_reducible rfl)
    simp only [Act.put, List.setIfInBounds_toArray, List.set_cons_zero, List.set_cons_succ]
    refine wpAnyH_take (i := 8) (oi := { dst := some 16, op := Op.fieldAddr 35 (Operand.tmp 15) 5, type := 0, pos := _, after := #[{ on := 7, ground := Ground.data }], guard := none }) (v := ?_) rfl (by kernel_rfl) (by kernel_rfl) (by kernel_rfl) (fun _ _ _ h => h) (Or.inl ⟨by rfl, ?_⟩) (by assumption) ?_
    rotate_left
    · (intro w hSw; (try dsimp only at hSw); go_simp; try with_reducible rfl)
    simp only [Act.put, List.setIfInBounds_toArray, List.set_cons_zero, List.set_cons_succ]
    refine wpAnyH_take (i := 9) (oi := { dst := some 17, op := Op.load 3 (Operand.tmp 16), type := 3, pos := _, after := #[{ on := 8, ground := Ground.data }], guard := none }) (v := ?_) rfl (by kernel_rfl) (by kernel_rfl) (by kernel_rfl) (fun _ _ _ h => h) (Or.inl ⟨by rfl, ?_⟩) (by assumption) ?_
    rotate_left
    · (intro w hSw; (try dsimp only at hSw); go_simp; try with_reducible rfl)
    simp only [Act.put, List.setIfInBounds_toArray, List.set_cons_zero, List.set_cons_succ]
    refine wpAnyH_take (i := 11) (oi := { dst := some 19, op := Op.move (Operand.tmp 0), type := 122, pos := _, after := #[], guard := none }) (v := ?_) rfl (by kernel_rfl) (by kernel_rfl) (by kernel_rfl) (fun _ _ _ h => h) (Or.inl ⟨by rfl, ?_⟩) (by assumption) ?_
    rotate_left
    · (intro w hSw; (try dsimp only at hSw); go_simp; try with_reducible rfl)
    simp only [Act.put, List.setIfInBounds_toArray, List.set_cons_zero, List.set_cons_succ]
    refine wpAnyH_ready (rs := [10, 13]) (by kernel_rfl) (by simp) ?_
    refine (AllReadyH.cons (o := { dst := some 18, op := Op.call { callee := Callee.value (Operand.func 83), args := #[Operand.tmp 12, Operand.tmp 17], argTypes := #[122, 3] }, type := 22, pos := _, after := #[{ on := 4, ground := Ground.data }, { on := 9, ground := Ground.data }], guard := none }) rfl (fun K hK => ?_) (AllReadyH.cons (o := { dst := some 4, op := Op.alloc 35, type := 0, pos := _, after := #[], guard := none }) rfl (fun K hK => ?_) AllReadyH.nil))
    · go_simp
      go_at_call 83; refine (HV.out _ HU.out).mono ?_; rintro e w2 ⟨rfl, hb⟩; have HU := hidW (RB.below HU.out hb); have HB := hidW (Below.step HB.out hb); have K2 := hidW (HR.out _ HU.out); (try have HQ := hidW (Bl.below HQ.out hb)); clear hb
      refine hK.out _ _ ?_ (fun hHeld => ?_)
      · exact K2.out
      clear hK K
      try simp only [Act.put, List.setIfInBounds_toArray, List.set_cons_zero, List.set_cons_succ]
      refine wpAnyH_ready (rs := [12, 13]) (by kernel_rfl) (by simp) ?_
      refine (AllReadyH.cons (o := { dst := some 20, op := Op.call { callee := Callee.value (Operand.func 109), args := #[Operand.tmp 19], argTypes := #[122] }, type := 22, pos := _, after := #[{ on := 11, ground := Ground.data }, { on := 10, ground := Ground.chain }], guard := none }) rfl (fun K hK => ?_) (AllReadyH.cons (o := { dst := some 4, op := Op.alloc 35, type := 0, pos := _, after := #[], guard := none }) rfl (fun K hK => ?_) AllReadyH.nil))
      · go_simp
        go_at_call 109; refine (HF.out _ HU.out).mono ?_; rintro e w3 ⟨rfl, hb⟩; have HU := hidW (RB.below HU.out hb); have HB := hidW (Below.step HB.out hb); have K2 := hidW (HR.out _ HU.out); (try have HQ := hidW (Bl.below HQ.out hb)); clear hb
        refine hK.out _ _ ?_ (fun hHeld => ?_)
        · exact K2.out
        clear hK K
        try simp only [Act.put, List.setIfInBounds_toArray, List.set_cons_zero, List.set_cons_succ]
        refine wpAnyH_ready (rs := [13]) (by kernel_rfl) (by simp) ?_
        refine (AllReadyH.cons (o := { dst := some 4, op := Op.alloc 35, type := 0, pos := _, after := #[], guard := none }) rfl (fun K hK => ?_) AllReadyH.nil)
        go_simp
        (first | (generalize hq : w3.alloc _ = wa; have e3 : w3.alloc (.cells (Is.insL Is.insZ).toArray 35) = wa := hq; have HQ := hidW (Bl.new w3 35 (Is.insL Is.insZ)); have hbn := below_new w3 (.cells (Is.insL Is.insZ).toArray 35); have HU := hidW (RB.below HU.out hbn); have HZ : Hid (w.heap.size ≤ w3.heap.size) := HB.out.size; have HB := hidW (Below.step HB.out hbn); rw [e3] at HQ HB HU; clear hbn e3 hq; generalize w3.heap.size = q at HQ HZ ⊢; have K2 := hidW (HR.out _ HU.out)) | (generalize hq : w2.alloc _ = wa; have e3 : w2.alloc (.cells (Is.insL Is.insZ).toArray 35) = wa := hq; have HQ := hidW (Bl.new w2 35 (Is.insL Is.insZ)); have hbn := below_new w2 (.cells (Is.insL Is.insZ).toArray 35); have HU := hidW (RB.below HU.out hbn); have HZ : Hid (w.heap.size ≤ w2.heap.size) := HB.out.size; have HB := hidW (Below.step HB.out hbn); rw [e3] at HQ HB HU; clear hbn e3 hq; generalize w2.heap.size = q at HQ HZ ⊢; have K2 := hidW (HR.out _ HU.out)) | (generalize hq : w1.alloc _ = wa; have e3 : w1.alloc (.cells (Is.insL Is.insZ).toArray 35) = wa := hq; have HQ := hidW (Bl.new w1 35 (Is.insL Is.insZ)); have hbn := below_new w1 (.cells (Is.insL Is.insZ).toArray 35); have HU := hidW (RB.below HU.out hbn); have HZ : Hid (w.heap.size ≤ w1.heap.size) := HB.out.size; have HB := hidW (Below.step HB.out hbn); rw [e3] at HQ HB HU; clear hbn e3 hq; generalize w1.heap.size = q at HQ HZ ⊢; have K2 := hidW (HR.out _ HU.out))); refine hK.out _ _ ?_ (fun hHeld => ?_); (focus exact K2.out)
        clear hK K
        try simp only [Act.put, List.setIfInBounds_toArray, List.set_cons_zero, List.set_cons_succ]
        refine wpAnyH_ready (rs := [14]) (by kernel_rfl) (by simp) ?_
        refine (AllReadyH.cons (o := { dst := none, op := Op.store 35 (Operand.tmp 4) (Operand.tmp 11), type := 0, pos := _, after := #[{ on := 13, ground := Ground.data }, { on := 3, ground := Ground.data }, { on := 12, ground := Ground.chain }, { on := 0, ground := Ground.phase }, { on := 1, ground := Ground.phase }, { on := 2, ground := Ground.phase }, { on := 3, ground := Ground.phase }, { on := 4, ground := Ground.textOnly Departure.lateStores }, { on := 5, ground := Ground.textOnly Departure.lateStores }, { on := 6, ground := Ground.textOnly Departure.lateStores }, { on := 7, ground := Ground.textOnly Departure.lateStores }, { on := 8, ground := Ground.textOnly Departure.lateStores }, { on := 9, ground := Ground.textOnly Departure.lateStores }, { on := 10, ground := Ground.textOnly Departure.lateStoresUnsure }, { on := 11, ground := Ground.textOnly Departure.lateStores }, { on := 12, ground := Ground.textOnly Departure.lateStoresUnsure }, { on := 13, ground := Ground.phase }], guard := none }) rfl (fun K hK => ?_) AllReadyH.nil)
        (rw [if_pos (by kernel_rfl)]; refine wp_store_mid _ _ _ rfl _ 0 _ rfl rfl (HT.out _ _ _ HQ.out rfl) HJ.out HO.out ?_; have HX := hidW (HS.out _ _ _ HB.out HU.out HQ.out rfl HZ.out); generalize World.setCells _ _ _ _ = w4 at HX ⊢; refine hK.out _ _ (HR.out _ HX.out.db) (fun hHeld => ?_))
        clear hK K
        try simp only [Act.put, List.setIfInBounds_toArray, List.set_cons_zero, List.set_cons_succ]
        refine wpAnyH_take (i := 15) (oi := { dst := some 5, op := Op.assign (Operand.tmp 18), type := 22, pos := _, after := #[{ on := 10, ground := Ground.data }, { on := 14, ground := Ground.chain }, { on := 0, ground := Ground.phase }, { on := 1, ground := Ground.phase }, { on := 2, ground := Ground.phase }, { on := 3, ground := Ground.phase }, { on := 4, ground := Ground.phase }, { on := 5, ground := Ground.phase }, { on := 6, ground := Ground.phase }, { on := 7, ground := Ground.phase }, { on := 8, ground := Ground.phase }, { on := 9, ground := Ground.phase }, { on := 10, ground := Ground.phase }, { on := 11, ground := Ground.textOnly Departure.lateStores }, { on := 12, ground := Ground.textOnly Departure.lateStoresUnsure }, { on := 13, ground := Ground.phase }, { on := 14, ground := Ground.phase }], guard := none }) (v := ?_) rfl (by kernel_rfl) (by kernel_rfl) (by kernel_rfl) (fun _ _ _ h => h) (Or.inl ⟨by rfl, ?_⟩) (by assumption) ?_
        rotate_left
        · (intro w hSw; (try dsimp only at hSw); go_simp; try with_reducible rfl)
        simp only [Act.put, List.setIfInBounds_toArray, List.set_cons_zero, List.set_cons_succ]
        refine wpAnyH_take (i := 16) (oi := { dst := some 6, op := Op.assign (Operand.tmp 20), type := 22, pos := _, after := #[{ on := 12, ground := Ground.data }, { on := 15, ground := Ground.chain }, { on := 0, ground := Ground.phase }, { on := 1, ground := Ground.phase }, { on := 2, ground := Ground.phase }, { on := 3, ground := Ground.phase }, { on := 4, ground := Ground.phase }, { on := 5, ground := Ground.phase }, { on := 6, ground := Ground.phase }, { on := 7, ground := Ground.phase }, { on := 8, ground := Ground.phase }, { on := 9, ground := Ground.phase }, { on := 10, ground := Ground.phase }, { on := 11, ground := Ground.phase }, { on := 12, ground := Ground.phase }, { on := 13, ground := Ground.phase }, { on := 14, ground := Ground.phase }, { on := 15, ground := Ground.phase }], guard := none }) (v := ?_) rfl (by kernel_rfl) (by kernel_rfl) (by kernel_rfl) (fun _ _ _ h => h) (Or.inl ⟨by rfl, ?_⟩) (by assumption) ?_
        rotate_left
        · (intro w hSw; (try dsimp only at hSw); go_simp; try with_reducible rfl)
        simp only [Act.put, List.setIfInBounds_toArray, List.set_cons_zero, List.set_cons_succ]
        refine wpAnyH_done (by kernel_rfl) ?_ _
        (go_wp2_with fail); go_meet; exact ⟨_, rfl, rfl, rfl, HX.out⟩
      · go_simp
        (first | (generalize hq : w3.alloc _ = wa; have e3 : w3.alloc (.cells (Is.insL Is.insZ).toArray 35) = wa := hq; have HQ := hidW (Bl.new w3 35 (Is.insL Is.insZ)); have hbn := below_new w3 (.cells (Is.insL Is.insZ).toArray 35); have HU := hidW (RB.below HU.out hbn); have HZ : Hid (w.heap.size ≤ w3.heap.size) := HB.out.size; have HB := hidW (Below.step HB.out hbn); rw [e3] at HQ HB HU; clear hbn e3 hq; generalize w3.heap.size = q at HQ HZ ⊢; have K2 := hidW (HR.out _ HU.out)) | (generalize hq : w2.alloc _ = wa; have e3 : w2.alloc (.cells (Is.insL Is.insZ).toArray 35) = wa := hq; have HQ := hidW (Bl.new w2 35 (Is.insL Is.insZ)); have hbn := below_new w2 (.cells (Is.insL Is.insZ).toArray 35); have HU := hidW (RB.below HU.out hbn); have HZ : Hid (w.heap.size ≤ w2.heap.size) := HB.out.size; have HB := hidW (Below.step HB.out hbn); rw [e3] at HQ HB HU; clear hbn e3 hq; generalize w2.heap.size = q at HQ HZ ⊢; have K2 := hidW (HR.out _ HU.out)) | (generalize hq : w1.alloc _ = wa; have e3 : w1.alloc (.cells (Is.insL Is.insZ).toArray 35) = wa := hq; have HQ := hidW (Bl.new w1 35 (Is.insL Is.insZ)); have hbn := below_new w1 (.cells (Is.insL Is.insZ).toArray 35); have HU := hidW (RB.below HU.out hbn); have HZ : Hid (w.heap.size ≤ w1.heap.size) := HB.out.size; have HB := hidW (Below.step HB.out hbn); rw [e3] at HQ HB HU; clear hbn e3 hq; generalize w1.heap.size = q at HQ HZ ⊢; have K2 := hidW (HR.out _ HU.out))); refine hK.out _ _ ?_ (fun hHeld => ?_); (focus exact K2.out)
        clear hK K
        try simp only [Act.put, List.setIfInBounds_toArray, List.set_cons_zero, List.set_cons_succ]
        refine wpAnyH_ready (rs := [12]) (by kernel_rfl) (by simp) ?_
        refine (AllReadyH.cons (o := { dst := some 20, op := Op.call { callee := Callee.value (Operand.func 109), args := #[Operand.tmp 19], argTypes := #[122] }, type := 22, pos := _, after := #[{ on := 11, ground := Ground.data }, { on := 10, ground := Ground.chain }], guard := none }) rfl (fun K hK => ?_) AllReadyH.nil)
        go_simp
        go_at_call 109; refine (HF.out _ HU.out).mono ?_; rintro e w3 ⟨rfl, hb⟩; have HU := hidW (RB.below HU.out hb); have HB := hidW (Below.step HB.out hb); have K2 := hidW (HR.out _ HU.out); (try have HQ := hidW (Bl.below HQ.out hb)); clear hb
        refine hK.out _ _ ?_ (fun hHeld => ?_)
        · exact K2.out
        clear hK K
        try simp only [Act.put, List.setIfInBounds_toArray, List.set_cons_zero, List.set_cons_succ]
        refine wpAnyH_ready (rs := [14]) (by kernel_rfl) (by simp) ?_
        refine (AllReadyH.cons (o := { dst := none, op := Op.store 35 (Operand.tmp 4) (Operand.tmp 11), type := 0, pos := _, after := #[{ on := 13, ground := Ground.data }, { on := 3, ground := Ground.data }, { on := 12, ground := Ground.chain }, { on := 0, ground := Ground.phase }, { on := 1, ground := Ground.phase }, { on := 2, ground := Ground.phase }, { on := 3, ground := Ground.phase }, { on := 4, ground := Ground.textOnly Departure.lateStores }, { on := 5, ground := Ground.textOnly Departure.lateStores }, { on := 6, ground := Ground.textOnly Departure.lateStores }, { on := 7, ground := Ground.textOnly Departure.lateStores }, { on := 8, ground := Ground.textOnly Departure.lateStores }, { on := 9, ground := Ground.textOnly Departure.lateStores }, { on := 10, ground := Ground.textOnly Departure.lateStoresUnsure }, { on := 11, ground := Ground.textOnly Departure.lateStores }, { on := 12, ground := Ground.textOnly Departure.lateStoresUnsure }, { on := 13, ground := Ground.phase }], guard := none }) rfl (fun K hK => ?_) AllReadyH.nil)
        (rw [if_pos (by kernel_rfl)]; refine wp_store_mid _ _ _ rfl _ 0 _ rfl rfl (HT.out _ _ _ HQ.out rfl) HJ.out HO.out ?_; have HX := hidW (HS.out _ _ _ HB.out HU.out HQ.out rfl HZ.out); generalize World.setCells _ _ _ _ = w4 at HX ⊢; refine hK.out _ _ (HR.out _ HX.out.db) (fun hHeld => ?_))
        clear hK K
        try simp only [Act.put, List.setIfInBounds_toArray, List.set_cons_zero, List.set_cons_succ]
        refine wpAnyH_take (i := 15) (oi := { dst := some 5, op := Op.assign (Operand.tmp 18), type := 22, pos := _, after := #[{ on := 10, ground := Ground.data }, { on := 14, ground := Ground.chain }, { on := 0, ground := Ground.phase }, { on := 1, ground := Ground.phase }, { on := 2, ground := Ground.phase }, { on := 3, ground := Ground.phase }, { on := 4, ground := Ground.phase }, { on := 5, ground := Ground.phase }, { on := 6, ground := Ground.phase }, { on := 7, ground := Ground.phase }, { on := 8, ground := Ground.phase }, { on := 9, ground := Ground.phase }, { on := 10, ground := Ground.phase }, { on := 11, ground := Ground.textOnly Departure.lateStores }, { on := 12, ground := Ground.textOnly Departure.lateStoresUnsure }, { on := 13, ground := Ground.phase }, { on := 14, ground := Ground.phase }], guard := none }) (v := ?_) rfl (by kernel_rfl) (by kernel_rfl) (by kernel_rfl) (fun _ _ _ h => h) (Or.inl ⟨by rfl, ?_⟩) (by assumption) ?_
        rotate_left
        · (intro w hSw; (try dsimp only at hSw); go_simp; try with_reducible rfl)
        simp only [Act.put, List.setIfInBounds_toArray, List.set_cons_zero, List.set_cons_succ]
        refine wpAnyH_take (i := 16) (oi := { dst := some 6, op := Op.assign (Operand.tmp 20), type := 22, pos := _, after := #[{ on := 12, ground := Ground.data }, { on := 15, ground := Ground.chain }, { on := 0, ground := Ground.phase }, { on := 1, ground := Ground.phase }, { on := 2, ground := Ground.phase }, { on := 3, ground := Ground.phase }, { on := 4, ground := Ground.phase }, { on := 5, ground := Ground.phase }, { on := 6, ground := Ground.phase }, { on := 7, ground := Ground.phase }, { on := 8, ground := Ground.phase }, { on := 9, ground := Ground.phase }, { on := 10, ground := Ground.phase }, { on := 11, ground := Ground.phase }, { on := 12, ground := Ground.phase }, { on := 13, ground := Ground.phase }, { on := 14, ground := Ground.phase }, { on := 15, ground := Ground.phase }], guard := none }) (v := ?_) rfl (by kernel_rfl) (by kernel_rfl) (by kernel_rfl) (fun _ _ _ h => h) (Or.inl ⟨by rfl, ?_⟩) (by assumption) ?_
        rotate_left
        · (intro w hSw; (try dsimp only at hSw); go_simp; try with_reducible rfl)
        simp only [Act.put, List.setIfInBounds_toArray, List.set_cons_zero, List.set_cons_succ]
        refine wpAnyH_done (by kernel_rfl) ?_ _
        (go_wp2_with fail); go_meet; exact ⟨_, rfl, rfl, rfl, HX.out⟩
    · go_simp
      (first | (generalize hq : w3.alloc _ = wa; have e3 : w3.alloc (.cells (Is.insL Is.insZ).toArray 35) = wa := hq; have HQ := hidW (Bl.new w3 35 (Is.insL Is.insZ)); have hbn := below_new w3 (.cells (Is.insL Is.insZ).toArray 35); have HU := hidW (RB.below HU.out hbn); have HZ : Hid (w.heap.size ≤ w3.heap.size) := HB.out.size; have HB := hidW (Below.step HB.out hbn); rw [e3] at HQ HB HU; clear hbn e3 hq; generalize w3.heap.size = q at HQ HZ ⊢; have K2 := hidW (HR.out _ HU.out)) | (generalize hq : w2.alloc _ = wa; have e3 : w2.alloc (.cells (Is.insL Is.insZ).toArray 35) = wa := hq; have HQ := hidW (Bl.new w2 35 (Is.insL Is.insZ)); have hbn := below_new w2 (.cells (Is.insL Is.insZ).toArray 35); have HU := hidW (RB.below HU.out hbn); have HZ : Hid (w.heap.size ≤ w2.heap.size) := HB.out.size; have HB := hidW (Below.step HB.out hbn); rw [e3] at HQ HB HU; clear hbn e3 hq; generalize w2.heap.size = q at HQ HZ ⊢; have K2 := hidW (HR.out _ HU.out)) | (generalize hq : w1.alloc _ = wa; have e3 : w1.alloc (.cells (Is.insL Is.insZ).toArray 35) = wa := hq; have HQ := hidW (Bl.new w1 35 (Is.insL Is.insZ)); have hbn := below_new w1 (.cells (Is.insL Is.insZ).toArray 35); have HU := hidW (RB.below HU.out hbn); have HZ : Hid (w.heap.size ≤ w1.heap.size) := HB.out.size; have HB := hidW (Below.step HB.out hbn); rw [e3] at HQ HB HU; clear hbn e3 hq; generalize w1.heap.size = q at HQ HZ ⊢; have K2 := hidW (HR.out _ HU.out))); refine hK.out _ _ ?_ (fun hHeld => ?_); (focus exact K2.out)
      clear hK K
      try simp only [Act.put, List.setIfInBounds_toArray, List.set_cons_zero, List.set_cons_succ]
      refine wpAnyH_ready (rs := [10]) (by kernel_rfl) (by simp) ?_
      refine (AllReadyH.cons (o := { dst := some 18, op := Op.call { callee := Callee.value (Operand.func 83), args := #[Operand.tmp 12, Operand.tmp 17], argTypes := #[122, 3] }, type := 22, pos := _, after := #[{ on := 4, ground := Ground.data }, { on := 9, ground := Ground.data }], guard := none }) rfl (fun K hK => ?_) AllReadyH.nil)
      go_simp
      go_at_call 83; refine (HV.out _ HU.out).mono ?_; rintro e w2 ⟨rfl, hb⟩; have HU := hidW (RB.below HU.out hb); have HB := hidW (Below.step HB.out hb); have K2 := hidW (HR.out _ HU.out); (try have HQ := hidW (Bl.below HQ.out hb)); clear hb
      refine hK.out _ _ ?_ (fun hHeld => ?_)
      · exact K2.out
      clear hK K
      try simp only [Act.put, List.setIfInBounds_toArray, List.set_cons_zero, List.set_cons_succ]
      refine wpAnyH_ready (rs := [12]) (by kernel_rfl) (by simp) ?_
      refine (AllReadyH.cons (o := { dst := some 20, op := Op.call { callee := Callee.value (Operand.func 109), args := #[Operand.tmp 19], argTypes := #[122] }, type := 22, pos := _, after := #[{ on := 11, ground := Ground.data }, { on := 10, ground := Ground.chain }], guard := none }) rfl (fun K hK => ?_) AllReadyH.nil)
      go_simp
      go_at_call 109; refine (HF.out _ HU.out).mono ?_; rintro e w3 ⟨rfl, hb⟩; have HU := hidW (RB.below HU.out hb); have HB := hidW (Below.step HB.out hb); have K2 := hidW (HR.out _ HU.out); (try have HQ := hidW (Bl.below HQ.out hb)); clear hb
      refine hK.out _ _ ?_ (fun hHeld => ?_)
      · exact K2.out
      clear hK K
      try simp only [Act.put, List.setIfInBounds_toArray, List.set_cons_zero, List.set_cons_succ]
      refine wpAnyH_ready (rs := [14]) (by kernel_rfl) (by simp) ?_
      refine (AllReadyH.cons (o := { dst := none, op := Op.store 35 (Operand.tmp 4) (Operand.tmp 11), type := 0, pos := _, after := #[{ on := 13, ground := Ground.data }, { on := 3, ground := Ground.data }, { on := 12, ground := Ground.chain }, { on := 0, ground := Ground.phase }, { on := 1, ground := Ground.phase }, { on := 2, ground := Ground.phase }, { on := 3, ground := Ground.phase }, { on := 4, ground := Ground.textOnly Departure.lateStores }, { on := 5, ground := Ground.textOnly Departure.lateStores }, { on := 6, ground := Ground.textOnly Departure.lateStores }, { on := 7, ground := Ground.textOnly Departure.lateStores }, { on := 8, ground := Ground.textOnly Departure.lateStores }, { on := 9, ground := Ground.textOnly Departure.lateStores }, { on := 10, ground := Ground.textOnly Departure.lateStoresUnsure }, { on := 11, ground := Ground.textOnly Departure.lateStores }, { on := 12, ground := Ground.textOnly Departure.lateStoresUnsure }, { on := 13, ground := Ground.phase }], guard := none }) rfl (fun K hK => ?_) AllReadyH.nil)
      (rw [if_pos (by kernel_rfl)]; refine wp_store_mid _ _ _ rfl _ 0 _ rfl rfl (HT.out _ _ _ HQ.out rfl) HJ.out HO.out ?_; have HX := hidW (HS.out _ _ _ HB.out HU.out HQ.out rfl HZ.out); generalize World.setCells _ _ _ _ = w4 at HX ⊢; refine hK.out _ _ (HR.out _ HX.out.db) (fun hHeld => ?_))
      clear hK K
      try simp only [Act.put, List.setIfInBounds_toArray, List.set_cons_zero, List.set_cons_succ]
      refine wpAnyH_take (i := 15) (oi := { dst := some 5, op := Op.assign (Operand.tmp 18), type := 22, pos := _, after := #[{ on := 10, ground := Ground.data }, { on := 14, ground := Ground.chain }, { on := 0, ground := Ground.phase }, { on := 1, ground := Ground.phase }, { on := 2, ground := Ground.phase }, { on := 3, ground := Ground.phase }, { on := 4, ground := Ground.phase }, { on := 5, ground := Ground.phase }, { on := 6, ground := Ground.phase }, { on := 7, ground := Ground.phase }, { on := 8, ground := Ground.phase }, { on := 9, ground := Ground.phase }, { on := 10, ground := Ground.phase }, { on := 11, ground := Ground.textOnly Departure.lateStores }, { on := 12, ground := Ground.textOnly Departure.lateStoresUnsure }, { on := 13, ground := Ground.phase }, { on := 14, ground := Ground.phase }], guard := none }) (v := ?_) rfl (by kernel_rfl) (by kernel_rfl) (by kernel_rfl) (fun _ _ _ h => h) (Or.inl ⟨by rfl, ?_⟩) (by assumption) ?_
      rotate_left
      · (intro w hSw; (try dsimp only at hSw); go_simp; try with_reducible rfl)
      simp only [Act.put, List.setIfInBounds_toArray, List.set_cons_zero, List.set_cons_succ]
      refine wpAnyH_take (i := 16) (oi := { dst := some 6, op := Op.assign (Operand.tmp 20), type := 22, pos := _, after := #[{ on := 12, ground := Ground.data }, { on := 15, ground := Ground.chain }, { on := 0, ground := Ground.phase }, { on := 1, ground := Ground.phase }, { on := 2, ground := Ground.phase }, { on := 3, ground := Ground.phase }, { on := 4, ground := Ground.phase }, { on := 5, ground := Ground.phase }, { on := 6, ground := Ground.phase }, { on := 7, ground := Ground.phase }, { on := 8, ground := Ground.phase }, { on := 9, ground := Ground.phase }, { on := 10, ground := Ground.phase }, { on := 11, ground := Ground.phase }, { on := 12, ground := Ground.phase }, { on := 13, ground := Ground.phase }, { on := 14, ground := Ground.phase }, { on := 15, ground := Ground.phase }], guard := none }) (v := ?_) rfl (by kernel_rfl) (by kernel_rfl) (by kernel_rfl) (fun _ _ _ h => h) (Or.inl ⟨by rfl, ?_⟩) (by assumption) ?_
      rotate_left
      · (intro w hSw; (try dsimp only at hSw); go_simp; try with_reducible rfl)
      simp only [Act.put, List.setIfInBounds_toArray, List.set_cons_zero, List.set_cons_succ]
      refine wpAnyH_done (by kernel_rfl) ?_ _
      (go_wp2_with fail); go_meet; exact ⟨_, rfl, rfl, rfl, HX.out⟩
  case rest =>
    obtain ⟨q, rfl, rfl, rfl, hX⟩ := hcut
    have HX := hidW hX
    obtain ⟨⟨c0, c1, c2, c3, c4, c5, c6, c7, c8, c9⟩, c10, c11, c12, c13, c14, c15⟩ := HC.out _ _ hX
    rw [hp] at c12
    rw [hu] at c13
    clear hX HC HR HS HF HT HV HB HU HO HJ HI hi hp hu
    cases p <;> cases u
    · obtain rfl : ys = Y := hXX
      obtain rfl : base = X := hY
      go_wp2
      exact bodyPost_ret (v := .tuple #[.int .u32 base, .int .u32 ys]) (by simp [results, Tryz.results89, go_sem]) rfl ⟨rfl, HX.out.bel⟩
    · obtain rfl : ya = Y := hXX
      obtain rfl : base = X := hY
      go_wp2
      exact bodyPost_ret (v := .tuple #[.int .u32 base, .int .u32 ya]) (by simp [results, Tryz.results89, go_sem]) rfl ⟨rfl, HX.out.bel⟩
    · obtain rfl : ys = Y := hXX
      obtain rfl : ys = X := hY
      go_wp2
      exact bodyPost_ret (v := .tuple #[.int .u32 ys, .int .u32 ys]) (by simp [results, Tryz.results89, go_sem]) rfl ⟨rfl, HX.out.bel⟩
    · obtain rfl : ya = Y := hXX
      obtain rfl : ya = X := hY
      go_wp2
      exact bodyPost_ret (v := .tuple #[.int .u32 ya, .int .u32 ya]) (by simp [results, Tryz.results89, go_sem]) rfl ⟨rfl, HX.out.bel⟩
theorem gaddr (w : World) (b : Nat) (R : List Int) (ln : Bool) (bus : Value) (i : Is.Ins) (t : Tk) (h : DB w b R ln bus i t) (hi : IR i) :
    Calls Tryz.prog 89 #[.pointer (some ⟨b, 0, none⟩)] w fun e w' => e = .returned (.tuple #[.int .u32 (adP R t.at_ i).1, .int .u32 (adP R t.at_ i).2]) ∧ Below w.heap.size w w' :=
  gaddr_at w b R ln bus i t h hi _ _ rfl rfl _ _ (by unfold adP; cases i.pre <;> cases i.up <;> rfl) (by unfold adP; cases i.pre <;> cases i.up <;> rfl)
end Go.Proofs.YtilhceajhlaojaaGreatDoor
namespace Go.Proofs.YtilhceajhlaojaaGreatDoor
open Go.RowKit
set_option linter.unusedVariables false
set_option linter.unusedSimpArgs false
/-- The exceptions: mode, back, vector. -/
def excM (k : Nat) : Int := [0, 27, 19, 23, 23, 18, 0].getD k 0
def excB (k : Nat) : Int := [0, 4, 4, 4, 8, 4, 0].getD k 0
def excV (k : Nat) : Int := [0, 4, 8, 12, 16, 24, 0].getD k 0
def excR (k : Nat) : List Value := [.int .i64 (excM k), .int .u32 (excB k), .int .u32 (excV k)]
/-- The tables, all of them. -/
structure TE (w : World) : Prop where
  tp : Is.TP w
  exc : ∀ k, k < 7 → w.rangeAt 3 (k * 3) (excR k)
theorem TE.below {w w' : World} (h : TE w) (hb : Below w.heap.size w w') : TE w' := ⟨h.tp.below hb, fun k hk => Is.range_keep (h.exc k hk) hb⟩
theorem TE.drewN {w : World} (h : TE w) (n : Nat) : TE (w.drewN n) := ⟨⟨h.tp.low, h.tp.high, h.tp.pl, h.tp.db⟩, h.exc⟩
theorem TE.drew {w : World} (h : TE w) : TE w.drew := ⟨⟨h.tp.low, h.tp.high, h.tp.pl, h.tp.db⟩, h.exc⟩
theorem TE.size {w : World} (h : TE w) : 4 < w.heap.size := h.tp.size
theorem cell_turnS {S : Nat → Prop} {w w' : World} {b o : Nat} {v : Value} (h : w.cell? ⟨b, o, none⟩ = some v) (ht : Turn S w w') (hb : ¬ S b) : w'.cell? ⟨b, o, none⟩ = some v := by
  have hl : b < w.heap.size := cell_lt h
  have e := ht.block b hl hb
  rw [← h]
  unfold World.cell?
  rw [e]
theorem TE.turn {S : Nat → Prop} {w w' : World} (h : TE w) (ht : Turn S w w') (hS : ∀ b, S b → 4 < b) : TE w' := by
  have n : ∀ b, b ≤ 4 → ¬ S b := fun b hb hs => by have := hS b hs; omega
  exact ⟨⟨fun j r hr k v hv => cell_turnS (h.tp.low j r hr k v hv) ht (n _ (by decide)), fun j r hr k v hv => cell_turnS (h.tp.high j r hr k v hv) ht (n _ (by decide)), fun k hk j v hv => cell_turnS (h.tp.pl k hk j v hv) ht (n _ (by decide)), fun k hk => cell_turnS (h.tp.db k hk) ht (n _ (by decide))⟩, fun k hk j v hv => cell_turnS (h.exc k hk j v hv) ht (n _ (by decide))⟩
def raP (k : Nat) (R : List Int) : List Int := if excM k = 0 then R else enP R (excM k) (excB k) (excV k)
theorem exc_cells {w : World} (h : TE w) {k : Nat} (hk : k < 7) : w.cell? ⟨3, k * 3, none⟩ = some (.int .i64 (excM k)) ∧ w.cell? ⟨3, k * 3 + 1, none⟩ = some (.int .u32 (excB k)) ∧ w.cell? ⟨3, k * 3 + 2, none⟩ = some (.int .u32 (excV k)) :=
  ⟨h.exc k hk 0 _ rfl, h.exc k hk 1 _ rfl, h.exc k hk 2 _ rfl⟩
set_option maxRecDepth 100000 in
theorem graise_no (w : World) (b k : Nat) (h : TE w) (hk : k < 7) (hm : excM k = 0) : Calls Tryz.prog 33 #[.pointer (some ⟨b, 0, none⟩), .int .i64 (k : Nat)] w fun e w' => e = .returned (.tuple #[]) ∧ Below w.heap.size w w' := by
  obtain ⟨x0, x1, x2⟩ := exc_cells h hk
  rw [hm] at x0
  have HE : Hid (∀ A : Array Value, Below w.heap.size w (w.alloc (.cells A 115))) := fun A => below_new _ _
  have y0 := fun A => cell_keep x0 (HE.out A)
  have y1 := fun A => cell_keep x1 (HE.out A)
  have y2 := fun A => cell_keep x2 (HE.out A)
  have k1 : (k : Int) < 7 := by omega
  generalize excB k = bk at *
  generalize excV k = vc at *
  clear h hm
  go_enter Tryz.func33, Tryz.ntmps33
  go_wp2
  exact bodyPost_end (v := .tuple #[]) (by simp [results, Tryz.results33, go_sem]) rfl ⟨rfl, HE.out _⟩
theorem exc_range (k : Nat) (hk : k < 7) : (0 ≤ excM k ∧ excM k < 32) ∧ (0 ≤ excB k ∧ excB k < 4294967296) ∧ (0 ≤ excV k ∧ excV k < 4294967296) := by
  rcases (show k = 0 ∨ k = 1 ∨ k = 2 ∨ k = 3 ∨ k = 4 ∨ k = 5 ∨ k = 6 by omega) with rfl | rfl | rfl | rfl | rfl | rfl | rfl <;> decide
theorem turn_of_below {S : Nat → Prop} {w w1 w2 : World} (h : Below w.heap.size w w1) (k : Turn S w1 w2) : Turn S w w2 := (Turn.below h).then k
set_option maxRecDepth 100000 in
theorem graise_go (w : World) (b k : Nat) (t : TypeId) (R : List Int) (E : List Value) (hb : RB w b t R E) (h : TE w) (hk : k < 7) (hm : ¬ excM k = 0) : Calls Tryz.prog 33 #[.pointer (some ⟨b, 0, none⟩), .int .i64 (k : Nat)] w fun e w' => e = .returned (.tuple #[]) ∧ TA b w w' ∧ RB w' b t (enP R (excM k) (excB k) (excV k)) E := by
  obtain ⟨x0, x1, x2⟩ := exc_cells h hk
  obtain ⟨r0, r1, r2⟩ := exc_range k hk
  have HE : Hid (∀ A : Array Value, Below w.heap.size w (w.alloc (.cells A 115))) := fun A => below_new _ _
  have HN : Hid (∀ w', RB w' b t R E → Calls Tryz.prog 49 #[.pointer (some ⟨b, 0, none⟩), .agg #[.int .i64 (excM k), .int .u32 (excB k), .int .u32 (excV k)]] w' fun e w'' => e = .returned (.tuple #[]) ∧ TA b w' w'' ∧ RB w'' b t (enP R (excM k) (excB k) (excV k)) E) := fun w' h => genter w' b t R E _ _ _ h r0 r1 r2
  have HR : Hid (∀ A : Array Value, RB (w.alloc (.cells A 115)) b t R E) := fun A => hb.below (below_new _ _)
  have y0 := fun A => cell_keep x0 (HE.out A)
  have y1 := fun A => cell_keep x1 (HE.out A)
  have y2 := fun A => cell_keep x2 (HE.out A)
  have k1 : (k : Int) < 7 := by omega
  have HB : Hid (∀ c0 c1 c2, Bl (w.alloc (.cells #[c0, c1, c2] 115)) w.heap.size 115 [c0, c1, c2]) := fun c0 c1 c2 => Bl.new _ _ [c0, c1, c2]
  have m0 : (excM k != 0) = true := by simp [hm]
  have hqb : Hid (w.heap.size ≠ b) := hidW (by have := hb.bl.lt; omega)
  generalize enP R (excM k) (excB k) (excV k) = R' at *
  generalize excM k = md at *
  generalize excB k = bk at *
  generalize excV k = vc at *
  clear h hm r0 r1 r2 hb
  go_enter Tryz.func33, Tryz.ntmps33
  go_wp2
  have HX := HR.out #[.int .i64 md, .int .u32 bk, .int .u32 vc]
  have HX := hidW HX.drew
  obtain ⟨z0, z1, z2⟩ := bl3 (HB.out (.int .i64 md) (.int .u32 bk) (.int .u32 vc)).drew
  have HF := HE.out #[.int .i64 md, .int .u32 bk, .int .u32 vc]
  have HF := hidW (below_drew HF)
  clear y0 y1 y2 HE HR HB
  generalize hq : w.heap.size = q at z0 z1 z2 hqb ⊢
  generalize (w.alloc (.cells #[.int .i64 md, .int .u32 bk, .int .u32 vc] 115)) = w1 at HX HF z0 z1 z2 ⊢
  go_region_held3 (fun w' => w'.cell? ⟨q, 0, none⟩ = some (.int .i64 md) ∧ w'.cell? ⟨q, 1, none⟩ = some (.int .u32 bk) ∧ w'.cell? ⟨q, 2, none⟩ = some (.int .u32 vc)) (first | exact ⟨z0, z1, z2⟩ | exact ⟨cell_turnS z0 HT.out hqb.out, cell_turnS z1 HT.out hqb.out, cell_turnS z2 HT.out hqb.out⟩) ((first | (go_at_call 49; refine (HN.out _ HX.out).mono ?_; rintro e w2 ⟨rfl, ht, hr⟩; have HT := hidW ht; have HZ := hidW hr; clear ht hr)))
  go_wp2_with fail
  exact bodyPost_end (v := .tuple #[]) (by simp [results, Tryz.results33, go_sem]) rfl ⟨rfl, turn_of_below HF.out HT.out, HZ.out⟩
theorem graise (w : World) (b k : Nat) (t : TypeId) (R : List Int) (E : List Value) (hb : RB w b t R E) (h : TE w) (hk : k < 7) : Calls Tryz.prog 33 #[.pointer (some ⟨b, 0, none⟩), .int .i64 (k : Nat)] w fun e w' => e = .returned (.tuple #[]) ∧ TA b w w' ∧ RB w' b t (raP k R) E := by
  unfold raP
  by_cases hm : excM k = 0
  · rw [if_pos hm]
    exact (graise_no w b k h hk hm).mono fun e w' ⟨h1, h2⟩ => ⟨h1, TA.of h2, hb.below h2⟩
  · rw [if_neg hm]
    exact graise_go w b k t R E hb h hk hm
end Go.Proofs.YtilhceajhlaojaaGreatDoor
namespace Go.Proofs.YtilhceajhlaojaaGreatDoor
open Go.RowKit
set_option linter.unusedVariables false
set_option linter.unusedSimpArgs false
theorem if_i {a b : Int} {w : World} {B : Bool} {X : Result Bool} (h : X = .ok B w) : (if a = b then X else .ok false w) = .ok (a == b && B) w := by
  by_cases e : a = b
  · rw [if_pos e, h, beq_iff_eq.2 e]; rfl
  · rw [if_neg e, beq_eq_false_iff_ne.2 e]; rfl
theorem if_l {a b : Int} {w : World} : (if a = b then Result.ok true w else .ok false w) = .ok (a == b) w := by
  by_cases e : a = b
  · rw [if_pos e, beq_iff_eq.2 e]
  · rw [if_neg e, beq_eq_false_iff_ne.2 e]
set_option maxRecDepth 100000 in
set_option maxHeartbeats 2000000 in
theorem eqArr5 (d : Nat) (a0 a1 a2 a3 a4 b0 b1 b2 b3 b4 : Int) (w : World) : (Op.equalIn (d + 2) 24 (.agg #[.int .u32 a0, .int .u32 a1, .int .u32 a2, .int .u32 a3, .int .u32 a4]) (.agg #[.int .u32 b0, .int .u32 b1, .int .u32 b2, .int .u32 b3, .int .u32 b4])).run Tryz.prog w = .ok (a0 == b0 && (a1 == b1 && (a2 == b2 && (a3 == b3 && (a4 == b4))))) w := by
  rw [show d + 2 = (d + 1) + 1 from rfl, Op.equalIn]
  simp only [Sem.run_bind, run_underlying Tryz.underlying24, Result.andThen_ok]
  simp only [Std.Legacy.Range.forIn_eq_forIn_range', Std.Legacy.Range.size, Nat.sub_zero, Nat.add_sub_cancel, Nat.div_one, List.range'_succ, List.range'_zero, List.forIn_cons, List.forIn_nil]
  go_simp
  exact (if_i (if_i (if_i (if_i if_l))))
set_option maxRecDepth 100000 in
set_option maxHeartbeats 2000000 in
theorem eqArr13 (d : Nat) (a0 a1 a2 a3 a4 a5 a6 a7 a8 a9 a10 a11 a12 b0 b1 b2 b3 b4 b5 b6 b7 b8 b9 b10 b11 b12 : Int) (w : World) : (Op.equalIn (d + 2) 23 (.agg #[.int .u32 a0, .int .u32 a1, .int .u32 a2, .int .u32 a3, .int .u32 a4, .int .u32 a5, .int .u32 a6, .int .u32 a7, .int .u32 a8, .int .u32 a9, .int .u32 a10, .int .u32 a11, .int .u32 a12]) (.agg #[.int .u32 b0, .int .u32 b1, .int .u32 b2, .int .u32 b3, .int .u32 b4, .int .u32 b5, .int .u32 b6, .int .u32 b7, .int .u32 b8, .int .u32 b9, .int .u32 b10, .int .u32 b11, .int .u32 b12])).run Tryz.prog w = .ok (a0 == b0 && (a1 == b1 && (a2 == b2 && (a3 == b3 && (a4 == b4 && (a5 == b5 && (a6 == b6 && (a7 == b7 && (a8 == b8 && (a9 == b9 && (a10 == b10 && (a11 == b11 && (a12 == b12))))))))))))) w := by
  rw [show d + 2 = (d + 1) + 1 from rfl, Op.equalIn]
  simp only [Sem.run_bind, run_underlying Tryz.underlying23, Result.andThen_ok]
  simp only [Std.Legacy.Range.forIn_eq_forIn_range', Std.Legacy.Range.size, Nat.sub_zero, Nat.add_sub_cancel, Nat.div_one, List.range'_succ, List.range'_zero, List.forIn_cons, List.forIn_nil]
  go_simp
  exact (if_i (if_i (if_i (if_i (if_i (if_i (if_i (if_i (if_i (if_i (if_i (if_i if_l))))))))))))
theorem if_f {c : Bool} {w : World} {B : Bool} {X : Result Bool} (h : X = .ok B w) : (if c = false then Result.ok false w else X) = .ok (c && B) w := by
  cases c
  · rfl
  · exact h
set_option maxRecDepth 100000 in
set_option maxHeartbeats 2000000 in
theorem eqS30 (a0 a1 a2 a3 a4 a5 a6 a7 a8 a9 a10 a11 a12 a13 a14 a15 a16 a17 a18 a19 a20 a21 a22 a23 a24 a25 a26 a27 a28 a29 b0 b1 b2 b3 b4 b5 b6 b7 b8 b9 b10 b11 b12 b13 b14 b15 b16 b17 b18 b19 b20 b21 b22 b23 b24 b25 b26 b27 b28 b29 : Int) (w : World) :
    (Op.equalIn 10000 26 (.agg (RL [a0, a1, a2, a3, a4, a5, a6, a7, a8, a9, a10, a11, a12, a13, a14, a15, a16, a17, a18, a19, a20, a21, a22, a23, a24, a25, a26, a27, a28, a29]).toArray) (.agg (RL [b0, b1, b2, b3, b4, b5, b6, b7, b8, b9, b10, b11, b12, b13, b14, b15, b16, b17, b18, b19, b20, b21, b22, b23, b24, b25, b26, b27, b28, b29]).toArray)).run Tryz.prog w = .ok ((a0 == b0 && (a1 == b1 && (a2 == b2 && (a3 == b3 && (a4 == b4 && (a5 == b5 && (a6 == b6 && (a7 == b7 && (a8 == b8 && (a9 == b9 && (a10 == b10 && (a11 == b11 && (a12 == b12))))))))))))) && ((a13 == b13 && (a14 == b14 && (a15 == b15 && (a16 == b16 && (a17 == b17))))) && ((a18 == b18 && (a19 == b19 && (a20 == b20 && (a21 == b21 && (a22 == b22))))) && ((a23 == b23 && (a24 == b24 && (a25 == b25 && (a26 == b26 && (a27 == b27))))) && (a28 == b28 && a29 == b29))))) w := by
  have e13 := eqArr13 9997 a0 a1 a2 a3 a4 a5 a6 a7 a8 a9 a10 a11 a12 b0 b1 b2 b3 b4 b5 b6 b7 b8 b9 b10 b11 b12 w
  have e1 := eqArr5 9997 a13 a14 a15 a16 a17 b13 b14 b15 b16 b17 w
  have e2 := eqArr5 9997 a18 a19 a20 a21 a22 b18 b19 b20 b21 b22 w
  have e3 := eqArr5 9997 a23 a24 a25 a26 a27 b23 b24 b25 b26 b27 w
  change (Op.equalIn 9999 _ _ _).run _ _ = _ at e13
  change (Op.equalIn 9999 _ _ _).run _ _ = _ at e1
  change (Op.equalIn 9999 _ _ _).run _ _ = _ at e2
  change (Op.equalIn 9999 _ _ _).run _ _ = _ at e3
  generalize (a0 == b0 && (a1 == b1 && (a2 == b2 && (a3 == b3 && (a4 == b4 && (a5 == b5 && (a6 == b6 && (a7 == b7 && (a8 == b8 && (a9 == b9 && (a10 == b10 && (a11 == b11 && (a12 == b12))))))))))))) = c1 at e13 ⊢
  generalize (a13 == b13 && (a14 == b14 && (a15 == b15 && (a16 == b16 && (a17 == b17))))) = c2 at e1 ⊢
  generalize (a18 == b18 && (a19 == b19 && (a20 == b20 && (a21 == b21 && (a22 == b22))))) = c3 at e2 ⊢
  generalize (a23 == b23 && (a24 == b24 && (a25 == b25 && (a26 == b26 && (a27 == b27))))) = c4 at e3 ⊢
  simp only [RL, List.map, W32]
  go_simp
  exact if_f (if_f (if_f (if_f (if_i if_l))))
theorem eqS (A B : List Int) (hA : A.length = 30) (hB : B.length = 30) (w : World) : (Op.equalIn 10000 26 (.agg (RL A).toArray) (.agg (RL B).toArray)).run Tryz.prog w = .ok (decide (A = B)) w := by
  obtain ⟨a0, a1, a2, a3, a4, a5, a6, a7, a8, a9, a10, a11, a12, a13, a14, a15, a16, a17, a18, a19, a20, a21, a22, a23, a24, a25, a26, a27, a28, a29, rfl⟩ : ∃ a0 a1 a2 a3 a4 a5 a6 a7 a8 a9 a10 a11 a12 a13 a14 a15 a16 a17 a18 a19 a20 a21 a22 a23 a24 a25 a26 a27 a28 a29, A = [a0, a1, a2, a3, a4, a5, a6, a7, a8, a9, a10, a11, a12, a13, a14, a15, a16, a17, a18, a19, a20, a21, a22, a23, a24, a25, a26, a27, a28, a29] := by
    match A, hA with
    | [a0, a1, a2, a3, a4, a5, a6, a7, a8, a9, a10, a11, a12, a13, a14, a15, a16, a17, a18, a19, a20, a21, a22, a23, a24, a25, a26, a27, a28, a29], _ => exact ⟨_, _, _, _, _, _, _, _, _, _, _, _, _, _, _, _, _, _, _, _, _, _, _, _, _, _, _, _, _, _, rfl⟩
  obtain ⟨b0, b1, b2, b3, b4, b5, b6, b7, b8, b9, b10, b11, b12, b13, b14, b15, b16, b17, b18, b19, b20, b21, b22, b23, b24, b25, b26, b27, b28, b29, rfl⟩ : ∃ b0 b1 b2 b3 b4 b5 b6 b7 b8 b9 b10 b11 b12 b13 b14 b15 b16 b17 b18 b19 b20 b21 b22 b23 b24 b25 b26 b27 b28 b29, B = [b0, b1, b2, b3, b4, b5, b6, b7, b8, b9, b10, b11, b12, b13, b14, b15, b16, b17, b18, b19, b20, b21, b22, b23, b24, b25, b26, b27, b28, b29] := by
    match B, hB with
    | [b0, b1, b2, b3, b4, b5, b6, b7, b8, b9, b10, b11, b12, b13, b14, b15, b16, b17, b18, b19, b20, b21, b22, b23, b24, b25, b26, b27, b28, b29], _ => exact ⟨_, _, _, _, _, _, _, _, _, _, _, _, _, _, _, _, _, _, _, _, _, _, _, _, _, _, _, _, _, _, rfl⟩
  rw [eqS30]
  congr 1
  rw [Bool.eq_iff_iff]
  simp only [Bool.and_eq_true, beq_iff_eq, decide_eq_true_eq, List.cons.injEq, and_true, and_assoc]
end Go.Proofs.YtilhceajhlaojaaGreatDoor
