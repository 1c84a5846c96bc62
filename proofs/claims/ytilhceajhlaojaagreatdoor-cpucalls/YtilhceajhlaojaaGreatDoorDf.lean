import Derived.Test.YtilhceajhlaojaaGreatDoorZ11
import Derived.Test.YtilhceajhlaojaaGreatDoorAGo
import Derived.Deep.Cut
namespace Go.Proofs.YtilhceajhlaojaaGreatDoor
open Go.RowKit
set_option linter.unusedVariables false
set_option linter.unusedSimpArgs false
def flZ : List Value := [.bool false, .bool false, .bool false, .bool false]
def flL (f : Fl) : List Value := [.bool f.n, .bool f.z, .bool f.c, .bool f.v]
set_option maxRecDepth 100000 in
theorem fl_info : (Tryz.prog.info? 40).map (·.size) = some 4 := by kernel_rfl
/-- While a data instruction is done: its box, that of the flags. -/
structure DX (W v : World) (q qf b : Nat) (R : List Int) (ln : Bool) (bus : Value) (i : Is.Ins) (t : Tk) (L : List Value) : Prop where
  turn : TA b W v
  db : DB v b R ln bus i t
  box : Bl v q 35 (Is.insL i)
  fl : Bl v qf 40 L
  nq : q ≠ b
  nf : qf ≠ b
theorem DX.ta {W v v' : World} {q qf b : Nat} {R R' : List Int} {ln : Bool} {bus : Value} {i : Is.Ins} {t t' : Tk} {L : List Value} (h : DX W v q qf b R ln bus i t L) (hT : TA b v v') (hd : DB v' b R' ln bus i t') : DX W v' q qf b R' ln bus i t' L :=
  ⟨h.turn.then hT, hd, h.box.turn hT h.nq, h.fl.turn hT h.nf, h.nq, h.nf⟩
theorem DX.drew {W v : World} {q qf b : Nat} {R : List Int} {ln : Bool} {bus : Value} {i : Is.Ins} {t : Tk} {L : List Value} (h : DX W v q qf b R ln bus i t L) : DX W v.drew q qf b R ln bus i t L :=
  ⟨h.turn.drew, RB.drew h.db, h.box.drew, h.fl.drew, h.nq, h.nf⟩
theorem OX.dx {W v : World} {q qf b : Nat} {R : List Int} {ln : Bool} {bus : Value} {i : Is.Ins} {t : Tk} (h : OX W v q b R ln bus i t) (hq : W.heap.size ≤ q) (hb : b < W.heap.size) (hf : Bl v qf 40 flZ) (hz : W.heap.size ≤ qf) (hn : qf ≠ q) (f : Fl) : DX W (v.setCells qf 0 (flL f)) q qf b R ln bus i t (flL f) := by
  have hT : TA qf v (v.setCells qf 0 (flL f)) := set_turn _ 0 v v (Turn.refl _ _)
  refine ⟨(TA.of h.bel : TA b W v).trans hT (fun x e => .inr ?_), RB.turn h.db hT (fun e => ?_), h.box.turn hT (fun e => hn e.symm), set_all hf rfl, by omega, by omega⟩
  · have e : x = qf := e
    omega
  · have e : b = qf := e
    omega
/-- What a data instruction leaves. -/
def dtW (R : List Int) (a : Int) (i : Is.Ins) : Int := Al.dxW i.op (vlR R a i.rn) (opdP R a i).1 (flR R)
def dtF (R : List Int) (a : Int) (i : Is.Ins) : Fl := Al.dxF i.op (vlR R a i.rn) (opdP R a i).1 (opdP R a i).2 (flR R)
/-- Its registers, where it does not leave an exception. -/
def dtR (R : List Int) (a : Int) (i : Is.Ins) : List Int :=
  let R1 := if i.s then sfR R (dtF R a i) else R
  if Al.dxR i.op then stR R1 i.rd (dtW R a i) else R1
set_option maxRecDepth 100000 in
set_option maxHeartbeats 2000000 in
theorem gdata_at (w : World) (b : Nat) (R : List Int) (ln : Bool) (bus : Value) (i : Is.Ins) (t : Tk) (h : DB w b R ln bus i t) (hi : IR i) (hr : 0 ≤ (opdP R t.at_ i).1 ∧ (opdP R t.at_ i).1 < 4294967296) (hw : 0 ≤ dtW R t.at_ i ∧ dtW R t.at_ i < 4294967296) (s wr : Bool) (hs : i.s = s) (hwr : Al.dxR i.op = wr) (hl : s = true → wr = true → ¬ i.rd = 15) :
    Calls Tryz.prog 59 #[.pointer (some ⟨b, 0, none⟩)] w fun e w' => e = .returned (.tuple #[]) ∧ TA b w w' ∧ DB w' b (if wr then stR (if s then sfR R (dtF R t.at_ i) else R) i.rd (dtW R t.at_ i) else (if s then sfR R (dtF R t.at_ i) else R)) ln bus i t := by
  have HOp : Hid (∀ v, DB v b R ln bus i t → Calls Tryz.prog 81 #[.pointer (some ⟨b, 0, none⟩)] v fun e w' => e = .returned (.tuple #[.int .u32 (opdP R t.at_ i).1, .bool (opdP R t.at_ i).2]) ∧ Below v.heap.size v w') := fun v h => goperand v b R ln bus i t h hi
  have HV : Hid (∀ v, DB v b R ln bus i t → Calls Tryz.prog 83 #[.pointer (some ⟨b, 0, none⟩), .int .i64 i.rn] v fun e w' => e = .returned (.int .u32 (vlR R t.at_ i.rn)) ∧ Below v.heap.size v w') := fun v h => gvalue v b R ln bus i t _ h hi.rn
  have HF : Hid (∀ v, DB v b R ln bus i t → Calls Tryz.prog 57 #[.pointer (some ⟨b, 0, none⟩)] v fun e w' => e = .returned (.agg #[.bool (flR R).n, .bool (flR R).z, .bool (flR R).c, .bool (flR R).v]) ∧ Below v.heap.size v w') := fun v h => gflagsR v b R (RB.rs h)
  have hvr := vlR_range h.ok t.at_ i.rn
  have HD : Hid (∀ v, Calls Tryz.prog 82 #[.int .i64 i.op, .int .u32 (vlR R t.at_ i.rn), .int .u32 (opdP R t.at_ i).1, .bool (opdP R t.at_ i).2, .agg #[.bool (flR R).n, .bool (flR R).z, .bool (flR R).c, .bool (flR R).v]] v fun e w' => e = .returned (.tuple #[.int .u32 (dtW R t.at_ i), .bool wr, .agg #[.bool (dtF R t.at_ i).n, .bool (dtF R t.at_ i).z, .bool (dtF R t.at_ i).c, .bool (dtF R t.at_ i).v]]) ∧ Below v.heap.size v w') := fun v => by
    have := Al.gdo_any i.op (vlR R t.at_ i.rn) (opdP R t.at_ i).1 (opdP R t.at_ i).2 (flR R) v hvr.1 hvr.2 hr.1 hr.2
    rw [hwr] at this
    exact this
  have HSF : Hid (∀ v, DB v b R ln bus i t → Calls Tryz.prog 85 #[.pointer (some ⟨b, 0, none⟩), .agg #[.bool (dtF R t.at_ i).n, .bool (dtF R t.at_ i).z, .bool (dtF R t.at_ i).c, .bool (dtF R t.at_ i).v]] v fun e w' => e = .returned (.tuple #[]) ∧ TA b v w' ∧ DB w' b (sfR R (dtF R t.at_ i)) ln bus i t) := fun v h => gsetFlags v b 124 R _ (dtF R t.at_ i) h
  have HST : Hid (∀ v R1, DB v b R1 ln bus i t → Calls Tryz.prog 39 #[.pointer (some ⟨b, 0, none⟩), .int .i64 i.rd, .int .u32 (dtW R t.at_ i)] v fun e w' => e = .returned (.tuple #[]) ∧ TA b v w' ∧ DB w' b (stR R1 i.rd (dtW R t.at_ i)) ln bus i t) := fun v R1 h => gset v b 124 R1 _ i.rd _ h hi.rd hw
  have hbw : b < w.heap.size := h.bl.lt
  have HIns : Hid (w.rangeAt b 32 (Is.insL i)) := DB.ins h
  have HI : Hid ((Tryz.prog.info? 35).map (·.size) = some (Is.insL i).length) := ins_info
  have HJ : Hid ((Tryz.prog.info? 35).map (·.size) = some (Is.insL i).toArray.size) := ins_info
  have HO : Hid ((Is.insL i).toArray.all (·.oneCell') = true) := ins_one i
  have HT : Hid (∀ (A : Array Value), A.size = 20 → (w.alloc (.cells A 35)).there w.heap.size 0 (Is.insL i).toArray.size) := fun A hA => there_new _ _ A _ (by rw [hA]; rfl)
  have HR : Hid (∀ (A : Array Value), (w.alloc (.cells A 35)).rangeAt b 32 (Is.insL i)) := fun A => Is.range_keep HIns.out (below_new _ _)
  have HS : Hid (∀ (A : Array Value), A.size = 20 → OX w ((w.alloc (.cells A 35)).setCells w.heap.size 0 (Is.insL i)) w.heap.size b R ln bus i t) := fun A hA => OX.fill (Below.refl _ _) h A hA
  have HC : Hid (∀ v, OX w v w.heap.size b R ln bus i t → _) := fun v h => bl_cells h.box
  have HC2 : Hid (∀ v q qf R1 L, DX w v q qf b R1 ln bus i t L → _) := fun v q qf R1 L h => bl_cells h.box
  have HDX : Hid (∀ v qf, OX w v w.heap.size b R ln bus i t → Bl v qf 40 flZ → w.heap.size ≤ qf → qf ≠ w.heap.size → DX w (v.setCells qf 0 (flL (dtF R t.at_ i))) w.heap.size qf b R ln bus i t (flL (dtF R t.at_ i))) := fun v qf h1 h2 h3 h4 => h1.dx (Nat.le_refl _) hbw h2 h3 h4 _
  have HSl : Hid (∀ v (qf : Nat), Bl v qf 40 flZ → v.there qf 0 4) := fun v qf h => h.there 4 rfl
  generalize Is.insL i = IL at *
  generalize dtF R t.at_ i = F at *
  generalize dtW R t.at_ i = Wd at *
  generalize opdP R t.at_ i = od at *
  obtain ⟨od1, od2⟩ := od
  generalize vlR R t.at_ i.rn = vr at *
  generalize flR R = f at *
  obtain ⟨fn, fz, fc, fv⟩ := f
  obtain ⟨gn, gz, gc, gv⟩ := F
  clear h hr hw hvr
  dsimp only at HD HSF HF HOp
  go_enter Tryz.func59, Tryz.ntmps59
  go_wp2_with (first | (guard_target =~ wpList _ _ _ (Oper.mk (some 11) _ _ _ _ _ :: _) _ _; refine wpList_load_mid rfl _ _ rfl b 32 rfl IL _ HIns.out Tryz.underlying35 rfl HI.out ?_) | (guard_target =~ wpList _ _ _ (Oper.mk none (Op.store 35 _ _) _ _ _ _ :: _) _ _; refine wpList_store_mid rfl _ _ _ rfl w.heap.size 0 IL.toArray rfl rfl (HT.out _ rfl) HJ.out HO.out ?_; generalize hW : World.setCells _ _ _ _ = w2; have HX := hidW (show OX w w2 w.heap.size b R ln bus i t from hW ▸ HS.out _ rfl); clear hW) | (go_at_call 81; refine (HOp.out _ HX.out.db).mono ?_; rintro e w3 ⟨rfl, hb⟩; have HX := hidW (HX.out.step hb); clear hb))
  dsimp only [flL] at HDX
  go_cut [5, 6, 7] from 8 (fun s5 s6 s7 wx => ∃ qf, s5 = .int .u32 Wd ∧ s6 = .bool wr ∧ s7 = .pointer (some ⟨qf, 0, none⟩) ∧ DX w wx w.heap.size qf b R ln bus i t [.bool gn, .bool gz, .bool gc, .bool gv])
  case first =>
    have HX := hidW HX.out.drew
    refine wp_region_held_drew (S := fun v => v.cell? ⟨w.heap.size, 1, none⟩ = some (.int .i64 i.op) ∧ v.cell? ⟨w.heap.size, 5, none⟩ = some (.int .i64 i.rn)) (by kernel_rfl) (And.intro (HC.out _ HX.out).1.2.1 (HC.out _ HX.out).1.2.2.2.2.2.1) (fun hHeld => ?_)
    clear hHeld
    generalize w3.drew = u1 at HX ⊢
    have K2 := hidW (And.intro (HC.out _ HX.out).1.2.1 (HC.out _ HX.out).1.2.2.2.2.2.1)
    refine wpAnyH_take (i := 0) (oi := { dst := some 18, op := Op.fieldAddr 35 (Operand.tmp 2) 1, type := 0, pos := _, after := #[], guard := none }) (v := ?_) rfl (by kernel_rfl) (by kernel_rfl) (by kernel_rfl) (fun _ _ _ h => h) (Or.inl ⟨by rfl, ?_⟩) (by assumption) ?_
    rotate_left
    · (intro w hSw; (try dsimp only at hSw); go_simp; try with_reducible rfl)
    simp only [Act.put, List.setIfInBounds_toArray, List.set_cons_zero, List.set_cons_succ]
    refine wpAnyH_take (i := 1) (oi := { dst := some 19, op := Op.load 3 (Operand.tmp 18), type := 3, pos := _, after := #[{ on := 0, ground := Ground.data }], guard := none }) (v := ?_) rfl (by kernel_rfl) (by kernel_rfl) (by kernel_rfl) (fun _ _ _ h => h) (Or.inl ⟨by rfl, ?_⟩) (by assumption) ?_
    rotate_left
    · (intro w hSw; (try dsimp only at hSw); go_simp; try with_reducible rfl)
    simp only [Act.put, List.setIfInBounds_toArray, List.set_cons_zero, List.set_cons_succ]
    refine wpAnyH_take (i := 2) (oi := { dst := some 20, op := Op.move (Operand.tmp 0), type := 122, pos := _, after := #[], guard := none }) (v := ?_) rfl (by kernel_rfl) (by kernel_rfl) (by kernel_rfl) (fun _ _ _ h => h) (Or.inl ⟨by rfl, ?_⟩) (by assumption) ?_
    rotate_left
    · (intro w hSw; (try dsimp only at hSw); go_simp; try with_reducible rfl)
    simp only [Act.put, List.setIfInBounds_toArray, List.set_cons_zero, List.set_cons_succ]
    refine wpAnyH_take (i := 3) (oi := { dst := some 21, op := Op.fieldAddr 35 (Operand.tmp 2) 5, type := 0, pos := _, after := #[], guard := none }) (v := ?_) rfl (by kernel_rfl) (by kernel_rfl) (by kernel_rfl) (fun _ _ _ h => h) (Or.inl ⟨by rfl, ?_⟩) (by assumption) ?_
    rotate_left
    · (intro w hSw; (try dsimp only at hSw); go_simp; try with_reducible rfl)
    simp only [Act.put, List.setIfInBounds_toArray, List.set_cons_zero, List.set_cons_succ]
    refine wpAnyH_take (i := 4) (oi := { dst := some 22, op := Op.load 3 (Operand.tmp 21), type := 3, pos := _, after := #[{ on := 3, ground := Ground.data }], guard := none }) (v := ?_) rfl (by kernel_rfl) (by kernel_rfl) (by kernel_rfl) (fun _ _ _ h => h) (Or.inl ⟨by rfl, ?_⟩) (by assumption) ?_
    rotate_left
    · (intro w hSw; (try dsimp only at hSw); go_simp; try with_reducible rfl)
    simp only [Act.put, List.setIfInBounds_toArray, List.set_cons_zero, List.set_cons_succ]
    refine wpAnyH_take (i := 6) (oi := { dst := some 24, op := Op.move (Operand.tmp 3), type := 22, pos := _, after := #[], guard := none }) (v := ?_) rfl (by kernel_rfl) (by kernel_rfl) (by kernel_rfl) (fun _ _ _ h => h) (Or.inl ⟨by rfl, ?_⟩) (by assumption) ?_
    rotate_left
    · (intro w hSw; (try dsimp only at hSw); go_simp; try with_reducible rfl)
    simp only [Act.put, List.setIfInBounds_toArray, List.set_cons_zero, List.set_cons_succ]
    refine wpAnyH_take (i := 7) (oi := { dst := some 25, op := Op.move (Operand.tmp 4), type := 4, pos := _, after := #[], guard := none }) (v := ?_) rfl (by kernel_rfl) (by kernel_rfl) (by kernel_rfl) (fun _ _ _ h => h) (Or.inl ⟨by rfl, ?_⟩) (by assumption) ?_
    rotate_left
    · (intro w hSw; (try dsimp only at hSw); go_simp; try with_reducible rfl)
    simp only [Act.put, List.setIfInBounds_toArray, List.set_cons_zero, List.set_cons_succ]
    refine wpAnyH_take (i := 8) (oi := { dst := some 26, op := Op.move (Operand.tmp 0), type := 122, pos := _, after := #[], guard := none }) (v := ?_) rfl (by kernel_rfl) (by kernel_rfl) (by kernel_rfl) (fun _ _ _ h => h) (Or.inl ⟨by rfl, ?_⟩) (by assumption) ?_
    rotate_left
    · (intro w hSw; (try dsimp only at hSw); go_simp; try with_reducible rfl)
    simp only [Act.put, List.setIfInBounds_toArray, List.set_cons_zero, List.set_cons_succ]
    refine wpAnyH_take (i := 9) (oi := { dst := some 27, op := Op.nilCheck (Operand.tmp 26), type := 0, pos := _, after := #[{ on := 8, ground := Ground.data }], guard := none }) (v := ?_) rfl (by kernel_rfl) (by kernel_rfl) (by kernel_rfl) (fun _ _ _ h => h) (Or.inl ⟨by rfl, ?_⟩) (by assumption) ?_
    rotate_left
    · (intro w hSw; (try dsimp only at hSw); go_simp; try with_reducible rfl)
    simp only [Act.put, List.setIfInBounds_toArray, List.set_cons_zero, List.set_cons_succ]
    refine wpAnyH_take (i := 10) (oi := { dst := some 28, op := Op.fieldAddr 124 (Operand.tmp 27) 0, type := 0, pos := _, after := #[{ on := 9, ground := Ground.data }], guard := none }) (v := ?_) rfl (by kernel_rfl) (by kernel_rfl) (by kernel_rfl) (fun _ _ _ h => h) (Or.inl ⟨by rfl, ?_⟩) (by assumption) ?_
    rotate_left
    · (intro w hSw; (try dsimp only at hSw); go_simp; try with_reducible rfl)
    simp only [Act.put, List.setIfInBounds_toArray, List.set_cons_zero, List.set_cons_succ]
    refine wpAnyH_ready (rs := [5, 17]) (by kernel_rfl) (by simp) ?_
    refine (AllReadyH.cons (o := { dst := some 23, op := Op.call { callee := Callee.value (Operand.func 83), args := #[Operand.tmp 20, Operand.tmp 22], argTypes := #[122, 3] }, type := 22, pos := _, after := #[{ on := 2, ground := Ground.data }, { on := 4, ground := Ground.data }], guard := none }) rfl (fun K hK => ?_) (AllReadyH.cons (o := { dst := some 7, op := Op.alloc 40, type := 0, pos := _, after := #[], guard := none }) rfl (fun K hK => ?_) AllReadyH.nil))
    · go_simp
      go_at_call 83; refine (HV.out _ HX.out.db).mono ?_; rintro e u2 ⟨rfl, hb⟩; have HX := hidW (HX.out.step hb); have K2 := hidW (And.intro (HC.out _ HX.out).1.2.1 (HC.out _ HX.out).1.2.2.2.2.2.1); (try have HQ := hidW (HQ.out.below hb)); clear hb
      refine hK.out _ _ ?_ (fun hHeld => ?_)
      · exact K2.out
      clear hK K
      try simp only [Act.put, List.setIfInBounds_toArray, List.set_cons_zero, List.set_cons_succ]
      refine wpAnyH_ready (rs := [11, 17]) (by kernel_rfl) (by simp) ?_
      refine (AllReadyH.cons (o := { dst := some 29, op := Op.call { callee := Callee.value (Operand.func 57), args := #[Operand.tmp 28], argTypes := #[84] }, type := 40, pos := _, after := #[{ on := 10, ground := Ground.data }, { on := 5, ground := Ground.chain }], guard := none }) rfl (fun K hK => ?_) (AllReadyH.cons (o := { dst := some 7, op := Op.alloc 40, type := 0, pos := _, after := #[], guard := none }) rfl (fun K hK => ?_) AllReadyH.nil))
      · go_simp
        go_at_call 57; refine (HF.out _ HX.out.db).mono ?_; rintro e u3 ⟨rfl, hb⟩; have HX := hidW (HX.out.step hb); have K2 := hidW (And.intro (HC.out _ HX.out).1.2.1 (HC.out _ HX.out).1.2.2.2.2.2.1); (try have HQ := hidW (HQ.out.below hb)); clear hb
        refine hK.out _ _ ?_ (fun hHeld => ?_)
        · exact K2.out
        clear hK K
        try simp only [Act.put, List.setIfInBounds_toArray, List.set_cons_zero, List.set_cons_succ]
        refine wpAnyH_ready (rs := [12, 17]) (by kernel_rfl) (by simp) ?_
        refine (AllReadyH.cons (o := { dst := some 30, op := Op.call { callee := Callee.value (Operand.func 82), args := #[Operand.tmp 19, Operand.tmp 23, Operand.tmp 24, Operand.tmp 25, Operand.tmp 29], argTypes := #[3, 22, 22, 4, 40] }, type := 136, pos := _, after := #[{ on := 1, ground := Ground.data }, { on := 5, ground := Ground.data }, { on := 6, ground := Ground.data }, { on := 7, ground := Ground.data }, { on := 11, ground := Ground.data }, { on := 11, ground := Ground.chain }], guard := none }) rfl (fun K hK => ?_) (AllReadyH.cons (o := { dst := some 7, op := Op.alloc 40, type := 0, pos := _, after := #[], guard := none }) rfl (fun K hK => ?_) AllReadyH.nil))
        · go_simp
          go_at_call 82; refine (HD.out _).mono ?_; rintro e u4 ⟨rfl, hb⟩; have HX := hidW (HX.out.step hb); have K2 := hidW (And.intro (HC.out _ HX.out).1.2.1 (HC.out _ HX.out).1.2.2.2.2.2.1); (try have HQ := hidW (HQ.out.below hb)); clear hb
          refine hK.out _ _ ?_ (fun hHeld => ?_)
          · exact K2.out
          clear hK K
          try simp only [Act.put, List.setIfInBounds_toArray, List.set_cons_zero, List.set_cons_succ]
          refine wpAnyH_take (i := 13) (oi := { dst := some 17, op := Op.move (Operand.tmp 30), type := 136, pos := _, after := #[{ on := 12, ground := Ground.data }], guard := none }) (v := ?_) rfl (by kernel_rfl) (by kernel_rfl) (by kernel_rfl) (fun _ _ _ h => h) (Or.inl ⟨by rfl, ?_⟩) (by assumption) ?_
          rotate_left
          · (intro w hSw; (try dsimp only at hSw); go_simp; try with_reducible rfl)
          simp only [Act.put, List.setIfInBounds_toArray, List.set_cons_zero, List.set_cons_succ]
          refine wpAnyH_take (i := 14) (oi := { dst := some 31, op := Op.extract (Operand.tmp 17) 0, type := 22, pos := _, after := #[{ on := 13, ground := Ground.data }], guard := none }) (v := ?_) rfl (by kernel_rfl) (by kernel_rfl) (by kernel_rfl) (fun _ _ _ h => h) (Or.inl ⟨by rfl, ?_⟩) (by assumption) ?_
          rotate_left
          · (intro w hSw; (try dsimp only at hSw); go_simp; try with_reducible rfl)
          simp only [Act.put, List.setIfInBounds_toArray, List.set_cons_zero, List.set_cons_succ]
          refine wpAnyH_take (i := 15) (oi := { dst := some 32, op := Op.extract (Operand.tmp 17) 1, type := 4, pos := _, after := #[{ on := 13, ground := Ground.data }, { on := 18, ground := Ground.gcOnly Departure.lateStores }], guard := none }) (v := ?_) rfl (by kernel_rfl) (by kernel_rfl) (by kernel_rfl) (fun _ _ _ h => h) (Or.inl ⟨by rfl, ?_⟩) (by assumption) ?_
          rotate_left
          · (intro w hSw; (try dsimp only at hSw); go_simp; try with_reducible rfl)
          simp only [Act.put, List.setIfInBounds_toArray, List.set_cons_zero, List.set_cons_succ]
          refine wpAnyH_take (i := 16) (oi := { dst := some 33, op := Op.extract (Operand.tmp 17) 2, type := 40, pos := _, after := #[{ on := 13, ground := Ground.data }, { on := 19, ground := Ground.gcOnly Departure.lateStores }], guard := none }) (v := ?_) rfl (by kernel_rfl) (by kernel_rfl) (by kernel_rfl) (fun _ _ _ h => h) (Or.inl ⟨by rfl, ?_⟩) (by assumption) ?_
          rotate_left
          · (intro w hSw; (try dsimp only at hSw); go_simp; try with_reducible rfl)
          simp only [Act.put, List.setIfInBounds_toArray, List.set_cons_zero, List.set_cons_succ]
          refine wpAnyH_ready (rs := [17]) (by kernel_rfl) (by simp) ?_
          refine (AllReadyH.cons (o := { dst := some 7, op := Op.alloc 40, type := 0, pos := _, after := #[], guard := none }) rfl (fun K hK => ?_) AllReadyH.nil)
          go_simp
          (first | (generalize hq : u4.alloc _ = ua; have e3 : u4.alloc (.cells flZ.toArray 40) = ua := hq; have HQ := hidW (Bl.new u4 40 flZ); have hbn := below_new u4 (.cells flZ.toArray 40); have HZ : Hid (w.heap.size < u4.heap.size) := HX.out.box.lt; have HX := hidW (HX.out.step hbn); rw [e3] at HQ HX; clear hbn e3 hq; generalize u4.heap.size = qf at HQ HZ ⊢; have K2 := hidW (And.intro (HC.out _ HX.out).1.2.1 (HC.out _ HX.out).1.2.2.2.2.2.1)) | (generalize hq : u3.alloc _ = ua; have e3 : u3.alloc (.cells flZ.toArray 40) = ua := hq; have HQ := hidW (Bl.new u3 40 flZ); have hbn := below_new u3 (.cells flZ.toArray 40); have HZ : Hid (w.heap.size < u3.heap.size) := HX.out.box.lt; have HX := hidW (HX.out.step hbn); rw [e3] at HQ HX; clear hbn e3 hq; generalize u3.heap.size = qf at HQ HZ ⊢; have K2 := hidW (And.intro (HC.out _ HX.out).1.2.1 (HC.out _ HX.out).1.2.2.2.2.2.1)) | (generalize hq : u2.alloc _ = ua; have e3 : u2.alloc (.cells flZ.toArray 40) = ua := hq; have HQ := hidW (Bl.new u2 40 flZ); have hbn := below_new u2 (.cells flZ.toArray 40); have HZ : Hid (w.heap.size < u2.heap.size) := HX.out.box.lt; have HX := hidW (HX.out.step hbn); rw [e3] at HQ HX; clear hbn e3 hq; generalize u2.heap.size = qf at HQ HZ ⊢; have K2 := hidW (And.intro (HC.out _ HX.out).1.2.1 (HC.out _ HX.out).1.2.2.2.2.2.1)) | (generalize hq : u1.alloc _ = ua; have e3 : u1.alloc (.cells flZ.toArray 40) = ua := hq; have HQ := hidW (Bl.new u1 40 flZ); have hbn := below_new u1 (.cells flZ.toArray 40); have HZ : Hid (w.heap.size < u1.heap.size) := HX.out.box.lt; have HX := hidW (HX.out.step hbn); rw [e3] at HQ HX; clear hbn e3 hq; generalize u1.heap.size = qf at HQ HZ ⊢; have K2 := hidW (And.intro (HC.out _ HX.out).1.2.1 (HC.out _ HX.out).1.2.2.2.2.2.1))); refine hK.out _ _ ?_ (fun hHeld => ?_); (focus exact K2.out)
          clear hK K
          try simp only [Act.put, List.setIfInBounds_toArray, List.set_cons_zero, List.set_cons_succ]
          refine wpAnyH_take (i := 18) (oi := { dst := some 5, op := Op.assign (Operand.tmp 31), type := 22, pos := _, after := #[{ on := 14, ground := Ground.data }, { on := 12, ground := Ground.chain }, { on := 0, ground := Ground.phase }, { on := 1, ground := Ground.phase }, { on := 2, ground := Ground.phase }, { on := 3, ground := Ground.phase }, { on := 4, ground := Ground.phase }, { on := 5, ground := Ground.phase }, { on := 6, ground := Ground.phase }, { on := 7, ground := Ground.phase }, { on := 8, ground := Ground.phase }, { on := 9, ground := Ground.phase }, { on := 10, ground := Ground.phase }, { on := 11, ground := Ground.phase }, { on := 12, ground := Ground.phase }, { on := 13, ground := Ground.phase }, { on := 14, ground := Ground.phase }, { on := 15, ground := Ground.textOnly Departure.lateStores }, { on := 16, ground := Ground.textOnly Departure.lateStores }, { on := 17, ground := Ground.phase }], guard := none }) (v := ?_) rfl (by kernel_rfl) (by kernel_rfl) (by kernel_rfl) (fun _ _ _ h => h) (Or.inl ⟨by rfl, ?_⟩) (by assumption) ?_
          rotate_left
          · (intro w hSw; (try dsimp only at hSw); go_simp; try with_reducible rfl)
          simp only [Act.put, List.setIfInBounds_toArray, List.set_cons_zero, List.set_cons_succ]
          refine wpAnyH_take (i := 19) (oi := { dst := some 6, op := Op.assign (Operand.tmp 32), type := 4, pos := _, after := #[{ on := 15, ground := Ground.data }, { on := 18, ground := Ground.chain }, { on := 0, ground := Ground.phase }, { on := 1, ground := Ground.phase }, { on := 2, ground := Ground.phase }, { on := 3, ground := Ground.phase }, { on := 4, ground := Ground.phase }, { on := 5, ground := Ground.phase }, { on := 6, ground := Ground.phase }, { on := 7, ground := Ground.phase }, { on := 8, ground := Ground.phase }, { on := 9, ground := Ground.phase }, { on := 10, ground := Ground.phase }, { on := 11, ground := Ground.phase }, { on := 12, ground := Ground.phase }, { on := 13, ground := Ground.phase }, { on := 14, ground := Ground.phase }, { on := 15, ground := Ground.phase }, { on := 16, ground := Ground.textOnly Departure.lateStores }, { on := 17, ground := Ground.phase }, { on := 18, ground := Ground.phase }], guard := none }) (v := ?_) rfl (by kernel_rfl) (by kernel_rfl) (by kernel_rfl) (fun _ _ _ h => h) (Or.inl ⟨by rfl, ?_⟩) (by assumption) ?_
          rotate_left
          · (intro w hSw; (try dsimp only at hSw); go_simp; try with_reducible rfl)
          simp only [Act.put, List.setIfInBounds_toArray, List.set_cons_zero, List.set_cons_succ]
          refine wpAnyH_ready (rs := [20]) (by kernel_rfl) (by simp) ?_
          refine (AllReadyH.cons (o := { dst := none, op := Op.store 40 (Operand.tmp 7) (Operand.tmp 33), type := 0, pos := _, after := #[{ on := 17, ground := Ground.data }, { on := 16, ground := Ground.data }, { on := 19, ground := Ground.chain }, { on := 0, ground := Ground.phase }, { on := 1, ground := Ground.phase }, { on := 2, ground := Ground.phase }, { on := 3, ground := Ground.phase }, { on := 4, ground := Ground.phase }, { on := 5, ground := Ground.phase }, { on := 6, ground := Ground.phase }, { on := 7, ground := Ground.phase }, { on := 8, ground := Ground.phase }, { on := 9, ground := Ground.phase }, { on := 10, ground := Ground.phase }, { on := 11, ground := Ground.phase }, { on := 12, ground := Ground.phase }, { on := 13, ground := Ground.phase }, { on := 14, ground := Ground.phase }, { on := 15, ground := Ground.phase }, { on := 16, ground := Ground.phase }, { on := 17, ground := Ground.phase }, { on := 18, ground := Ground.phase }, { on := 19, ground := Ground.phase }], guard := none }) rfl (fun K hK => ?_) AllReadyH.nil)
          (rw [if_pos (by kernel_rfl)]; refine wp_store_mid _ _ _ rfl _ 0 _ rfl rfl (HSl.out _ _ HQ.out) fl_info (by kernel_rfl) ?_; have HD2 := hidW (HDX.out _ _ HX.out HQ.out (Nat.le_of_lt HZ.out) (Nat.ne_of_gt HZ.out)); generalize World.setCells _ _ _ _ = u5 at HD2 ⊢; refine hK.out _ _ (And.intro (HC2.out _ _ _ _ _ HD2.out).1.2.1 (HC2.out _ _ _ _ _ HD2.out).1.2.2.2.2.2.1) (fun hHeld => ?_))
          clear hK K
          try simp only [Act.put, List.setIfInBounds_toArray, List.set_cons_zero, List.set_cons_succ]
          refine wpAnyH_done (by kernel_rfl) ?_ _
          (go_wp2_with fail); go_meet; exact ⟨_, rfl, rfl, rfl, HD2.out⟩
        · go_simp
          (first | (generalize hq : u4.alloc _ = ua; have e3 : u4.alloc (.cells flZ.toArray 40) = ua := hq; have HQ := hidW (Bl.new u4 40 flZ); have hbn := below_new u4 (.cells flZ.toArray 40); have HZ : Hid (w.heap.size < u4.heap.size) := HX.out.box.lt; have HX := hidW (HX.out.step hbn); rw [e3] at HQ HX; clear hbn e3 hq; generalize u4.heap.size = qf at HQ HZ ⊢; have K2 := hidW (And.intro (HC.out _ HX.out).1.2.1 (HC.out _ HX.out).1.2.2.2.2.2.1)) | (generalize hq : u3.alloc _ = ua; have e3 : u3.alloc (.cells flZ.toArray 40) = ua := hq; have HQ := hidW (Bl.new u3 40 flZ); have hbn := below_new u3 (.cells flZ.toArray 40); have HZ : Hid (w.heap.size < u3.heap.size) := HX.out.box.lt; have HX := hidW (HX.out.step hbn); rw [e3] at HQ HX; clear hbn e3 hq; generalize u3.heap.size = qf at HQ HZ ⊢; have K2 := hidW (And.intro (HC.out _ HX.out).1.2.1 (HC.out _ HX.out).1.2.2.2.2.2.1)) | (generalize hq : u2.alloc _ = ua; have e3 : u2.alloc (.cells flZ.toArray 40) = ua := hq; have HQ := hidW (Bl.new u2 40 flZ); have hbn := below_new u2 (.cells flZ.toArray 40); have HZ : Hid (w.heap.size < u2.heap.size) := HX.out.box.lt; have HX := hidW (HX.out.step hbn); rw [e3] at HQ HX; clear hbn e3 hq; generalize u2.heap.size = qf at HQ HZ ⊢; have K2 := hidW (And.intro (HC.out _ HX.out).1.2.1 (HC.out _ HX.out).1.2.2.2.2.2.1)) | (generalize hq : u1.alloc _ = ua; have e3 : u1.alloc (.cells flZ.toArray 40) = ua := hq; have HQ := hidW (Bl.new u1 40 flZ); have hbn := below_new u1 (.cells flZ.toArray 40); have HZ : Hid (w.heap.size < u1.heap.size) := HX.out.box.lt; have HX := hidW (HX.out.step hbn); rw [e3] at HQ HX; clear hbn e3 hq; generalize u1.heap.size = qf at HQ HZ ⊢; have K2 := hidW (And.intro (HC.out _ HX.out).1.2.1 (HC.out _ HX.out).1.2.2.2.2.2.1))); refine hK.out _ _ ?_ (fun hHeld => ?_); (focus exact K2.out)
          clear hK K
          try simp only [Act.put, List.setIfInBounds_toArray, List.set_cons_zero, List.set_cons_succ]
          refine wpAnyH_ready (rs := [12]) (by kernel_rfl) (by simp) ?_
          refine (AllReadyH.cons (o := { dst := some 30, op := Op.call { callee := Callee.value (Operand.func 82), args := #[Operand.tmp 19, Operand.tmp 23, Operand.tmp 24, Operand.tmp 25, Operand.tmp 29], argTypes := #[3, 22, 22, 4, 40] }, type := 136, pos := _, after := #[{ on := 1, ground := Ground.data }, { on := 5, ground := Ground.data }, { on := 6, ground := Ground.data }, { on := 7, ground := Ground.data }, { on := 11, ground := Ground.data }, { on := 11, ground := Ground.chain }], guard := none }) rfl (fun K hK => ?_) AllReadyH.nil)
          go_simp
          go_at_call 82; refine (HD.out _).mono ?_; rintro e u4 ⟨rfl, hb⟩; have HX := hidW (HX.out.step hb); have K2 := hidW (And.intro (HC.out _ HX.out).1.2.1 (HC.out _ HX.out).1.2.2.2.2.2.1); (try have HQ := hidW (HQ.out.below hb)); clear hb
          refine hK.out _ _ ?_ (fun hHeld => ?_)
          · exact K2.out
          clear hK K
          try simp only [Act.put, List.setIfInBounds_toArray, List.set_cons_zero, List.set_cons_succ]
          refine wpAnyH_take (i := 13) (oi := { dst := some 17, op := Op.move (Operand.tmp 30), type := 136, pos := _, after := #[{ on := 12, ground := Ground.data }], guard := none }) (v := ?_) rfl (by kernel_rfl) (by kernel_rfl) (by kernel_rfl) (fun _ _ _ h => h) (Or.inl ⟨by rfl, ?_⟩) (by assumption) ?_
          rotate_left
          · (intro w hSw; (try dsimp only at hSw); go_simp; try with_reducible rfl)
          simp only [Act.put, List.setIfInBounds_toArray, List.set_cons_zero, List.set_cons_succ]
          refine wpAnyH_take (i := 14) (oi := { dst := some 31, op := Op.extract (Operand.tmp 17) 0, type := 22, pos := _, after := #[{ on := 13, ground := Ground.data }], guard := none }) (v := ?_) rfl (by kernel_rfl) (by kernel_rfl) (by kernel_rfl) (fun _ _ _ h => h) (Or.inl ⟨by rfl, ?_⟩) (by assumption) ?_
          rotate_left
          · (intro w hSw; (try dsimp only at hSw); go_simp; try with_reducible rfl)
          simp only [Act.put, List.setIfInBounds_toArray, List.set_cons_zero, List.set_cons_succ]
          refine wpAnyH_take (i := 15) (oi := { dst := some 32, op := Op.extract (Operand.tmp 17) 1, type := 4, pos := _, after := #[{ on := 13, ground := Ground.data }, { on := 18, ground := Ground.gcOnly Departure.lateStores }], guard := none }) (v := ?_) rfl (by kernel_rfl) (by kernel_rfl) (by kernel_rfl) (fun _ _ _ h => h) (Or.inl ⟨by rfl, ?_⟩) (by assumption) ?_
          rotate_left
          · (intro w hSw; (try dsimp only at hSw); go_simp; try with_reducible rfl)
          simp only [Act.put, List.setIfInBounds_toArray, List.set_cons_zero, List.set_cons_succ]
          refine wpAnyH_take (i := 16) (oi := { dst := some 33, op := Op.extract (Operand.tmp 17) 2, type := 40, pos := _, after := #[{ on := 13, ground := Ground.data }, { on := 19, ground := Ground.gcOnly Departure.lateStores }], guard := none }) (v := ?_) rfl (by kernel_rfl) (by kernel_rfl) (by kernel_rfl) (fun _ _ _ h => h) (Or.inl ⟨by rfl, ?_⟩) (by assumption) ?_
          rotate_left
          · (intro w hSw; (try dsimp only at hSw); go_simp; try with_reducible rfl)
          simp only [Act.put, List.setIfInBounds_toArray, List.set_cons_zero, List.set_cons_succ]
          refine wpAnyH_take (i := 18) (oi := { dst := some 5, op := Op.assign (Operand.tmp 31), type := 22, pos := _, after := #[{ on := 14, ground := Ground.data }, { on := 12, ground := Ground.chain }, { on := 0, ground := Ground.phase }, { on := 1, ground := Ground.phase }, { on := 2, ground := Ground.phase }, { on := 3, ground := Ground.phase }, { on := 4, ground := Ground.phase }, { on := 5, ground := Ground.phase }, { on := 6, ground := Ground.phase }, { on := 7, ground := Ground.phase }, { on := 8, ground := Ground.phase }, { on := 9, ground := Ground.phase }, { on := 10, ground := Ground.phase }, { on := 11, ground := Ground.phase }, { on := 12, ground := Ground.phase }, { on := 13, ground := Ground.phase }, { on := 14, ground := Ground.phase }, { on := 15, ground := Ground.textOnly Departure.lateStores }, { on := 16, ground := Ground.textOnly Departure.lateStores }, { on := 17, ground := Ground.phase }], guard := none }) (v := ?_) rfl (by kernel_rfl) (by kernel_rfl) (by kernel_rfl) (fun _ _ _ h => h) (Or.inl ⟨by rfl, ?_⟩) (by assumption) ?_
          rotate_left
          · (intro w hSw; (try dsimp only at hSw); go_simp; try with_reducible rfl)
          simp only [Act.put, List.setIfInBounds_toArray, List.set_cons_zero, List.set_cons_succ]
          refine wpAnyH_take (i := 19) (oi := { dst := some 6, op := Op.assign (Operand.tmp 32), type := 4, pos := _, after := #[{ on := 15, ground := Ground.data }, { on := 18, ground := Ground.chain }, { on := 0, ground := Ground.phase }, { on := 1, ground := Ground.phase }, { on := 2, ground := Ground.phase }, { on := 3, ground := Ground.phase }, { on := 4, ground := Ground.phase }, { on := 5, ground := Ground.phase }, { on := 6, ground := Ground.phase }, { on := 7, ground := Ground.phase }, { on := 8, ground := Ground.phase }, { on := 9, ground := Ground.phase }, { on := 10, ground := Ground.phase }, { on := 11, ground := Ground.phase }, { on := 12, ground := Ground.phase }, { on := 13, ground := Ground.phase }, { on := 14, ground := Ground.phase }, { on := 15, ground := Ground.phase }, { on := 16, ground := Ground.textOnly Departure.lateStores }, { on := 17, ground := Ground.phase }, { on := 18, ground := Ground.phase }], guard := none }) (v := ?_) rfl (by kernel_rfl) (by kernel_rfl) (by kernel_rfl) (fun _ _ _ h => h) (Or.inl ⟨by rfl, ?_⟩) (by assumption) ?_
          rotate_left
          · (intro w hSw; (try dsimp only at hSw); go_simp; try with_reducible rfl)
          simp only [Act.put, List.setIfInBounds_toArray, List.set_cons_zero, List.set_cons_succ]
          refine wpAnyH_ready (rs := [20]) (by kernel_rfl) (by simp) ?_
          refine (AllReadyH.cons (o := { dst := none, op := Op.store 40 (Operand.tmp 7) (Operand.tmp 33), type := 0, pos := _, after := #[{ on := 17, ground := Ground.data }, { on := 16, ground := Ground.data }, { on := 19, ground := Ground.chain }, { on := 0, ground := Ground.phase }, { on := 1, ground := Ground.phase }, { on := 2, ground := Ground.phase }, { on := 3, ground := Ground.phase }, { on := 4, ground := Ground.phase }, { on := 5, ground := Ground.phase }, { on := 6, ground := Ground.phase }, { on := 7, ground := Ground.phase }, { on := 8, ground := Ground.phase }, { on := 9, ground := Ground.phase }, { on := 10, ground := Ground.phase }, { on := 11, ground := Ground.phase }, { on := 12, ground := Ground.phase }, { on := 13, ground := Ground.phase }, { on := 14, ground := Ground.phase }, { on := 15, ground := Ground.phase }, { on := 16, ground := Ground.phase }, { on := 17, ground := Ground.phase }, { on := 18, ground := Ground.phase }, { on := 19, ground := Ground.phase }], guard := none }) rfl (fun K hK => ?_) AllReadyH.nil)
          (rw [if_pos (by kernel_rfl)]; refine wp_store_mid _ _ _ rfl _ 0 _ rfl rfl (HSl.out _ _ HQ.out) fl_info (by kernel_rfl) ?_; have HD2 := hidW (HDX.out _ _ HX.out HQ.out (Nat.le_of_lt HZ.out) (Nat.ne_of_gt HZ.out)); generalize World.setCells _ _ _ _ = u5 at HD2 ⊢; refine hK.out _ _ (And.intro (HC2.out _ _ _ _ _ HD2.out).1.2.1 (HC2.out _ _ _ _ _ HD2.out).1.2.2.2.2.2.1) (fun hHeld => ?_))
          clear hK K
          try simp only [Act.put, List.setIfInBounds_toArray, List.set_cons_zero, List.set_cons_succ]
          refine wpAnyH_done (by kernel_rfl) ?_ _
          (go_wp2_with fail); go_meet; exact ⟨_, rfl, rfl, rfl, HD2.out⟩
      · go_simp
        (first | (generalize hq : u4.alloc _ = ua; have e3 : u4.alloc (.cells flZ.toArray 40) = ua := hq; have HQ := hidW (Bl.new u4 40 flZ); have hbn := below_new u4 (.cells flZ.toArray 40); have HZ : Hid (w.heap.size < u4.heap.size) := HX.out.box.lt; have HX := hidW (HX.out.step hbn); rw [e3] at HQ HX; clear hbn e3 hq; generalize u4.heap.size = qf at HQ HZ ⊢; have K2 := hidW (And.intro (HC.out _ HX.out).1.2.1 (HC.out _ HX.out).1.2.2.2.2.2.1)) | (generalize hq : u3.alloc _ = ua; have e3 : u3.alloc (.cells flZ.toArray 40) = ua := hq; have HQ := hidW (Bl.new u3 40 flZ); have hbn := below_new u3 (.cells flZ.toArray 40); have HZ : Hid (w.heap.size < u3.heap.size) := HX.out.box.lt; have HX := hidW (HX.out.step hbn); rw [e3] at HQ HX; clear hbn e3 hq; generalize u3.heap.size = qf at HQ HZ ⊢; have K2 := hidW (And.intro (HC.out _ HX.out).1.2.1 (HC.out _ HX.out).1.2.2.2.2.2.1)) | (generalize hq : u2.alloc _ = ua; have e3 : u2.alloc (.cells flZ.toArray 40) = ua := hq; have HQ := hidW (Bl.new u2 40 flZ); have hbn := below_new u2 (.cells flZ.toArray 40); have HZ : Hid (w.heap.size < u2.heap.size) := HX.out.box.lt; have HX := hidW (HX.out.step hbn); rw [e3] at HQ HX; clear hbn e3 hq; generalize u2.heap.size = qf at HQ HZ ⊢; have K2 := hidW (And.intro (HC.out _ HX.out).1.2.1 (HC.out _ HX.out).1.2.2.2.2.2.1)) | (generalize hq : u1.alloc _ = ua; have e3 : u1.alloc (.cells flZ.toArray 40) = ua := hq; have HQ := hidW (Bl.new u1 40 flZ); have hbn := below_new u1 (.cells flZ.toArray 40); have HZ : Hid (w.heap.size < u1.heap.size) := HX.out.box.lt; have HX := hidW (HX.out.step hbn); rw [e3] at HQ HX; clear hbn e3 hq; generalize u1.heap.size = qf at HQ HZ ⊢; have K2 := hidW (And.intro (HC.out _ HX.out).1.2.1 (HC.out _ HX.out).1.2.2.2.2.2.1))); refine hK.out _ _ ?_ (fun hHeld => ?_); (focus exact K2.out)
        clear hK K
        try simp only [Act.put, List.setIfInBounds_toArray, List.set_cons_zero, List.set_cons_succ]
        refine wpAnyH_ready (rs := [11]) (by kernel_rfl) (by simp) ?_
        refine (AllReadyH.cons (o := { dst := some 29, op := Op.call { callee := Callee.value (Operand.func 57), args := #[Operand.tmp 28], argTypes := #[84] }, type := 40, pos := _, after := #[{ on := 10, ground := Ground.data }, { on := 5, ground := Ground.chain }], guard := none }) rfl (fun K hK => ?_) AllReadyH.nil)
        go_simp
        go_at_call 57; refine (HF.out _ HX.out.db).mono ?_; rintro e u3 ⟨rfl, hb⟩; have HX := hidW (HX.out.step hb); have K2 := hidW (And.intro (HC.out _ HX.out).1.2.1 (HC.out _ HX.out).1.2.2.2.2.2.1); (try have HQ := hidW (HQ.out.below hb)); clear hb
        refine hK.out _ _ ?_ (fun hHeld => ?_)
        · exact K2.out
        clear hK K
        try simp only [Act.put, List.setIfInBounds_toArray, List.set_cons_zero, List.set_cons_succ]
        refine wpAnyH_ready (rs := [12]) (by kernel_rfl) (by simp) ?_
        refine (AllReadyH.cons (o := { dst := some 30, op := Op.call { callee := Callee.value (Operand.func 82), args := #[Operand.tmp 19, Operand.tmp 23, Operand.tmp 24, Operand.tmp 25, Operand.tmp 29], argTypes := #[3, 22, 22, 4, 40] }, type := 136, pos := _, after := #[{ on := 1, ground := Ground.data }, { on := 5, ground := Ground.data }, { on := 6, ground := Ground.data }, { on := 7, ground := Ground.data }, { on := 11, ground := Ground.data }, { on := 11, ground := Ground.chain }], guard := none }) rfl (fun K hK => ?_) AllReadyH.nil)
        go_simp
        go_at_call 82; refine (HD.out _).mono ?_; rintro e u4 ⟨rfl, hb⟩; have HX := hidW (HX.out.step hb); have K2 := hidW (And.intro (HC.out _ HX.out).1.2.1 (HC.out _ HX.out).1.2.2.2.2.2.1); (try have HQ := hidW (HQ.out.below hb)); clear hb
        refine hK.out _ _ ?_ (fun hHeld => ?_)
        · exact K2.out
        clear hK K
        try simp only [Act.put, List.setIfInBounds_toArray, List.set_cons_zero, List.set_cons_succ]
        refine wpAnyH_take (i := 13) (oi := { dst := some 17, op := Op.move (Operand.tmp 30), type := 136, pos := _, after := #[{ on := 12, ground := Ground.data }], guard := none }) (v := ?_) rfl (by kernel_rfl) (by kernel_rfl) (by kernel_rfl) (fun _ _ _ h => h) (Or.inl ⟨by rfl, ?_⟩) (by assumption) ?_
        rotate_left
        · (intro w hSw; (try dsimp only at hSw); go_simp; try with_reducible rfl)
        simp only [Act.put, List.setIfInBounds_toArray, List.set_cons_zero, List.set_cons_succ]
        refine wpAnyH_take (i := 14) (oi := { dst := some 31, op := Op.extract (Operand.tmp 17) 0, type := 22, pos := _, after := #[{ on := 13, ground := Ground.data }], guard := none }) (v := ?_) rfl (by kernel_rfl) (by kernel_rfl) (by kernel_rfl) (fun _ _ _ h => h) (Or.inl ⟨by rfl, ?_⟩) (by assumption) ?_
        rotate_left
        · (intro w hSw; (try dsimp only at hSw); go_simp; try with_reducible rfl)
        simp only [Act.put, List.setIfInBounds_toArray, List.set_cons_zero, List.set_cons_succ]
        refine wpAnyH_take (i := 15) (oi := { dst := some 32, op := Op.extract (Operand.tmp 17) 1, type := 4, pos := _, after := #[{ on := 13, ground := Ground.data }, { on := 18, ground := Ground.gcOnly Departure.lateStores }], guard := none }) (v := ?_) rfl (by kernel_rfl) (by kernel_rfl) (by kernel_rfl) (fun _ _ _ h => h) (Or.inl ⟨by rfl, ?_⟩) (by assumption) ?_
        rotate_left
        · (intro w hSw; (try dsimp only at hSw); go_simp; try with_reducible rfl)
        simp only [Act.put, List.setIfInBounds_toArray, List.set_cons_zero, List.set_cons_succ]
        refine wpAnyH_take (i := 16) (oi := { dst := some 33, op := Op.extract (Operand.tmp 17) 2, type := 40, pos := _, after := #[{ on := 13, ground := Ground.data }, { on := 19, ground := Ground.gcOnly Departure.lateStores }], guard := none }) (v := ?_) rfl (by kernel_rfl) (by kernel_rfl) (by kernel_rfl) (fun _ _ _ h => h) (Or.inl ⟨by rfl, ?_⟩) (by assumption) ?_
        rotate_left
        · (intro w hSw; (try dsimp only at hSw); go_simp; try with_reducible rfl)
        simp only [Act.put, List.setIfInBounds_toArray, List.set_cons_zero, List.set_cons_succ]
        refine wpAnyH_take (i := 18) (oi := { dst := some 5, op := Op.assign (Operand.tmp 31), type := 22, pos := _, after := #[{ on := 14, ground := Ground.data }, { on := 12, ground := Ground.chain }, { on := 0, ground := Ground.phase }, { on := 1, ground := Ground.phase }, { on := 2, ground := Ground.phase }, { on := 3, ground := Ground.phase }, { on := 4, ground := Ground.phase }, { on := 5, ground := Ground.phase }, { on := 6, ground := Ground.phase }, { on := 7, ground := Ground.phase }, { on := 8, ground := Ground.phase }, { on := 9, ground := Ground.phase }, { on := 10, ground := Ground.phase }, { on := 11, ground := Ground.phase }, { on := 12, ground := Ground.phase }, { on := 13, ground := Ground.phase }, { on := 14, ground := Ground.phase }, { on := 15, ground := Ground.textOnly Departure.lateStores }, { on := 16, ground := Ground.textOnly Departure.lateStores }, { on := 17, ground := Ground.phase }], guard := none }) (v := ?_) rfl (by kernel_rfl) (by kernel_rfl) (by kernel_rfl) (fun _ _ _ h => h) (Or.inl ⟨by rfl, ?_⟩) (by assumption) ?_
        rotate_left
        · (intro w hSw; (try dsimp only at hSw); go_simp; try with_reducible rfl)
        simp only [Act.put, List.setIfInBounds_toArray, List.set_cons_zero, List.set_cons_succ]
        refine wpAnyH_take (i := 19) (oi := { dst := some 6, op := Op.assign (Operand.tmp 32), type := 4, pos := _, after := #[{ on := 15, ground := Ground.data }, { on := 18, ground := Ground.chain }, { on := 0, ground := Ground.phase }, { on := 1, ground := Ground.phase }, { on := 2, ground := Ground.phase }, { on := 3, ground := Ground.phase }, { on := 4, ground := Ground.phase }, { on := 5, ground := Ground.phase }, { on := 6, ground := Ground.phase }, { on := 7, ground := Ground.phase }, { on := 8, ground := Ground.phase }, { on := 9, ground := Ground.phase }, { on := 10, ground := Ground.phase }, { on := 11, ground := Ground.phase }, { on := 12, ground := Ground.phase }, { on := 13, ground := Ground.phase }, { on := 14, ground := Ground.phase }, { on := 15, ground := Ground.phase }, { on := 16, ground := Ground.textOnly Departure.lateStores }, { on := 17, ground := Ground.phase }, { on := 18, ground := Ground.phase }], guard := none }) (v := ?_) rfl (by kernel_rfl) (by kernel_rfl) (by kernel_rfl) (fun _ _ _ h => h) (Or.inl ⟨by rfl, ?_⟩) (by assumption) ?_
        rotate_left
        · (intro w hSw; (try dsimp only at hSw); go_simp; try with_reducible rfl)
        simp only [Act.put, List.setIfInBounds_toArray, List.set_cons_zero, List.set_cons_succ]
        refine wpAnyH_ready (rs := [20]) (by kernel_rfl) (by simp) ?_
        refine (AllReadyH.cons (o := { dst := none, op := Op.store 40 (Operand.tmp 7) (Operand.tmp 33), type := 0, pos := _, after := #[{ on := 17, ground := Ground.data }, { on := 16, ground := Ground.data }, { on := 19, ground := Ground.chain }, { on := 0, ground := Ground.phase }, { on := 1, ground := Ground.phase }, { on := 2, ground := Ground.phase }, { on := 3, ground := Ground.phase }, { on := 4, ground := Ground.phase }, { on := 5, ground := Ground.phase }, { on := 6, ground := Ground.phase }, { on := 7, ground := Ground.phase }, { on := 8, ground := Ground.phase }, { on := 9, ground := Ground.phase }, { on := 10, ground := Ground.phase }, { on := 11, ground := Ground.phase }, { on := 12, ground := Ground.phase }, { on := 13, ground := Ground.phase }, { on := 14, ground := Ground.phase }, { on := 15, ground := Ground.phase }, { on := 16, ground := Ground.phase }, { on := 17, ground := Ground.phase }, { on := 18, ground := Ground.phase }, { on := 19, ground := Ground.phase }], guard := none }) rfl (fun K hK => ?_) AllReadyH.nil)
        (rw [if_pos (by kernel_rfl)]; refine wp_store_mid _ _ _ rfl _ 0 _ rfl rfl (HSl.out _ _ HQ.out) fl_info (by kernel_rfl) ?_; have HD2 := hidW (HDX.out _ _ HX.out HQ.out (Nat.le_of_lt HZ.out) (Nat.ne_of_gt HZ.out)); generalize World.setCells _ _ _ _ = u5 at HD2 ⊢; refine hK.out _ _ (And.intro (HC2.out _ _ _ _ _ HD2.out).1.2.1 (HC2.out _ _ _ _ _ HD2.out).1.2.2.2.2.2.1) (fun hHeld => ?_))
        clear hK K
        try simp only [Act.put, List.setIfInBounds_toArray, List.set_cons_zero, List.set_cons_succ]
        refine wpAnyH_done (by kernel_rfl) ?_ _
        (go_wp2_with fail); go_meet; exact ⟨_, rfl, rfl, rfl, HD2.out⟩
    · go_simp
      (first | (generalize hq : u4.alloc _ = ua; have e3 : u4.alloc (.cells flZ.toArray 40) = ua := hq; have HQ := hidW (Bl.new u4 40 flZ); have hbn := below_new u4 (.cells flZ.toArray 40); have HZ : Hid (w.heap.size < u4.heap.size) := HX.out.box.lt; have HX := hidW (HX.out.step hbn); rw [e3] at HQ HX; clear hbn e3 hq; generalize u4.heap.size = qf at HQ HZ ⊢; have K2 := hidW (And.intro (HC.out _ HX.out).1.2.1 (HC.out _ HX.out).1.2.2.2.2.2.1)) | (generalize hq : u3.alloc _ = ua; have e3 : u3.alloc (.cells flZ.toArray 40) = ua := hq; have HQ := hidW (Bl.new u3 40 flZ); have hbn := below_new u3 (.cells flZ.toArray 40); have HZ : Hid (w.heap.size < u3.heap.size) := HX.out.box.lt; have HX := hidW (HX.out.step hbn); rw [e3] at HQ HX; clear hbn e3 hq; generalize u3.heap.size = qf at HQ HZ ⊢; have K2 := hidW (And.intro (HC.out _ HX.out).1.2.1 (HC.out _ HX.out).1.2.2.2.2.2.1)) | (generalize hq : u2.alloc _ = ua; have e3 : u2.alloc (.cells flZ.toArray 40) = ua := hq; have HQ := hidW (Bl.new u2 40 flZ); have hbn := below_new u2 (.cells flZ.toArray 40); have HZ : Hid (w.heap.size < u2.heap.size) := HX.out.box.lt; have HX := hidW (HX.out.step hbn); rw [e3] at HQ HX; clear hbn e3 hq; generalize u2.heap.size = qf at HQ HZ ⊢; have K2 := hidW (And.intro (HC.out _ HX.out).1.2.1 (HC.out _ HX.out).1.2.2.2.2.2.1)) | (generalize hq : u1.alloc _ = ua; have e3 : u1.alloc (.cells flZ.toArray 40) = ua := hq; have HQ := hidW (Bl.new u1 40 flZ); have hbn := below_new u1 (.cells flZ.toArray 40); have HZ : Hid (w.heap.size < u1.heap.size) := HX.out.box.lt; have HX := hidW (HX.out.step hbn); rw [e3] at HQ HX; clear hbn e3 hq; generalize u1.heap.size = qf at HQ HZ ⊢; have K2 := hidW (And.intro (HC.out _ HX.out).1.2.1 (HC.out _ HX.out).1.2.2.2.2.2.1))); refine hK.out _ _ ?_ (fun hHeld => ?_); (focus exact K2.out)
      clear hK K
      try simp only [Act.put, List.setIfInBounds_toArray, List.set_cons_zero, List.set_cons_succ]
      refine wpAnyH_ready (rs := [5]) (by kernel_rfl) (by simp) ?_
      refine (AllReadyH.cons (o := { dst := some 23, op := Op.call { callee := Callee.value (Operand.func 83), args := #[Operand.tmp 20, Operand.tmp 22], argTypes := #[122, 3] }, type := 22, pos := _, after := #[{ on := 2, ground := Ground.data }, { on := 4, ground := Ground.data }], guard := none }) rfl (fun K hK => ?_) AllReadyH.nil)
      go_simp
      go_at_call 83; refine (HV.out _ HX.out.db).mono ?_; rintro e u2 ⟨rfl, hb⟩; have HX := hidW (HX.out.step hb); have K2 := hidW (And.intro (HC.out _ HX.out).1.2.1 (HC.out _ HX.out).1.2.2.2.2.2.1); (try have HQ := hidW (HQ.out.below hb)); clear hb
      refine hK.out _ _ ?_ (fun hHeld => ?_)
      · exact K2.out
      clear hK K
      try simp only [Act.put, List.setIfInBounds_toArray, List.set_cons_zero, List.set_cons_succ]
      refine wpAnyH_ready (rs := [11]) (by kernel_rfl) (by simp) ?_
      refine (AllReadyH.cons (o := { dst := some 29, op := Op.call { callee := Callee.value (Operand.func 57), args := #[Operand.tmp 28], argTypes := #[84] }, type := 40, pos := _, after := #[{ on := 10, ground := Ground.data }, { on := 5, ground := Ground.chain }], guard := none }) rfl (fun K hK => ?_) AllReadyH.nil)
      go_simp
      go_at_call 57; refine (HF.out _ HX.out.db).mono ?_; rintro e u3 ⟨rfl, hb⟩; have HX := hidW (HX.out.step hb); have K2 := hidW (And.intro (HC.out _ HX.out).1.2.1 (HC.out _ HX.out).1.2.2.2.2.2.1); (try have HQ := hidW (HQ.out.below hb)); clear hb
      refine hK.out _ _ ?_ (fun hHeld => ?_)
      · exact K2.out
      clear hK K
      try simp only [Act.put, List.setIfInBounds_toArray, List.set_cons_zero, List.set_cons_succ]
      refine wpAnyH_ready (rs := [12]) (by kernel_rfl) (by simp) ?_
      refine (AllReadyH.cons (o := { dst := some 30, op := Op.call { callee := Callee.value (Operand.func 82), args := #[Operand.tmp 19, Operand.tmp 23, Operand.tmp 24, Operand.tmp 25, Operand.tmp 29], argTypes := #[3, 22, 22, 4, 40] }, type := 136, pos := _, after := #[{ on := 1, ground := Ground.data }, { on := 5, ground := Ground.data }, { on := 6, ground := Ground.data }, { on := 7, ground := Ground.data }, { on := 11, ground := Ground.data }, { on := 11, ground := Ground.chain }], guard := none }) rfl (fun K hK => ?_) AllReadyH.nil)
      go_simp
      go_at_call 82; refine (HD.out _).mono ?_; rintro e u4 ⟨rfl, hb⟩; have HX := hidW (HX.out.step hb); have K2 := hidW (And.intro (HC.out _ HX.out).1.2.1 (HC.out _ HX.out).1.2.2.2.2.2.1); (try have HQ := hidW (HQ.out.below hb)); clear hb
      refine hK.out _ _ ?_ (fun hHeld => ?_)
      · exact K2.out
      clear hK K
      try simp only [Act.put, List.setIfInBounds_toArray, List.set_cons_zero, List.set_cons_succ]
      refine wpAnyH_take (i := 13) (oi := { dst := some 17, op := Op.move (Operand.tmp 30), type := 136, pos := _, after := #[{ on := 12, ground := Ground.data }], guard := none }) (v := ?_) rfl (by kernel_rfl) (by kernel_rfl) (by kernel_rfl) (fun _ _ _ h => h) (Or.inl ⟨by rfl, ?_⟩) (by assumption) ?_
      rotate_left
      · (intro w hSw; (try dsimp only at hSw); go_simp; try with_reducible rfl)
      simp only [Act.put, List.setIfInBounds_toArray, List.set_cons_zero, List.set_cons_succ]
      refine wpAnyH_take (i := 14) (oi := { dst := some 31, op := Op.extract (Operand.tmp 17) 0, type := 22, pos := _, after := #[{ on := 13, ground := Ground.data }], guard := none }) (v := ?_) rfl (by kernel_rfl) (by kernel_rfl) (by kernel_rfl) (fun _ _ _ h => h) (Or.inl ⟨by rfl, ?_⟩) (by assumption) ?_
      rotate_left
      · (intro w hSw; (try dsimp only at hSw); go_simp; try with_reducible rfl)
      simp only [Act.put, List.setIfInBounds_toArray, List.set_cons_zero, List.set_cons_succ]
      refine wpAnyH_take (i := 15) (oi := { dst := some 32, op := Op.extract (Operand.tmp 17) 1, type := 4, pos := _, after := #[{ on := 13, ground := Ground.data }, { on := 18, ground := Ground.gcOnly Departure.lateStores }], guard := none }) (v := ?_) rfl (by kernel_rfl) (by kernel_rfl) (by kernel_rfl) (fun _ _ _ h => h) (Or.inl ⟨by rfl, ?_⟩) (by assumption) ?_
      rotate_left
      · (intro w hSw; (try dsimp only at hSw); go_simp; try with_reducible rfl)
      simp only [Act.put, List.setIfInBounds_toArray, List.set_cons_zero, List.set_cons_succ]
      refine wpAnyH_take (i := 16) (oi := { dst := some 33, op := Op.extract (Operand.tmp 17) 2, type := 40, pos := _, after := #[{ on := 13, ground := Ground.data }, { on := 19, ground := Ground.gcOnly Departure.lateStores }], guard := none }) (v := ?_) rfl (by kernel_rfl) (by kernel_rfl) (by kernel_rfl) (fun _ _ _ h => h) (Or.inl ⟨by rfl, ?_⟩) (by assumption) ?_
      rotate_left
      · (intro w hSw; (try dsimp only at hSw); go_simp; try with_reducible rfl)
      simp only [Act.put, List.setIfInBounds_toArray, List.set_cons_zero, List.set_cons_succ]
      refine wpAnyH_take (i := 18) (oi := { dst := some 5, op := Op.assign (Operand.tmp 31), type := 22, pos := _, after := #[{ on := 14, ground := Ground.data }, { on := 12, ground := Ground.chain }, { on := 0, ground := Ground.phase }, { on := 1, ground := Ground.phase }, { on := 2, ground := Ground.phase }, { on := 3, ground := Ground.phase }, { on := 4, ground := Ground.phase }, { on := 5, ground := Ground.phase }, { on := 6, ground := Ground.phase }, { on := 7, ground := Ground.phase }, { on := 8, ground := Ground.phase }, { on := 9, ground := Ground.phase }, { on := 10, ground := Ground.phase }, { on := 11, ground := Ground.phase }, { on := 12, ground := Ground.phase }, { on := 13, ground := Ground.phase }, { on := 14, ground := Ground.phase }, { on := 15, ground := Ground.textOnly Departure.lateStores }, { on := 16, ground := Ground.textOnly Departure.lateStores }, { on := 17, ground := Ground.phase }], guard := none }) (v := ?_) rfl (by kernel_rfl) (by kernel_rfl) (by kernel_rfl) (fun _ _ _ h => h) (Or.inl ⟨by rfl, ?_⟩) (by assumption) ?_
      rotate_left
      · (intro w hSw; (try dsimp only at hSw); go_simp; try with_reducible rfl)
      simp only [Act.put, List.setIfInBounds_toArray, List.set_cons_zero, List.set_cons_succ]
      refine wpAnyH_take (i := 19) (oi := { dst := some 6, op := Op.assign (Operand.tmp 32), type := 4, pos := _, after := #[{ on := 15, ground := Ground.data }, { on := 18, ground := Ground.chain }, { on := 0, ground := Ground.phase }, { on := 1, ground := Ground.phase }, { on := 2, ground := Ground.phase }, { on := 3, ground := Ground.phase }, { on := 4, ground := Ground.phase }, { on := 5, ground := Ground.phase }, { on := 6, ground := Ground.phase }, { on := 7, ground := Ground.phase }, { on := 8, ground := Ground.phase }, { on := 9, ground := Ground.phase }, { on := 10, ground := Ground.phase }, { on := 11, ground := Ground.phase }, { on := 12, ground := Ground.phase }, { on := 13, ground := Ground.phase }, { on := 14, ground := Ground.phase }, { on := 15, ground := Ground.phase }, { on := 16, ground := Ground.textOnly Departure.lateStores }, { on := 17, ground := Ground.phase }, { on := 18, ground := Ground.phase }], guard := none }) (v := ?_) rfl (by kernel_rfl) (by kernel_rfl) (by kernel_rfl) (fun _ _ _ h => h) (Or.inl ⟨by rfl, ?_⟩) (by assumption) ?_
      rotate_left
      · (intro w hSw; (try dsimp only at hSw); go_simp; try with_reducible rfl)
      simp only [Act.put, List.setIfInBounds_toArray, List.set_cons_zero, List.set_cons_succ]
      refine wpAnyH_ready (rs := [20]) (by kernel_rfl) (by simp) ?_
      refine (AllReadyH.cons (o := { dst := none, op := Op.store 40 (Operand.tmp 7) (Operand.tmp 33), type := 0, pos := _, after := #[{ on := 17, ground := Ground.data }, { on := 16, ground := Ground.data }, { on := 19, ground := Ground.chain }, { on := 0, ground := Ground.phase }, { on := 1, ground := Ground.phase }, { on := 2, ground := Ground.phase }, { on := 3, ground := Ground.phase }, { on := 4, ground := Ground.phase }, { on := 5, ground := Ground.phase }, { on := 6, ground := Ground.phase }, { on := 7, ground := Ground.phase }, { on := 8, ground := Ground.phase }, { on := 9, ground := Ground.phase }, { on := 10, ground := Ground.phase }, { on := 11, ground := Ground.phase }, { on := 12, ground := Ground.phase }, { on := 13, ground := Ground.phase }, { on := 14, ground := Ground.phase }, { on := 15, ground := Ground.phase }, { on := 16, ground := Ground.phase }, { on := 17, ground := Ground.phase }, { on := 18, ground := Ground.phase }, { on := 19, ground := Ground.phase }], guard := none }) rfl (fun K hK => ?_) AllReadyH.nil)
      (rw [if_pos (by kernel_rfl)]; refine wp_store_mid _ _ _ rfl _ 0 _ rfl rfl (HSl.out _ _ HQ.out) fl_info (by kernel_rfl) ?_; have HD2 := hidW (HDX.out _ _ HX.out HQ.out (Nat.le_of_lt HZ.out) (Nat.ne_of_gt HZ.out)); generalize World.setCells _ _ _ _ = u5 at HD2 ⊢; refine hK.out _ _ (And.intro (HC2.out _ _ _ _ _ HD2.out).1.2.1 (HC2.out _ _ _ _ _ HD2.out).1.2.2.2.2.2.1) (fun hHeld => ?_))
      clear hK K
      try simp only [Act.put, List.setIfInBounds_toArray, List.set_cons_zero, List.set_cons_succ]
      refine wpAnyH_done (by kernel_rfl) ?_ _
      (go_wp2_with fail); go_meet; exact ⟨_, rfl, rfl, rfl, HD2.out⟩
  case rest =>
    obtain ⟨qf, rfl, rfl, rfl, hd⟩ := hcut
    have HX := hidW hd
    obtain ⟨⟨c0, c1, c2, c3, c4, c5, c6, c7, c8, c9⟩, c10, c11, c12, c13, c14, c15⟩ := HC2.out _ _ _ _ _ HX.out
    rw [hs] at c2
    clear hd HDX HS HR HT HO HI HJ HIns HD HF HV HOp HSl HC
    cases s <;> cases wr
    · go_wp2
      exact bodyPost_end (v := .tuple #[]) (by simp [results, Tryz.results59, go_sem]) rfl ⟨rfl, HX.out.turn, HX.out.db⟩
    · go_wp2
      have HX := hidW HX.out.drew
      go_region_held3 (fun v => v.cell? ⟨w.heap.size, 4, none⟩ = some (.int .i64 i.rd)) (first | exact (HC2.out _ _ _ _ _ HX.out).1.2.2.2.2.1) ((first | (go_at_call 39; refine (HST.out _ _ HX.out.db).mono ?_; rintro e w6 ⟨rfl, ht, hz⟩; have HX := hidW (HX.out.ta ht hz); clear ht hz)))
      go_wp2_with fail
      exact bodyPost_end (v := .tuple #[]) (by simp [results, Tryz.results59, go_sem]) rfl ⟨rfl, HX.out.turn, HX.out.db⟩
    · go_wp2
      have HX := hidW HX.out.drew
      go_region_held3 (fun v => v.cell? ⟨qf, 0, none⟩ = some (.bool gn) ∧ v.cell? ⟨qf, 1, none⟩ = some (.bool gz) ∧ v.cell? ⟨qf, 2, none⟩ = some (.bool gc) ∧ v.cell? ⟨qf, 3, none⟩ = some (.bool gv)) (first | exact HX.out.fl.four.1) ((first | (go_at_call 85; refine (HSF.out _ HX.out.db).mono ?_; rintro e w5 ⟨rfl, ht, hz⟩; have HX := hidW (HX.out.ta ht hz); clear ht hz)))
      go_wp2_with fail
      exact bodyPost_end (v := .tuple #[]) (by simp [results, Tryz.results59, go_sem]) rfl ⟨rfl, HX.out.turn, HX.out.db⟩
    · have b15 : (i.rd == 15) = false := beq_eq_false_iff_ne.2 (hl rfl rfl)
      go_wp2
      have HX := hidW HX.out.drew
      go_region_held3 (fun v => v.cell? ⟨qf, 0, none⟩ = some (.bool gn) ∧ v.cell? ⟨qf, 1, none⟩ = some (.bool gz) ∧ v.cell? ⟨qf, 2, none⟩ = some (.bool gc) ∧ v.cell? ⟨qf, 3, none⟩ = some (.bool gv)) (first | exact HX.out.fl.four.1) ((first | (go_at_call 85; refine (HSF.out _ HX.out.db).mono ?_; rintro e w5 ⟨rfl, ht, hz⟩; have HX := hidW (HX.out.ta ht hz); clear ht hz)))
      clear c0 c1 c2 c3 c4 c5 c6 c7 c8 c9 c10 c11 c12 c13 c14 c15
      obtain ⟨⟨c0, c1, c2, c3, c4, c5, c6, c7, c8, c9⟩, c10, c11, c12, c13, c14, c15⟩ := HC2.out _ _ _ _ _ HX.out
      go_wp2_with fail
      have HX := hidW HX.out.drew
      go_region_held3 (fun v => v.cell? ⟨w.heap.size, 4, none⟩ = some (.int .i64 i.rd)) (first | exact (HC2.out _ _ _ _ _ HX.out).1.2.2.2.2.1) ((first | (go_at_call 39; refine (HST.out _ _ HX.out.db).mono ?_; rintro e w6 ⟨rfl, ht, hz⟩; have HX := hidW (HX.out.ta ht hz); clear ht hz)))
      go_wp2_with fail
      exact bodyPost_end (v := .tuple #[]) (by simp [results, Tryz.results59, go_sem]) rfl ⟨rfl, HX.out.turn, HX.out.db⟩
theorem gdata (w : World) (b : Nat) (R : List Int) (ln : Bool) (bus : Value) (i : Is.Ins) (t : Tk) (h : DB w b R ln bus i t) (hi : IR i) (hr : 0 ≤ (opdP R t.at_ i).1 ∧ (opdP R t.at_ i).1 < 4294967296) (hw : 0 ≤ dtW R t.at_ i ∧ dtW R t.at_ i < 4294967296) (hl : i.s = true → Al.dxR i.op = true → ¬ i.rd = 15) :
    Calls Tryz.prog 59 #[.pointer (some ⟨b, 0, none⟩)] w fun e w' => e = .returned (.tuple #[]) ∧ TA b w w' ∧ DB w' b (dtR R t.at_ i) ln bus i t := gdata_at w b R ln bus i t h hi hr hw _ _ rfl rfl hl
end Go.Proofs.YtilhceajhlaojaaGreatDoor
