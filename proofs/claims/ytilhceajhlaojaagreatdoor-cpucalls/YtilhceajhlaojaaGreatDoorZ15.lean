import Derived.Test.YtilhceajhlaojaaGreatDoorZ12
import Derived.Test.YtilhceajhlaojaaGreatDoorZ14
import Derived.Test.YtilhceajhlaojaaGreatDoorZ1
namespace Go.Proofs.YtilhceajhlaojaaGreatDoor
open Go.RowKit
set_option linter.unusedVariables false
set_option linter.unusedSimpArgs false
/-- A line, as a bus. -/
def busV (lb : Nat) : Value := .iface 42 (.pointer (some ⟨lb, 0, none⟩))
set_option maxRecDepth 100000 in
theorem mthA (lb : Nat) (w : World) : (method 294 42 (.pointer (some ⟨lb, 0, none⟩)) "Access").run Tryz.prog w = .ok (147, .pointer (some ⟨lb, 0, none⟩)) w := by kernel_rfl
/-- What an access leaves of the line. -/
def LQ (w w' : World) (lo lb : Nat) (pv hv av : Value) (l' : Ln) : Prop :=
  ∃ av', LX w' lo lb pv hv av' l' ∧ Turn (LO lb pv hv av) w w' ∧ ∀ b, LO lb pv hv av' b → LO lb pv hv av b ∨ w.heap.size ≤ b
set_option maxRecDepth 100000 in
theorem ans_info : (Tryz.prog.info? 119).map (·.size) = some 4 := by kernel_rfl
/-- Ahead of the asking. -/
structure PX (W v : World) (b lo lb : Nat) (pv hv av : Value) (l : Ln) (R : List Int) (ln : Bool) (i : Is.Ins) (t : Tk) : Prop where
  bel : Below W.heap.size W v
  db : DB v b R ln (busV lb) i t
  lx : LX v lo lb pv hv av l
theorem PX.step {W v v' : World} {b lo lb : Nat} {pv hv av : Value} {l : Ln} {R : List Int} {ln : Bool} {i : Is.Ins} {t : Tk} (h : PX W v b lo lb pv hv av l R ln i t) (hb : Below v.heap.size v v') : PX W v' b lo lb pv hv av l R ln i t :=
  ⟨Below.step h.bel hb, RB.below h.db hb, h.lx.below hb⟩
/-- Behind it. -/
structure QX (W v : World) (b lo lb : Nat) (pv hv av : Value) (l' : Ln) (R : List Int) (ln : Bool) (i : Is.Ins) (t : Tk) : Prop where
  lq : LQ W v lo lb pv hv av l'
  db : DB v b R ln (busV lb) i t
theorem LQ.step {W v v' : World} {lo lb : Nat} {pv hv av : Value} {l' : Ln} (h : LQ W v lo lb pv hv av l') (hb : Below v.heap.size v v') : LQ W v' lo lb pv hv av l' := by
  obtain ⟨av', h1, h2, h3⟩ := h
  exact ⟨av', h1.below hb, h2.then (Turn.below hb), h3⟩
theorem QX.step {W v v' : World} {b lo lb : Nat} {pv hv av : Value} {l' : Ln} {R : List Int} {ln : Bool} {i : Is.Ins} {t : Tk} (h : QX W v b lo lb pv hv av l' R ln i t) (hb : Below v.heap.size v v') : QX W v' b lo lb pv hv av l' R ln i t :=
  ⟨h.lq.step hb, RB.below h.db hb⟩
/-- A new block, that nothing else stands in, filled. -/
theorem LQ.fill {W v : World} {lo lb : Nat} {pv hv av : Value} {l' : Ln} (h : LQ W v lo lb pv hv av l') (q : Nat) (hq : W.heap.size ≤ q) (hn : ∀ av', LX v lo lb pv hv av' l' → ¬ LO lb pv hv av' q) (L : List Value) : LQ W (v.setCells q 0 L) lo lb pv hv av l' := by
  obtain ⟨av', h1, h2, h3⟩ := h
  have hT : TA q v (v.setCells q 0 L) := set_turn _ 0 v v (Turn.refl _ _)
  refine ⟨av', h1.turn hT (fun b hb e => ?_), h2.trans hT (fun x hx => .inr ?_), h3⟩
  · have e : b = q := e
    exact hn av' h1 (e ▸ hb)
  · have e : x = q := hx
    omega
theorem fin4 {W v : World} {b lo lb q : Nat} {pv hv av av' : Value} {l' : Ln} {R : List Int} {ln : Bool} {i : Is.Ins} {t : Tk} (h : LX v lo lb pv hv av' l') (hT : Turn (LO lb pv hv av) W v) (hd : DB v b R ln (busV lb) i t) (hq : Bl v q 119 anZ) (hn : ¬ LO lb pv hv av' q) (hz : W.heap.size ≤ q) (hb : b < W.heap.size) (V : Int) :
    LX (v.setCells q 0 [.int .u32 V, .int .i64 0, .int .i64 0, .int .i64 0]) lo lb pv hv av' l' ∧ Turn (LO lb pv hv av) W (v.setCells q 0 [.int .u32 V, .int .i64 0, .int .i64 0, .int .i64 0]) ∧ DB (v.setCells q 0 [.int .u32 V, .int .i64 0, .int .i64 0, .int .i64 0]) b R ln (busV lb) i t ∧ Bl (v.setCells q 0 [.int .u32 V, .int .i64 0, .int .i64 0, .int .i64 0]) q 119 [.int .u32 V, .int .i64 0, .int .i64 0, .int .i64 0] := by
  have h4 : TA q v (v.setCells q 0 [.int .u32 V, .int .i64 0, .int .i64 0, .int .i64 0]) := set_turn _ 0 v v (Turn.refl _ _)
  refine ⟨h.turn h4 (fun g hg e => hn ((show g = q from e) ▸ hg)), hT.trans h4 (fun x hx => .inr ?_), RB.turn hd h4 (fun e => ?_), set_all hq rfl⟩
  · have e : x = q := hx
    omega
  · have e : b = q := e
    omega
set_option maxRecDepth 100000 in
set_option maxHeartbeats 1000000 in
theorem gacc0 (w : World) (b lo lb : Nat) (pv hv av : Value) (l : Ln) (R : List Int) (ln : Bool) (i : Is.Ins) (t : Tk) (kd va vl : Int) (h : DB w b R ln (busV lb) i t) (hx : LX w lo lb pv hv av l) (hd : ¬ LO lb pv hv av b) (ho : LOk l) (hlo : lo ≤ w.heap.size) (hn : l.asked.length ≤ 400000000000) (hh : l.holes = []) (hk : ¬ kd = 3) (hva : 0 ≤ va ∧ va < 4294967296) (h4 : va % 4 = 0) :
    Calls Tryz.prog 90 #[.pointer (some ⟨b, 0, none⟩), .int .i64 kd, .int .u32 va, .int .i64 4, .int .u32 vl] w fun e w' => e = .returned (.int .u32 (wdK l.puts va l.puts.length)) ∧ LQ w w' lo lb pv hv av { l with asked := l.asked ++ [askP kd va vl (!(mdR R == 16))] } := by
  have c31 : w.cell? ⟨b, 31, none⟩ = some (.iface 42 (.pointer (some ⟨lb, 0, none⟩))) := RB.ext h 1 31 rfl
  have HP := hidW (PX.mk (below_drew (Below.refl w.heap.size w)) (RB.drew h) hx.drew)
  have HM : Hid (∀ v, PX w v b lo lb pv hv av l R ln i t → Calls Tryz.prog 50 #[.pointer (some ⟨b, 0, none⟩)] v fun e w' => e = .returned (.bool (mdR R == 16)) ∧ w' = v) := fun v h => gisUser v b R (RB.rs h.db)
  have hLw : ∀ g, LO lb pv hv av g → g < w.heap.size := fun g hg => hx.lt hg
  have HA : Hid (∀ v pr, PX w v b lo lb pv hv av l R ln i t → Calls Tryz.prog 147 #[.pointer (some ⟨lb, 0, none⟩), .agg #[.int .i64 kd, .int .u32 va, .int .i64 4, .int .u32 vl, .bool pr]] v fun e w' => e = .returned (.agg #[.int .u32 (wdK l.puts va l.puts.length), .int .i64 0, .int .i64 0, .int .i64 0]) ∧ ∃ av', LX w' lo lb pv hv av' { l with asked := l.asked ++ [askP kd va vl pr] } ∧ Turn (LO lb pv hv av) v w' ∧ (∀ g, LO lb pv hv av' g → LO lb pv hv av g ∨ v.heap.size ≤ g) ∧ DB w' b R ln (busV lb) i t) := fun v pr h => by
    have hs := h.bel.size
    refine (gaccess0 v lo lb pv hv av l kd va vl pr h.lx ho (by omega) hn hh hk hva h4).mono ?_
    rintro e w' ⟨rfl, av', h1, h2, h3⟩
    exact ⟨rfl, av', h1, h2, h3, RB.turn h.db h2 hd⟩
  have HBus : Hid (∀ v, DB v b R ln (busV lb) i t → v.cell? ⟨b, 31, none⟩ = some (.iface 42 (.pointer (some ⟨lb, 0, none⟩)))) := fun v h => RB.ext h 1 31 rfl
  have HLw := hidW hLw
  have hbw : b < w.heap.size := h.bl.lt
  generalize wdK l.puts va l.puts.length = V at *
  generalize (mdR R == 16) = us at *
  have hmth := mthA lb
  clear h hx ho hn hh hva h4 hk
  go_enter Tryz.func90, Tryz.ntmps90
  go_wp2
  go_cut [11] from 12 (fun s11 wx => ∃ q, s11 = .pointer (some ⟨q, 0, none⟩) ∧ QX w wx b lo lb pv hv av { l with asked := l.asked ++ [askP kd va vl (!us)] } R ln i t ∧ Bl wx q 119 [.int .u32 V, .int .i64 0, .int .i64 0, .int .i64 0])
  case first =>
    refine wp_region_held_drew (S := fun v => v.cell? ⟨b, 31, none⟩ = some (.iface 42 (.pointer (some ⟨lb, 0, none⟩)))) (by kernel_rfl) (HBus.out _ HP.out.db) (fun hHeld => ?_)
    clear hHeld
    generalize w.drew = w1 at HP ⊢
    have K2 := hidW (HBus.out _ HP.out.db)
    refine wpAnyH_take (i := 0) (oi := { dst := some 13, op := Op.move (Operand.tmp 0), type := 122, pos := _, after := #[], guard := none }) (v := ?_) rfl (by kernel_rfl) (by kernel_rfl) (by kernel_rfl) (fun _ _ _ h => h) (Or.inl ⟨by rfl, ?_⟩) (by assumption) ?_
    rotate_left
    · (intro w hSw; (try dsimp only at hSw); go_simp; try with_reducible rfl)
    simp only [Act.put, List.setIfInBounds_toArray, List.set_cons_zero, List.set_cons_succ]
    refine wpAnyH_take (i := 1) (oi := { dst := some 14, op := Op.nilCheck (Operand.tmp 13), type := 0, pos := _, after := #[{ on := 0, ground := Ground.data }], guard := none }) (v := ?_) rfl (by kernel_rfl) (by kernel_rfl) (by kernel_rfl) (fun _ _ _ h => h) (Or.inl ⟨by rfl, ?_⟩) (by assumption) ?_
    rotate_left
    · (intro w hSw; (try dsimp only at hSw); go_simp; try with_reducible rfl)
    simp only [Act.put, List.setIfInBounds_toArray, List.set_cons_zero, List.set_cons_succ]
    refine wpAnyH_take (i := 2) (oi := { dst := some 15, op := Op.fieldAddr 124 (Operand.tmp 14) 2, type := 0, pos := _, after := #[{ on := 1, ground := Ground.data }], guard := none }) (v := ?_) rfl (by kernel_rfl) (by kernel_rfl) (by kernel_rfl) (fun _ _ _ h => h) (Or.inl ⟨by rfl, ?_⟩) (by assumption) ?_
    rotate_left
    · (intro w hSw; (try dsimp only at hSw); go_simp; try with_reducible rfl)
    simp only [Act.put, List.setIfInBounds_toArray, List.set_cons_zero, List.set_cons_succ]
    refine wpAnyH_take (i := 3) (oi := { dst := some 16, op := Op.load 95 (Operand.tmp 15), type := 95, pos := _, after := #[{ on := 2, ground := Ground.data }], guard := none }) (v := ?_) rfl (by kernel_rfl) (by kernel_rfl) (by kernel_rfl) (fun _ _ _ h => h) (Or.inl ⟨by rfl, ?_⟩) (by assumption) ?_
    rotate_left
    · (intro w hSw; (try dsimp only at hSw); go_simp; try with_reducible rfl)
    simp only [Act.put, List.setIfInBounds_toArray, List.set_cons_zero, List.set_cons_succ]
    refine wpAnyH_take (i := 4) (oi := { dst := some 17, op := Op.move (Operand.tmp 1), type := 3, pos := _, after := #[], guard := none }) (v := ?_) rfl (by kernel_rfl) (by kernel_rfl) (by kernel_rfl) (fun _ _ _ h => h) (Or.inl ⟨by rfl, ?_⟩) (by assumption) ?_
    rotate_left
    · (intro w hSw; (try dsimp only at hSw); go_simp; try with_reducible rfl)
    simp only [Act.put, List.setIfInBounds_toArray, List.set_cons_zero, List.set_cons_succ]
    refine wpAnyH_take (i := 5) (oi := { dst := some 18, op := Op.move (Operand.tmp 2), type := 22, pos := _, after := #[], guard := none }) (v := ?_) rfl (by kernel_rfl) (by kernel_rfl) (by kernel_rfl) (fun _ _ _ h => h) (Or.inl ⟨by rfl, ?_⟩) (by assumption) ?_
    rotate_left
    · (intro w hSw; (try dsimp only at hSw); go_simp; try with_reducible rfl)
    simp only [Act.put, List.setIfInBounds_toArray, List.set_cons_zero, List.set_cons_succ]
    refine wpAnyH_take (i := 6) (oi := { dst := some 19, op := Op.move (Operand.tmp 3), type := 3, pos := _, after := #[], guard := none }) (v := ?_) rfl (by kernel_rfl) (by kernel_rfl) (by kernel_rfl) (fun _ _ _ h => h) (Or.inl ⟨by rfl, ?_⟩) (by assumption) ?_
    rotate_left
    · (intro w hSw; (try dsimp only at hSw); go_simp; try with_reducible rfl)
    simp only [Act.put, List.setIfInBounds_toArray, List.set_cons_zero, List.set_cons_succ]
    refine wpAnyH_take (i := 7) (oi := { dst := some 20, op := Op.move (Operand.tmp 4), type := 22, pos := _, after := #[], guard := none }) (v := ?_) rfl (by kernel_rfl) (by kernel_rfl) (by kernel_rfl) (fun _ _ _ h => h) (Or.inl ⟨by rfl, ?_⟩) (by assumption) ?_
    rotate_left
    · (intro w hSw; (try dsimp only at hSw); go_simp; try with_reducible rfl)
    simp only [Act.put, List.setIfInBounds_toArray, List.set_cons_zero, List.set_cons_succ]
    refine wpAnyH_take (i := 8) (oi := { dst := some 21, op := Op.move (Operand.tmp 0), type := 122, pos := _, after := #[], guard := none }) (v := ?_) rfl (by kernel_rfl) (by kernel_rfl) (by kernel_rfl) (fun _ _ _ h => h) (Or.inl ⟨by rfl, ?_⟩) (by assumption) ?_
    rotate_left
    · (intro w hSw; (try dsimp only at hSw); go_simp; try with_reducible rfl)
    simp only [Act.put, List.setIfInBounds_toArray, List.set_cons_zero, List.set_cons_succ]
    refine wpAnyH_take (i := 9) (oi := { dst := some 22, op := Op.nilCheck (Operand.tmp 21), type := 0, pos := _, after := #[{ on := 8, ground := Ground.data }], guard := none }) (v := ?_) rfl (by kernel_rfl) (by kernel_rfl) (by kernel_rfl) (fun _ _ _ h => h) (Or.inl ⟨by rfl, ?_⟩) (by assumption) ?_
    rotate_left
    · (intro w hSw; (try dsimp only at hSw); go_simp; try with_reducible rfl)
    simp only [Act.put, List.setIfInBounds_toArray, List.set_cons_zero, List.set_cons_succ]
    refine wpAnyH_take (i := 10) (oi := { dst := some 23, op := Op.fieldAddr 124 (Operand.tmp 22) 0, type := 0, pos := _, after := #[{ on := 9, ground := Ground.data }], guard := none }) (v := ?_) rfl (by kernel_rfl) (by kernel_rfl) (by kernel_rfl) (fun _ _ _ h => h) (Or.inl ⟨by rfl, ?_⟩) (by assumption) ?_
    rotate_left
    · (intro w hSw; (try dsimp only at hSw); go_simp; try with_reducible rfl)
    simp only [Act.put, List.setIfInBounds_toArray, List.set_cons_zero, List.set_cons_succ]
    refine wpAnyH_take (i := 14) (oi := { dst := some 27, op := Op.nilCheck (Operand.tmp 16), type := 95, pos := _, after := #[{ on := 3, ground := Ground.data }], guard := none }) (v := ?_) rfl (by kernel_rfl) (by kernel_rfl) (by kernel_rfl) (fun _ _ _ h => h) (Or.inl ⟨by rfl, ?_⟩) (by assumption) ?_
    rotate_left
    · (intro w hSw; (try dsimp only at hSw); go_simp; try with_reducible rfl)
    simp only [Act.put, List.setIfInBounds_toArray, List.set_cons_zero, List.set_cons_succ]
    refine wpAnyH_take (i := 15) (oi := { dst := some 28, op := Op.move (Operand.tmp 16), type := 95, pos := _, after := #[{ on := 3, ground := Ground.data }, { on := 14, ground := Ground.data }], guard := none }) (v := ?_) rfl (by kernel_rfl) (by kernel_rfl) (by kernel_rfl) (fun _ _ _ h => h) (Or.inl ⟨by rfl, ?_⟩) (by assumption) ?_
    rotate_left
    · (intro w hSw; (try dsimp only at hSw); go_simp; try with_reducible rfl)
    simp only [Act.put, List.setIfInBounds_toArray, List.set_cons_zero, List.set_cons_succ]
    refine wpAnyH_ready (rs := [11, 17]) (by kernel_rfl) (by simp) ?_
    refine (AllReadyH.cons (o := { dst := some 24, op := Op.call { callee := Callee.value (Operand.func 50), args := #[Operand.tmp 23], argTypes := #[84] }, type := 4, pos := _, after := #[{ on := 10, ground := Ground.data }], guard := none }) rfl (fun K hK => ?_) (AllReadyH.cons (o := { dst := some 11, op := Op.alloc 119, type := 0, pos := _, after := #[], guard := none }) rfl (fun K hK => ?_) AllReadyH.nil))
    · go_simp
      go_at_call 50; refine (HM.out _ HP.out).mono ?_; rintro e wu ⟨rfl, hwe⟩; have hwe := hwe.symm; subst hwe
      refine hK.out _ _ ?_ (fun hHeld => ?_)
      · exact K2.out
      clear hK K
      try simp only [Act.put, List.setIfInBounds_toArray, List.set_cons_zero, List.set_cons_succ]
      refine wpAnyH_take (i := 12) (oi := { dst := some 25, op := Op.unOp UnOp.not 4 (Operand.tmp 24), type := 4, pos := _, after := #[{ on := 11, ground := Ground.data }], guard := none }) (v := ?_) rfl (by kernel_rfl) (by kernel_rfl) (by kernel_rfl) (fun _ _ _ h => h) (Or.inl ⟨by rfl, ?_⟩) (by assumption) ?_
      rotate_left
      · (intro w hSw; (try dsimp only at hSw); go_simp; try with_reducible rfl)
      simp only [Act.put, List.setIfInBounds_toArray, List.set_cons_zero, List.set_cons_succ]
      refine wpAnyH_take (i := 13) (oi := { dst := some 26, op := Op.build 65 #[(0, Operand.tmp 17), (1, Operand.tmp 18), (2, Operand.tmp 19), (3, Operand.tmp 20), (4, Operand.tmp 25)], type := 65, pos := _, after := #[{ on := 4, ground := Ground.data }, { on := 5, ground := Ground.data }, { on := 6, ground := Ground.data }, { on := 7, ground := Ground.data }, { on := 12, ground := Ground.data }], guard := none }) (v := ?_) rfl (by kernel_rfl) (by kernel_rfl) (by kernel_rfl) (fun _ _ _ h => h) (Or.inl ⟨by rfl, ?_⟩) (by assumption) ?_
      rotate_left
      · (intro w hSw; (try dsimp only at hSw); go_simp; try with_reducible rfl)
      simp only [Act.put, List.setIfInBounds_toArray, List.set_cons_zero, List.set_cons_succ]
      refine wpAnyH_ready (rs := [16, 17]) (by kernel_rfl) (by simp) ?_
      refine (AllReadyH.cons (o := { dst := some 29, op := Op.call { callee := Callee.invoke (Operand.tmp 28) "Access", args := #[Operand.tmp 26], argTypes := #[65] }, type := 119, pos := _, after := #[{ on := 15, ground := Ground.data }, { on := 13, ground := Ground.data }, { on := 11, ground := Ground.chain }], guard := none }) rfl (fun K hK => ?_) (AllReadyH.cons (o := { dst := some 11, op := Op.alloc 119, type := 0, pos := _, after := #[], guard := none }) rfl (fun K hK => ?_) AllReadyH.nil))
      · go_simp
        go_at_call 147; refine (HA.out _ _ HP.out).mono ?_; rintro e w2 ⟨rfl, av', hl, ht, ho2, hd2⟩; have HL := hidW hl; have HT := hidW (turn_of_below HP.out.bel ht); have HD := hidW hd2; have K2 := hidW (HBus.out _ HD.out); have HO3 := hidW (fun g hg => (ho2 g hg).imp_right (fun h5 => Nat.le_trans HP.out.bel.size h5)); (try have HN : Hid (¬ LO lb pv hv av' q) := hidW (fun e => (ho2 _ e).elim (fun h5 => by have := HLw.out _ h5; have := HZ.out; omega) (fun h5 => by have := HQ.out.lt; omega))); (try have HQ := hidW (HQ.out.turn ht (fun e => by have := HLw.out _ e; have := HZ.out; omega))); clear hl ht ho2 hd2
        refine hK.out _ _ ?_ (fun hHeld => ?_)
        · exact K2.out
        clear hK K
        try simp only [Act.put, List.setIfInBounds_toArray, List.set_cons_zero, List.set_cons_succ]
        refine wpAnyH_ready (rs := [17]) (by kernel_rfl) (by simp) ?_
        refine (AllReadyH.cons (o := { dst := some 11, op := Op.alloc 119, type := 0, pos := _, after := #[], guard := none }) rfl (fun K hK => ?_) AllReadyH.nil)
        go_simp
        (first | (generalize hq : w2.alloc _ = wb; have e3 : w2.alloc (.cells anZ.toArray 119) = wb := hq; have HQ := hidW (Bl.new w2 119 anZ); have hbn := below_new w2 (.cells anZ.toArray 119); have HZ : Hid (w.heap.size ≤ w2.heap.size) := HT.out.size; have HN : Hid (¬ LO lb pv hv av' w2.heap.size) := hidW (LO_lt (v := w2) HL.out (Nat.le_refl _)); have HL := hidW (HL.out.below hbn); have HT := hidW (HT.out.then (Turn.below hbn)); have HD := hidW (RB.below HD.out hbn); rw [e3] at HQ HL HT HD; clear hbn e3 hq; generalize w2.heap.size = q at HQ HZ HN ⊢; have K2 := hidW (HBus.out _ HD.out)) | (generalize hq : w1.alloc _ = wa; have e3 : w1.alloc (.cells anZ.toArray 119) = wa := hq; have HQ := hidW (Bl.new w1 119 anZ); have hbn := below_new w1 (.cells anZ.toArray 119); have HZ : Hid (w.heap.size ≤ w1.heap.size) := HP.out.bel.size; have HP := hidW (HP.out.step hbn); rw [e3] at HQ HP; clear hbn e3 hq; generalize w1.heap.size = q at HQ HZ ⊢; have K2 := hidW (HBus.out _ HP.out.db))); refine hK.out _ _ ?_ (fun hHeld => ?_); (focus exact K2.out)
        clear hK K
        try simp only [Act.put, List.setIfInBounds_toArray, List.set_cons_zero, List.set_cons_succ]
        refine wpAnyH_ready (rs := [18]) (by kernel_rfl) (by simp) ?_
        refine (AllReadyH.cons (o := { dst := none, op := Op.store 119 (Operand.tmp 11) (Operand.tmp 29), type := 0, pos := _, after := #[{ on := 17, ground := Ground.data }, { on := 16, ground := Ground.data }, { on := 16, ground := Ground.chain }, { on := 0, ground := Ground.phase }, { on := 1, ground := Ground.phase }, { on := 2, ground := Ground.phase }, { on := 3, ground := Ground.phase }, { on := 4, ground := Ground.phase }, { on := 5, ground := Ground.phase }, { on := 6, ground := Ground.phase }, { on := 7, ground := Ground.phase }, { on := 8, ground := Ground.phase }, { on := 9, ground := Ground.phase }, { on := 10, ground := Ground.phase }, { on := 11, ground := Ground.phase }, { on := 12, ground := Ground.phase }, { on := 13, ground := Ground.phase }, { on := 14, ground := Ground.phase }, { on := 15, ground := Ground.phase }, { on := 16, ground := Ground.phase }, { on := 17, ground := Ground.phase }], guard := none }) rfl (fun K hK => ?_) AllReadyH.nil)
        (rw [if_pos (by kernel_rfl)]; refine wp_store_mid _ _ _ rfl _ 0 _ rfl rfl (HQ.out.there 4 rfl) ans_info (by kernel_rfl) ?_; have HF := hidW (fin4 HL.out HT.out HD.out HQ.out HN.out HZ.out hbw V); generalize World.setCells _ _ _ _ = w4 at HF ⊢; refine hK.out _ _ (HBus.out _ HF.out.2.2.1) (fun hHeld => ?_))
        clear hK K
        try simp only [Act.put, List.setIfInBounds_toArray, List.set_cons_zero, List.set_cons_succ]
        refine wpAnyH_done (by kernel_rfl) ?_ _
        (go_wp2_with fail); go_meet; exact ⟨_, rfl, ⟨⟨av', HF.out.1, HF.out.2.1, HO3.out⟩, HF.out.2.2.1⟩, HF.out.2.2.2⟩
      · go_simp
        (first | (generalize hq : w2.alloc _ = wb; have e3 : w2.alloc (.cells anZ.toArray 119) = wb := hq; have HQ := hidW (Bl.new w2 119 anZ); have hbn := below_new w2 (.cells anZ.toArray 119); have HZ : Hid (w.heap.size ≤ w2.heap.size) := HT.out.size; have HN : Hid (¬ LO lb pv hv av' w2.heap.size) := hidW (LO_lt (v := w2) HL.out (Nat.le_refl _)); have HL := hidW (HL.out.below hbn); have HT := hidW (HT.out.then (Turn.below hbn)); have HD := hidW (RB.below HD.out hbn); rw [e3] at HQ HL HT HD; clear hbn e3 hq; generalize w2.heap.size = q at HQ HZ HN ⊢; have K2 := hidW (HBus.out _ HD.out)) | (generalize hq : w1.alloc _ = wa; have e3 : w1.alloc (.cells anZ.toArray 119) = wa := hq; have HQ := hidW (Bl.new w1 119 anZ); have hbn := below_new w1 (.cells anZ.toArray 119); have HZ : Hid (w.heap.size ≤ w1.heap.size) := HP.out.bel.size; have HP := hidW (HP.out.step hbn); rw [e3] at HQ HP; clear hbn e3 hq; generalize w1.heap.size = q at HQ HZ ⊢; have K2 := hidW (HBus.out _ HP.out.db))); refine hK.out _ _ ?_ (fun hHeld => ?_); (focus exact K2.out)
        clear hK K
        try simp only [Act.put, List.setIfInBounds_toArray, List.set_cons_zero, List.set_cons_succ]
        refine wpAnyH_ready (rs := [16]) (by kernel_rfl) (by simp) ?_
        refine (AllReadyH.cons (o := { dst := some 29, op := Op.call { callee := Callee.invoke (Operand.tmp 28) "Access", args := #[Operand.tmp 26], argTypes := #[65] }, type := 119, pos := _, after := #[{ on := 15, ground := Ground.data }, { on := 13, ground := Ground.data }, { on := 11, ground := Ground.chain }], guard := none }) rfl (fun K hK => ?_) AllReadyH.nil)
        go_simp
        go_at_call 147; refine (HA.out _ _ HP.out).mono ?_; rintro e w2 ⟨rfl, av', hl, ht, ho2, hd2⟩; have HL := hidW hl; have HT := hidW (turn_of_below HP.out.bel ht); have HD := hidW hd2; have K2 := hidW (HBus.out _ HD.out); have HO3 := hidW (fun g hg => (ho2 g hg).imp_right (fun h5 => Nat.le_trans HP.out.bel.size h5)); (try have HN : Hid (¬ LO lb pv hv av' q) := hidW (fun e => (ho2 _ e).elim (fun h5 => by have := HLw.out _ h5; have := HZ.out; omega) (fun h5 => by have := HQ.out.lt; omega))); (try have HQ := hidW (HQ.out.turn ht (fun e => by have := HLw.out _ e; have := HZ.out; omega))); clear hl ht ho2 hd2
        refine hK.out _ _ ?_ (fun hHeld => ?_)
        · exact K2.out
        clear hK K
        try simp only [Act.put, List.setIfInBounds_toArray, List.set_cons_zero, List.set_cons_succ]
        refine wpAnyH_ready (rs := [18]) (by kernel_rfl) (by simp) ?_
        refine (AllReadyH.cons (o := { dst := none, op := Op.store 119 (Operand.tmp 11) (Operand.tmp 29), type := 0, pos := _, after := #[{ on := 17, ground := Ground.data }, { on := 16, ground := Ground.data }, { on := 16, ground := Ground.chain }, { on := 0, ground := Ground.phase }, { on := 1, ground := Ground.phase }, { on := 2, ground := Ground.phase }, { on := 3, ground := Ground.phase }, { on := 4, ground := Ground.phase }, { on := 5, ground := Ground.phase }, { on := 6, ground := Ground.phase }, { on := 7, ground := Ground.phase }, { on := 8, ground := Ground.phase }, { on := 9, ground := Ground.phase }, { on := 10, ground := Ground.phase }, { on := 11, ground := Ground.phase }, { on := 12, ground := Ground.phase }, { on := 13, ground := Ground.phase }, { on := 14, ground := Ground.phase }, { on := 15, ground := Ground.phase }, { on := 16, ground := Ground.phase }, { on := 17, ground := Ground.phase }], guard := none }) rfl (fun K hK => ?_) AllReadyH.nil)
        (rw [if_pos (by kernel_rfl)]; refine wp_store_mid _ _ _ rfl _ 0 _ rfl rfl (HQ.out.there 4 rfl) ans_info (by kernel_rfl) ?_; have HF := hidW (fin4 HL.out HT.out HD.out HQ.out HN.out HZ.out hbw V); generalize World.setCells _ _ _ _ = w4 at HF ⊢; refine hK.out _ _ (HBus.out _ HF.out.2.2.1) (fun hHeld => ?_))
        clear hK K
        try simp only [Act.put, List.setIfInBounds_toArray, List.set_cons_zero, List.set_cons_succ]
        refine wpAnyH_done (by kernel_rfl) ?_ _
        (go_wp2_with fail); go_meet; exact ⟨_, rfl, ⟨⟨av', HF.out.1, HF.out.2.1, HO3.out⟩, HF.out.2.2.1⟩, HF.out.2.2.2⟩
    · go_simp
      (first | (generalize hq : w2.alloc _ = wb; have e3 : w2.alloc (.cells anZ.toArray 119) = wb := hq; have HQ := hidW (Bl.new w2 119 anZ); have hbn := below_new w2 (.cells anZ.toArray 119); have HZ : Hid (w.heap.size ≤ w2.heap.size) := HT.out.size; have HN : Hid (¬ LO lb pv hv av' w2.heap.size) := hidW (LO_lt (v := w2) HL.out (Nat.le_refl _)); have HL := hidW (HL.out.below hbn); have HT := hidW (HT.out.then (Turn.below hbn)); have HD := hidW (RB.below HD.out hbn); rw [e3] at HQ HL HT HD; clear hbn e3 hq; generalize w2.heap.size = q at HQ HZ HN ⊢; have K2 := hidW (HBus.out _ HD.out)) | (generalize hq : w1.alloc _ = wa; have e3 : w1.alloc (.cells anZ.toArray 119) = wa := hq; have HQ := hidW (Bl.new w1 119 anZ); have hbn := below_new w1 (.cells anZ.toArray 119); have HZ : Hid (w.heap.size ≤ w1.heap.size) := HP.out.bel.size; have HP := hidW (HP.out.step hbn); rw [e3] at HQ HP; clear hbn e3 hq; generalize w1.heap.size = q at HQ HZ ⊢; have K2 := hidW (HBus.out _ HP.out.db))); refine hK.out _ _ ?_ (fun hHeld => ?_); (focus exact K2.out)
      clear hK K
      try simp only [Act.put, List.setIfInBounds_toArray, List.set_cons_zero, List.set_cons_succ]
      refine wpAnyH_ready (rs := [11]) (by kernel_rfl) (by simp) ?_
      refine (AllReadyH.cons (o := { dst := some 24, op := Op.call { callee := Callee.value (Operand.func 50), args := #[Operand.tmp 23], argTypes := #[84] }, type := 4, pos := _, after := #[{ on := 10, ground := Ground.data }], guard := none }) rfl (fun K hK => ?_) AllReadyH.nil)
      go_simp
      go_at_call 50; refine (HM.out _ HP.out).mono ?_; rintro e wu ⟨rfl, hwe⟩; have hwe := hwe.symm; subst hwe
      refine hK.out _ _ ?_ (fun hHeld => ?_)
      · exact K2.out
      clear hK K
      try simp only [Act.put, List.setIfInBounds_toArray, List.set_cons_zero, List.set_cons_succ]
      refine wpAnyH_take (i := 12) (oi := { dst := some 25, op := Op.unOp UnOp.not 4 (Operand.tmp 24), type := 4, pos := _, after := #[{ on := 11, ground := Ground.data }], guard := none }) (v := ?_) rfl (by kernel_rfl) (by kernel_rfl) (by kernel_rfl) (fun _ _ _ h => h) (Or.inl ⟨by rfl, ?_⟩) (by assumption) ?_
      rotate_left
      · (intro w hSw; (try dsimp only at hSw); go_simp; try with_reducible rfl)
      simp only [Act.put, List.setIfInBounds_toArray, List.set_cons_zero, List.set_cons_succ]
      refine wpAnyH_take (i := 13) (oi := { dst := some 26, op := Op.build 65 #[(0, Operand.tmp 17), (1, Operand.tmp 18), (2, Operand.tmp 19), (3, Operand.tmp 20), (4, Operand.tmp 25)], type := 65, pos := _, after := #[{ on := 4, ground := Ground.data }, { on := 5, ground := Ground.data }, { on := 6, ground := Ground.data }, { on := 7, ground := Ground.data }, { on := 12, ground := Ground.data }], guard := none }) (v := ?_) rfl (by kernel_rfl) (by kernel_rfl) (by kernel_rfl) (fun _ _ _ h => h) (Or.inl ⟨by rfl, ?_⟩) (by assumption) ?_
      rotate_left
      · (intro w hSw; (try dsimp only at hSw); go_simp; try with_reducible rfl)
      simp only [Act.put, List.setIfInBounds_toArray, List.set_cons_zero, List.set_cons_succ]
      refine wpAnyH_ready (rs := [16]) (by kernel_rfl) (by simp) ?_
      refine (AllReadyH.cons (o := { dst := some 29, op := Op.call { callee := Callee.invoke (Operand.tmp 28) "Access", args := #[Operand.tmp 26], argTypes := #[65] }, type := 119, pos := _, after := #[{ on := 15, ground := Ground.data }, { on := 13, ground := Ground.data }, { on := 11, ground := Ground.chain }], guard := none }) rfl (fun K hK => ?_) AllReadyH.nil)
      go_simp
      go_at_call 147; refine (HA.out _ _ HP.out).mono ?_; rintro e w2 ⟨rfl, av', hl, ht, ho2, hd2⟩; have HL := hidW hl; have HT := hidW (turn_of_below HP.out.bel ht); have HD := hidW hd2; have K2 := hidW (HBus.out _ HD.out); have HO3 := hidW (fun g hg => (ho2 g hg).imp_right (fun h5 => Nat.le_trans HP.out.bel.size h5)); (try have HN : Hid (¬ LO lb pv hv av' q) := hidW (fun e => (ho2 _ e).elim (fun h5 => by have := HLw.out _ h5; have := HZ.out; omega) (fun h5 => by have := HQ.out.lt; omega))); (try have HQ := hidW (HQ.out.turn ht (fun e => by have := HLw.out _ e; have := HZ.out; omega))); clear hl ht ho2 hd2
      refine hK.out _ _ ?_ (fun hHeld => ?_)
      · exact K2.out
      clear hK K
      try simp only [Act.put, List.setIfInBounds_toArray, List.set_cons_zero, List.set_cons_succ]
      refine wpAnyH_ready (rs := [18]) (by kernel_rfl) (by simp) ?_
      refine (AllReadyH.cons (o := { dst := none, op := Op.store 119 (Operand.tmp 11) (Operand.tmp 29), type := 0, pos := _, after := #[{ on := 17, ground := Ground.data }, { on := 16, ground := Ground.data }, { on := 16, ground := Ground.chain }, { on := 0, ground := Ground.phase }, { on := 1, ground := Ground.phase }, { on := 2, ground := Ground.phase }, { on := 3, ground := Ground.phase }, { on := 4, ground := Ground.phase }, { on := 5, ground := Ground.phase }, { on := 6, ground := Ground.phase }, { on := 7, ground := Ground.phase }, { on := 8, ground := Ground.phase }, { on := 9, ground := Ground.phase }, { on := 10, ground := Ground.phase }, { on := 11, ground := Ground.phase }, { on := 12, ground := Ground.phase }, { on := 13, ground := Ground.phase }, { on := 14, ground := Ground.phase }, { on := 15, ground := Ground.phase }, { on := 16, ground := Ground.phase }, { on := 17, ground := Ground.phase }], guard := none }) rfl (fun K hK => ?_) AllReadyH.nil)
      (rw [if_pos (by kernel_rfl)]; refine wp_store_mid _ _ _ rfl _ 0 _ rfl rfl (HQ.out.there 4 rfl) ans_info (by kernel_rfl) ?_; have HF := hidW (fin4 HL.out HT.out HD.out HQ.out HN.out HZ.out hbw V); generalize World.setCells _ _ _ _ = w4 at HF ⊢; refine hK.out _ _ (HBus.out _ HF.out.2.2.1) (fun hHeld => ?_))
      clear hK K
      try simp only [Act.put, List.setIfInBounds_toArray, List.set_cons_zero, List.set_cons_succ]
      refine wpAnyH_done (by kernel_rfl) ?_ _
      (go_wp2_with fail); go_meet; exact ⟨_, rfl, ⟨⟨av', HF.out.1, HF.out.2.1, HO3.out⟩, HF.out.2.2.1⟩, HF.out.2.2.2⟩
  case rest =>
    obtain ⟨q, rfl, hq, hbx⟩ := hcut
    have HQ := hidW hq.lq
    obtain ⟨c0, c1, c2, c3⟩ := hbx.four.1
    clear hq hbx HP HM HA HBus
    go_wp2
    exact bodyPost_ret (v := .int .u32 V) (by simp [results, Tryz.results90, go_sem]) rfl ⟨rfl, HQ.out⟩
end Go.Proofs.YtilhceajhlaojaaGreatDoor
namespace Go.Proofs.YtilhceajhlaojaaGreatDoor.Al
open Go.RowKit
set_option linter.unusedVariables false
set_option linter.unusedSimpArgs false
/-- The sixteen operations, as an array. -/
def opsA (b1 b3 : Nat) : Array Value := #[.nilFunc, .func (.func 118) #[] #[.pointer (some ⟨b3, 0, none⟩)], .func (.func 119) #[] #[.pointer (some ⟨b3, 0, none⟩)], .func (.func 122) #[] #[], .func (.func 123) #[] #[], .func (.func 120) #[] #[], .func (.func 124) #[] #[.pointer (some ⟨b1, 0, none⟩)], .func (.func 125) #[] #[.pointer (some ⟨b1, 0, none⟩)], .func (.func 126) #[] #[.pointer (some ⟨b1, 0, none⟩)], .func (.func 118) #[] #[.pointer (some ⟨b3, 0, none⟩)], .func (.func 119) #[] #[.pointer (some ⟨b3, 0, none⟩)], .func (.func 122) #[] #[], .func (.func 120) #[] #[], .func (.func 127) #[] #[.pointer (some ⟨b3, 0, none⟩)], .func (.func 128) #[] #[.pointer (some ⟨b3, 0, none⟩)], .func (.func 129) #[] #[.pointer (some ⟨b3, 0, none⟩)], .func (.func 130) #[] #[.pointer (some ⟨b3, 0, none⟩)]]
/-- What the closures stand on. -/
def OpS (w : World) (b0 b1 b3 : Nat) (sh fn fz fc fv : Bool) : Prop := Bl w b0 4 [.bool sh] ∧ Bl w b1 40 [.bool fn, .bool fz, .bool fc, .bool fv] ∧ Bl w b3 173 [.func (.func 116) #[] #[.pointer (some ⟨b0, 0, none⟩), .pointer (some ⟨b1, 0, none⟩)]]
theorem OpS.below {w w' : World} {b0 b1 b3 : Nat} {sh fn fz fc fv : Bool} (h : OpS w b0 b1 b3 sh fn fz fc fv) (hb : Below w.heap.size w w') : OpS w' b0 b1 b3 sh fn fz fc fv := ⟨h.1.below hb, h.2.1.below hb, h.2.2.below hb⟩
theorem ops_world (w : World) (o : Array Value) (sh fn fz fc fv : Bool) :
    OpS ((((w.alloc (.cells #[.bool sh] 4)).alloc (.cells #[.bool fn, .bool fz, .bool fc, .bool fv] 40)).alloc (.cells o 163)).alloc (.cells #[.func (.func 116) #[] #[.pointer (some ⟨w.heap.size, 0, none⟩), .pointer (some ⟨w.heap.size + 1, 0, none⟩)]] 173)) w.heap.size (w.heap.size + 1) (w.heap.size + 1 + 1 + 1) sh fn fz fc fv ∧ Below w.heap.size w ((((w.alloc (.cells #[.bool sh] 4)).alloc (.cells #[.bool fn, .bool fz, .bool fc, .bool fv] 40)).alloc (.cells o 163)).alloc (.cells #[.func (.func 116) #[] #[.pointer (some ⟨w.heap.size, 0, none⟩), .pointer (some ⟨w.heap.size + 1, 0, none⟩)]] 173)) := by
  have h0 := Bl.new w 4 [.bool sh]
  have h1 := Bl.new (w.alloc (.cells #[.bool sh] 4)) 40 [.bool fn, .bool fz, .bool fc, .bool fv]
  have h2 := Bl.new (((w.alloc (.cells #[.bool sh] 4)).alloc (.cells #[.bool fn, .bool fz, .bool fc, .bool fv] 40)).alloc (.cells o 163)) 173 [.func (.func 116) #[] #[.pointer (some ⟨w.heap.size, 0, none⟩), .pointer (some ⟨w.heap.size + 1, 0, none⟩)]]
  simp at h1 h2
  exact ⟨⟨((h0.alloc _).alloc _).alloc _, (h1.alloc _).alloc _, h2⟩, Below.step (Below.step (Below.step (below_new _ _) (below_new _ _)) (below_new _ _)) (below_new _ _)⟩
set_option maxRecDepth 100000 in
set_option maxHeartbeats 1000000 in
theorem gops_any (sh fn fz fc fv : Bool) (w : World) :
    Calls Tryz.prog 103 #[.bool sh, .agg #[.bool fn, .bool fz, .bool fc, .bool fv]] w fun e w' => e = .returned (.agg (opsA (w.heap.size + 1) (w.heap.size + 1 + 1 + 1))) ∧ OpS w' w.heap.size (w.heap.size + 1) (w.heap.size + 1 + 1 + 1) sh fn fz fc fv ∧ Below w.heap.size w w' := by
  have HW : Hid (∀ o, OpS ((((w.alloc (.cells #[.bool sh] 4)).alloc (.cells #[.bool fn, .bool fz, .bool fc, .bool fv] 40)).alloc (.cells o 163)).alloc (.cells #[.func (.func 116) #[] #[.pointer (some ⟨w.heap.size, 0, none⟩), .pointer (some ⟨w.heap.size + 1, 0, none⟩)]] 173)) w.heap.size (w.heap.size + 1) (w.heap.size + 1 + 1 + 1) sh fn fz fc fv ∧ Below w.heap.size w ((((w.alloc (.cells #[.bool sh] 4)).alloc (.cells #[.bool fn, .bool fz, .bool fc, .bool fv] 40)).alloc (.cells o 163)).alloc (.cells #[.func (.func 116) #[] #[.pointer (some ⟨w.heap.size, 0, none⟩), .pointer (some ⟨w.heap.size + 1, 0, none⟩)]] 173))) := fun o => ops_world w o sh fn fz fc fv
  go_enter Tryz.func103, Tryz.ntmps103
  go_wp2
  have h := HW.out (opsA (w.heap.size + 1) (w.heap.size + 1 + 1 + 1))
  exact bodyPost_ret (v := .agg (opsA (w.heap.size + 1) (w.heap.size + 1 + 1 + 1))) (by simp [results, Tryz.results103, go_sem, opsA]) rfl ⟨rfl, h⟩
end Go.Proofs.YtilhceajhlaojaaGreatDoor.Al
