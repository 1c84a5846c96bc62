import Derived.Test.YtilhceajhlaojaaGreatDoorZ25
namespace Go.Proofs.YtilhceajhlaojaaGreatDoor
open Go.RowKit
set_option linter.unusedVariables false
set_option linter.unusedSimpArgs false
set_option maxRecDepth 100000 in
set_option maxHeartbeats 4000000 in
theorem law_calls (w : World) (te : TE w) (S : List Int) (hS : ROk S) (k x : Nat) (hk : k < 4294967296) (hx : x < 4294967296) : Calls Tryz.prog 4 #[.agg (RL S).toArray, .int .u32 (k : Int), .int .u32 (x : Int)] w fun e w' => e = .returned (.bool true) ∧ Below w.heap.size w w' := by
  have HM := hidW (gmadeW w te S hS)
  have hS30 := hS.len
  have hR := md_ok hS
  have h28 := md_pc hS
  have hbk := md_bk hS
  generalize mdS S = R at HM hR h28 hbk
  generalize hcb : w.heap.size + 2 = cb at HM
  have hR30 := hR.len
  have hRk := hR
  have hr28 := hR.rng 28
  have hr29 := hR.rng 29
  obtain ⟨p8, p24, pb1, pT⟩ := svc_plain R hR h28
  have hT := ((hR.set (k := 28) (v := (rg R 28 + 4) % 4294967296) (by omega)).set (k := 19) (v := (rg R 28 + 4) % 4294967296) (by omega)).set (k := 24) (v := rg R 29) hr29
  have HL : Hid (∀ v S' L, WCx w v w.heap.size cb R S' L → Calls Tryz.prog 10 #[] v fun e w' => e = .returned (.bool true) ∧ WCx w w' w.heap.size cb R S' L) := fun v S' L h => (glive v h.ux.te).mono (by rintro e w' ⟨rfl, hb⟩; exact ⟨rfl, h.step hb⟩)
  have HSt : Hid (∀ v R' S' L, WCx w v w.heap.size cb R' S' L → Calls Tryz.prog 11 #[.pointer (some ⟨cb, 0, none⟩)] v fun e w' => e = .returned (.agg (RL R').toArray) ∧ WCx w w' w.heap.size cb R' S' L) := fun v R' S' L h => gStateW h
  have HPt : Hid (∀ v, WCx w v w.heap.size cb R S [] → v.there w.heap.size 0 (RL R).toArray.size ∧ WCx w (v.setCells w.heap.size 0 (RL R)) w.heap.size cb R R []) := fun v h => ⟨h.ux.box.there _ (by unfold RL; rw [List.size_toArray, List.length_map, List.length_map, hR30, hS30]), .of (h.ux.put hS30 hR30) te⟩
  have HIS : Hid ((Tryz.prog.info? 26).map (·.size) = some (RL S).length) := by unfold RL; rw [List.length_map, hS30]; exact state_info
  have HIR : Hid ((Tryz.prog.info? 26).map (·.size) = some (RL R).length) := by unfold RL; rw [List.length_map, hR30]; exact state_info
  have HJ : Hid (∀ X, ROk X → (Tryz.prog.info? 26).map (·.size) = some (RL X).toArray.size) := fun X h => by rw [List.size_toArray, RL_len h]; exact state_info
  have HO : Hid (∀ X, (RL X).toArray.all (·.oneCell') = true) := RL_one
  have HS0 : Hid ((w.alloc (.cells (RL S).toArray 26)).rangeAt w.heap.size 0 (RL S)) := (Bl.new w 26 (RL S)).range
  have HTh : Hid (∀ (v : World) (A : Array Value) (X : List Int), ROk X → A.size = 30 → (v.alloc (.cells A 26)).there v.heap.size 0 (RL X).toArray.size) := fun v A X h hA => there_new v _ A _ (by rw [List.size_toArray, RL_len h, hA])
  have HNw : Hid (∀ (v w2 : World) (A : Array Value) (X R' S' : List Int) L, WCx w v w.heap.size cb R' S' L → ROk X → A.size = 30 → (v.alloc (.cells A 26)).setCells v.heap.size 0 (RL X) = w2 → WCx w w2 w.heap.size cb R' S' ((v.heap.size, 26, RL X) :: L)) := fun v w2 A X R' S' L h hX hA e => by
    have := fill_new v 26 A (RL X) (by rw [RL_len hX, hA])
    rw [e] at this
    exact h.new this.1 this.2
  have HNL : Hid (∀ v R' S' L, WCx w v w.heap.size cb R' S' L → ∀ a y : Int, Calls Tryz.prog 15 #[.slice (some ⟨v.heap.size, 0, none⟩) 1 1, .slice none 0 0] (v.alloc (.cells #[.int .u32 a, .int .u32 y] 45)) fun e w' => e = .returned (.pointer (some ⟨v.heap.size + 1, 0, none⟩)) ∧ YCx w w' w.heap.size cb (v.heap.size + 1) R' S' (a, y) L) := fun v R' S' L h a y => gNewLineW h a y
  -- the word of the call
  have hw24 : (4009754624 + k % 16777216) / 16777216 = 239 := by omega
  obtain ⟨i, hdi, hop, hco⟩ := svc_dec _ hw24
  have ea : bits .and .u32 (k : Int) 16777215 = ((k % 16777216 : Nat) : Int) := by
    rw [band_mod 24 16777215 k (by decide) (by decide) (by omega)]
    show (k : Int) % 16777216 = _
    omega
  have eo : bits .or .u32 4009754624 ((k % 16777216 : Nat) : Int) = ((4009754624 + k % 16777216 : Nat) : Int) := by
    rw [show (4009754624 : Int) = ((4009754624 : Nat) : Int) from rfl, u32_or_nat 4009754624 (k % 16777216) (by decide) (by omega)]
    congr 1
    have : 4009754624 = 2 ^ 24 * 239 := by decide
    rw [this]
    exact (Nat.two_pow_add_eq_or_of_lt (by omega) 239).symm
  have HS1 : Hid (∀ v lb L, YCx w v w.heap.size cb lb R R (rg R 28, ((4009754624 + k % 16777216 : Nat) : Int)) L → Calls Tryz.prog 16 #[.pointer (some ⟨cb, 0, none⟩), .iface 42 (.pointer (some ⟨lb, 0, none⟩))] v fun e w' => e = .returned (.tuple #[.agg #[.int .i64 2, .int .u32 (rg R 28), .int .u32 ((4009754624 + k % 16777216 : Nat) : Int), .int .u32 0, .int .i64 0, .int .i64 0, .int .i64 0, .bool false], .int .i64 0]) ∧ WCx w w' w.heap.size cb (raP 2 R) R L) := fun v lb L h => gStepW h 2 rfl hr28 h28 (by omega) (.inr ⟨rfl, i, by rw [Int.toNat_natCast]; exact hdi, hop, hco⟩)
  generalize hX : ((4009754624 + k % 16777216 : Nat) : Int) = X at eo HS1
  generalize ((k % 16777216 : Nat) : Int) = km at ea eo
  have HR1 : Hid (∀ v S' L, WCx w v w.heap.size cb (raP 2 R) S' L → Calls Tryz.prog 18 #[.pointer (some ⟨cb, 0, none⟩), .int .u32 0] v fun e w' => e = .returned (.int .i64 0) ∧ WCx w w' w.heap.size cb (((R.set 28 ((rg R 28 + 4) % 4294967296)).set 19 ((rg R 28 + 4) % 4294967296)).set 24 (rg R 29)) S' L) := fun v S' L h => by
    rw [← pT]
    exact gReturnW h (by rw [pb1, p24]; exact hbk)
  generalize hT0 : ((R.set 28 ((rg R 28 + 4) % 4294967296)).set 19 ((rg R 28 + 4) % 4294967296)).set 24 (rg R 29) = T at hT HR1
  have c28R : ∀ v S' L, WCx w v w.heap.size cb S' R L → v.cell? ⟨w.heap.size, 28, none⟩ = some (.int .u32 (rg R 28)) := fun v S' L h => by rw [h.ux.box.cell 28, RL_at hR30 (by decide)]
  have c29R : ∀ v S' L, WCx w v w.heap.size cb S' R L → v.cell? ⟨w.heap.size, 29, none⟩ = some (.int .u32 (rg R 29)) := fun v S' L h => by rw [h.ux.box.cell 29, RL_at hR30 (by decide)]
  have hT28 : rg T 28 = (rg R 28 + 4) % 4294967296 := by rw [← hT0]; unfold rg; simp [List.getD_eq_getElem?_getD, List.getElem?_set, hR30]
  have hT29 : rg T 29 = rg R 29 := by rw [← hT0]; unfold rg; simp [List.getD_eq_getElem?_getD, List.getElem?_set, hR30]
  generalize hpc : rg R 28 = pc at *
  generalize hcp : rg R 29 = cp at *
  have c28R := hidW c28R
  have c29R := hidW c29R
  have hR1 : ∀ v S' L, WCx w v w.heap.size cb (raP 2 R) S' L → ROk (raP 2 R) := fun v S' L h => h.ux.cpu.ok
  generalize hR1e : raP 2 R = R1 at *
  have hr28 := hidW hr28
  have hR1 := hidW hR1
  clear te hS
  go_enter Tryz.func4, Tryz.ntmps4
  go_upto_region 6 with (first | (guard_target =~ wpList _ _ _ (Oper.mk (some 15) _ _ _ _ _ :: _) _ _; refine wpList_load_mid rfl _ _ rfl w.heap.size 0 rfl (RL S) _ HS0.out Tryz.underlying26 rfl HIS.out ?_) | (go_at_call 9; refine HM.out.mono ?_; rintro e w1 ⟨rfl, hx⟩; have HX := hidW hx; clear hx) | (go_at_call 10; refine (HL.out _ _ _ HX.out).mono ?_; rintro e w2 ⟨rfl, hx⟩; have HX := hidW hx; clear hx) | (go_at_call 11; refine (HSt.out _ _ _ _ HX.out).mono ?_; rintro e w3 ⟨rfl, hx⟩; have HX := hidW hx; clear hx) | (guard_target =~ wpList _ _ _ (Oper.mk none (Op.store 26 _ _) _ _ _ _ :: _) _ _; refine wpList_store_mid rfl _ _ _ rfl w.heap.size 0 (RL R).toArray rfl rfl (HPt.out _ HX.out).1 (HJ.out R hR) (HO.out R) ?_; have HX := hidW (HPt.out _ HX.out).2; generalize World.setCells _ _ _ _ = w4 at HX ⊢))
  have c28 := c28R.out _ _ _ HX.out
  go_upto_region 8 with (first | (go_at_call 15; refine (HNL.out _ _ _ _ HX.out _ _).mono ?_; rintro e w5 ⟨rfl, hv⟩; have HV := hidW hv; clear hv) | (go_at_call 16; refine (HS1.out _ _ _ HV.out).mono ?_; rintro e w6 ⟨rfl, hx⟩; have HX := hidW (hx.alloc 50 [.int .i64 2, .int .u32 pc, .int .u32 X, .int .u32 0, .int .i64 0, .int .i64 0, .int .i64 0, .bool false]); clear hx) | (go_at_call 11; refine (HSt.out _ _ _ _ HX.out).mono ?_; rintro e w7 ⟨rfl, hx⟩; have HX := hidW hx; clear hx) | (guard_target =~ wpList _ _ _ (Oper.mk none (Op.store 26 _ _) _ _ _ _ :: _) _ _; refine wpList_store_mid rfl _ _ _ rfl w7.heap.size 0 (RL R1).toArray rfl rfl (HTh.out _ _ _ (hR1.out _ _ _ HX.out) rfl) (HJ.out R1 (hR1.out _ _ _ HX.out)) (HO.out R1) ?_; generalize hW : World.setCells _ _ _ _ = w8; have HX := hidW (HNw.out _ _ _ R1 _ _ _ HX.out (hR1.out _ _ _ HX.out) rfl hW); clear hW))
  clear c28 HV
  generalize w7.heap.size = nb at HX ⊢
  generalize w6.heap.size = tb at HX ⊢
  have c28 := c28R.out _ _ _ HX.out
  have c29 := c29R.out _ _ _ HX.out
  have hnb : Bl w8 nb 26 (RL R1) := HX.out.box nb 26 (RL R1) (by simp)
  have hl1 := (hR1.out _ _ _ HX.out).len
  have n28 : w8.cell? ⟨nb, 28, none⟩ = some (.int .u32 8) := by rw [hnb.cell 28, RL_at hl1 (by decide), p8]
  have n24 : w8.cell? ⟨nb, 24, none⟩ = some (.int .u32 cp) := by rw [hnb.cell 24, RL_at hl1 (by decide), p24]
  have HTb : Hid (w8.rangeAt tb 0 [.int .i64 2, .int .u32 pc, .int .u32 X, .int .u32 0, .int .i64 0, .int .i64 0, .int .i64 0, .bool false]) := (HX.out.box tb 50 [.int .i64 2, .int .u32 pc, .int .u32 X, .int .u32 0, .int .i64 0, .int .i64 0, .int .i64 0, .bool false] (by simp)).range
  have heqT := eqT 2 pc X
  clear hnb
  go_upto_region 11 with (first | (guard_target =~ wpList _ _ _ (Oper.mk (some 46) _ _ _ _ _ :: _) _ _; refine wpList_load_want (by rfl) _ _ rfl tb 0 rfl _ _ HTb.out Tryz.underlying50 rfl tk_info ?_) | (go_at_call 17; refine (gno 0 _).mono ?_; rintro e wu ⟨rfl, hwe⟩; have hwe := hwe.symm; subst hwe) | (go_at_call 18; refine (HR1.out _ _ _ HX.out).mono ?_; rintro e w9 ⟨rfl, hx⟩; have HX := hidW hx; clear hx) | (guard_target =~ wpList _ _ _ (Oper.mk (some 72) _ _ _ _ _ :: _) _ _; refine wpList_load_mid rfl _ _ rfl w.heap.size 0 rfl (RL R) _ HX.out.ux.box.range Tryz.underlying26 rfl HIR.out ?_) | (guard_target =~ wpList _ _ _ (Oper.mk none (Op.store 26 _ _) _ _ _ _ :: _) _ _; refine wpList_store_mid rfl _ _ _ rfl w9.heap.size 0 (RL R).toArray rfl rfl (HTh.out _ _ _ hR rfl) (HJ.out R hR) (HO.out R) ?_; generalize hW : World.setCells _ _ _ _ = w10; have HX := hidW (HNw.out _ _ _ R _ _ _ HX.out hR rfl hW); clear hW))
  generalize w9.heap.size = wb at HX ⊢
  have HX := hidW (HX.out.sub [(wb, 26, RL R), (tb, 50, [.int .i64 2, .int .u32 pc, .int .u32 X, .int .u32 0, .int .i64 0, .int .i64 0, .int .i64 0, .bool false])] (by simp) (by have := HX.out.nd; simp at this ⊢; omega))
  clear c28 c29 n28 n24 HTb heqT
  have ewr : IntKind.u32.wrap (pc + 4) = (pc + 4) % 4294967296 := by rw [IntKind.wrap_u32']
  generalize hpc4 : (pc + 4) % 4294967296 = pc4 at *
  have c28 := c28R.out _ _ _ HX.out
  have c29 := c29R.out _ _ _ HX.out
  have hwb : Bl w10 wb 26 (RL (R)) := HX.out.box wb 26 (RL (R)) (by simp)
  have hlX : (R).length = 30 := by simp [hR30]
  have d1 : w10.cell? ⟨wb, 28, none⟩ = some (.int .u32 (rg (R) 28)) := by rw [hwb.cell 28, RL_at hlX (by decide)]
  have d2 := hwb.frozen 28
  clear hwb hlX
  go_upto_region 12 with fail
  have HX := hidW (HX.out.putR 28 pc4)
  generalize World.setCell _ _ _ = w11 at HX ⊢
  clear c28 c29 d1 d2
  have c28 := c28R.out _ _ _ HX.out
  have c29 := c29R.out _ _ _ HX.out
  have hwb : Bl w11 wb 26 (RL (R.set 28 pc4)) := HX.out.box wb 26 (RL (R.set 28 pc4)) (by simp)
  have hlX : (R.set 28 pc4).length = 30 := by simp [hR30]
  have d1 : w11.cell? ⟨wb, 19, none⟩ = some (.int .u32 (rg (R.set 28 pc4) 19)) := by rw [hwb.cell 19, RL_at hlX (by decide)]
  have d2 := hwb.frozen 19
  clear hwb hlX
  go_upto_region 13 with fail
  have HX := hidW (HX.out.putR 19 pc4)
  generalize World.setCell _ _ _ = w12 at HX ⊢
  clear c28 c29 d1 d2
  have c28 := c28R.out _ _ _ HX.out
  have c29 := c29R.out _ _ _ HX.out
  have hwb : Bl w12 wb 26 (RL ((R.set 28 pc4).set 19 pc4)) := HX.out.box wb 26 (RL ((R.set 28 pc4).set 19 pc4)) (by simp)
  have hlX : ((R.set 28 pc4).set 19 pc4).length = 30 := by simp [hR30]
  have d1 : w12.cell? ⟨wb, 24, none⟩ = some (.int .u32 (rg ((R.set 28 pc4).set 19 pc4) 24)) := by rw [hwb.cell 24, RL_at hlX (by decide)]
  have d2 := hwb.frozen 24
  clear hwb hlX
  go_upto_region 14 with fail
  have HX := hidW (HX.out.putR 24 cp)
  generalize World.setCell _ _ _ = w13 at HX ⊢
  clear c28 c29 d1 d2
  rw [hT0] at HX
  have hbk := hidW hbk
  go_cut [89] from 15 (fun s89 wx => s89 = .bool false ∧ WCx w wx w.heap.size cb T R [(wb, 26, RL T), (tb, 50, [.int .i64 2, .int .u32 pc, .int .u32 X, .int .u32 0, .int .i64 0, .int .i64 0, .int .i64 0, .bool false])])
  case first =>
    have heqS : ∀ v, (Op.equalIn 10000 26 (.agg (RL (T)).toArray) (.agg (RL (T)).toArray)).run Tryz.prog v = .ok true v := fun v => by
      rw [eqS _ _ (ROk.len hT) (ROk.len hT) v, decide_eq_true rfl]
    have HIT : Hid ((Tryz.prog.info? 26).map (·.size) = some (RL (T)).length) := by rw [RL_len hT]; exact state_info
    have HBx : Hid (∀ v L, WCx w v w.heap.size cb (T) R ((wb, 26, RL (T)) :: L) → v.rangeAt wb 0 (RL (T))) := fun v L h => (h.box wb 26 (RL (T)) (List.mem_cons_self ..)).range
    have HX := hidW HX.out.drew
    refine wp_region_held_drew (S := fun v => v.rangeAt wb 0 (RL (T))) (by kernel_rfl) (HBx.out _ _ HX.out) (fun hHeld => ?_)
    clear hHeld
    have K2 := hidW (HBx.out _ _ HX.out)
    generalize w13.drew = u1 at HX K2 ⊢
    refine wpAnyH_take (i := 0) (oi := { dst := some 86, op := Op.move (Operand.tmp 7), type := 27, pos := _, after := #[], guard := none }) (v := ?_) rfl (by kernel_rfl) (by kernel_rfl) (by kernel_rfl) (fun _ _ _ h => h) (Or.inl ⟨by rfl, ?_⟩) (by assumption) ?_
    rotate_left
    · (intro w hSw; (try dsimp only at hSw); go_simp; try with_reducible rfl)
    simp only [Act.put, List.setIfInBounds_toArray, List.set_cons_zero, List.set_cons_succ]
    refine wpAnyH_take (i := 2) (oi := { dst := some 88, op := Op.load 26 (Operand.tmp 12), type := 26, pos := _, after := #[], guard := none }) (v := _) rfl (by kernel_rfl) (by kernel_rfl) (by kernel_rfl) (fun _ _ _ h => h) (yieldsIf_load_mid (by rfl) _ _ rfl wb 0 rfl _ _ (fun _ h => h) Tryz.underlying26 rfl HIT.out) (by assumption) ?_
    simp only [Act.put, List.setIfInBounds_toArray, List.set_cons_zero, List.set_cons_succ]
    refine wpAnyH_ready (rs := [1]) (by kernel_rfl) (by simp) ?_
    refine (AllReadyH.cons (o := { dst := some 87, op := Op.call { callee := Callee.value (Operand.func 11), args := #[Operand.tmp 86], argTypes := #[27] }, type := 26, pos := _, after := #[{ on := 0, ground := Ground.data }], guard := none }) rfl (fun K hK => ?_) AllReadyH.nil)
    go_simp
    go_at_call 11; refine (HSt.out _ _ _ _ HX.out).mono ?_; rintro e u2 ⟨rfl, hx⟩; have HX := hidW hx; have K2 := hidW (HBx.out _ _ HX.out); clear hx
    refine hK.out _ _ ?_ (fun hHeld => ?_)
    · exact K2.out
    clear hK K
    try simp only [Act.put, List.setIfInBounds_toArray, List.set_cons_zero, List.set_cons_succ]
    refine wpAnyH_take (i := 3) (oi := { dst := some 89, op := Op.binOp BinOp.neq 26 (Operand.tmp 87) (Operand.tmp 88) 26, type := 4, pos := _, after := #[{ on := 1, ground := Ground.data }, { on := 2, ground := Ground.data }], guard := none }) (v := ?_) rfl (by kernel_rfl) (by kernel_rfl) (by kernel_rfl) (fun _ _ _ h => h) (Or.inl ⟨by rfl, ?_⟩) (by assumption) ?_
    rotate_left
    · (intro w hSw; (try dsimp only at hSw); go_simp; try with_reducible rfl)
    simp only [Act.put, List.setIfInBounds_toArray, List.set_cons_zero, List.set_cons_succ]
    refine wpAnyH_done (by kernel_rfl) ?_ _
    (go_wp2_with fail)
    go_meet
    exact ⟨rfl, HX.out⟩
  case rest =>
    obtain ⟨rfl, hX⟩ := hcut
    have HX := hidW hX
    clear hX
    have HD : Hid (∀ v R' S' L, WCx w v w.heap.size cb R' S' L → Calls Tryz.prog 12 #[.int .u32 (x : Int)] v fun e w' => e = .returned (.tuple #[.agg (Is.insA ((Is.decP x).getD Is.insZ)), .bool (Is.decP x).isSome]) ∧ WCx w w' w.heap.size cb R' S' L) := fun v R' S' L h => (Is.gdec_any x v h.ux.te.tp hx).mono (by rintro e w' ⟨rfl, hb⟩; exact ⟨rfl, h.step hb⟩)
    generalize hd : (Is.decP x).getD Is.insZ = j at HD
    generalize hok : (Is.decP x).isSome = ok at HD
    have HIi : Hid ((Tryz.prog.info? 35).map (·.size) = some (Is.insA j).size) := ins_info
    have HOi : Hid ((Is.insA j).all (·.oneCell') = true) := ins_one j
    have hok := hidW hok
    have hd := hidW hd
    go_upto_region 17 with (first | (go_at_call 12; refine (HD.out _ _ _ _ HX.out).mono ?_; rintro e w14 ⟨rfl, hx⟩; have HX := hidW hx; clear hx) | (guard_target =~ wpList _ _ _ (Oper.mk none (Op.store 35 _ _) _ _ _ _ :: _) _ _; refine wpList_store_mid rfl _ _ _ rfl w14.heap.size 0 (Is.insA j) rfl rfl (there_new w14 35 _ _ rfl) HIi.out HOi.out ?_; have HF := hidW (fill_new w14 35 (Is.insL Is.insZ).toArray (Is.insL j) rfl); generalize hW : World.setCells _ _ _ _ = w15; have e6 : (w14.alloc (.cells (Is.insL Is.insZ).toArray 35)).setCells w14.heap.size 0 (Is.insL j) = w15 := hW; rw [e6] at HF; have HX := hidW (HX.out.step HF.out.1); clear HF e6 hW))
    cases ok
    rotate_left
    · go_wp2
      exact bodyPost_ret (v := .bool true) (by simp [results, Tryz.results4, go_sem]) rfl ⟨rfl, HX.out.ux.bel⟩
    have hdn : Is.decP x = none := by
      have h1 := hok.out
      cases hq : Is.decP x with
      | none => rfl
      | some j => rw [hq] at h1; cases h1
    have hT30 := hT.len
    have hr4 : 0 ≤ pc4 ∧ pc4 < 4294967296 := by omega
    have h44 : pc4 % 4 = 0 := by omega
    obtain ⟨q4, q26, qb3, qT⟩ := und_plain T hT (by rw [hT28]; exact h44)
    have HS2 : Hid (∀ v lb L, YCx w v w.heap.size cb lb T R (pc4, (x : Int)) L → Calls Tryz.prog 16 #[.pointer (some ⟨cb, 0, none⟩), .iface 42 (.pointer (some ⟨lb, 0, none⟩))] v fun e w' => e = .returned (.tuple #[.agg #[.int .i64 1, .int .u32 pc4, .int .u32 (x : Int), .int .u32 0, .int .i64 0, .int .i64 0, .int .i64 0, .bool false], .int .i64 0]) ∧ WCx w w' w.heap.size cb (raP 1 T) R L) := fun v lb L h => gStepW h 1 hT28 hr4 h44 (by omega) (.inl ⟨rfl, by rw [Int.toNat_natCast]; exact hdn⟩)
    rw [hT28, hT29] at qT
    have ewr4 : IntKind.u32.wrap (pc4 + 4) = (pc4 + 4) % 4294967296 := by rw [IntKind.wrap_u32']
    generalize hpc8 : (pc4 + 4) % 4294967296 = pc8 at *
    have hU : ROk (((T.set 28 pc8).set 21 pc8).set 26 cp) := ((hT.set (k := 28) (v := pc8) (by omega)).set (k := 21) (v := pc8) (by omega)).set (k := 26) (v := cp) hr29
    have eU : ((T.set 28 pc8).set 21 pc8).set 26 cp = ((T.set 21 pc8).set 26 cp).set 28 pc8 := by
      rw [List.set_comm pc8 pc8 (by decide : (28 : Nat) ≠ 21), List.set_comm pc8 cp (by decide : (28 : Nat) ≠ 26)]
    have HR2 : Hid (∀ v S' L, WCx w v w.heap.size cb (raP 1 T) S' L → Calls Tryz.prog 18 #[.pointer (some ⟨cb, 0, none⟩), .int .u32 0] v fun e w' => e = .returned (.int .i64 0) ∧ WCx w w' w.heap.size cb (((T.set 21 pc8).set 26 cp).set 28 pc8) S' L) := fun v S' L h => by
      rw [← eU, ← qT]
      exact gReturnW h (by rw [qb3, q26, hT29]; exact hbk.out)
    rw [eU] at hU
    generalize hUe : ((T.set 21 pc8).set 26 cp).set 28 pc8 = U at hU HR2
    have hwb : Bl w15 wb 26 (RL T) := HX.out.box wb 26 (RL T) (by simp)
    have c28 : w15.cell? ⟨wb, 28, none⟩ = some (.int .u32 pc4) := by rw [hwb.cell 28, RL_at hT30 (by decide), hT28]
    clear hwb
    have HOt : Hid ((#[.int .i64 1, .int .u32 pc4, .int .u32 (x : Int), .int .u32 0, .int .i64 0, .int .i64 0, .int .i64 0, .bool false] : Array Value).all (·.oneCell') = true) := all_oneCell_toArray (cs := [.int .i64 1, .int .u32 pc4, .int .u32 (x : Int), .int .u32 0, .int .i64 0, .int .i64 0, .int .i64 0, .bool false]) (by intro v hv; simp only [List.mem_cons, List.mem_nil_iff, or_false] at hv; rcases hv with rfl | rfl | rfl | rfl | rfl | rfl | rfl | rfl <;> rfl)
    have HPk : Hid (∀ v R', WCx w v w.heap.size cb R' R [(wb, 26, RL T), (tb, 50, [.int .i64 2, .int .u32 pc, .int .u32 X, .int .u32 0, .int .i64 0, .int .i64 0, .int .i64 0, .bool false])] → v.there tb 0 8) := fun v R' h => (h.box tb 50 [.int .i64 2, .int .u32 pc, .int .u32 X, .int .u32 0, .int .i64 0, .int .i64 0, .int .i64 0, .bool false] (by simp)).there 8 rfl
    have HPl : Hid (∀ v v2 R', WCx w v w.heap.size cb R' R [(wb, 26, RL T), (tb, 50, [.int .i64 2, .int .u32 pc, .int .u32 X, .int .u32 0, .int .i64 0, .int .i64 0, .int .i64 0, .bool false])] → v.setCells tb 0 [.int .i64 1, .int .u32 pc4, .int .u32 (x : Int), .int .u32 0, .int .i64 0, .int .i64 0, .int .i64 0, .bool false] = v2 → WCx w v2 w.heap.size cb R' R [(wb, 26, RL T), (tb, 50, [.int .i64 1, .int .u32 pc4, .int .u32 (x : Int), .int .u32 0, .int .i64 0, .int .i64 0, .int .i64 0, .bool false])]) := fun v v2 R' h e => ((h.sub [(tb, 50, [.int .i64 2, .int .u32 pc, .int .u32 X, .int .u32 0, .int .i64 0, .int .i64 0, .int .i64 0, .bool false]), (wb, 26, RL T)] (by simp) (by have := h.nd; simp at this ⊢; omega)).putL [.int .i64 1, .int .u32 pc4, .int .u32 (x : Int), .int .u32 0, .int .i64 0, .int .i64 0, .int .i64 0, .bool false] rfl e).sub _ (by simp) h.nd
    go_upto_region 20 with (first | (go_at_call 15; refine (HNL.out _ _ _ _ HX.out _ _).mono ?_; rintro e w16 ⟨rfl, hv⟩; have HV := hidW hv; clear hv) | (go_at_call 16; refine (HS2.out _ _ _ HV.out).mono ?_; rintro e w17 ⟨rfl, hx⟩; have HX := hidW hx; clear hx) | (guard_target =~ wpList _ _ _ (Oper.mk none (Op.store 50 _ _) _ _ _ _ :: _) _ _; refine wpList_store_mid rfl _ _ _ rfl tb 0 #[.int .i64 1, .int .u32 pc4, .int .u32 (x : Int), .int .u32 0, .int .i64 0, .int .i64 0, .int .i64 0, .bool false] rfl rfl (HPk.out _ _ HX.out) tk_info HOt.out ?_; generalize hW : World.setCells _ _ _ _ = w18; have HX := hidW (HPl.out _ _ _ HX.out hW); clear hW))
    clear c28 HV
    have hwb : Bl w18 wb 26 (RL T) := HX.out.box wb 26 (RL T) (by simp)
    have c28 : w18.cell? ⟨wb, 28, none⟩ = some (.int .u32 pc4) := by rw [hwb.cell 28, RL_at hT30 (by decide), hT28]
    clear hwb
    have HTb : Hid (w18.rangeAt tb 0 [.int .i64 1, .int .u32 pc4, .int .u32 (x : Int), .int .u32 0, .int .i64 0, .int .i64 0, .int .i64 0, .bool false]) := (HX.out.box tb 50 [.int .i64 1, .int .u32 pc4, .int .u32 (x : Int), .int .u32 0, .int .i64 0, .int .i64 0, .int .i64 0, .bool false] (by simp)).range
    have heqT := eqT 1 pc4 x
    go_upto_region 22 with (first | (guard_target =~ wpList _ _ _ (Oper.mk (some 112) _ _ _ _ _ :: _) _ _; refine wpList_load_want (by rfl) _ _ rfl tb 0 rfl _ _ HTb.out Tryz.underlying50 rfl tk_info ?_) | (go_at_call 17; refine (gno 0 _).mono ?_; rintro e wu ⟨rfl, hwe⟩; have hwe := hwe.symm; subst hwe) | (go_at_call 18; refine (HR2.out _ _ _ HX.out).mono ?_; rintro e w19 ⟨rfl, hx⟩; have HX := hidW hx; clear hx))
    clear c28 heqT HTb
    have hwb : Bl w19 wb 26 (RL (T)) := HX.out.box wb 26 (RL (T)) (by simp)
    have hlX : (T).length = 30 := by simp [hT30]
    have c28 : w19.cell? ⟨wb, 28, none⟩ = some (.int .u32 pc4) := by rw [hwb.cell 28, RL_at hlX (by decide), ← hT28]; first | done | (unfold rg; simp [List.getD_eq_getElem?_getD, List.getElem?_set, hT30])
    have c29 : w19.cell? ⟨wb, 29, none⟩ = some (.int .u32 cp) := by rw [hwb.cell 29, RL_at hlX (by decide), ← hT29]; first | done | (unfold rg; simp [List.getD_eq_getElem?_getD, List.getElem?_set, hT30])
    have d1 : w19.cell? ⟨wb, 21, none⟩ = some (.int .u32 (rg (T) 21)) := by rw [hwb.cell 21, RL_at hlX (by decide)]
    have d2 := hwb.frozen 21
    clear hwb hlX 
    go_upto_region 23 with fail
    have HX := hidW (HX.out.putR 21 pc8)
    generalize World.setCell _ _ _ = w20 at HX ⊢
    clear c28 c29 d2 d1
    have hwb : Bl w20 wb 26 (RL (T.set 21 pc8)) := HX.out.box wb 26 (RL (T.set 21 pc8)) (by simp)
    have hlX : (T.set 21 pc8).length = 30 := by simp [hT30]
    have c28 : w20.cell? ⟨wb, 28, none⟩ = some (.int .u32 pc4) := by rw [hwb.cell 28, RL_at hlX (by decide), ← hT28]; first | done | (unfold rg; simp [List.getD_eq_getElem?_getD, List.getElem?_set, hT30])
    have c29 : w20.cell? ⟨wb, 29, none⟩ = some (.int .u32 cp) := by rw [hwb.cell 29, RL_at hlX (by decide), ← hT29]; first | done | (unfold rg; simp [List.getD_eq_getElem?_getD, List.getElem?_set, hT30])
    have d1 : w20.cell? ⟨wb, 26, none⟩ = some (.int .u32 (rg (T.set 21 pc8) 26)) := by rw [hwb.cell 26, RL_at hlX (by decide)]
    have d2 := hwb.frozen 26
    clear hwb hlX 
    go_upto_region 24 with fail
    have HX := hidW (HX.out.putR 26 cp)
    generalize World.setCell _ _ _ = w21 at HX ⊢
    clear c28 c29 d2 d1
    have hwb : Bl w21 wb 26 (RL ((T.set 21 pc8).set 26 cp)) := HX.out.box wb 26 (RL ((T.set 21 pc8).set 26 cp)) (by simp)
    have hlX : ((T.set 21 pc8).set 26 cp).length = 30 := by simp [hT30]
    have c28 : w21.cell? ⟨wb, 28, none⟩ = some (.int .u32 pc4) := by rw [hwb.cell 28, RL_at hlX (by decide), ← hT28]; first | done | (unfold rg; simp [List.getD_eq_getElem?_getD, List.getElem?_set, hT30])
    have c29 : w21.cell? ⟨wb, 29, none⟩ = some (.int .u32 cp) := by rw [hwb.cell 29, RL_at hlX (by decide), ← hT29]; first | done | (unfold rg; simp [List.getD_eq_getElem?_getD, List.getElem?_set, hT30])
    have d1 : w21.cell? ⟨wb, 28, none⟩ = some (.int .u32 (rg ((T.set 21 pc8).set 26 cp) 28)) := by rw [hwb.cell 28, RL_at hlX (by decide)]
    have d2 := hwb.frozen 28
    clear hwb hlX d1
    go_upto_region 25 with fail
    have HX := hidW (HX.out.putR 28 pc8)
    generalize World.setCell _ _ _ = w22 at HX ⊢
    clear c28 c29 d2 
    rw [hUe] at HX
    have heqS : ∀ v, (Op.equalIn 10000 26 (.agg (RL U).toArray) (.agg (RL U).toArray)).run Tryz.prog v = .ok true v := fun v => by
      rw [eqS _ _ hU.len hU.len v, decide_eq_true rfl]
    have HIT : Hid ((Tryz.prog.info? 26).map (·.size) = some (RL U).length) := by rw [RL_len hU]; exact state_info
    have HBx : Hid (∀ v L, WCx w v w.heap.size cb U R ((wb, 26, RL U) :: L) → v.rangeAt wb 0 (RL U)) := fun v L h => (h.box wb 26 (RL U) (List.mem_cons_self ..)).range
    have HX := hidW HX.out.drew
    refine wp_region_held_drew (S := fun v => v.rangeAt wb 0 (RL U)) (by kernel_rfl) (HBx.out _ _ HX.out) (fun hHeld => ?_)
    clear hHeld
    have K2 := hidW (HBx.out _ _ HX.out)
    generalize w22.drew = u1 at HX K2 ⊢
    refine wpAnyH_take (i := 0) (oi := { dst := some 138, op := Op.move (Operand.tmp 7), type := 27, pos := _, after := #[], guard := none }) (v := ?_) rfl (by kernel_rfl) (by kernel_rfl) (by kernel_rfl) (fun _ _ _ h => h) (Or.inl ⟨by rfl, ?_⟩) (by assumption) ?_
    rotate_left
    · (intro w hSw; (try dsimp only at hSw); go_simp; try with_reducible rfl)
    simp only [Act.put, List.setIfInBounds_toArray, List.set_cons_zero, List.set_cons_succ]
    refine wpAnyH_take (i := 2) (oi := { dst := some 140, op := Op.load 26 (Operand.tmp 12), type := 26, pos := _, after := #[], guard := none }) (v := _) rfl (by kernel_rfl) (by kernel_rfl) (by kernel_rfl) (fun _ _ _ h => h) (yieldsIf_load_mid (by rfl) _ _ rfl wb 0 rfl _ _ (fun _ h => h) Tryz.underlying26 rfl HIT.out) (by assumption) ?_
    simp only [Act.put, List.setIfInBounds_toArray, List.set_cons_zero, List.set_cons_succ]
    refine wpAnyH_ready (rs := [1]) (by kernel_rfl) (by simp) ?_
    refine (AllReadyH.cons (o := { dst := some 139, op := Op.call { callee := Callee.value (Operand.func 11), args := #[Operand.tmp 138], argTypes := #[27] }, type := 26, pos := _, after := #[{ on := 0, ground := Ground.data }], guard := none }) rfl (fun K hK => ?_) AllReadyH.nil)
    go_simp
    go_at_call 11; refine (HSt.out _ _ _ _ HX.out).mono ?_; rintro e u2 ⟨rfl, hx⟩; have HX := hidW hx; have K2 := hidW (HBx.out _ _ HX.out); clear hx
    refine hK.out _ _ ?_ (fun hHeld => ?_)
    · exact K2.out
    clear hK K
    try simp only [Act.put, List.setIfInBounds_toArray, List.set_cons_zero, List.set_cons_succ]
    refine wpAnyH_take (i := 3) (oi := { dst := some 141, op := Op.binOp BinOp.eql 26 (Operand.tmp 139) (Operand.tmp 140) 26, type := 4, pos := _, after := #[{ on := 1, ground := Ground.data }, { on := 2, ground := Ground.data }], guard := none }) (v := ?_) rfl (by kernel_rfl) (by kernel_rfl) (by kernel_rfl) (fun _ _ _ h => h) (Or.inl ⟨by rfl, ?_⟩) (by assumption) ?_
    rotate_left
    · (intro w hSw; (try dsimp only at hSw); go_simp; try with_reducible rfl)
    simp only [Act.put, List.setIfInBounds_toArray, List.set_cons_zero, List.set_cons_succ]
    refine wpAnyH_take (i := 4) (oi := { dst := some 6, op := Op.assign (Operand.tmp 141), type := 4, pos := _, after := #[{ on := 3, ground := Ground.data }, { on := 1, ground := Ground.chain }, { on := 0, ground := Ground.phase }, { on := 1, ground := Ground.phase }, { on := 2, ground := Ground.phase }, { on := 3, ground := Ground.phase }], guard := none }) (v := ?_) rfl (by kernel_rfl) (by kernel_rfl) (by kernel_rfl) (fun _ _ _ h => h) (Or.inl ⟨by rfl, ?_⟩) (by assumption) ?_
    rotate_left
    · (intro w hSw; (try dsimp only at hSw); go_simp; try with_reducible rfl)
    simp only [Act.put, List.setIfInBounds_toArray, List.set_cons_zero, List.set_cons_succ]
    refine wpAnyH_done (by kernel_rfl) ?_ _
    go_wp2
    exact bodyPost_ret (v := .bool true) (by simp [results, Tryz.results4, go_sem]) rfl ⟨rfl, HX.out.ux.bel⟩
end Go.Proofs.YtilhceajhlaojaaGreatDoor
