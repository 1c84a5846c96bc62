import Derived.Test.YtkmgmmmpiallhaaDoorLc
namespace Go.Proofs.YtkmgmmmpiallhaaDoor
open Go.RowKit
set_option linter.unusedVariables false
set_option linter.unusedSimpArgs false
set_option maxRecDepth 100000 in
set_option maxHeartbeats 400000 in
theorem bits_none (x : Nat) (b c : Int) (w : World) (ht : TP w) (hx : x < 4294967296) (hd : decP x = none) : Calls Tryd.prog 3 #[.int .u32 (x : Int), .int .i64 b, .int .i64 c] w fun e w' => e = .returned (.bool true) ∧ Below w.heap.size w w' := by
  have HA : Hid (∀ w', TP w' → Calls Tryd.prog 9 #[] w' fun e w'' => e = .returned (.bool true) ∧ Below w'.heap.size w' w'') := fun w' h => alive_any w' h
  have HD : Hid (∀ w', TP w' → Calls Tryd.prog 10 #[.int .u32 (x : Int)] w' fun e w'' => e = .returned (.tuple #[.agg (insL insZ).toArray, .bool false]) ∧ Below w'.heap.size w' w'') := fun w' h => by
    have := gdec_any x w' h hx
    rw [hd] at this
    exact this
  have HO : Hid ((insL insZ).toArray.all (·.oneCell') = true) := ins_all insZ
  have HS1 : Hid ((Tryd.prog.info? 28).map (·.size) = some (insL insZ).length) := ins_size
  have HS : Hid ((Tryd.prog.info? 28).map (·.size) = some (insL insZ).toArray.size) := ins_size
  have HL : Hid ((insL insZ).length = 20) := rfl
  have HX := hidW (TX.first ht)
  clear ht hx hd
  go_enter Tryd.func3, Tryd.ntmps3
  go_wp2_with (first | (go_at_call 9; refine (HA.out _ HX.out.tp).mono ?_; rintro e w0 ⟨rfl, hb⟩; have HX := hidW (HX.out.step hb); clear hb HA) | (go_at_call 10; refine (HD.out _ HX.out.tp).mono ?_; rintro e w1 ⟨rfl, hb⟩; have HX := hidW (HX.out.step hb); clear hb HD) | (guard_target =~ wpList _ _ _ (Oper.mk none (Op.store 28 (Operand.tmp 7) _) _ _ _ _ :: _) _ _; have HT := ins_there w1 (insL insZ) HL.out; refine wpList_store_mid rfl _ _ _ rfl w1.heap.size 0 (insL insZ).toArray rfl rfl HT HS.out HO.out ?_; clear HT; generalize hW : World.setCells _ _ _ _ = w2; have HQ := hidW (show QX w w1.heap.size (insL insZ) w2 from hW ▸ HX.out.fill (insL insZ) HL.out); clear hW HX))
  exact bodyPost_ret (v := .bool true) (by simp [results, Tryd.results3, go_sem, Act.put]) rfl ⟨rfl, HQ.out.bel⟩
theorem and15 (n : Int) : bits .and .i64 n 15 = n % 16 := by
  have h15 : (BitVec.ofInt 64 15).toNat = 2 ^ 4 - 1 := by decide
  have key : (BitVec.ofInt 64 n &&& BitVec.ofInt 64 15).toNat = (n % ((2 ^ 64 : Nat) : Int)).toNat % 2 ^ 4 := by
    rw [BitVec.toNat_and, BitVec.toNat_ofInt, h15, Nat.and_two_pow_sub_one_eq_mod]
  show IntKind.i64.wrap ((BitVec.ofInt 64 n &&& BitVec.ofInt 64 15).toNat : Nat) = n % 16
  rw [key, IntKind.wrap_i64]
  omega
theorem reC_lt (x m : Nat) (hm : m < 16) : reC x m < 4294967296 := by unfold reC; omega
theorem cond_word (x m : Nat) (hx : x < 4294967296) (hm : m < 16) : bits .or .u32 (bits .andNot .u32 (x : Int) 4026531840) ((m : Int) * 268435456) = ((reC x m : Nat) : Int) := by
  have e1 : bits .andNot .u32 (x : Int) 4026531840 = ((x % 268435456 : Nat) : Int) := by
    have := u32_andNot_nat x 4026531840 hx (by decide)
    rw [show (4294967295 - 4026531840 : Nat) = 2 ^ 28 - 1 from by decide, Nat.and_two_pow_sub_one_eq_mod] at this
    exact this
  have e2 := or_nat (x % 268435456) (m * 268435456) (by omega) (by omega)
  rw [e1, show (m : Int) * 268435456 = ((m * 268435456 : Nat) : Int) by omega, e2, reC]
  have := or_add (x % 268435456) m 28 (Nat.mod_lt _ (by decide))
  rw [show (2 : Nat) ^ 28 = 268435456 from by decide] at this
  rw [this]
theorem wpList_skip {P : Program} {ops : Array Oper} {rest : List Oper} {op : Oper} {a : Act} {w : World} {Q : Exit → Act → World → Prop} (hw : Region.wanted op (yielded ops a.tmps) = false) (h : wpList P ops Q rest (a.put op.dst undef) w) : wpList P ops Q (op :: rest) a w :=
  wpList_step fun K hK => by rw [if_neg (by rw [hw]; decide)]; exact hK _ _ h
theorem wpSt (ty : TypeId) (k : Tmp) {P : Program} {ops : Array Oper} {rest : List Oper} {y : Operand} {t : TypeId} {p : String} {af : Array Edge} {g : Option (Nat × Bool)} {a : Act} {w : World} {Q : Exit → Act → World → Prop} (h : wpList P ops Q (Oper.mk none (Op.store ty (Operand.tmp k) y) t p af g :: rest) a w) : wpList P ops Q (Oper.mk none (Op.store ty (Operand.tmp k) y) t p af g :: rest) a w := h
theorem wpAt (k : Tmp) {P : Program} {ops : Array Oper} {rest : List Oper} {o : Op} {t : TypeId} {p : String} {af : Array Edge} {g : Option (Nat × Bool)} {a : Act} {w : World} {Q : Exit → Act → World → Prop} (h : wpList P ops Q (Oper.mk (some k) o t p af g :: rest) a w) : wpList P ops Q (Oper.mk (some k) o t p af g :: rest) a w := h
theorem bits_put {W w w' : World} {q q' : Nat} {L K : List Value} {v : Value} (h : QX W q L w) (hk : Bl w q' 28 K) (hW : 3 < W.heap.size) (hs : L.set 0 v = K) (hq : q < q') (e : w.setCell ⟨q, 0, none⟩ v = w') (hWq : W.heap.size ≤ q) : QX W q K w' ∧ Bl w' q' 28 K := by
  subst e
  have ht : TA q w (w.setCell ⟨q, 0, none⟩ v) := TA.set (Turn.refl _ _) 0 v
  exact ⟨⟨Turn.to ((TA.of h.bel : TA q W w).then ht) (fun _ e => by omega) (Nat.le_refl _), hs ▸ h.box.set 0 v, h.tp.turn ht (by omega)⟩, hk.turn ht (by omega)⟩
set_option maxRecDepth 100000 in
set_option maxHeartbeats 400000 in
theorem bits_na (x : Nat) (b c : Int) (w : World) (ht : TP w) (hx : x < 4294967296) (i : Ins) (hd : decP x = some i) (n : Nat) (hn : (IntKind.u64.wrap b).tmod 32 = (n : Int)) (hn1 : n < 32) (m : Nat) (hm : c % 16 = (m : Int)) (hm1 : m < 16) (hy : decP (x ^^^ 2 ^ n) = none) (h15 : m = 15) : Calls Tryd.prog 3 #[.int .u32 (x : Int), .int .i64 b, .int .i64 c] w fun e w' => e = .returned (.bool true) ∧ Below w.heap.size w w' := by
  have hpw : 2 ^ n < 4294967296 := by
    have := Nat.pow_lt_pow_right (a := 2) (by decide) hn1
    have h3 : (2 : Nat) ^ 32 = 4294967296 := by decide
    omega
  have hyl : x ^^^ 2 ^ n < 4294967296 := by
    have h3 : (2 : Nat) ^ 32 = 4294967296 := by decide
    rw [← h3] at *
    exact Nat.xor_lt_two_pow hx hpw
  have hxy : bits .xor .u32 (x : Int) (2 ^ n % 4294967296) = ((x ^^^ 2 ^ n : Nat) : Int) := by
    have e2 : (2 : Int) ^ n % 4294967296 = ((2 ^ n : Nat) : Int) := by
      have := pow_nat n
      rw [← this]
      generalize 2 ^ n = z at *
      omega
    rw [e2]
    exact u32_xor_nat x (2 ^ n) hx hpw
  have hz : decP (reC x m) = none := by
    rw [dec_cond hx hd m hm1, if_pos (.inl h15)]
  have HA : Hid (∀ w', TP w' → Calls Tryd.prog 9 #[] w' fun e w'' => e = .returned (.bool true) ∧ Below w'.heap.size w' w'') := fun w' h => alive_any w' h
  have HD : Hid (∀ w', TP w' → Calls Tryd.prog 10 #[.int .u32 (x : Int)] w' fun e w'' => e = .returned (.tuple #[.agg (insL i).toArray, .bool true]) ∧ Below w'.heap.size w' w'') := fun w' h => by
    have := gdec_any x w' h hx
    rw [hd] at this
    exact this
  have HD2 : Hid (∀ w', TP w' → Calls Tryd.prog 10 #[.int .u32 (bits .xor .u32 (x : Int) (2 ^ n % 4294967296))] w' fun e w'' => e = .returned (.tuple #[.agg (insL insZ).toArray, .bool false]) ∧ Below w'.heap.size w' w'') := fun w' h => by
    have := gdec_any (x ^^^ 2 ^ n) w' h hyl
    rw [hy] at this
    rw [hxy]
    exact this
  obtain ⟨k, hk⟩ : ∃ k : Ins, k = insZ := ⟨_, rfl⟩
  have HD3 : Hid (∀ w', TP w' → Calls Tryd.prog 10 #[.int .u32 (bits .or .u32 (bits .andNot .u32 (x : Int) 4026531840) ((m : Int) * 268435456))] w' fun e w'' => e = .returned (.tuple #[.agg (insL k).toArray, .bool false]) ∧ Below w'.heap.size w' w'') := fun w' h => by
    have := gdec_any (reC x m) w' h (reC_lt x m hm1)
    rw [hz] at this
    rw [cond_word x m hx hm1, hk]
    exact this
  have HO : Hid ((insL i).toArray.all (·.oneCell') = true) := ins_all i
  have HS1 : Hid ((Tryd.prog.info? 28).map (·.size) = some (insL i).length) := ins_size
  have HS : Hid ((Tryd.prog.info? 28).map (·.size) = some (insL i).toArray.size) := ins_size
  have HL : Hid ((insL i).length = 20) := rfl
  have HO2 : Hid ((insL insZ).toArray.all (·.oneCell') = true) := ins_all insZ
  have HS3 : Hid ((Tryd.prog.info? 28).map (·.size) = some (insL insZ).length) := ins_size
  have HS4 : Hid ((Tryd.prog.info? 28).map (·.size) = some (insL insZ).toArray.size) := ins_size
  have HL2 : Hid ((insL insZ).length = 20) := rfl
  have HO5 : Hid ((insL k).toArray.all (·.oneCell') = true) := ins_all k
  have HS5 : Hid ((Tryd.prog.info? 28).map (·.size) = some (insL k).length) := ins_size
  have HS6 : Hid ((Tryd.prog.info? 28).map (·.size) = some (insL k).toArray.size) := ins_size
  have HL5 : Hid ((insL k).length = 20) := rfl
  have HQZ : ∀ w, (Op.equalIn 10000 28 (.agg (insL k).toArray) (.agg #[.int .i64 0, .int .i64 0, .bool false, .int .i64 0, .int .i64 0, .int .i64 0, .int .i64 0, .int .i64 0, .int .i64 0, .int .u32 0, .int .i64 0, .int .i64 0, .bool false, .bool false, .bool false, .int .u16 0, .int .i64 0, .int .i64 0, .int .i64 0, .int .i64 0])).run Tryd.prog w = .ok true w := fun w => by rw [hk]; exact eqI insZ insZ w
  have HC1 : Hid ((insL i)[1]? = some (.int .i64 i.op)) := rfl
  have HC0 : Hid ((insL i)[0]? = some (.int .i64 i.cond)) := rfl
  have HX := hidW (TX.first ht)
  have HW3 : 3 < w.heap.size := ht.size
  have x0 : (0 : Int) ≤ x ∧ (x : Int) < 4294967296 := by omega
  have n0 : (0 : Int) ≤ (n : Int) := by omega
  have n1 : (n : Int) < 32 := by omega
  have m0 : (0 : Int) ≤ (m : Int) := by omega
  have m1 : (m : Int) < 16 := by omega
  have HC15 : bits .and .i64 c 15 = (m : Int) := by rw [and15, hm]
  have q15 : ((m : Int) == 15) = true := beq_iff_eq.2 (by omega)
  clear ht hx hd hy hxy hyl hpw hz hk hm h15
  generalize i.op = OP at *
  generalize i.cond = CD at *
  generalize insL k = KL at *
  generalize insL i = II at *
  go_enter Tryd.func3, Tryd.ntmps3
  go_wp2_with (first | (go_at_call 9; refine (HA.out _ HX.out.tp).mono ?_; rintro e w0 ⟨rfl, hb⟩; have HX := hidW (HX.out.step hb); clear hb HA) | (go_at_call 10; refine (HD.out _ HX.out.tp).mono ?_; rintro e w1 ⟨rfl, hb⟩; have HX := hidW (HX.out.step hb); clear hb HD) | ((with_reducible refine wpSt 28 7 ?_); have HT := ins_there w1 II HL.out; refine wpList_store_mid rfl _ _ _ rfl w1.heap.size 0 II.toArray rfl rfl HT HS.out HO.out ?_; clear HT; generalize hW : World.setCells _ _ _ _ = w2; have HQ := hidW (show QX w w1.heap.size II w2 from hW ▸ HX.out.fill II HL.out); have hLQ := hidW HX.out.bel.size; clear hW HX) | (go_at_call 10; refine (HD2.out _ HQ.out.tp).mono ?_; rintro e w3 ⟨rfl, hb⟩; have hLT2 := hidW (Nat.lt_of_lt_of_le HQ.out.box.lt hb.size); have HQ := hidW (HQ.out.step hb); clear hb HD2) | ((with_reducible refine wpSt 28 9 ?_); have HT := ins_there w3 (insL insZ) HL2.out; refine wpList_store_mid rfl _ _ _ rfl w3.heap.size 0 (insL insZ).toArray rfl rfl HT HS4.out HO2.out ?_; clear HT; generalize hW : World.setCells _ _ _ _ = w4; have HV := hidW (show Bl w4 w3.heap.size 28 (insL insZ) from hW ▸ fill_box w3 28 (insL insZ) (insL insZ) rfl); have HQ := hidW (show QX w w1.heap.size II w4 from hW ▸ HQ.out.step (fill_below w3 28 (insL insZ) (insL insZ))); clear hW) | ((with_reducible refine wpAt 35 ?_); refine wpList_load_want (by rfl) _ _ rfl w3.heap.size 0 rfl (insL insZ) _ HV.out.range Tryd.underlying28 rfl HS3.out ?_) | ((with_reducible refine wpAt 36 ?_); refine wpList_load_want (by rfl) _ _ rfl w1.heap.size 0 rfl II _ HQ.out.box.range Tryd.underlying28 rfl HS1.out ?_) | (go_at_call 10; refine (HD3.out _ HQ.out.tp).mono ?_; rintro e w5 ⟨rfl, hb⟩; have hLT := hidW (Nat.lt_of_lt_of_le HQ.out.box.lt hb.size); have HQ := hidW (HQ.out.step hb); clear hb HD3 HV) | ((with_reducible refine wpSt 28 12 ?_); have HT := ins_there w5 KL HL5.out; refine wpList_store_mid rfl _ _ _ rfl w5.heap.size 0 KL.toArray rfl rfl HT HS6.out HO5.out ?_; clear HT; generalize hW : World.setCells _ _ _ _ = w6; have HK := hidW (show Bl w6 w5.heap.size 28 KL from hW ▸ fill_box w5 28 (insL insZ) KL (by rw [HL5.out]; rfl)); have HQ := hidW (show QX w w1.heap.size II w6 from hW ▸ HQ.out.step (fill_below w5 28 (insL insZ) KL)); clear hW; have c1 := HQ.out.box.cell 1; rw [HC1.out] at c1) | ((with_reducible refine wpAt 65 ?_); refine wpList_load_want (by rfl) _ _ rfl w5.heap.size 0 rfl KL _ HK.out.range Tryd.underlying28 rfl HS5.out ?_))
  exact bodyPost_ret (v := .bool true) (by simp [results, Tryd.results3, go_sem, Act.put]) rfl ⟨rfl, HQ.out.bel⟩
set_option maxRecDepth 100000 in
set_option maxHeartbeats 400000 in
theorem bits_nb (x : Nat) (b c : Int) (w : World) (ht : TP w) (hx : x < 4294967296) (i : Ins) (hd : decP x = some i) (n : Nat) (hn : (IntKind.u64.wrap b).tmod 32 = (n : Int)) (hn1 : n < 32) (m : Nat) (hm : c % 16 = (m : Int)) (hm1 : m < 16) (hy : decP (x ^^^ 2 ^ n) = none) (h15 : ¬ m = 15) (h46 : i.op = 46) (h14 : ¬ m = 14) : Calls Tryd.prog 3 #[.int .u32 (x : Int), .int .i64 b, .int .i64 c] w fun e w' => e = .returned (.bool true) ∧ Below w.heap.size w w' := by
  have hpw : 2 ^ n < 4294967296 := by
    have := Nat.pow_lt_pow_right (a := 2) (by decide) hn1
    have h3 : (2 : Nat) ^ 32 = 4294967296 := by decide
    omega
  have hyl : x ^^^ 2 ^ n < 4294967296 := by
    have h3 : (2 : Nat) ^ 32 = 4294967296 := by decide
    rw [← h3] at *
    exact Nat.xor_lt_two_pow hx hpw
  have hxy : bits .xor .u32 (x : Int) (2 ^ n % 4294967296) = ((x ^^^ 2 ^ n : Nat) : Int) := by
    have e2 : (2 : Int) ^ n % 4294967296 = ((2 ^ n : Nat) : Int) := by
      have := pow_nat n
      rw [← this]
      generalize 2 ^ n = z at *
      omega
    rw [e2]
    exact u32_xor_nat x (2 ^ n) hx hpw
  have hz : decP (reC x m) = none := by
    rw [dec_cond hx hd m hm1, if_pos (.inr ⟨h46, h14⟩)]
  have HA : Hid (∀ w', TP w' → Calls Tryd.prog 9 #[] w' fun e w'' => e = .returned (.bool true) ∧ Below w'.heap.size w' w'') := fun w' h => alive_any w' h
  have HD : Hid (∀ w', TP w' → Calls Tryd.prog 10 #[.int .u32 (x : Int)] w' fun e w'' => e = .returned (.tuple #[.agg (insL i).toArray, .bool true]) ∧ Below w'.heap.size w' w'') := fun w' h => by
    have := gdec_any x w' h hx
    rw [hd] at this
    exact this
  have HD2 : Hid (∀ w', TP w' → Calls Tryd.prog 10 #[.int .u32 (bits .xor .u32 (x : Int) (2 ^ n % 4294967296))] w' fun e w'' => e = .returned (.tuple #[.agg (insL insZ).toArray, .bool false]) ∧ Below w'.heap.size w' w'') := fun w' h => by
    have := gdec_any (x ^^^ 2 ^ n) w' h hyl
    rw [hy] at this
    rw [hxy]
    exact this
  obtain ⟨k, hk⟩ : ∃ k : Ins, k = insZ := ⟨_, rfl⟩
  have HD3 : Hid (∀ w', TP w' → Calls Tryd.prog 10 #[.int .u32 (bits .or .u32 (bits .andNot .u32 (x : Int) 4026531840) ((m : Int) * 268435456))] w' fun e w'' => e = .returned (.tuple #[.agg (insL k).toArray, .bool false]) ∧ Below w'.heap.size w' w'') := fun w' h => by
    have := gdec_any (reC x m) w' h (reC_lt x m hm1)
    rw [hz] at this
    rw [cond_word x m hx hm1, hk]
    exact this
  have HO : Hid ((insL i).toArray.all (·.oneCell') = true) := ins_all i
  have HS1 : Hid ((Tryd.prog.info? 28).map (·.size) = some (insL i).length) := ins_size
  have HS : Hid ((Tryd.prog.info? 28).map (·.size) = some (insL i).toArray.size) := ins_size
  have HL : Hid ((insL i).length = 20) := rfl
  have HO2 : Hid ((insL insZ).toArray.all (·.oneCell') = true) := ins_all insZ
  have HS3 : Hid ((Tryd.prog.info? 28).map (·.size) = some (insL insZ).length) := ins_size
  have HS4 : Hid ((Tryd.prog.info? 28).map (·.size) = some (insL insZ).toArray.size) := ins_size
  have HL2 : Hid ((insL insZ).length = 20) := rfl
  have HO5 : Hid ((insL k).toArray.all (·.oneCell') = true) := ins_all k
  have HS5 : Hid ((Tryd.prog.info? 28).map (·.size) = some (insL k).length) := ins_size
  have HS6 : Hid ((Tryd.prog.info? 28).map (·.size) = some (insL k).toArray.size) := ins_size
  have HL5 : Hid ((insL k).length = 20) := rfl
  have HQZ : ∀ w, (Op.equalIn 10000 28 (.agg (insL k).toArray) (.agg #[.int .i64 0, .int .i64 0, .bool false, .int .i64 0, .int .i64 0, .int .i64 0, .int .i64 0, .int .i64 0, .int .i64 0, .int .u32 0, .int .i64 0, .int .i64 0, .bool false, .bool false, .bool false, .int .u16 0, .int .i64 0, .int .i64 0, .int .i64 0, .int .i64 0])).run Tryd.prog w = .ok true w := fun w => by rw [hk]; exact eqI insZ insZ w
  have HC1 : Hid ((insL i)[1]? = some (.int .i64 i.op)) := rfl
  have HC0 : Hid ((insL i)[0]? = some (.int .i64 i.cond)) := rfl
  have HX := hidW (TX.first ht)
  have HW3 : 3 < w.heap.size := ht.size
  have x0 : (0 : Int) ≤ x ∧ (x : Int) < 4294967296 := by omega
  have n0 : (0 : Int) ≤ (n : Int) := by omega
  have n1 : (n : Int) < 32 := by omega
  have m0 : (0 : Int) ≤ (m : Int) := by omega
  have m1 : (m : Int) < 16 := by omega
  have HC15 : bits .and .i64 c 15 = (m : Int) := by rw [and15, hm]
  have q15 : ((m : Int) == 15) = false := beq_eq_false_iff_ne.2 (by omega)
  have q46 : (i.op == 46) = true := beq_iff_eq.2 h46
  have q14 : ((m : Int) != 14) = true := by rw [bne, beq_eq_false_iff_ne.2 (show (m : Int) ≠ 14 by omega)]; rfl
  clear ht hx hd hy hxy hyl hpw hz hk hm h15 h46 h14
  generalize i.op = OP at *
  generalize i.cond = CD at *
  generalize insL k = KL at *
  generalize insL i = II at *
  go_enter Tryd.func3, Tryd.ntmps3
  go_wp2_with (first | (go_at_call 9; refine (HA.out _ HX.out.tp).mono ?_; rintro e w0 ⟨rfl, hb⟩; have HX := hidW (HX.out.step hb); clear hb HA) | (go_at_call 10; refine (HD.out _ HX.out.tp).mono ?_; rintro e w1 ⟨rfl, hb⟩; have HX := hidW (HX.out.step hb); clear hb HD) | ((with_reducible refine wpSt 28 7 ?_); have HT := ins_there w1 II HL.out; refine wpList_store_mid rfl _ _ _ rfl w1.heap.size 0 II.toArray rfl rfl HT HS.out HO.out ?_; clear HT; generalize hW : World.setCells _ _ _ _ = w2; have HQ := hidW (show QX w w1.heap.size II w2 from hW ▸ HX.out.fill II HL.out); have hLQ := hidW HX.out.bel.size; clear hW HX) | (go_at_call 10; refine (HD2.out _ HQ.out.tp).mono ?_; rintro e w3 ⟨rfl, hb⟩; have hLT2 := hidW (Nat.lt_of_lt_of_le HQ.out.box.lt hb.size); have HQ := hidW (HQ.out.step hb); clear hb HD2) | ((with_reducible refine wpSt 28 9 ?_); have HT := ins_there w3 (insL insZ) HL2.out; refine wpList_store_mid rfl _ _ _ rfl w3.heap.size 0 (insL insZ).toArray rfl rfl HT HS4.out HO2.out ?_; clear HT; generalize hW : World.setCells _ _ _ _ = w4; have HV := hidW (show Bl w4 w3.heap.size 28 (insL insZ) from hW ▸ fill_box w3 28 (insL insZ) (insL insZ) rfl); have HQ := hidW (show QX w w1.heap.size II w4 from hW ▸ HQ.out.step (fill_below w3 28 (insL insZ) (insL insZ))); clear hW) | ((with_reducible refine wpAt 35 ?_); refine wpList_load_want (by rfl) _ _ rfl w3.heap.size 0 rfl (insL insZ) _ HV.out.range Tryd.underlying28 rfl HS3.out ?_) | ((with_reducible refine wpAt 36 ?_); refine wpList_load_want (by rfl) _ _ rfl w1.heap.size 0 rfl II _ HQ.out.box.range Tryd.underlying28 rfl HS1.out ?_) | (go_at_call 10; refine (HD3.out _ HQ.out.tp).mono ?_; rintro e w5 ⟨rfl, hb⟩; have hLT := hidW (Nat.lt_of_lt_of_le HQ.out.box.lt hb.size); have HQ := hidW (HQ.out.step hb); clear hb HD3 HV) | ((with_reducible refine wpSt 28 12 ?_); have HT := ins_there w5 KL HL5.out; refine wpList_store_mid rfl _ _ _ rfl w5.heap.size 0 KL.toArray rfl rfl HT HS6.out HO5.out ?_; clear HT; generalize hW : World.setCells _ _ _ _ = w6; have HK := hidW (show Bl w6 w5.heap.size 28 KL from hW ▸ fill_box w5 28 (insL insZ) KL (by rw [HL5.out]; rfl)); have HQ := hidW (show QX w w1.heap.size II w6 from hW ▸ HQ.out.step (fill_below w5 28 (insL insZ) KL)); clear hW; have c1 := HQ.out.box.cell 1; rw [HC1.out] at c1) | ((with_reducible refine wpAt 65 ?_); refine wpList_load_want (by rfl) _ _ rfl w5.heap.size 0 rfl KL _ HK.out.range Tryd.underlying28 rfl HS5.out ?_))
  exact bodyPost_ret (v := .bool true) (by simp [results, Tryd.results3, go_sem, Act.put]) rfl ⟨rfl, HQ.out.bel⟩
set_option maxRecDepth 100000 in
set_option maxHeartbeats 400000 in
theorem bits_nc (x : Nat) (b c : Int) (w : World) (ht : TP w) (hx : x < 4294967296) (i : Ins) (hd : decP x = some i) (n : Nat) (hn : (IntKind.u64.wrap b).tmod 32 = (n : Int)) (hn1 : n < 32) (m : Nat) (hm : c % 16 = (m : Int)) (hm1 : m < 16) (hy : decP (x ^^^ 2 ^ n) = none) (h15 : ¬ m = 15) (h46 : ¬ i.op = 46) : Calls Tryd.prog 3 #[.int .u32 (x : Int), .int .i64 b, .int .i64 c] w fun e w' => e = .returned (.bool true) ∧ Below w.heap.size w w' := by
  have hpw : 2 ^ n < 4294967296 := by
    have := Nat.pow_lt_pow_right (a := 2) (by decide) hn1
    have h3 : (2 : Nat) ^ 32 = 4294967296 := by decide
    omega
  have hyl : x ^^^ 2 ^ n < 4294967296 := by
    have h3 : (2 : Nat) ^ 32 = 4294967296 := by decide
    rw [← h3] at *
    exact Nat.xor_lt_two_pow hx hpw
  have hxy : bits .xor .u32 (x : Int) (2 ^ n % 4294967296) = ((x ^^^ 2 ^ n : Nat) : Int) := by
    have e2 : (2 : Int) ^ n % 4294967296 = ((2 ^ n : Nat) : Int) := by
      have := pow_nat n
      rw [← this]
      generalize 2 ^ n = z at *
      omega
    rw [e2]
    exact u32_xor_nat x (2 ^ n) hx hpw
  have hz : decP (reC x m) = some { i with cond := (m : Int) } := by
    rw [dec_cond hx hd m hm1, if_neg (show ¬ (m = 15 ∨ i.op = 46 ∧ m ≠ 14) from fun h => h.elim h15 (fun g => h46 g.1))]
  have HA : Hid (∀ w', TP w' → Calls Tryd.prog 9 #[] w' fun e w'' => e = .returned (.bool true) ∧ Below w'.heap.size w' w'') := fun w' h => alive_any w' h
  have HD : Hid (∀ w', TP w' → Calls Tryd.prog 10 #[.int .u32 (x : Int)] w' fun e w'' => e = .returned (.tuple #[.agg (insL i).toArray, .bool true]) ∧ Below w'.heap.size w' w'') := fun w' h => by
    have := gdec_any x w' h hx
    rw [hd] at this
    exact this
  have HD2 : Hid (∀ w', TP w' → Calls Tryd.prog 10 #[.int .u32 (bits .xor .u32 (x : Int) (2 ^ n % 4294967296))] w' fun e w'' => e = .returned (.tuple #[.agg (insL insZ).toArray, .bool false]) ∧ Below w'.heap.size w' w'') := fun w' h => by
    have := gdec_any (x ^^^ 2 ^ n) w' h hyl
    rw [hy] at this
    rw [hxy]
    exact this
  obtain ⟨k, hk⟩ : ∃ k : Ins, k = { i with cond := (m : Int) } := ⟨_, rfl⟩
  have HD3 : Hid (∀ w', TP w' → Calls Tryd.prog 10 #[.int .u32 (bits .or .u32 (bits .andNot .u32 (x : Int) 4026531840) ((m : Int) * 268435456))] w' fun e w'' => e = .returned (.tuple #[.agg (insL k).toArray, .bool true]) ∧ Below w'.heap.size w' w'') := fun w' h => by
    have := gdec_any (reC x m) w' h (reC_lt x m hm1)
    rw [hz] at this
    rw [cond_word x m hx hm1, hk]
    exact this
  have HO : Hid ((insL i).toArray.all (·.oneCell') = true) := ins_all i
  have HS1 : Hid ((Tryd.prog.info? 28).map (·.size) = some (insL i).length) := ins_size
  have HS : Hid ((Tryd.prog.info? 28).map (·.size) = some (insL i).toArray.size) := ins_size
  have HL : Hid ((insL i).length = 20) := rfl
  have HO2 : Hid ((insL insZ).toArray.all (·.oneCell') = true) := ins_all insZ
  have HS3 : Hid ((Tryd.prog.info? 28).map (·.size) = some (insL insZ).length) := ins_size
  have HS4 : Hid ((Tryd.prog.info? 28).map (·.size) = some (insL insZ).toArray.size) := ins_size
  have HL2 : Hid ((insL insZ).length = 20) := rfl
  have HO5 : Hid ((insL k).toArray.all (·.oneCell') = true) := ins_all k
  have HS5 : Hid ((Tryd.prog.info? 28).map (·.size) = some (insL k).length) := ins_size
  have HS6 : Hid ((Tryd.prog.info? 28).map (·.size) = some (insL k).toArray.size) := ins_size
  have HL5 : Hid ((insL k).length = 20) := rfl
  have HQZ : ∀ w, (Op.equalIn 10000 28 (.agg (insL k).toArray) (.agg (insL k).toArray)).run Tryd.prog w = .ok true w := fun w => by
    have := eqI k k w
    rw [Ins.same_self] at this
    exact this
  have HSE : Hid ((insL i).set 0 (.int .i64 (m : Int)) = insL k) := by show _ = _; rw [hk]; rfl
  have HC1 : Hid ((insL i)[1]? = some (.int .i64 i.op)) := rfl
  have HC0 : Hid ((insL i)[0]? = some (.int .i64 i.cond)) := rfl
  have HX := hidW (TX.first ht)
  have HW3 : 3 < w.heap.size := ht.size
  have x0 : (0 : Int) ≤ x ∧ (x : Int) < 4294967296 := by omega
  have n0 : (0 : Int) ≤ (n : Int) := by omega
  have n1 : (n : Int) < 32 := by omega
  have m0 : (0 : Int) ≤ (m : Int) := by omega
  have m1 : (m : Int) < 16 := by omega
  have HC15 : bits .and .i64 c 15 = (m : Int) := by rw [and15, hm]
  have q15 : ((m : Int) == 15) = false := beq_eq_false_iff_ne.2 (by omega)
  have q46 : (i.op == 46) = false := beq_eq_false_iff_ne.2 h46
  clear ht hx hd hy hxy hyl hpw hz hk hm h15 h46
  generalize i.op = OP at *
  generalize i.cond = CD at *
  generalize insL k = KL at *
  generalize insL i = II at *
  go_enter Tryd.func3, Tryd.ntmps3
  go_wp2_with (first | (go_at_call 9; refine (HA.out _ HX.out.tp).mono ?_; rintro e w0 ⟨rfl, hb⟩; have HX := hidW (HX.out.step hb); clear hb HA) | (go_at_call 10; refine (HD.out _ HX.out.tp).mono ?_; rintro e w1 ⟨rfl, hb⟩; have HX := hidW (HX.out.step hb); clear hb HD) | ((with_reducible refine wpSt 28 7 ?_); have HT := ins_there w1 II HL.out; refine wpList_store_mid rfl _ _ _ rfl w1.heap.size 0 II.toArray rfl rfl HT HS.out HO.out ?_; clear HT; generalize hW : World.setCells _ _ _ _ = w2; have HQ := hidW (show QX w w1.heap.size II w2 from hW ▸ HX.out.fill II HL.out); have hLQ := hidW HX.out.bel.size; clear hW HX) | (go_at_call 10; refine (HD2.out _ HQ.out.tp).mono ?_; rintro e w3 ⟨rfl, hb⟩; have hLT2 := hidW (Nat.lt_of_lt_of_le HQ.out.box.lt hb.size); have HQ := hidW (HQ.out.step hb); clear hb HD2) | ((with_reducible refine wpSt 28 9 ?_); have HT := ins_there w3 (insL insZ) HL2.out; refine wpList_store_mid rfl _ _ _ rfl w3.heap.size 0 (insL insZ).toArray rfl rfl HT HS4.out HO2.out ?_; clear HT; generalize hW : World.setCells _ _ _ _ = w4; have HV := hidW (show Bl w4 w3.heap.size 28 (insL insZ) from hW ▸ fill_box w3 28 (insL insZ) (insL insZ) rfl); have HQ := hidW (show QX w w1.heap.size II w4 from hW ▸ HQ.out.step (fill_below w3 28 (insL insZ) (insL insZ))); clear hW) | ((with_reducible refine wpAt 35 ?_); refine wpList_load_want (by rfl) _ _ rfl w3.heap.size 0 rfl (insL insZ) _ HV.out.range Tryd.underlying28 rfl HS3.out ?_) | ((with_reducible refine wpAt 36 ?_); refine wpList_load_want (by rfl) _ _ rfl w1.heap.size 0 rfl II _ HQ.out.box.range Tryd.underlying28 rfl HS1.out ?_) | (go_at_call 10; refine (HD3.out _ HQ.out.tp).mono ?_; rintro e w5 ⟨rfl, hb⟩; have hLT := hidW (Nat.lt_of_lt_of_le HQ.out.box.lt hb.size); have HQ := hidW (HQ.out.step hb); clear hb HD3 HV) | ((with_reducible refine wpSt 28 12 ?_); have HT := ins_there w5 KL HL5.out; refine wpList_store_mid rfl _ _ _ rfl w5.heap.size 0 KL.toArray rfl rfl HT HS6.out HO5.out ?_; clear HT; generalize hW : World.setCells _ _ _ _ = w6; have HK := hidW (show Bl w6 w5.heap.size 28 KL from hW ▸ fill_box w5 28 (insL insZ) KL (by rw [HL5.out]; rfl)); have HQ := hidW (show QX w w1.heap.size II w6 from hW ▸ HQ.out.step (fill_below w5 28 (insL insZ) KL)); clear hW; have c1 := HQ.out.box.cell 1; rw [HC1.out] at c1; have c0 := HQ.out.box.cell 0; rw [HC0.out] at c0; have cf := HQ.out.box.frozen 0; obtain ⟨W8, hW8⟩ : ∃ W8, w6.setCell ⟨w1.heap.size, 0, none⟩ (.int .i64 (m : Int)) = W8 := ⟨_, rfl⟩; have HG := hidW (bits_put HQ.out HK.out HW3 HSE.out hLT.out hW8 hLQ.out); have hW8' := hidW hW8) | ((with_reducible refine wpAt 73 ?_); (try rw [hW8'.out]); refine wpList_load_want (by rfl) _ _ rfl w5.heap.size 0 rfl KL _ HG.out.2.range Tryd.underlying28 rfl HS5.out ?_) | ((with_reducible refine wpAt 74 ?_); (try rw [hW8'.out]); refine wpList_load_want (by rfl) _ _ rfl w1.heap.size 0 rfl KL _ HG.out.1.box.range Tryd.underlying28 rfl HS5.out ?_))
  exact bodyPost_ret (v := .bool true) (by simp [results, Tryd.results3, go_sem, Act.put]) rfl ⟨rfl, HG.out.1.bel⟩
set_option maxRecDepth 100000 in
set_option maxHeartbeats 400000 in
theorem bits_nd (x : Nat) (b c : Int) (w : World) (ht : TP w) (hx : x < 4294967296) (i : Ins) (hd : decP x = some i) (n : Nat) (hn : (IntKind.u64.wrap b).tmod 32 = (n : Int)) (hn1 : n < 32) (m : Nat) (hm : c % 16 = (m : Int)) (hm1 : m < 16) (hy : decP (x ^^^ 2 ^ n) = none) (h15 : ¬ m = 15) (h46 : i.op = 46) (h14 : m = 14) : Calls Tryd.prog 3 #[.int .u32 (x : Int), .int .i64 b, .int .i64 c] w fun e w' => e = .returned (.bool true) ∧ Below w.heap.size w w' := by
  have hpw : 2 ^ n < 4294967296 := by
    have := Nat.pow_lt_pow_right (a := 2) (by decide) hn1
    have h3 : (2 : Nat) ^ 32 = 4294967296 := by decide
    omega
  have hyl : x ^^^ 2 ^ n < 4294967296 := by
    have h3 : (2 : Nat) ^ 32 = 4294967296 := by decide
    rw [← h3] at *
    exact Nat.xor_lt_two_pow hx hpw
  have hxy : bits .xor .u32 (x : Int) (2 ^ n % 4294967296) = ((x ^^^ 2 ^ n : Nat) : Int) := by
    have e2 : (2 : Int) ^ n % 4294967296 = ((2 ^ n : Nat) : Int) := by
      have := pow_nat n
      rw [← this]
      generalize 2 ^ n = z at *
      omega
    rw [e2]
    exact u32_xor_nat x (2 ^ n) hx hpw
  have hz : decP (reC x m) = some { i with cond := (m : Int) } := by
    rw [dec_cond hx hd m hm1, if_neg (show ¬ (m = 15 ∨ i.op = 46 ∧ m ≠ 14) from fun h => h.elim h15 (fun g => g.2 h14))]
  have HA : Hid (∀ w', TP w' → Calls Tryd.prog 9 #[] w' fun e w'' => e = .returned (.bool true) ∧ Below w'.heap.size w' w'') := fun w' h => alive_any w' h
  have HD : Hid (∀ w', TP w' → Calls Tryd.prog 10 #[.int .u32 (x : Int)] w' fun e w'' => e = .returned (.tuple #[.agg (insL i).toArray, .bool true]) ∧ Below w'.heap.size w' w'') := fun w' h => by
    have := gdec_any x w' h hx
    rw [hd] at this
    exact this
  have HD2 : Hid (∀ w', TP w' → Calls Tryd.prog 10 #[.int .u32 (bits .xor .u32 (x : Int) (2 ^ n % 4294967296))] w' fun e w'' => e = .returned (.tuple #[.agg (insL insZ).toArray, .bool false]) ∧ Below w'.heap.size w' w'') := fun w' h => by
    have := gdec_any (x ^^^ 2 ^ n) w' h hyl
    rw [hy] at this
    rw [hxy]
    exact this
  obtain ⟨k, hk⟩ : ∃ k : Ins, k = { i with cond := (m : Int) } := ⟨_, rfl⟩
  have HD3 : Hid (∀ w', TP w' → Calls Tryd.prog 10 #[.int .u32 (bits .or .u32 (bits .andNot .u32 (x : Int) 4026531840) ((m : Int) * 268435456))] w' fun e w'' => e = .returned (.tuple #[.agg (insL k).toArray, .bool true]) ∧ Below w'.heap.size w' w'') := fun w' h => by
    have := gdec_any (reC x m) w' h (reC_lt x m hm1)
    rw [hz] at this
    rw [cond_word x m hx hm1, hk]
    exact this
  have HO : Hid ((insL i).toArray.all (·.oneCell') = true) := ins_all i
  have HS1 : Hid ((Tryd.prog.info? 28).map (·.size) = some (insL i).length) := ins_size
  have HS : Hid ((Tryd.prog.info? 28).map (·.size) = some (insL i).toArray.size) := ins_size
  have HL : Hid ((insL i).length = 20) := rfl
  have HO2 : Hid ((insL insZ).toArray.all (·.oneCell') = true) := ins_all insZ
  have HS3 : Hid ((Tryd.prog.info? 28).map (·.size) = some (insL insZ).length) := ins_size
  have HS4 : Hid ((Tryd.prog.info? 28).map (·.size) = some (insL insZ).toArray.size) := ins_size
  have HL2 : Hid ((insL insZ).length = 20) := rfl
  have HO5 : Hid ((insL k).toArray.all (·.oneCell') = true) := ins_all k
  have HS5 : Hid ((Tryd.prog.info? 28).map (·.size) = some (insL k).length) := ins_size
  have HS6 : Hid ((Tryd.prog.info? 28).map (·.size) = some (insL k).toArray.size) := ins_size
  have HL5 : Hid ((insL k).length = 20) := rfl
  have HQZ : ∀ w, (Op.equalIn 10000 28 (.agg (insL k).toArray) (.agg (insL k).toArray)).run Tryd.prog w = .ok true w := fun w => by
    have := eqI k k w
    rw [Ins.same_self] at this
    exact this
  have HSE : Hid ((insL i).set 0 (.int .i64 (m : Int)) = insL k) := by show _ = _; rw [hk]; rfl
  have HC1 : Hid ((insL i)[1]? = some (.int .i64 i.op)) := rfl
  have HC0 : Hid ((insL i)[0]? = some (.int .i64 i.cond)) := rfl
  have HX := hidW (TX.first ht)
  have HW3 : 3 < w.heap.size := ht.size
  have x0 : (0 : Int) ≤ x ∧ (x : Int) < 4294967296 := by omega
  have n0 : (0 : Int) ≤ (n : Int) := by omega
  have n1 : (n : Int) < 32 := by omega
  have m0 : (0 : Int) ≤ (m : Int) := by omega
  have m1 : (m : Int) < 16 := by omega
  have HC15 : bits .and .i64 c 15 = (m : Int) := by rw [and15, hm]
  have q15 : ((m : Int) == 15) = false := beq_eq_false_iff_ne.2 (by omega)
  have q46 : (i.op == 46) = true := beq_iff_eq.2 h46
  have q14 : ((m : Int) != 14) = false := by rw [bne, beq_iff_eq.2 (show (m : Int) = 14 by omega)]; rfl
  clear ht hx hd hy hxy hyl hpw hz hk hm h15 h46 h14
  generalize i.op = OP at *
  generalize i.cond = CD at *
  generalize insL k = KL at *
  generalize insL i = II at *
  go_enter Tryd.func3, Tryd.ntmps3
  go_wp2_with (first | (go_at_call 9; refine (HA.out _ HX.out.tp).mono ?_; rintro e w0 ⟨rfl, hb⟩; have HX := hidW (HX.out.step hb); clear hb HA) | (go_at_call 10; refine (HD.out _ HX.out.tp).mono ?_; rintro e w1 ⟨rfl, hb⟩; have HX := hidW (HX.out.step hb); clear hb HD) | ((with_reducible refine wpSt 28 7 ?_); have HT := ins_there w1 II HL.out; refine wpList_store_mid rfl _ _ _ rfl w1.heap.size 0 II.toArray rfl rfl HT HS.out HO.out ?_; clear HT; generalize hW : World.setCells _ _ _ _ = w2; have HQ := hidW (show QX w w1.heap.size II w2 from hW ▸ HX.out.fill II HL.out); have hLQ := hidW HX.out.bel.size; clear hW HX) | (go_at_call 10; refine (HD2.out _ HQ.out.tp).mono ?_; rintro e w3 ⟨rfl, hb⟩; have hLT2 := hidW (Nat.lt_of_lt_of_le HQ.out.box.lt hb.size); have HQ := hidW (HQ.out.step hb); clear hb HD2) | ((with_reducible refine wpSt 28 9 ?_); have HT := ins_there w3 (insL insZ) HL2.out; refine wpList_store_mid rfl _ _ _ rfl w3.heap.size 0 (insL insZ).toArray rfl rfl HT HS4.out HO2.out ?_; clear HT; generalize hW : World.setCells _ _ _ _ = w4; have HV := hidW (show Bl w4 w3.heap.size 28 (insL insZ) from hW ▸ fill_box w3 28 (insL insZ) (insL insZ) rfl); have HQ := hidW (show QX w w1.heap.size II w4 from hW ▸ HQ.out.step (fill_below w3 28 (insL insZ) (insL insZ))); clear hW) | ((with_reducible refine wpAt 35 ?_); refine wpList_load_want (by rfl) _ _ rfl w3.heap.size 0 rfl (insL insZ) _ HV.out.range Tryd.underlying28 rfl HS3.out ?_) | ((with_reducible refine wpAt 36 ?_); refine wpList_load_want (by rfl) _ _ rfl w1.heap.size 0 rfl II _ HQ.out.box.range Tryd.underlying28 rfl HS1.out ?_) | (go_at_call 10; refine (HD3.out _ HQ.out.tp).mono ?_; rintro e w5 ⟨rfl, hb⟩; have hLT := hidW (Nat.lt_of_lt_of_le HQ.out.box.lt hb.size); have HQ := hidW (HQ.out.step hb); clear hb HD3 HV) | ((with_reducible refine wpSt 28 12 ?_); have HT := ins_there w5 KL HL5.out; refine wpList_store_mid rfl _ _ _ rfl w5.heap.size 0 KL.toArray rfl rfl HT HS6.out HO5.out ?_; clear HT; generalize hW : World.setCells _ _ _ _ = w6; have HK := hidW (show Bl w6 w5.heap.size 28 KL from hW ▸ fill_box w5 28 (insL insZ) KL (by rw [HL5.out]; rfl)); have HQ := hidW (show QX w w1.heap.size II w6 from hW ▸ HQ.out.step (fill_below w5 28 (insL insZ) KL)); clear hW; have c1 := HQ.out.box.cell 1; rw [HC1.out] at c1; have c0 := HQ.out.box.cell 0; rw [HC0.out] at c0; have cf := HQ.out.box.frozen 0; obtain ⟨W8, hW8⟩ : ∃ W8, w6.setCell ⟨w1.heap.size, 0, none⟩ (.int .i64 (m : Int)) = W8 := ⟨_, rfl⟩; have HG := hidW (bits_put HQ.out HK.out HW3 HSE.out hLT.out hW8 hLQ.out); have hW8' := hidW hW8) | ((with_reducible refine wpAt 73 ?_); (try rw [hW8'.out]); refine wpList_load_want (by rfl) _ _ rfl w5.heap.size 0 rfl KL _ HG.out.2.range Tryd.underlying28 rfl HS5.out ?_) | ((with_reducible refine wpAt 74 ?_); (try rw [hW8'.out]); refine wpList_load_want (by rfl) _ _ rfl w1.heap.size 0 rfl KL _ HG.out.1.box.range Tryd.underlying28 rfl HS5.out ?_))
  exact bodyPost_ret (v := .bool true) (by simp [results, Tryd.results3, go_sem, Act.put]) rfl ⟨rfl, HG.out.1.bel⟩
set_option maxRecDepth 100000 in
set_option maxHeartbeats 400000 in
theorem bits_sa (x : Nat) (b c : Int) (w : World) (ht : TP w) (hx : x < 4294967296) (i : Ins) (hd : decP x = some i) (n : Nat) (hn : (IntKind.u64.wrap b).tmod 32 = (n : Int)) (hn1 : n < 32) (m : Nat) (hm : c % 16 = (m : Int)) (hm1 : m < 16) (j : Ins) (hy : decP (x ^^^ 2 ^ n) = some j) (h15 : m = 15) : Calls Tryd.prog 3 #[.int .u32 (x : Int), .int .i64 b, .int .i64 c] w fun e w' => e = .returned (.bool true) ∧ Below w.heap.size w w' := by
  have hpw : 2 ^ n < 4294967296 := by
    have := Nat.pow_lt_pow_right (a := 2) (by decide) hn1
    have h3 : (2 : Nat) ^ 32 = 4294967296 := by decide
    omega
  have hyl : x ^^^ 2 ^ n < 4294967296 := by
    have h3 : (2 : Nat) ^ 32 = 4294967296 := by decide
    rw [← h3] at *
    exact Nat.xor_lt_two_pow hx hpw
  have hxy : bits .xor .u32 (x : Int) (2 ^ n % 4294967296) = ((x ^^^ 2 ^ n : Nat) : Int) := by
    have e2 : (2 : Int) ^ n % 4294967296 = ((2 ^ n : Nat) : Int) := by
      have := pow_nat n
      rw [← this]
      generalize 2 ^ n = z at *
      omega
    rw [e2]
    exact u32_xor_nat x (2 ^ n) hx hpw
  have hz : decP (reC x m) = none := by
    rw [dec_cond hx hd m hm1, if_pos (.inl h15)]
  have HA : Hid (∀ w', TP w' → Calls Tryd.prog 9 #[] w' fun e w'' => e = .returned (.bool true) ∧ Below w'.heap.size w' w'') := fun w' h => alive_any w' h
  have HD : Hid (∀ w', TP w' → Calls Tryd.prog 10 #[.int .u32 (x : Int)] w' fun e w'' => e = .returned (.tuple #[.agg (insL i).toArray, .bool true]) ∧ Below w'.heap.size w' w'') := fun w' h => by
    have := gdec_any x w' h hx
    rw [hd] at this
    exact this
  have HD2 : Hid (∀ w', TP w' → Calls Tryd.prog 10 #[.int .u32 (bits .xor .u32 (x : Int) (2 ^ n % 4294967296))] w' fun e w'' => e = .returned (.tuple #[.agg (insL j).toArray, .bool true]) ∧ Below w'.heap.size w' w'') := fun w' h => by
    have := gdec_any (x ^^^ 2 ^ n) w' h hyl
    rw [hy] at this
    rw [hxy]
    exact this
  obtain ⟨k, hk⟩ : ∃ k : Ins, k = insZ := ⟨_, rfl⟩
  have HD3 : Hid (∀ w', TP w' → Calls Tryd.prog 10 #[.int .u32 (bits .or .u32 (bits .andNot .u32 (x : Int) 4026531840) ((m : Int) * 268435456))] w' fun e w'' => e = .returned (.tuple #[.agg (insL k).toArray, .bool false]) ∧ Below w'.heap.size w' w'') := fun w' h => by
    have := gdec_any (reC x m) w' h (reC_lt x m hm1)
    rw [hz] at this
    rw [cond_word x m hx hm1, hk]
    exact this
  have HO : Hid ((insL i).toArray.all (·.oneCell') = true) := ins_all i
  have HS1 : Hid ((Tryd.prog.info? 28).map (·.size) = some (insL i).length) := ins_size
  have HS : Hid ((Tryd.prog.info? 28).map (·.size) = some (insL i).toArray.size) := ins_size
  have HL : Hid ((insL i).length = 20) := rfl
  have HO2 : Hid ((insL j).toArray.all (·.oneCell') = true) := ins_all j
  have HS3 : Hid ((Tryd.prog.info? 28).map (·.size) = some (insL j).length) := ins_size
  have HS4 : Hid ((Tryd.prog.info? 28).map (·.size) = some (insL j).toArray.size) := ins_size
  have HL2 : Hid ((insL j).length = 20) := rfl
  have HO5 : Hid ((insL k).toArray.all (·.oneCell') = true) := ins_all k
  have HS5 : Hid ((Tryd.prog.info? 28).map (·.size) = some (insL k).length) := ins_size
  have HS6 : Hid ((Tryd.prog.info? 28).map (·.size) = some (insL k).toArray.size) := ins_size
  have HL5 : Hid ((insL k).length = 20) := rfl
  have hne : j.same i = false := by
    refine Ins.same_ne fun e => ?_
    rw [e] at hy
    exact xor_ne x n (dec_inj hyl hx hy hd)
  have HQE : ∀ w, (Op.equalIn 10000 28 (.agg (insL j).toArray) (.agg (insL i).toArray)).run Tryd.prog w = .ok false w := fun w => by
    have := eqI j i w
    rw [hne] at this
    exact this
  clear hne
  have HQZ : ∀ w, (Op.equalIn 10000 28 (.agg (insL k).toArray) (.agg #[.int .i64 0, .int .i64 0, .bool false, .int .i64 0, .int .i64 0, .int .i64 0, .int .i64 0, .int .i64 0, .int .i64 0, .int .u32 0, .int .i64 0, .int .i64 0, .bool false, .bool false, .bool false, .int .u16 0, .int .i64 0, .int .i64 0, .int .i64 0, .int .i64 0])).run Tryd.prog w = .ok true w := fun w => by rw [hk]; exact eqI insZ insZ w
  have HC1 : Hid ((insL i)[1]? = some (.int .i64 i.op)) := rfl
  have HC0 : Hid ((insL i)[0]? = some (.int .i64 i.cond)) := rfl
  have HX := hidW (TX.first ht)
  have HW3 : 3 < w.heap.size := ht.size
  have x0 : (0 : Int) ≤ x ∧ (x : Int) < 4294967296 := by omega
  have n0 : (0 : Int) ≤ (n : Int) := by omega
  have n1 : (n : Int) < 32 := by omega
  have m0 : (0 : Int) ≤ (m : Int) := by omega
  have m1 : (m : Int) < 16 := by omega
  have HC15 : bits .and .i64 c 15 = (m : Int) := by rw [and15, hm]
  have q15 : ((m : Int) == 15) = true := beq_iff_eq.2 (by omega)
  clear ht hx hd hy hxy hyl hpw hz hk hm h15
  generalize i.op = OP at *
  generalize i.cond = CD at *
  generalize insL j = JJ at *
  generalize insL k = KL at *
  generalize insL i = II at *
  go_enter Tryd.func3, Tryd.ntmps3
  go_wp2_with (first | (go_at_call 9; refine (HA.out _ HX.out.tp).mono ?_; rintro e w0 ⟨rfl, hb⟩; have HX := hidW (HX.out.step hb); clear hb HA) | (go_at_call 10; refine (HD.out _ HX.out.tp).mono ?_; rintro e w1 ⟨rfl, hb⟩; have HX := hidW (HX.out.step hb); clear hb HD) | ((with_reducible refine wpSt 28 7 ?_); have HT := ins_there w1 II HL.out; refine wpList_store_mid rfl _ _ _ rfl w1.heap.size 0 II.toArray rfl rfl HT HS.out HO.out ?_; clear HT; generalize hW : World.setCells _ _ _ _ = w2; have HQ := hidW (show QX w w1.heap.size II w2 from hW ▸ HX.out.fill II HL.out); have hLQ := hidW HX.out.bel.size; clear hW HX) | (go_at_call 10; refine (HD2.out _ HQ.out.tp).mono ?_; rintro e w3 ⟨rfl, hb⟩; have hLT2 := hidW (Nat.lt_of_lt_of_le HQ.out.box.lt hb.size); have HQ := hidW (HQ.out.step hb); clear hb HD2) | ((with_reducible refine wpSt 28 9 ?_); have HT := ins_there w3 JJ HL2.out; refine wpList_store_mid rfl _ _ _ rfl w3.heap.size 0 JJ.toArray rfl rfl HT HS4.out HO2.out ?_; clear HT; generalize hW : World.setCells _ _ _ _ = w4; have HV := hidW (show Bl w4 w3.heap.size 28 JJ from hW ▸ fill_box w3 28 (insL insZ) JJ (by rw [HL2.out]; rfl)); have HQ := hidW (show QX w w1.heap.size II w4 from hW ▸ HQ.out.step (fill_below w3 28 (insL insZ) JJ)); clear hW) | ((with_reducible refine wpAt 35 ?_); refine wpList_load_want (by rfl) _ _ rfl w3.heap.size 0 rfl JJ _ HV.out.range Tryd.underlying28 rfl HS3.out ?_) | ((with_reducible refine wpAt 36 ?_); refine wpList_load_want (by rfl) _ _ rfl w1.heap.size 0 rfl II _ HQ.out.box.range Tryd.underlying28 rfl HS1.out ?_) | (go_at_call 10; refine (HD3.out _ HQ.out.tp).mono ?_; rintro e w5 ⟨rfl, hb⟩; have hLT := hidW (Nat.lt_of_lt_of_le HQ.out.box.lt hb.size); have HQ := hidW (HQ.out.step hb); clear hb HD3 HV) | ((with_reducible refine wpSt 28 12 ?_); have HT := ins_there w5 KL HL5.out; refine wpList_store_mid rfl _ _ _ rfl w5.heap.size 0 KL.toArray rfl rfl HT HS6.out HO5.out ?_; clear HT; generalize hW : World.setCells _ _ _ _ = w6; have HK := hidW (show Bl w6 w5.heap.size 28 KL from hW ▸ fill_box w5 28 (insL insZ) KL (by rw [HL5.out]; rfl)); have HQ := hidW (show QX w w1.heap.size II w6 from hW ▸ HQ.out.step (fill_below w5 28 (insL insZ) KL)); clear hW; have c1 := HQ.out.box.cell 1; rw [HC1.out] at c1) | ((with_reducible refine wpAt 65 ?_); refine wpList_load_want (by rfl) _ _ rfl w5.heap.size 0 rfl KL _ HK.out.range Tryd.underlying28 rfl HS5.out ?_))
  exact bodyPost_ret (v := .bool true) (by simp [results, Tryd.results3, go_sem, Act.put]) rfl ⟨rfl, HQ.out.bel⟩
set_option maxRecDepth 100000 in
set_option maxHeartbeats 400000 in
theorem bits_sb (x : Nat) (b c : Int) (w : World) (ht : TP w) (hx : x < 4294967296) (i : Ins) (hd : decP x = some i) (n : Nat) (hn : (IntKind.u64.wrap b).tmod 32 = (n : Int)) (hn1 : n < 32) (m : Nat) (hm : c % 16 = (m : Int)) (hm1 : m < 16) (j : Ins) (hy : decP (x ^^^ 2 ^ n) = some j) (h15 : ¬ m = 15) (h46 : i.op = 46) (h14 : ¬ m = 14) : Calls Tryd.prog 3 #[.int .u32 (x : Int), .int .i64 b, .int .i64 c] w fun e w' => e = .returned (.bool true) ∧ Below w.heap.size w w' := by
  have hpw : 2 ^ n < 4294967296 := by
    have := Nat.pow_lt_pow_right (a := 2) (by decide) hn1
    have h3 : (2 : Nat) ^ 32 = 4294967296 := by decide
    omega
  have hyl : x ^^^ 2 ^ n < 4294967296 := by
    have h3 : (2 : Nat) ^ 32 = 4294967296 := by decide
    rw [← h3] at *
    exact Nat.xor_lt_two_pow hx hpw
  have hxy : bits .xor .u32 (x : Int) (2 ^ n % 4294967296) = ((x ^^^ 2 ^ n : Nat) : Int) := by
    have e2 : (2 : Int) ^ n % 4294967296 = ((2 ^ n : Nat) : Int) := by
      have := pow_nat n
      rw [← this]
      generalize 2 ^ n = z at *
      omega
    rw [e2]
    exact u32_xor_nat x (2 ^ n) hx hpw
  have hz : decP (reC x m) = none := by
    rw [dec_cond hx hd m hm1, if_pos (.inr ⟨h46, h14⟩)]
  have HA : Hid (∀ w', TP w' → Calls Tryd.prog 9 #[] w' fun e w'' => e = .returned (.bool true) ∧ Below w'.heap.size w' w'') := fun w' h => alive_any w' h
  have HD : Hid (∀ w', TP w' → Calls Tryd.prog 10 #[.int .u32 (x : Int)] w' fun e w'' => e = .returned (.tuple #[.agg (insL i).toArray, .bool true]) ∧ Below w'.heap.size w' w'') := fun w' h => by
    have := gdec_any x w' h hx
    rw [hd] at this
    exact this
  have HD2 : Hid (∀ w', TP w' → Calls Tryd.prog 10 #[.int .u32 (bits .xor .u32 (x : Int) (2 ^ n % 4294967296))] w' fun e w'' => e = .returned (.tuple #[.agg (insL j).toArray, .bool true]) ∧ Below w'.heap.size w' w'') := fun w' h => by
    have := gdec_any (x ^^^ 2 ^ n) w' h hyl
    rw [hy] at this
    rw [hxy]
    exact this
  obtain ⟨k, hk⟩ : ∃ k : Ins, k = insZ := ⟨_, rfl⟩
  have HD3 : Hid (∀ w', TP w' → Calls Tryd.prog 10 #[.int .u32 (bits .or .u32 (bits .andNot .u32 (x : Int) 4026531840) ((m : Int) * 268435456))] w' fun e w'' => e = .returned (.tuple #[.agg (insL k).toArray, .bool false]) ∧ Below w'.heap.size w' w'') := fun w' h => by
    have := gdec_any (reC x m) w' h (reC_lt x m hm1)
    rw [hz] at this
    rw [cond_word x m hx hm1, hk]
    exact this
  have HO : Hid ((insL i).toArray.all (·.oneCell') = true) := ins_all i
  have HS1 : Hid ((Tryd.prog.info? 28).map (·.size) = some (insL i).length) := ins_size
  have HS : Hid ((Tryd.prog.info? 28).map (·.size) = some (insL i).toArray.size) := ins_size
  have HL : Hid ((insL i).length = 20) := rfl
  have HO2 : Hid ((insL j).toArray.all (·.oneCell') = true) := ins_all j
  have HS3 : Hid ((Tryd.prog.info? 28).map (·.size) = some (insL j).length) := ins_size
  have HS4 : Hid ((Tryd.prog.info? 28).map (·.size) = some (insL j).toArray.size) := ins_size
  have HL2 : Hid ((insL j).length = 20) := rfl
  have HO5 : Hid ((insL k).toArray.all (·.oneCell') = true) := ins_all k
  have HS5 : Hid ((Tryd.prog.info? 28).map (·.size) = some (insL k).length) := ins_size
  have HS6 : Hid ((Tryd.prog.info? 28).map (·.size) = some (insL k).toArray.size) := ins_size
  have HL5 : Hid ((insL k).length = 20) := rfl
  have hne : j.same i = false := by
    refine Ins.same_ne fun e => ?_
    rw [e] at hy
    exact xor_ne x n (dec_inj hyl hx hy hd)
  have HQE : ∀ w, (Op.equalIn 10000 28 (.agg (insL j).toArray) (.agg (insL i).toArray)).run Tryd.prog w = .ok false w := fun w => by
    have := eqI j i w
    rw [hne] at this
    exact this
  clear hne
  have HQZ : ∀ w, (Op.equalIn 10000 28 (.agg (insL k).toArray) (.agg #[.int .i64 0, .int .i64 0, .bool false, .int .i64 0, .int .i64 0, .int .i64 0, .int .i64 0, .int .i64 0, .int .i64 0, .int .u32 0, .int .i64 0, .int .i64 0, .bool false, .bool false, .bool false, .int .u16 0, .int .i64 0, .int .i64 0, .int .i64 0, .int .i64 0])).run Tryd.prog w = .ok true w := fun w => by rw [hk]; exact eqI insZ insZ w
  have HC1 : Hid ((insL i)[1]? = some (.int .i64 i.op)) := rfl
  have HC0 : Hid ((insL i)[0]? = some (.int .i64 i.cond)) := rfl
  have HX := hidW (TX.first ht)
  have HW3 : 3 < w.heap.size := ht.size
  have x0 : (0 : Int) ≤ x ∧ (x : Int) < 4294967296 := by omega
  have n0 : (0 : Int) ≤ (n : Int) := by omega
  have n1 : (n : Int) < 32 := by omega
  have m0 : (0 : Int) ≤ (m : Int) := by omega
  have m1 : (m : Int) < 16 := by omega
  have HC15 : bits .and .i64 c 15 = (m : Int) := by rw [and15, hm]
  have q15 : ((m : Int) == 15) = false := beq_eq_false_iff_ne.2 (by omega)
  have q46 : (i.op == 46) = true := beq_iff_eq.2 h46
  have q14 : ((m : Int) != 14) = true := by rw [bne, beq_eq_false_iff_ne.2 (show (m : Int) ≠ 14 by omega)]; rfl
  clear ht hx hd hy hxy hyl hpw hz hk hm h15 h46 h14
  generalize i.op = OP at *
  generalize i.cond = CD at *
  generalize insL j = JJ at *
  generalize insL k = KL at *
  generalize insL i = II at *
  go_enter Tryd.func3, Tryd.ntmps3
  go_wp2_with (first | (go_at_call 9; refine (HA.out _ HX.out.tp).mono ?_; rintro e w0 ⟨rfl, hb⟩; have HX := hidW (HX.out.step hb); clear hb HA) | (go_at_call 10; refine (HD.out _ HX.out.tp).mono ?_; rintro e w1 ⟨rfl, hb⟩; have HX := hidW (HX.out.step hb); clear hb HD) | ((with_reducible refine wpSt 28 7 ?_); have HT := ins_there w1 II HL.out; refine wpList_store_mid rfl _ _ _ rfl w1.heap.size 0 II.toArray rfl rfl HT HS.out HO.out ?_; clear HT; generalize hW : World.setCells _ _ _ _ = w2; have HQ := hidW (show QX w w1.heap.size II w2 from hW ▸ HX.out.fill II HL.out); have hLQ := hidW HX.out.bel.size; clear hW HX) | (go_at_call 10; refine (HD2.out _ HQ.out.tp).mono ?_; rintro e w3 ⟨rfl, hb⟩; have hLT2 := hidW (Nat.lt_of_lt_of_le HQ.out.box.lt hb.size); have HQ := hidW (HQ.out.step hb); clear hb HD2) | ((with_reducible refine wpSt 28 9 ?_); have HT := ins_there w3 JJ HL2.out; refine wpList_store_mid rfl _ _ _ rfl w3.heap.size 0 JJ.toArray rfl rfl HT HS4.out HO2.out ?_; clear HT; generalize hW : World.setCells _ _ _ _ = w4; have HV := hidW (show Bl w4 w3.heap.size 28 JJ from hW ▸ fill_box w3 28 (insL insZ) JJ (by rw [HL2.out]; rfl)); have HQ := hidW (show QX w w1.heap.size II w4 from hW ▸ HQ.out.step (fill_below w3 28 (insL insZ) JJ)); clear hW) | ((with_reducible refine wpAt 35 ?_); refine wpList_load_want (by rfl) _ _ rfl w3.heap.size 0 rfl JJ _ HV.out.range Tryd.underlying28 rfl HS3.out ?_) | ((with_reducible refine wpAt 36 ?_); refine wpList_load_want (by rfl) _ _ rfl w1.heap.size 0 rfl II _ HQ.out.box.range Tryd.underlying28 rfl HS1.out ?_) | (go_at_call 10; refine (HD3.out _ HQ.out.tp).mono ?_; rintro e w5 ⟨rfl, hb⟩; have hLT := hidW (Nat.lt_of_lt_of_le HQ.out.box.lt hb.size); have HQ := hidW (HQ.out.step hb); clear hb HD3 HV) | ((with_reducible refine wpSt 28 12 ?_); have HT := ins_there w5 KL HL5.out; refine wpList_store_mid rfl _ _ _ rfl w5.heap.size 0 KL.toArray rfl rfl HT HS6.out HO5.out ?_; clear HT; generalize hW : World.setCells _ _ _ _ = w6; have HK := hidW (show Bl w6 w5.heap.size 28 KL from hW ▸ fill_box w5 28 (insL insZ) KL (by rw [HL5.out]; rfl)); have HQ := hidW (show QX w w1.heap.size II w6 from hW ▸ HQ.out.step (fill_below w5 28 (insL insZ) KL)); clear hW; have c1 := HQ.out.box.cell 1; rw [HC1.out] at c1) | ((with_reducible refine wpAt 65 ?_); refine wpList_load_want (by rfl) _ _ rfl w5.heap.size 0 rfl KL _ HK.out.range Tryd.underlying28 rfl HS5.out ?_))
  exact bodyPost_ret (v := .bool true) (by simp [results, Tryd.results3, go_sem, Act.put]) rfl ⟨rfl, HQ.out.bel⟩
set_option maxRecDepth 100000 in
set_option maxHeartbeats 400000 in
theorem bits_sc (x : Nat) (b c : Int) (w : World) (ht : TP w) (hx : x < 4294967296) (i : Ins) (hd : decP x = some i) (n : Nat) (hn : (IntKind.u64.wrap b).tmod 32 = (n : Int)) (hn1 : n < 32) (m : Nat) (hm : c % 16 = (m : Int)) (hm1 : m < 16) (j : Ins) (hy : decP (x ^^^ 2 ^ n) = some j) (h15 : ¬ m = 15) (h46 : ¬ i.op = 46) : Calls Tryd.prog 3 #[.int .u32 (x : Int), .int .i64 b, .int .i64 c] w fun e w' => e = .returned (.bool true) ∧ Below w.heap.size w w' := by
  have hpw : 2 ^ n < 4294967296 := by
    have := Nat.pow_lt_pow_right (a := 2) (by decide) hn1
    have h3 : (2 : Nat) ^ 32 = 4294967296 := by decide
    omega
  have hyl : x ^^^ 2 ^ n < 4294967296 := by
    have h3 : (2 : Nat) ^ 32 = 4294967296 := by decide
    rw [← h3] at *
    exact Nat.xor_lt_two_pow hx hpw
  have hxy : bits .xor .u32 (x : Int) (2 ^ n % 4294967296) = ((x ^^^ 2 ^ n : Nat) : Int) := by
    have e2 : (2 : Int) ^ n % 4294967296 = ((2 ^ n : Nat) : Int) := by
      have := pow_nat n
      rw [← this]
      generalize 2 ^ n = z at *
      omega
    rw [e2]
    exact u32_xor_nat x (2 ^ n) hx hpw
  have hz : decP (reC x m) = some { i with cond := (m : Int) } := by
    rw [dec_cond hx hd m hm1, if_neg (show ¬ (m = 15 ∨ i.op = 46 ∧ m ≠ 14) from fun h => h.elim h15 (fun g => h46 g.1))]
  have HA : Hid (∀ w', TP w' → Calls Tryd.prog 9 #[] w' fun e w'' => e = .returned (.bool true) ∧ Below w'.heap.size w' w'') := fun w' h => alive_any w' h
  have HD : Hid (∀ w', TP w' → Calls Tryd.prog 10 #[.int .u32 (x : Int)] w' fun e w'' => e = .returned (.tuple #[.agg (insL i).toArray, .bool true]) ∧ Below w'.heap.size w' w'') := fun w' h => by
    have := gdec_any x w' h hx
    rw [hd] at this
    exact this
  have HD2 : Hid (∀ w', TP w' → Calls Tryd.prog 10 #[.int .u32 (bits .xor .u32 (x : Int) (2 ^ n % 4294967296))] w' fun e w'' => e = .returned (.tuple #[.agg (insL j).toArray, .bool true]) ∧ Below w'.heap.size w' w'') := fun w' h => by
    have := gdec_any (x ^^^ 2 ^ n) w' h hyl
    rw [hy] at this
    rw [hxy]
    exact this
  obtain ⟨k, hk⟩ : ∃ k : Ins, k = { i with cond := (m : Int) } := ⟨_, rfl⟩
  have HD3 : Hid (∀ w', TP w' → Calls Tryd.prog 10 #[.int .u32 (bits .or .u32 (bits .andNot .u32 (x : Int) 4026531840) ((m : Int) * 268435456))] w' fun e w'' => e = .returned (.tuple #[.agg (insL k).toArray, .bool true]) ∧ Below w'.heap.size w' w'') := fun w' h => by
    have := gdec_any (reC x m) w' h (reC_lt x m hm1)
    rw [hz] at this
    rw [cond_word x m hx hm1, hk]
    exact this
  have HO : Hid ((insL i).toArray.all (·.oneCell') = true) := ins_all i
  have HS1 : Hid ((Tryd.prog.info? 28).map (·.size) = some (insL i).length) := ins_size
  have HS : Hid ((Tryd.prog.info? 28).map (·.size) = some (insL i).toArray.size) := ins_size
  have HL : Hid ((insL i).length = 20) := rfl
  have HO2 : Hid ((insL j).toArray.all (·.oneCell') = true) := ins_all j
  have HS3 : Hid ((Tryd.prog.info? 28).map (·.size) = some (insL j).length) := ins_size
  have HS4 : Hid ((Tryd.prog.info? 28).map (·.size) = some (insL j).toArray.size) := ins_size
  have HL2 : Hid ((insL j).length = 20) := rfl
  have HO5 : Hid ((insL k).toArray.all (·.oneCell') = true) := ins_all k
  have HS5 : Hid ((Tryd.prog.info? 28).map (·.size) = some (insL k).length) := ins_size
  have HS6 : Hid ((Tryd.prog.info? 28).map (·.size) = some (insL k).toArray.size) := ins_size
  have HL5 : Hid ((insL k).length = 20) := rfl
  have hne : j.same i = false := by
    refine Ins.same_ne fun e => ?_
    rw [e] at hy
    exact xor_ne x n (dec_inj hyl hx hy hd)
  have HQE : ∀ w, (Op.equalIn 10000 28 (.agg (insL j).toArray) (.agg (insL i).toArray)).run Tryd.prog w = .ok false w := fun w => by
    have := eqI j i w
    rw [hne] at this
    exact this
  clear hne
  have HQZ : ∀ w, (Op.equalIn 10000 28 (.agg (insL k).toArray) (.agg (insL k).toArray)).run Tryd.prog w = .ok true w := fun w => by
    have := eqI k k w
    rw [Ins.same_self] at this
    exact this
  have HSE : Hid ((insL i).set 0 (.int .i64 (m : Int)) = insL k) := by show _ = _; rw [hk]; rfl
  have HC1 : Hid ((insL i)[1]? = some (.int .i64 i.op)) := rfl
  have HC0 : Hid ((insL i)[0]? = some (.int .i64 i.cond)) := rfl
  have HX := hidW (TX.first ht)
  have HW3 : 3 < w.heap.size := ht.size
  have x0 : (0 : Int) ≤ x ∧ (x : Int) < 4294967296 := by omega
  have n0 : (0 : Int) ≤ (n : Int) := by omega
  have n1 : (n : Int) < 32 := by omega
  have m0 : (0 : Int) ≤ (m : Int) := by omega
  have m1 : (m : Int) < 16 := by omega
  have HC15 : bits .and .i64 c 15 = (m : Int) := by rw [and15, hm]
  have q15 : ((m : Int) == 15) = false := beq_eq_false_iff_ne.2 (by omega)
  have q46 : (i.op == 46) = false := beq_eq_false_iff_ne.2 h46
  clear ht hx hd hy hxy hyl hpw hz hk hm h15 h46
  generalize i.op = OP at *
  generalize i.cond = CD at *
  generalize insL j = JJ at *
  generalize insL k = KL at *
  generalize insL i = II at *
  go_enter Tryd.func3, Tryd.ntmps3
  go_wp2_with (first | (go_at_call 9; refine (HA.out _ HX.out.tp).mono ?_; rintro e w0 ⟨rfl, hb⟩; have HX := hidW (HX.out.step hb); clear hb HA) | (go_at_call 10; refine (HD.out _ HX.out.tp).mono ?_; rintro e w1 ⟨rfl, hb⟩; have HX := hidW (HX.out.step hb); clear hb HD) | ((with_reducible refine wpSt 28 7 ?_); have HT := ins_there w1 II HL.out; refine wpList_store_mid rfl _ _ _ rfl w1.heap.size 0 II.toArray rfl rfl HT HS.out HO.out ?_; clear HT; generalize hW : World.setCells _ _ _ _ = w2; have HQ := hidW (show QX w w1.heap.size II w2 from hW ▸ HX.out.fill II HL.out); have hLQ := hidW HX.out.bel.size; clear hW HX) | (go_at_call 10; refine (HD2.out _ HQ.out.tp).mono ?_; rintro e w3 ⟨rfl, hb⟩; have hLT2 := hidW (Nat.lt_of_lt_of_le HQ.out.box.lt hb.size); have HQ := hidW (HQ.out.step hb); clear hb HD2) | ((with_reducible refine wpSt 28 9 ?_); have HT := ins_there w3 JJ HL2.out; refine wpList_store_mid rfl _ _ _ rfl w3.heap.size 0 JJ.toArray rfl rfl HT HS4.out HO2.out ?_; clear HT; generalize hW : World.setCells _ _ _ _ = w4; have HV := hidW (show Bl w4 w3.heap.size 28 JJ from hW ▸ fill_box w3 28 (insL insZ) JJ (by rw [HL2.out]; rfl)); have HQ := hidW (show QX w w1.heap.size II w4 from hW ▸ HQ.out.step (fill_below w3 28 (insL insZ) JJ)); clear hW) | ((with_reducible refine wpAt 35 ?_); refine wpList_load_want (by rfl) _ _ rfl w3.heap.size 0 rfl JJ _ HV.out.range Tryd.underlying28 rfl HS3.out ?_) | ((with_reducible refine wpAt 36 ?_); refine wpList_load_want (by rfl) _ _ rfl w1.heap.size 0 rfl II _ HQ.out.box.range Tryd.underlying28 rfl HS1.out ?_) | (go_at_call 10; refine (HD3.out _ HQ.out.tp).mono ?_; rintro e w5 ⟨rfl, hb⟩; have hLT := hidW (Nat.lt_of_lt_of_le HQ.out.box.lt hb.size); have HQ := hidW (HQ.out.step hb); clear hb HD3 HV) | ((with_reducible refine wpSt 28 12 ?_); have HT := ins_there w5 KL HL5.out; refine wpList_store_mid rfl _ _ _ rfl w5.heap.size 0 KL.toArray rfl rfl HT HS6.out HO5.out ?_; clear HT; generalize hW : World.setCells _ _ _ _ = w6; have HK := hidW (show Bl w6 w5.heap.size 28 KL from hW ▸ fill_box w5 28 (insL insZ) KL (by rw [HL5.out]; rfl)); have HQ := hidW (show QX w w1.heap.size II w6 from hW ▸ HQ.out.step (fill_below w5 28 (insL insZ) KL)); clear hW; have c1 := HQ.out.box.cell 1; rw [HC1.out] at c1; have c0 := HQ.out.box.cell 0; rw [HC0.out] at c0; have cf := HQ.out.box.frozen 0; obtain ⟨W8, hW8⟩ : ∃ W8, w6.setCell ⟨w1.heap.size, 0, none⟩ (.int .i64 (m : Int)) = W8 := ⟨_, rfl⟩; have HG := hidW (bits_put HQ.out HK.out HW3 HSE.out hLT.out hW8 hLQ.out); have hW8' := hidW hW8) | ((with_reducible refine wpAt 73 ?_); (try rw [hW8'.out]); refine wpList_load_want (by rfl) _ _ rfl w5.heap.size 0 rfl KL _ HG.out.2.range Tryd.underlying28 rfl HS5.out ?_) | ((with_reducible refine wpAt 74 ?_); (try rw [hW8'.out]); refine wpList_load_want (by rfl) _ _ rfl w1.heap.size 0 rfl KL _ HG.out.1.box.range Tryd.underlying28 rfl HS5.out ?_))
  exact bodyPost_ret (v := .bool true) (by simp [results, Tryd.results3, go_sem, Act.put]) rfl ⟨rfl, HG.out.1.bel⟩
set_option maxRecDepth 100000 in
set_option maxHeartbeats 400000 in
theorem bits_sd (x : Nat) (b c : Int) (w : World) (ht : TP w) (hx : x < 4294967296) (i : Ins) (hd : decP x = some i) (n : Nat) (hn : (IntKind.u64.wrap b).tmod 32 = (n : Int)) (hn1 : n < 32) (m : Nat) (hm : c % 16 = (m : Int)) (hm1 : m < 16) (j : Ins) (hy : decP (x ^^^ 2 ^ n) = some j) (h15 : ¬ m = 15) (h46 : i.op = 46) (h14 : m = 14) : Calls Tryd.prog 3 #[.int .u32 (x : Int), .int .i64 b, .int .i64 c] w fun e w' => e = .returned (.bool true) ∧ Below w.heap.size w w' := by
  have hpw : 2 ^ n < 4294967296 := by
    have := Nat.pow_lt_pow_right (a := 2) (by decide) hn1
    have h3 : (2 : Nat) ^ 32 = 4294967296 := by decide
    omega
  have hyl : x ^^^ 2 ^ n < 4294967296 := by
    have h3 : (2 : Nat) ^ 32 = 4294967296 := by decide
    rw [← h3] at *
    exact Nat.xor_lt_two_pow hx hpw
  have hxy : bits .xor .u32 (x : Int) (2 ^ n % 4294967296) = ((x ^^^ 2 ^ n : Nat) : Int) := by
    have e2 : (2 : Int) ^ n % 4294967296 = ((2 ^ n : Nat) : Int) := by
      have := pow_nat n
      rw [← this]
      generalize 2 ^ n = z at *
      omega
    rw [e2]
    exact u32_xor_nat x (2 ^ n) hx hpw
  have hz : decP (reC x m) = some { i with cond := (m : Int) } := by
    rw [dec_cond hx hd m hm1, if_neg (show ¬ (m = 15 ∨ i.op = 46 ∧ m ≠ 14) from fun h => h.elim h15 (fun g => g.2 h14))]
  have HA : Hid (∀ w', TP w' → Calls Tryd.prog 9 #[] w' fun e w'' => e = .returned (.bool true) ∧ Below w'.heap.size w' w'') := fun w' h => alive_any w' h
  have HD : Hid (∀ w', TP w' → Calls Tryd.prog 10 #[.int .u32 (x : Int)] w' fun e w'' => e = .returned (.tuple #[.agg (insL i).toArray, .bool true]) ∧ Below w'.heap.size w' w'') := fun w' h => by
    have := gdec_any x w' h hx
    rw [hd] at this
    exact this
  have HD2 : Hid (∀ w', TP w' → Calls Tryd.prog 10 #[.int .u32 (bits .xor .u32 (x : Int) (2 ^ n % 4294967296))] w' fun e w'' => e = .returned (.tuple #[.agg (insL j).toArray, .bool true]) ∧ Below w'.heap.size w' w'') := fun w' h => by
    have := gdec_any (x ^^^ 2 ^ n) w' h hyl
    rw [hy] at this
    rw [hxy]
    exact this
  obtain ⟨k, hk⟩ : ∃ k : Ins, k = { i with cond := (m : Int) } := ⟨_, rfl⟩
  have HD3 : Hid (∀ w', TP w' → Calls Tryd.prog 10 #[.int .u32 (bits .or .u32 (bits .andNot .u32 (x : Int) 4026531840) ((m : Int) * 268435456))] w' fun e w'' => e = .returned (.tuple #[.agg (insL k).toArray, .bool true]) ∧ Below w'.heap.size w' w'') := fun w' h => by
    have := gdec_any (reC x m) w' h (reC_lt x m hm1)
    rw [hz] at this
    rw [cond_word x m hx hm1, hk]
    exact this
  have HO : Hid ((insL i).toArray.all (·.oneCell') = true) := ins_all i
  have HS1 : Hid ((Tryd.prog.info? 28).map (·.size) = some (insL i).length) := ins_size
  have HS : Hid ((Tryd.prog.info? 28).map (·.size) = some (insL i).toArray.size) := ins_size
  have HL : Hid ((insL i).length = 20) := rfl
  have HO2 : Hid ((insL j).toArray.all (·.oneCell') = true) := ins_all j
  have HS3 : Hid ((Tryd.prog.info? 28).map (·.size) = some (insL j).length) := ins_size
  have HS4 : Hid ((Tryd.prog.info? 28).map (·.size) = some (insL j).toArray.size) := ins_size
  have HL2 : Hid ((insL j).length = 20) := rfl
  have HO5 : Hid ((insL k).toArray.all (·.oneCell') = true) := ins_all k
  have HS5 : Hid ((Tryd.prog.info? 28).map (·.size) = some (insL k).length) := ins_size
  have HS6 : Hid ((Tryd.prog.info? 28).map (·.size) = some (insL k).toArray.size) := ins_size
  have HL5 : Hid ((insL k).length = 20) := rfl
  have hne : j.same i = false := by
    refine Ins.same_ne fun e => ?_
    rw [e] at hy
    exact xor_ne x n (dec_inj hyl hx hy hd)
  have HQE : ∀ w, (Op.equalIn 10000 28 (.agg (insL j).toArray) (.agg (insL i).toArray)).run Tryd.prog w = .ok false w := fun w => by
    have := eqI j i w
    rw [hne] at this
    exact this
  clear hne
  have HQZ : ∀ w, (Op.equalIn 10000 28 (.agg (insL k).toArray) (.agg (insL k).toArray)).run Tryd.prog w = .ok true w := fun w => by
    have := eqI k k w
    rw [Ins.same_self] at this
    exact this
  have HSE : Hid ((insL i).set 0 (.int .i64 (m : Int)) = insL k) := by show _ = _; rw [hk]; rfl
  have HC1 : Hid ((insL i)[1]? = some (.int .i64 i.op)) := rfl
  have HC0 : Hid ((insL i)[0]? = some (.int .i64 i.cond)) := rfl
  have HX := hidW (TX.first ht)
  have HW3 : 3 < w.heap.size := ht.size
  have x0 : (0 : Int) ≤ x ∧ (x : Int) < 4294967296 := by omega
  have n0 : (0 : Int) ≤ (n : Int) := by omega
  have n1 : (n : Int) < 32 := by omega
  have m0 : (0 : Int) ≤ (m : Int) := by omega
  have m1 : (m : Int) < 16 := by omega
  have HC15 : bits .and .i64 c 15 = (m : Int) := by rw [and15, hm]
  have q15 : ((m : Int) == 15) = false := beq_eq_false_iff_ne.2 (by omega)
  have q46 : (i.op == 46) = true := beq_iff_eq.2 h46
  have q14 : ((m : Int) != 14) = false := by rw [bne, beq_iff_eq.2 (show (m : Int) = 14 by omega)]; rfl
  clear ht hx hd hy hxy hyl hpw hz hk hm h15 h46 h14
  generalize i.op = OP at *
  generalize i.cond = CD at *
  generalize insL j = JJ at *
  generalize insL k = KL at *
  generalize insL i = II at *
  go_enter Tryd.func3, Tryd.ntmps3
  go_wp2_with (first | (go_at_call 9; refine (HA.out _ HX.out.tp).mono ?_; rintro e w0 ⟨rfl, hb⟩; have HX := hidW (HX.out.step hb); clear hb HA) | (go_at_call 10; refine (HD.out _ HX.out.tp).mono ?_; rintro e w1 ⟨rfl, hb⟩; have HX := hidW (HX.out.step hb); clear hb HD) | ((with_reducible refine wpSt 28 7 ?_); have HT := ins_there w1 II HL.out; refine wpList_store_mid rfl _ _ _ rfl w1.heap.size 0 II.toArray rfl rfl HT HS.out HO.out ?_; clear HT; generalize hW : World.setCells _ _ _ _ = w2; have HQ := hidW (show QX w w1.heap.size II w2 from hW ▸ HX.out.fill II HL.out); have hLQ := hidW HX.out.bel.size; clear hW HX) | (go_at_call 10; refine (HD2.out _ HQ.out.tp).mono ?_; rintro e w3 ⟨rfl, hb⟩; have hLT2 := hidW (Nat.lt_of_lt_of_le HQ.out.box.lt hb.size); have HQ := hidW (HQ.out.step hb); clear hb HD2) | ((with_reducible refine wpSt 28 9 ?_); have HT := ins_there w3 JJ HL2.out; refine wpList_store_mid rfl _ _ _ rfl w3.heap.size 0 JJ.toArray rfl rfl HT HS4.out HO2.out ?_; clear HT; generalize hW : World.setCells _ _ _ _ = w4; have HV := hidW (show Bl w4 w3.heap.size 28 JJ from hW ▸ fill_box w3 28 (insL insZ) JJ (by rw [HL2.out]; rfl)); have HQ := hidW (show QX w w1.heap.size II w4 from hW ▸ HQ.out.step (fill_below w3 28 (insL insZ) JJ)); clear hW) | ((with_reducible refine wpAt 35 ?_); refine wpList_load_want (by rfl) _ _ rfl w3.heap.size 0 rfl JJ _ HV.out.range Tryd.underlying28 rfl HS3.out ?_) | ((with_reducible refine wpAt 36 ?_); refine wpList_load_want (by rfl) _ _ rfl w1.heap.size 0 rfl II _ HQ.out.box.range Tryd.underlying28 rfl HS1.out ?_) | (go_at_call 10; refine (HD3.out _ HQ.out.tp).mono ?_; rintro e w5 ⟨rfl, hb⟩; have hLT := hidW (Nat.lt_of_lt_of_le HQ.out.box.lt hb.size); have HQ := hidW (HQ.out.step hb); clear hb HD3 HV) | ((with_reducible refine wpSt 28 12 ?_); have HT := ins_there w5 KL HL5.out; refine wpList_store_mid rfl _ _ _ rfl w5.heap.size 0 KL.toArray rfl rfl HT HS6.out HO5.out ?_; clear HT; generalize hW : World.setCells _ _ _ _ = w6; have HK := hidW (show Bl w6 w5.heap.size 28 KL from hW ▸ fill_box w5 28 (insL insZ) KL (by rw [HL5.out]; rfl)); have HQ := hidW (show QX w w1.heap.size II w6 from hW ▸ HQ.out.step (fill_below w5 28 (insL insZ) KL)); clear hW; have c1 := HQ.out.box.cell 1; rw [HC1.out] at c1; have c0 := HQ.out.box.cell 0; rw [HC0.out] at c0; have cf := HQ.out.box.frozen 0; obtain ⟨W8, hW8⟩ : ∃ W8, w6.setCell ⟨w1.heap.size, 0, none⟩ (.int .i64 (m : Int)) = W8 := ⟨_, rfl⟩; have HG := hidW (bits_put HQ.out HK.out HW3 HSE.out hLT.out hW8 hLQ.out); have hW8' := hidW hW8) | ((with_reducible refine wpAt 73 ?_); (try rw [hW8'.out]); refine wpList_load_want (by rfl) _ _ rfl w5.heap.size 0 rfl KL _ HG.out.2.range Tryd.underlying28 rfl HS5.out ?_) | ((with_reducible refine wpAt 74 ?_); (try rw [hW8'.out]); refine wpList_load_want (by rfl) _ _ rfl w1.heap.size 0 rfl KL _ HG.out.1.box.range Tryd.underlying28 rfl HS5.out ?_))
  exact bodyPost_ret (v := .bool true) (by simp [results, Tryd.results3, go_sem, Act.put]) rfl ⟨rfl, HG.out.1.bel⟩
theorem law_bits (x : Nat) (b c : Int) (w : World) (ht : TP w) (hx : x < 4294967296) : Calls Tryd.prog 3 #[.int .u32 (x : Int), .int .i64 b, .int .i64 c] w fun e w' => e = .returned (.bool true) ∧ Below w.heap.size w w' := by
  cases hd : decP x with
  | none => exact bits_none x b c w ht hx hd
  | some i =>
    obtain ⟨n, hn, hn1⟩ : ∃ n : Nat, (IntKind.u64.wrap b).tmod 32 = (n : Int) ∧ n < 32 := by
      have hw : 0 ≤ IntKind.u64.wrap b := by rw [IntKind.wrap_u64]; exact Int.emod_nonneg _ (by decide)
      rw [Int.tmod_eq_emod_of_nonneg hw]
      exact ⟨(IntKind.u64.wrap b % 32).toNat, by omega, by omega⟩
    obtain ⟨m, hm, hm1⟩ : ∃ m : Nat, c % 16 = (m : Int) ∧ m < 16 := ⟨(c % 16).toNat, by omega, by omega⟩
    cases hy : decP (x ^^^ 2 ^ n) with
    | none =>
      by_cases h15 : m = 15
      · exact bits_na x b c w ht hx i hd n hn hn1 m hm hm1 hy h15
      · by_cases h46 : i.op = 46
        · by_cases h14 : m = 14
          · exact bits_nd x b c w ht hx i hd n hn hn1 m hm hm1 hy h15 h46 h14
          · exact bits_nb x b c w ht hx i hd n hn hn1 m hm hm1 hy h15 h46 h14
        · exact bits_nc x b c w ht hx i hd n hn hn1 m hm hm1 hy h15 h46
    | some j =>
      by_cases h15 : m = 15
      · exact bits_sa x b c w ht hx i hd n hn hn1 m hm hm1 j hy h15
      · by_cases h46 : i.op = 46
        · by_cases h14 : m = 14
          · exact bits_sd x b c w ht hx i hd n hn hn1 m hm hm1 j hy h15 h46 h14
          · exact bits_sb x b c w ht hx i hd n hn hn1 m hm hm1 j hy h15 h46 h14
        · exact bits_sc x b c w ht hx i hd n hn hn1 m hm hm1 j hy h15 h46
end Go.Proofs.YtkmgmmmpiallhaaDoor
