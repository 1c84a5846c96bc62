import Derived.Test.YtkmgmmmpiallhaaDoorLa
namespace Go.Proofs.YtkmgmmmpiallhaaDoor
open Go.RowKit
set_option linter.unusedVariables false
set_option linter.unusedSimpArgs false
set_option maxRecDepth 100000 in
theorem small_all : ∀ q ∈ rowsJ, (∀ c ∈ lettersJ, cnt c q.pat ≤ 32) ∧ (∀ o ∈ q.ops, 0 ≤ o ∧ o ≤ 60) ∧ (0 ≤ q.form ∧ q.form ≤ 3) ∧ cnt 105 q.pat ≤ 24 ∧ cnt 111 q.pat ≤ 4 := by
  have h : rowsJ.all (fun q => lettersJ.all (fun c => decide (cnt c q.pat ≤ 32)) && (q.ops.all (fun o => decide (0 ≤ o ∧ o ≤ 60)) && (decide (0 ≤ q.form ∧ q.form ≤ 3) && (decide (cnt 105 q.pat ≤ 24) && decide (cnt 111 q.pat ≤ 4))))) = true := by decide
  intro q hq
  have h := List.all_eq_true.1 h q hq
  simp only [Bool.and_eq_true, decide_eq_true_eq, List.all_eq_true] at h
  obtain ⟨a, b, c, d, e⟩ := h
  exact ⟨a, b, c, d, e⟩
theorem fv32 {c : UInt8} {w : Nat} {l : List UInt8} (h : cnt c l ≤ 32) : -9223372036854775808 ≤ ((fvP c w l : Nat) : Int) ∧ ((fvP c w l : Nat) : Int) ≤ 9223372036854775807 := by
  have h1 := fvP_lt c w l
  have h2 : 2 ^ cnt c l ≤ 2 ^ 32 := Nat.pow_le_pow_right (by decide) h
  have h3 : (2 : Nat) ^ 32 = 4294967296 := by decide
  omega
theorem say_ok {q : RowJ} (hq : q ∈ rowsJ) (w : Nat) (ho : q.ops.contains (opJ q w) = true) : IOk (sayJ q w) := by
  obtain ⟨hc, hops, hform, h105, h111⟩ := small_all q hq
  have hop := hops (opJ q w) (by simpa using ho)
  have f : ∀ c ∈ lettersJ, -9223372036854775808 ≤ ((fvP c w q.pat : Nat) : Int) ∧ ((fvP c w q.pat : Nat) : Int) ≤ 9223372036854775807 := fun c h => fv32 (hc c h)
  have him : 0 ≤ immJ (opJ q w) (fvP 105 w q.pat) ∧ immJ (opJ q w) (fvP 105 w q.pat) < 4294967296 := by
    have h1 := fvP_lt 105 w q.pat
    have h2 : 2 ^ cnt 105 q.pat ≤ 2 ^ 24 := Nat.pow_le_pow_right (by decide) h105
    have h3 : (2 : Nat) ^ 24 = 16777216 := by decide
    unfold immJ
    generalize fvP 105 w q.pat = x at *
    repeat' split
    all_goals omega
  exact ⟨f _ (by decide), ⟨by show _ ≤ opJ q w; omega, by show opJ q w ≤ _; omega⟩, ⟨by show _ ≤ q.form; omega, by show q.form ≤ _; omega⟩, f _ (by decide), f _ (by decide), f _ (by decide), f _ (by decide), f _ (by decide), him, f _ (by decide), f _ (by decide), by show 0 ≤ ((fvP 108 w q.pat % 65536 : Nat) : Int) ∧ ((fvP 108 w q.pat % 65536 : Nat) : Int) < 65536; omega, f _ (by decide), f _ (by decide), f _ (by decide), f _ (by decide)⟩
theorem dec_ok {x : Nat} (hx : x < 4294967296) {i : Ins} (h : decP x = some i) : IOk i := by
  obtain ⟨r, q, hr, hp, hq, hh, hi, _⟩ := dec_hit hx h
  rw [hi]
  exact say_ok hq x ((pairs _ hp).ops x (row_fit hr).1)
set_option maxRecDepth 100000 in
set_option maxHeartbeats 400000 in
theorem back_none (x : Nat) (w : World) (ht : TP w) (hx : x < 4294967296) (hd : decP x = none) : Calls Tryd.prog 4 #[.int .u32 (x : Int)] w fun e w' => e = .returned (.bool true) ∧ Below w.heap.size w w' := by
  have HA : Hid (∀ w', TP w' → Calls Tryd.prog 9 #[] w' fun e w'' => e = .returned (.bool true) ∧ Below w'.heap.size w' w'') := fun w' h => alive_any w' h
  have HD : Hid (∀ w', TP w' → Calls Tryd.prog 10 #[.int .u32 (x : Int)] w' fun e w'' => e = .returned (.tuple #[.agg (insL insZ).toArray, .bool false]) ∧ Below w'.heap.size w' w'') := fun w' h => by
    have := gdec_any x w' h hx
    rw [hd] at this
    exact this
  have HO : Hid ((insL insZ).toArray.all (·.oneCell') = true) := ins_all insZ
  have HS1 : Hid ((Tryd.prog.info? 28).map (·.size) = some (insL insZ).length) := ins_size
  have HS : Hid ((Tryd.prog.info? 28).map (·.size) = some (insL insZ).toArray.size) := ins_size
  have HL : Hid ((insL insZ).length = 20) := rfl
  have HQE : ∀ w, (Op.equalIn 10000 28 (.agg (insL insZ).toArray) (.agg #[.int .i64 0, .int .i64 0, .bool false, .int .i64 0, .int .i64 0, .int .i64 0, .int .i64 0, .int .i64 0, .int .i64 0, .int .u32 0, .int .i64 0, .int .i64 0, .bool false, .bool false, .bool false, .int .u16 0, .int .i64 0, .int .i64 0, .int .i64 0, .int .i64 0])).run Tryd.prog w = .ok true w := fun w => eqI insZ insZ w
  have HX := hidW (TX.first ht)
  clear ht hx hd
  have HF : Hid (∀ w1 : World, TX w w1 → QX w w1.heap.size (insL insZ) ((w1.alloc (.cells (insL insZ).toArray 28)).setCells w1.heap.size 0 (insL insZ))) := fun w1 h => h.fill (insL insZ) rfl
  have HTH : Hid (∀ w1 : World, (w1.alloc (.cells (insL insZ).toArray 28)).there w1.heap.size 0 (insL insZ).toArray.size) := fun w1 => ins_there w1 (insL insZ) rfl
  obtain ⟨ZL, hZ⟩ : ∃ ZL, insL insZ = ZL := ⟨_, rfl⟩
  rw [hZ] at HD HO HS1 HS HL
  simp only [hZ] at HQE
  have HF : Hid (∀ w1 : World, TX w w1 → QX w w1.heap.size ZL ((w1.alloc (.cells (insL insZ).toArray 28)).setCells w1.heap.size 0 ZL)) := by rw [← hZ]; exact HF
  have HTH : Hid (∀ w1 : World, (w1.alloc (.cells (insL insZ).toArray 28)).there w1.heap.size 0 ZL.toArray.size) := by rw [← hZ]; exact HTH
  clear hZ
  go_enter Tryd.func4, Tryd.ntmps4
  go_wp2_with (first | (go_at_call 9; refine (HA.out _ HX.out.tp).mono ?_; rintro e w0 ⟨rfl, hb⟩; have HX := hidW (HX.out.step hb); clear hb HA) | (go_at_call 10; refine (HD.out _ HX.out.tp).mono ?_; rintro e w1 ⟨rfl, hb⟩; have HX := hidW (HX.out.step hb); clear hb HD) | (guard_target =~ wpList _ _ _ (Oper.mk none (Op.store 28 _ _) _ _ _ _ :: _) _ _; refine wpList_store_mid rfl _ _ _ rfl w1.heap.size 0 ZL.toArray rfl rfl (HTH.out w1) HS.out HO.out ?_; generalize hW : World.setCells _ _ _ _ = w2; have HQ := hidW (show QX w w1.heap.size ZL w2 from hW ▸ HF.out w1 HX.out); clear hW HX HF) | (guard_target =~ wpList _ _ _ (Oper.mk (some 16) _ _ _ _ _ :: _) _ _; refine wpList_load_mid rfl _ _ rfl w1.heap.size 0 rfl ZL _ HQ.out.box.range Tryd.underlying28 rfl HS1.out ?_))
  exact bodyPost_ret (v := .bool true) (by simp [results, Tryd.results4, go_sem, Act.put]) rfl ⟨rfl, HQ.out.bel⟩
set_option maxRecDepth 100000 in
set_option maxHeartbeats 400000 in
theorem back_some (x : Nat) (w : World) (ht : TP w) (hx : x < 4294967296) (i : Ins) (hd : decP x = some i) : Calls Tryd.prog 4 #[.int .u32 (x : Int)] w fun e w' => e = .returned (.bool true) ∧ Below w.heap.size w w' := by
  have hok := dec_ok hx hd
  have he := dec_enc hx hd
  have HA : Hid (∀ w', TP w' → Calls Tryd.prog 9 #[] w' fun e w'' => e = .returned (.bool true) ∧ Below w'.heap.size w' w'') := fun w' h => alive_any w' h
  have HD : Hid (∀ w', TP w' → Calls Tryd.prog 10 #[.int .u32 (x : Int)] w' fun e w'' => e = .returned (.tuple #[.agg (insL i).toArray, .bool true]) ∧ Below w'.heap.size w' w'') := fun w' h => by
    have := gdec_any x w' h hx
    rw [hd] at this
    exact this
  have HE : Hid (∀ w', TP w' → Calls Tryd.prog 11 #[.agg (insL i).toArray] w' fun e w'' => e = .returned (.tuple #[.int .u32 (x : Int), .int .i64 0]) ∧ Below w'.heap.size w' w'') := fun w' h => by
    have := genc_any i w' h hok
    rw [he] at this
    exact this
  have HR : Hid (∀ w', TP w' → Calls Tryd.prog 12 #[.agg (insL i).toArray] w' fun e w'' => e = .returned (.bool true) ∧ Below w'.heap.size w' w'') := fun w' h => by
    have := gright_any i w' h hok
    rw [he] at this
    exact this
  have HO : Hid ((insL i).toArray.all (·.oneCell') = true) := ins_all i
  have HS1 : Hid ((Tryd.prog.info? 28).map (·.size) = some (insL i).length) := ins_size
  have HS : Hid ((Tryd.prog.info? 28).map (·.size) = some (insL i).toArray.size) := ins_size
  have HL : Hid ((insL i).length = 20) := rfl
  have HX := hidW (TX.first ht)
  clear ht hx hd he hok
  generalize insL i = II at *
  go_enter Tryd.func4, Tryd.ntmps4
  go_wp2_with (first | (go_at_call 9; refine (HA.out _ HX.out.tp).mono ?_; rintro e w0 ⟨rfl, hb⟩; have HX := hidW (HX.out.step hb); clear hb HA) | (go_at_call 10; refine (HD.out _ HX.out.tp).mono ?_; rintro e w1 ⟨rfl, hb⟩; have HX := hidW (HX.out.step hb); clear hb HD) | (guard_target =~ wpList _ _ _ (Oper.mk none (Op.store 28 _ _) _ _ _ _ :: _) _ _; have HT := ins_there w1 II HL.out; refine wpList_store_mid rfl _ _ _ rfl w1.heap.size 0 II.toArray rfl rfl HT HS.out HO.out ?_; clear HT; generalize hW : World.setCells _ _ _ _ = w2; have HQ := hidW (show QX w w1.heap.size II w2 from hW ▸ HX.out.fill II HL.out); clear hW HX) | (guard_target =~ wpList _ _ _ (Oper.mk (some 20) _ _ _ _ _ :: _) _ _; refine wpList_load_mid rfl _ _ rfl w1.heap.size 0 rfl II _ HQ.out.box.range Tryd.underlying28 rfl HS1.out ?_) | (go_at_call 11; refine (HE.out _ HQ.out.tp).mono ?_; rintro e w3 ⟨rfl, hb⟩; have HQ := hidW (HQ.out.step hb); clear hb HE) | (guard_target =~ wpList _ _ _ (Oper.mk (some 32) _ _ _ _ _ :: _) _ _; refine wpList_load_want (by rfl) _ _ rfl w1.heap.size 0 rfl II _ HQ.out.box.range Tryd.underlying28 rfl HS1.out ?_) | (go_at_call 12; refine (HR.out _ HQ.out.tp).mono ?_; rintro e w4 ⟨rfl, hb⟩; have HQ := hidW (HQ.out.step hb); clear hb HR))
  exact bodyPost_ret (v := .bool true) (by simp [results, Tryd.results4, go_sem, Act.put]) rfl ⟨rfl, HQ.out.bel⟩
theorem law_back (x : Nat) (w : World) (ht : TP w) (hx : x < 4294967296) : Calls Tryd.prog 4 #[.int .u32 (x : Int)] w fun e w' => e = .returned (.bool true) ∧ Below w.heap.size w w' := by
  cases hd : decP x with
  | none => exact back_none x w ht hx hd
  | some i => exact back_some x w ht hx i hd
end Go.Proofs.YtkmgmmmpiallhaaDoor
