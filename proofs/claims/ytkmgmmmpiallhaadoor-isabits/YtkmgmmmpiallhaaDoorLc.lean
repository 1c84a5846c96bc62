import Derived.Test.YtkmgmmmpiallhaaDoorLb
namespace Go.Proofs.YtkmgmmmpiallhaaDoor
open Go.RowKit
set_option linter.unusedVariables false
set_option linter.unusedSimpArgs false
/-- Two boxes: the argument's, and another. -/
structure PX (W : World) (I : List Value) (q : Nat) (L : List Value) (w : World) : Prop where
  bel : Below W.heap.size W w
  ins : Bl w W.heap.size 28 I
  box : Bl w q 28 L
  tp : TP w
theorem PX.step {W w w' : World} {I L : List Value} {q : Nat} (h : PX W I q L w) (hb : Below w.heap.size w w') : PX W I q L w' := ⟨Below.step h.bel hb, h.ins.below hb, h.box.below hb, h.tp.below hb⟩
theorem BX.fill {W w : World} {I : List Value} (h : BX W I w) (L : List Value) (hl : L.length = 20) : PX W I w.heap.size L ((w.alloc (.cells (insL insZ).toArray 28)).setCells w.heap.size 0 L) := by
  have hb := fill_below w 28 (insL insZ) L
  exact ⟨Below.step h.bel hb, h.ins.below hb, fill_box w 28 (insL insZ) L (by rw [hl]; rfl), h.tp.below hb⟩
set_option maxRecDepth 100000 in
set_option maxHeartbeats 400000 in
theorem said_none (i : Ins) (w : World) (ht : TP w) (hi : IOk i) (he : encP i = none) : Calls Tryd.prog 5 #[.agg (insA i)] w fun e w' => e = .returned (.bool true) ∧ Below w.heap.size w w' := by
  have HA : Hid (∀ w', TP w' → Calls Tryd.prog 9 #[] w' fun e w'' => e = .returned (.bool true) ∧ Below w'.heap.size w' w'') := fun w' h => alive_any w' h
  have HE : Hid (∀ w', TP w' → Calls Tryd.prog 11 #[.agg (insL i).toArray] w' fun e w'' => e = .returned (.tuple #[.int .u32 0, .int .i64 190]) ∧ Below w'.heap.size w' w'') := fun w' h => by
    have := genc_any i w' h hi
    rw [he] at this
    exact this
  have HR : Hid (∀ w', TP w' → Calls Tryd.prog 12 #[.agg (insL i).toArray] w' fun e w'' => e = .returned (.bool false) ∧ Below w'.heap.size w' w'') := fun w' h => by
    have := gright_any i w' h hi
    rw [he] at this
    exact this
  have HRE : Hid (∀ w', TP w' → Calls Tryd.prog 13 #[.agg (insL i).toArray] w' fun e w'' => e = .returned (.int .u16 0) ∧ Below w'.heap.size w' w'') := fun w' h => by
    have := greads_any i w' h hi
    rw [show readsP i = 0 by unfold readsP; rw [he]] at this
    exact this
  have HWR : Hid (∀ w', TP w' → Calls Tryd.prog 14 #[.agg (insL i).toArray] w' fun e w'' => e = .returned (.int .u16 0) ∧ Below w'.heap.size w' w'') := fun w' h => by
    have := gwrites_any i w' h hi
    rw [show writesP i = 0 by unfold writesP; rw [he]] at this
    exact this
  have HO : Hid ((insL i).toArray.all (·.oneCell') = true) := ins_all i
  have HS1 : Hid ((Tryd.prog.info? 28).map (·.size) = some (insL i).length) := ins_size
  have HS : Hid ((Tryd.prog.info? 28).map (·.size) = some (insL i).toArray.size) := ins_size
  have HL : Hid ((insL i).length = 20) := rfl
  have HX := hidW (BX.first ht (insL i))
  show Calls Tryd.prog 5 #[.agg (insL i).toArray] w fun e w' => e = .returned (.bool true) ∧ Below w.heap.size w w'
  clear ht hi he
  generalize insL i = II at *
  go_enter Tryd.func5, Tryd.ntmps5
  go_wp2_with (first | (go_at_call 9; refine (HA.out _ HX.out.tp).mono ?_; rintro e w0 ⟨rfl, hb⟩; have HX := hidW (HX.out.step hb); clear hb HA) | (guard_target =~ wpList _ _ _ (Oper.mk (some 10) _ _ _ _ _ :: _) _ _; refine wpList_load_mid rfl _ _ rfl w.heap.size 0 rfl II _ HX.out.ins.range Tryd.underlying28 rfl HS1.out ?_) | (go_at_call 11; refine (HE.out _ HX.out.tp).mono ?_; rintro e w1 ⟨rfl, hb⟩; have HX := hidW (HX.out.step hb); clear hb HE) | (guard_target =~ wpList _ _ _ (Oper.mk (some 23) _ _ _ _ _ :: _) _ _; refine wpList_load_want (by rfl) _ _ rfl w.heap.size 0 rfl II _ HX.out.ins.range Tryd.underlying28 rfl HS1.out ?_) | (guard_target =~ wpList _ _ _ (Oper.mk (some 28) _ _ _ _ _ :: _) _ _; refine wpList_load_want (by rfl) _ _ rfl w.heap.size 0 rfl II _ HX.out.ins.range Tryd.underlying28 rfl HS1.out ?_) | (guard_target =~ wpList _ _ _ (Oper.mk (some 33) _ _ _ _ _ :: _) _ _; refine wpList_load_want (by rfl) _ _ rfl w.heap.size 0 rfl II _ HX.out.ins.range Tryd.underlying28 rfl HS1.out ?_) | (go_at_call 12; refine (HR.out _ HX.out.tp).mono ?_; rintro e w2 ⟨rfl, hb⟩; have HX := hidW (HX.out.step hb); clear hb HR) | (go_at_call 13; refine (HRE.out _ HX.out.tp).mono ?_; rintro e w3 ⟨rfl, hb⟩; have HX := hidW (HX.out.step hb); clear hb HRE) | (go_at_call 14; refine (HWR.out _ HX.out.tp).mono ?_; rintro e w4 ⟨rfl, hb⟩; have HX := hidW (HX.out.step hb); clear hb HWR))
  exact bodyPost_ret (v := .bool true) (by simp [results, Tryd.results5, go_sem, Act.put]) rfl ⟨rfl, HX.out.bel⟩
set_option maxRecDepth 100000 in
set_option maxHeartbeats 400000 in
theorem said_some (i : Ins) (w : World) (ht : TP w) (hi : IOk i) (x : Nat) (he : encP i = some x) : Calls Tryd.prog 5 #[.agg (insA i)] w fun e w' => e = .returned (.bool true) ∧ Below w.heap.size w w' := by
  obtain ⟨hd, hx⟩ := enc_dec he
  have HA : Hid (∀ w', TP w' → Calls Tryd.prog 9 #[] w' fun e w'' => e = .returned (.bool true) ∧ Below w'.heap.size w' w'') := fun w' h => alive_any w' h
  have HE : Hid (∀ w', TP w' → Calls Tryd.prog 11 #[.agg (insL i).toArray] w' fun e w'' => e = .returned (.tuple #[.int .u32 (x : Int), .int .i64 0]) ∧ Below w'.heap.size w' w'') := fun w' h => by
    have := genc_any i w' h hi
    rw [he] at this
    exact this
  have HD : Hid (∀ w', TP w' → Calls Tryd.prog 10 #[.int .u32 (x : Int)] w' fun e w'' => e = .returned (.tuple #[.agg (insL i).toArray, .bool true]) ∧ Below w'.heap.size w' w'') := fun w' h => by
    have := gdec_any x w' h hx
    rw [hd] at this
    exact this
  have HR : Hid (∀ w', TP w' → Calls Tryd.prog 12 #[.agg (insL i).toArray] w' fun e w'' => e = .returned (.bool true) ∧ Below w'.heap.size w' w'') := fun w' h => by
    have := gright_any i w' h hi
    rw [he] at this
    exact this
  have HQE : ∀ w, (Op.equalIn 10000 28 (.agg (insL i).toArray) (.agg (insL i).toArray)).run Tryd.prog w = .ok true w := fun w => by
    have := eqI i i w
    rw [Ins.same_self] at this
    exact this
  have HO : Hid ((insL i).toArray.all (·.oneCell') = true) := ins_all i
  have HS1 : Hid ((Tryd.prog.info? 28).map (·.size) = some (insL i).length) := ins_size
  have HS : Hid ((Tryd.prog.info? 28).map (·.size) = some (insL i).toArray.size) := ins_size
  have HL : Hid ((insL i).length = 20) := rfl
  have HX := hidW (BX.first ht (insL i))
  show Calls Tryd.prog 5 #[.agg (insL i).toArray] w fun e w' => e = .returned (.bool true) ∧ Below w.heap.size w w'
  clear ht hi he hd hx
  generalize insL i = II at *
  go_enter Tryd.func5, Tryd.ntmps5
  go_wp2_with (first | (go_at_call 9; refine (HA.out _ HX.out.tp).mono ?_; rintro e w0 ⟨rfl, hb⟩; have HX := hidW (HX.out.step hb); clear hb HA) | (guard_target =~ wpList _ _ _ (Oper.mk (some 10) _ _ _ _ _ :: _) _ _; refine wpList_load_mid rfl _ _ rfl w.heap.size 0 rfl II _ HX.out.ins.range Tryd.underlying28 rfl HS1.out ?_) | (go_at_call 11; refine (HE.out _ HX.out.tp).mono ?_; rintro e w1 ⟨rfl, hb⟩; have HX := hidW (HX.out.step hb); clear hb HE) | (go_at_call 10; refine (HD.out _ HX.out.tp).mono ?_; rintro e w2 ⟨rfl, hb⟩; have HX := hidW (HX.out.step hb); clear hb HD) | (guard_target =~ wpList _ _ _ (Oper.mk none (Op.store 28 _ _) _ _ _ _ :: _) _ _; have HT := ins_there w2 II HL.out; refine wpList_store_mid rfl _ _ _ rfl w2.heap.size 0 II.toArray rfl rfl HT HS.out HO.out ?_; clear HT; generalize hW : World.setCells _ _ _ _ = w3; have HQ := hidW (show PX w II w2.heap.size II w3 from hW ▸ HX.out.fill II HL.out); clear hW HX) | (guard_target =~ wpList _ _ _ (Oper.mk (some 44) _ _ _ _ _ :: _) _ _; refine wpList_load_want (by rfl) _ _ rfl w2.heap.size 0 rfl II _ HQ.out.box.range Tryd.underlying28 rfl HS1.out ?_) | (guard_target =~ wpList _ _ _ (Oper.mk (some 45) _ _ _ _ _ :: _) _ _; refine wpList_load_want (by rfl) _ _ rfl w.heap.size 0 rfl II _ HQ.out.ins.range Tryd.underlying28 rfl HS1.out ?_) | (guard_target =~ wpList _ _ _ (Oper.mk (some 49) _ _ _ _ _ :: _) _ _; refine wpList_load_want (by rfl) _ _ rfl w.heap.size 0 rfl II _ HQ.out.ins.range Tryd.underlying28 rfl HS1.out ?_) | (go_at_call 12; refine (HR.out _ HQ.out.tp).mono ?_; rintro e w4 ⟨rfl, hb⟩; have HQ := hidW (HQ.out.step hb); clear hb HR))
  exact bodyPost_ret (v := .bool true) (by simp [results, Tryd.results5, go_sem, Act.put]) rfl ⟨rfl, HQ.out.bel⟩
theorem law_said (i : Ins) (w : World) (ht : TP w) (hi : IOk i) : Calls Tryd.prog 5 #[.agg (insA i)] w fun e w' => e = .returned (.bool true) ∧ Below w.heap.size w w' := by
  cases he : encP i with
  | none => exact said_none i w ht hi he
  | some x => exact said_some i w ht hi x he
end Go.Proofs.YtkmgmmmpiallhaaDoor
