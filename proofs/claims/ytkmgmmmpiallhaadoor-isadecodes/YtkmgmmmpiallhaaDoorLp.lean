import Derived.Test.YtkmgmmmpiallhaaDoorRs
import Derived.Test.YtkmgmmmpiallhaaDoorGh
namespace Go.Proofs.YtkmgmmmpiallhaaDoor
open Go.RowKit
set_option linter.unusedVariables false
set_option linter.unusedSimpArgs false
theorem same_refl' (i : Ins) : i.same i = true := by simp [Ins.same]
set_option maxRecDepth 100000 in
set_option maxHeartbeats 400000 in
theorem law_decodes (x : Nat) (w : World) (ht : TP w) (hx : x < 4294967296) : Calls Tryd.prog 6 #[.int .u32 (x : Int)] w fun e w' => e = .returned (.bool true) ∧ Below w.heap.size w w' := by
  have HJ : Hid (∀ w', Calls Tryd.prog 15 #[.int .u32 (x : Int)] w' fun e w'' => e = .returned (.tuple #[.agg (insL ((decJ x).getD insZ)).toArray, .bool (decJ x).isSome]) ∧ Below w'.heap.size w' w'') := fun w' => jdec_any x w' hx
  have HD : Hid (∀ w', TP w' → Calls Tryd.prog 10 #[.int .u32 (x : Int)] w' fun e w'' => e = .returned (.tuple #[.agg (insL ((decJ x).getD insZ)).toArray, .bool (decJ x).isSome]) ∧ Below w'.heap.size w' w'') := fun w' h => by
    rw [← dec_eq hx]
    exact gdec_any x w' h hx
  have HQE : ∀ w, (Op.equalIn 10000 28 (.agg (insL ((decJ x).getD insZ)).toArray) (.agg (insL ((decJ x).getD insZ)).toArray)).run Tryd.prog w = .ok true w := fun w => by
    have := eqI ((decJ x).getD insZ) ((decJ x).getD insZ) w
    rw [same_refl'] at this
    exact this
  have HO : Hid ((insL ((decJ x).getD insZ)).toArray.all (·.oneCell') = true) := ins_all _
  have HS1 : Hid ((Tryd.prog.info? 28).map (·.size) = some (insL ((decJ x).getD insZ)).length) := ins_size
  have HS : Hid ((Tryd.prog.info? 28).map (·.size) = some (insL ((decJ x).getD insZ)).toArray.size) := ins_size
  have HL : Hid ((insL ((decJ x).getD insZ)).length = 20) := rfl
  have HX := hidW (TX.first ht)
  clear ht hx
  generalize insL ((decJ x).getD insZ) = II at *
  generalize (decJ x).isSome = OK at *
  go_enter Tryd.func6, Tryd.ntmps6
  go_wp2_with (first
    | (go_at_call 10; refine (HD.out _ HX.out.tp).mono ?_; rintro e w1 ⟨rfl, hb⟩; have HX := hidW (HX.out.step hb); clear hb HD)
    | (guard_target =~ wpList _ _ _ (Oper.mk none (Op.store 28 (Operand.tmp 3) _) _ _ _ _ :: _) _ _; have HT := ins_there w1 II HL.out; refine wpList_store_mid rfl _ _ _ rfl w1.heap.size 0 II.toArray rfl rfl HT HS.out HO.out ?_; clear HT; generalize hW : World.setCells _ _ _ _ = w2; have HQ := hidW (show QX w w1.heap.size II w2 from hW ▸ HX.out.fill II HL.out); clear hW HX)
    | (go_at_call 15; refine (HJ.out _).mono ?_; rintro e w3 ⟨rfl, hb⟩; have HQ := hidW (HQ.out.step hb); clear hb HJ)
    | (guard_target =~ wpList _ _ _ (Oper.mk none (Op.store 28 (Operand.tmp 5) _) _ _ _ _ :: _) _ _; have HT := ins_there w3 II HL.out; refine wpList_store_mid rfl _ _ _ rfl w3.heap.size 0 II.toArray rfl rfl HT HS.out HO.out ?_; clear HT; generalize hW : World.setCells _ _ _ _ = w4; have HP := hidW (show QX w w3.heap.size II w4 from hW ▸ HQ.out.old.fill II HL.out); have HQ := hidW (show QX w w1.heap.size II w4 from hW ▸ HQ.out.step (fill_below w3 28 (insL insZ) II)); clear hW)
    | (guard_target =~ wpList _ _ _ (Oper.mk (some 17) _ _ _ _ _ :: _) _ _; refine wpList_load_mid rfl _ _ rfl w1.heap.size 0 rfl _ _ HQ.out.box.range Tryd.underlying28 rfl HS1.out ?_)
    | (guard_target =~ wpList _ _ _ (Oper.mk (some 18) _ _ _ _ _ :: _) _ _; refine wpList_load_mid rfl _ _ rfl w3.heap.size 0 rfl _ _ HP.out.box.range Tryd.underlying28 rfl HS1.out ?_))
  exact bodyPost_ret (v := .bool true) (by simp [results, Tryd.results6, go_sem, Act.put]) rfl ⟨rfl, HQ.out.bel⟩
end Go.Proofs.YtkmgmmmpiallhaaDoor
