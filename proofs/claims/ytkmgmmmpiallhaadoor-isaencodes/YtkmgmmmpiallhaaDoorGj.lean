import Derived.Test.YtkmgmmmpiallhaaDoorGw
namespace Go.Proofs.YtkmgmmmpiallhaaDoor
open Go.RowKit
set_option linter.unusedVariables false
set_option linter.unusedSimpArgs false
set_option maxRecDepth 100000 in
set_option maxHeartbeats 400000 in
theorem gright_any (i : Ins) (w : World) (ht : TP w) (hi : IOk i) : Calls Tryd.prog 12 #[.agg (insA i)] w fun e w' => e = .returned (.bool (encP i).isSome) ∧ Below w.heap.size w w' := by
  have HB := hidW (ins_bl w i)
  have HE : Hid (∀ w', TP w' → Calls Tryd.prog 11 #[.agg (insL i).toArray] w' fun e w'' => e = .returned (.tuple #[.int .u32 (encW (encP i)), .int .i64 (encE (encP i))]) ∧ Below w'.heap.size w' w'') := fun w' h => genc_any i w' h hi
  have HT : Hid (TP (w.alloc (.cells (insL i).toArray 28))) := ht.below (below_new _ _)
  have HS1 : Hid ((Tryd.prog.info? 28).map (·.size) = some (insL i).length) := ins_size
  have hee : (encE (encP i) == 0) = (encP i).isSome := by cases encP i <;> rfl
  show Calls Tryd.prog 12 #[.agg (insL i).toArray] w fun e w' => e = .returned (.bool (encP i).isSome) ∧ Below w.heap.size w w'
  change Hid (Bl (w.alloc (.cells (insL i).toArray 28)) w.heap.size 28 (insL i)) at HB
  rw [← hee]
  clear hee ht hi
  generalize encE (encP i) = E at *
  generalize encW (encP i) = X at *
  generalize insL i = II at *
  go_enter Tryd.func12, Tryd.ntmps12
  go_wp2_with (first | (guard_target =~ wpList _ _ _ (Oper.mk (some 6) _ _ _ _ _ :: _) _ _; refine wpList_load_mid rfl _ _ rfl w.heap.size 0 rfl _ _ HB.out.range Tryd.underlying28 rfl HS1.out ?_) | (go_at_call 11; refine (HE.out _ HT.out).mono ?_; rintro e w1 ⟨rfl, hb⟩; have HW := hidW (Below.step (below_new _ _) hb); clear hb HT HB))
  exact bodyPost_ret (v := .bool (E == 0)) (by simp [results, Tryd.results12, go_sem]) rfl ⟨rfl, HW.out⟩
end Go.Proofs.YtkmgmmmpiallhaaDoor
