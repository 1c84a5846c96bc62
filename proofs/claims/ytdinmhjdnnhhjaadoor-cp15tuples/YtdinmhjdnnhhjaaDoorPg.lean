import Derived.Test.YtdinmhjdnnhhjaaDoorPf
namespace Go.Proofs.YtdinmhjdnnhhjaaDoor
open Go.RowKit
set_option linter.unusedVariables false
set_option linter.unusedSimpArgs false
set_option maxRecDepth 100000 in
set_option maxHeartbeats 4000000 in
theorem operations_any (w : World) : Calls Tryd.prog 34 #[] w fun e w' => e = .returned (.agg (opL w.heap.size).toArray) ∧ Asks w' w.heap.size ∧ Below w.heap.size w w' := by
  have ha := ask_any
  have hz := zero84
  have HI : Hid ((Tryd.prog.info? 84).map (·.size) = some (opL w.heap.size).toArray.size) := by show _ = _; kernel_rfl
  have hE := opW_end w
  have hT := opW_there w
  have HO : Hid ((opL w.heap.size).toArray.all (·.oneCell') = true) := all_oneCell_toArray (opL_one _)
  unfold opW at hE hT
  have HE : Hid _ := hE
  have hs : (opL w.heap.size).toArray.size = 126 := rfl
  rw [← hs] at hT
  have HT : Hid _ := hT
  clear hE hT hs
  go_enter Tryd.func34, Tryd.ntmps34
  go_wp2_with (first
    | (go_at_call 44; refine (ha _ _ _).mono ?_; rintro e w' ⟨rfl, rfl⟩)
    | (guard_target =~ wpList _ _ _ (Oper.mk (some 47) _ _ _ _ _ :: _) _ _; refine wpList_value rfl (.agg (opL w.heap.size).toArray) (by kernel_rfl) ?_; generalize hL : opL w.heap.size = L at *; have HQ : Hid (opL w.heap.size = L) := hL; clear hL)
    | (guard_target =~ wpList _ _ _ (Oper.mk none _ _ _ _ _ :: _) _ _; refine wpList_store_mid rfl 84 (.tmp 0) (.tmp 47) rfl w.heap.size 0 L.toArray rfl rfl HT.out HI.out HO.out ?_; have hl := run_loadVar_mid (P := Tryd.prog) _ w.heap.size 0 84 L _ HE.out.2.2 Tryd.underlying84 rfl HI.out; have HL : Hid _ := hl; clear hl HT HO HI; dsimp only at HE HL ⊢; generalize World.setCells _ w.heap.size 0 L = V at *)
    | go_in)
  refine ret_cell0 (n := w.heap.size) rfl HL.out rfl ⟨by rw [HQ.out], HE.out.1, HE.out.2.1⟩
end Go.Proofs.YtdinmhjdnnhhjaaDoor
