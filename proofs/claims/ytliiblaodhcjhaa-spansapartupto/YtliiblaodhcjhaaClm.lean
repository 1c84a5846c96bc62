import Derived.Test.YtliiblaodhcjhaaLive
namespace Go.Proofs.Ytliiblaodhcjhaa
open Go.RowKit
set_option linter.unusedVariables false

set_option maxHeartbeats 2000000 in
theorem clonem_any (W : World) (lo p : Nat) (v : Value) (L : List (Sp Int)) (h : MapAt W lo p v L) (hby : L.length * 24 ≤ 140737488355328) :
    Calls Try.prog 27 #[.pointer (some ⟨p, 0, none⟩)] W fun e W' => ∃ p', e = .returned (.pointer (some ⟨p', 0, none⟩)) ∧ (∃ v', MapAt W' W.heap.size p' v' L) ∧ Below W.heap.size W W' := by
  have hC := clone_any W lo v L h.own hby
  have hc := h.cell
  obtain ⟨a, cap, rfl⟩ := slice_form h.own
  have hg := h.good
  clear h
  go_enter Try.func27, Try.ntmps27
  go_wp2_with (fail)
  refine hC.mono ?_
  rintro e w1 ⟨v1, rfl, hl1, hb1⟩
  have HM : Hid (MapAt (w1.alloc (.cells #[v1] 84)) W.heap.size w1.heap.size v1 L) := ⟨heap_alloc_new w1 _, hl1.keep (below_alloc (Below.refl _ w1) _) (fun g hg => (hl1.lt g hg).2), hb1.size, hg⟩
  have hB := below_alloc hb1 (.cells #[v1] 84)
  obtain ⟨va, vc, rfl⟩ := slice_form hl1
  clear hC hl1 hb1
  go_wp2
  go_ret
  exact ⟨_, rfl, ⟨_, HM.out⟩, hB⟩
end Go.Proofs.Ytliiblaodhcjhaa
