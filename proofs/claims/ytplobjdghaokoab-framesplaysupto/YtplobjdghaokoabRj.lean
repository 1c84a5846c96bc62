import Derived.Test.YtplobjdghaokoabRi
namespace Go.Proofs.Ytplobjdghaokoab
open Go.RowKit
set_option linter.unusedVariables false
theorem encI_one (A : List Int) : ∀ u ∈ encI A, u.oneCell' = true := by
  intro u hu
  unfold encI at hu
  obtain ⟨x, _, rfl⟩ := List.mem_map.1 hu
  rfl
set_option maxHeartbeats 4000000 in
theorem rsTables_any (W : World) (S : Nat → Prop) (t r : Nat) (T : List Int) (h : RS W S t r T) (hl : T.length ≤ 1073741824) :
    Calls Try.prog 29 #[.pointer (some ⟨t, 0, none⟩)] W fun e W' => ∃ v, e = .returned v ∧ W'.ownsRow W.heap.size 3 1 v T.length (encI T) ∧ Turn (fun _ => False) W W' := by
  have htt := h.lowb t h.St
  obtain ⟨v0, h1, h2, h3⟩ := h.ex
  have T0 : Turn (fun _ => False) W (W.alloc (.cells #[] 3)) := (Turn.refl _ W).alloc _
  have h1' := h1.turn T0 (fun h => h)
  have h2' := own_turn h2 T0 (fun _ _ h => h)
  have c1 : (W.alloc (.cells #[] 3)).cell? ⟨t, 1, none⟩ = some v0 := by rw [h1'.cell]; rfl
  have hown : (W.alloc (.cells #[] 3)).ownsRow W.heap.size 3 1 (.slice (some ⟨W.heap.size, 0, none⟩) 0 0) 0 [] := own_of_row (row_new W [] 3) (Nat.le_refl _) (by omega) (by omega) rfl rfl
  obtain ⟨i0, hi, hz0, hz1, hz2⟩ := info_parts infoI
  obtain ⟨v', w', hr, ho, hg, hb⟩ := append_any (P := Try.prog) (W.alloc (.cells #[] 3)) 61 3 i0 _ Try.underlying61 hi hz0 (by rw [hz1]; rfl) W.heap.size 0 T.length (.slice (some ⟨W.heap.size, 0, none⟩) 0 0) v0 [] (encI T) (by rw [hz1]; exact hown) (by rw [hz1]; exact src_of_own Try.underlying61 h2' (encI_one T)) (by simp) (by unfold maxLen; omega) (by rw [hz2]; omega)
  rw [hz1, Nat.zero_add, List.nil_append] at ho
  have HF : Hid (w'.ownsRow W.heap.size 3 1 v' T.length (encI T) ∧ Turn (fun _ => False) W w') := ⟨ho, T0.trans (Turn.grown (S := fun b => b = W.heap.size) hg (fun k hk => .inl (by cases hk; rfl))) (fun b hb => .inr (by rw [hb]; exact Nat.le_refl _))⟩
  clear h h1 h2 h3 h1' h2' hown hi hz0 hz1 hz2 ho hg hb T0
  go_enter Try.func29, Try.ntmps29
  go_wp2_with (first
    | (at_builtin; refine Lib.wpList_append_run _ rfl _ _ 61 61 rfl _ _ rfl rfl _ _ (hr _) ?_; clear hr)
    | go_in)
  go_ret
  exact ⟨_, rfl, HF.out⟩
end Go.Proofs.Ytplobjdghaokoab
