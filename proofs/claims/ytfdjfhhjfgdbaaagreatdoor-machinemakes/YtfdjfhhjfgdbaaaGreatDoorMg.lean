import Derived.Test.YtfdjfhhjfgdbaaaGreatDoorMd
namespace Go.Proofs.YtfdjfhhjfgdbaaaGreatDoor
open Go.RowKit
set_option linter.unusedVariables false
set_option linter.unusedSimpArgs false
theorem rg_decs (r : Int) (h : isR r = false) : decide (r < 0) = true ∨ (decide (r < 0) = false ∧ decide (12 < r) = true) := by
  have : ¬ (0 ≤ r ∧ r < 13) := fun h' => by rw [(isR_iff r).2 h'] at h; cases h
  by_cases h : r < 0
  · exact .inl (by simp [h])
  · exact .inr ⟨by simp [h], by simp; omega⟩
set_option maxRecDepth 100000 in
theorem eget_any (b : Nat) (F : List Nat) (r : Int) (w : World) (hF : Fi 107 w b F) : Calls Tryz.prog 10 #[.pointer (some ⟨b, 0, none⟩), .int .i64 r] w fun e w' => e = .returned (.tuple #[.int .u32 ((gtF F r).1 : Nat), .int .i64 ((gtF F r).2 : Nat)]) ∧ w = w' := by
  cases h : isR r
  · rw [gt_no F r h]
    have hd := rg_decs r h
    clear hF h
    rcases hd with d1 | ⟨d1, d2⟩
    all_goals
      go_enter Tryz.func10, Tryz.ntmps10
      go_wp2
      go_ret2
      exact ⟨rfl, rfl⟩
  · obtain ⟨h1, h2⟩ := (isR_iff r).1 h
    obtain ⟨k, rfl⟩ := Int.eq_ofNat_of_zero_le h1
    have hk : k < 13 := by omega
    rw [gt_yes F k hk]
    have d1 : decide ((k : Int) < 0) = false := by simp
    have d2 : decide (12 < (k : Int)) = false := by simp; omega
    have hc := hF.cell hk
    have hlt := hF.lt
    clear hF h h1
    go_enter Tryz.func10, Tryz.ntmps10
    go_wp2
    go_ret2
    exact ⟨rfl, rfl⟩
set_option maxRecDepth 100000 in
set_option maxHeartbeats 1000000 in
theorem enew_any (w : World) : Calls Tryz.prog 36 #[] w fun e w' => e = .returned (.pointer (some ⟨w.heap.size, 0, none⟩)) ∧ Fi 107 w' w.heap.size fZ ∧ Below w.heap.size w w' := by
  have hz : ∀ w, (zeroValue 107).run Tryz.prog w = .ok (.agg (encF (List.replicate 13 0)).toArray) w := fun w => by kernel_rfl
  have hbd : ∀ w, (Instr.build 107 #[]).run Tryz.prog w = .ok (.agg (encF (List.replicate 13 0)).toArray) w := fun w => by kernel_rfl
  have HZ : Hid (((encF (List.replicate 13 0)).set 10 (.int .u32 625316)).set 11 (.int .u32 1155549408) = encF fZ) := rfl
  have h10 : (encF (List.replicate 13 0))[10]? = some (.int .u32 0) := rfl
  have h11 : (encF (List.replicate 13 0))[11]? = some (.int .u32 0) := rfl
  have hlen : (encF (List.replicate 13 0)).length = 13 := rfl
  have HE : Hid (Fi 107 (w.alloc (.cells (encF fZ).toArray 107)) w.heap.size fZ) := ⟨Bl.new _ _ _, rfl, by simp [fZ, lRg]⟩
  have HB : Hid (∀ o, Below w.heap.size w (w.alloc o)) := fun o => below_new _ _
  generalize encF (List.replicate 13 0) = Z0 at *
  go_enter Tryz.func36, Tryz.ntmps36
  go_wp2
  go_ret
  rw [HZ.out]
  exact ⟨rfl, HE.out, HB.out _⟩
end Go.Proofs.YtfdjfhhjfgdbaaaGreatDoor
