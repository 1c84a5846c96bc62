import Derived.Test.YtnjlajjjcmhfgaaGreatDoorQA26
import Derived.Laws.CopyRow
import Derived.Laws.Externs
import Derived.Deep.Draws
namespace Go.Proofs.YtnjlajjjcmhfgaaGreatDoor
open Go.RowKit
open Mm (Turn)
set_option linter.unusedVariables false
set_option linter.unusedSimpArgs false
theorem zeros_len (n : Nat) : (List.replicate n sZ).length = n := List.length_replicate
theorem PT.made (T : TypeId) (W : World) (n : Nat) (h1 : 1 ≤ n) (h2 : n ≤ 64) (hT : T ≠ 135) :
    PT T ((W.alloc (.cells (rowS (List.replicate n sZ)).toArray 135)).alloc (.cells #[.slice (some ⟨W.heap.size, 0, none⟩) n n] T)) (W.heap.size + 1) W.heap.size (List.replicate n sZ) := by
  have h3 := Bl.new (W.alloc (.cells (rowS (List.replicate n sZ)).toArray 135)) T [.slice (some ⟨W.heap.size, 0, none⟩) n n]
  rw [show (W.alloc (.cells (rowS (List.replicate n sZ)).toArray 135)).heap.size = W.heap.size + 1 by simp] at h3
  refine ⟨?_, (Bl.new W 135 (rowS (List.replicate n sZ))).below (below_new _ _), LOk.zeros n, by rw [zeros_len]; exact h1, by rw [zeros_len]; exact h2, hT⟩
  rw [zeros_len]
  exact h3
set_option maxRecDepth 100000 in
set_option maxHeartbeats 4000000 in
theorem new_yes (n : Nat) (W : World) (h1 : 1 ≤ n) (h2 : n ≤ 64) : Calls Tryz.prog 27 #[.int .i64 (n : Int)] W fun e w' => e = .returned (.tuple #[.pointer (some ⟨W.heap.size + 1, 0, none⟩), .int .i64 0]) ∧ PT 133 w' (W.heap.size + 1) W.heap.size (List.replicate n sZ) ∧ Below W.heap.size W w' := by
  have hm := makeS W n h2
  have HP := hidW (PT.made 133 W n h1 h2 (by decide))
  have HB := hidW (Below.step (below_new W (.cells (rowS (List.replicate n sZ)).toArray 135)) (below_new _ (.cells #[.slice (some ⟨W.heap.size, 0, none⟩) n n] 133)))
  generalize rowS (List.replicate n sZ) = R at *
  have q1 : ¬ (n : Int) < 1 := by omega
  have q2 : ¬ (64 : Int) < n := by omega
  go_enter Tryz.func27, Tryz.ntmps27
  go_wp2
  go_ret2
  exact ⟨rfl, HP.out, HB.out⟩
set_option maxRecDepth 100000 in
set_option maxHeartbeats 4000000 in
theorem new_no (n : Int) (W : World) (h : n < 1 ∨ 64 < n) : Calls Tryz.prog 27 #[.int .i64 n] W fun e w' => e = .returned (.tuple #[.pointer none, .int .i64 100]) ∧ W = w' := by
  by_cases h1 : n < 1
  · have q : decide (n < 1) = true := decide_eq_true h1
    go_enter Tryz.func27, Tryz.ntmps27
    go_wp2
    go_ret2
    exact ⟨rfl, rfl⟩
  · have q : decide (n < 1) = false := decide_eq_false h1
    have q2 : 64 < n := by omega
    go_enter Tryz.func27, Tryz.ntmps27
    go_wp2
    go_ret2
    exact ⟨rfl, rfl⟩
/-- copy over a whole row. -/
theorem copyS (w : World) (g h n : Nat) (L M : List Slo) (hg : Bl w g 135 (rowS L)) (hh : Bl w h 135 (rowS M)) (hL : L.length = n) (hM : M.length = n) :
    ∃ w', (∀ ty, (Builtin.copy_ #[131, 131] ty #[.slice (some ⟨h, 0, none⟩) n n, .slice (some ⟨g, 0, none⟩) n n]).run Tryz.prog w = .ok (.int .i64 (n : Int)) w') ∧ Bl w' h 135 (rowS L) ∧ Turn (· = h) w w' := by
  obtain ⟨i, hi, hz, h1, h2⟩ := info_parts infoS
  have hl := run_loadCells_list (P := Tryz.prog) w ⟨g, 0, none⟩ (rowS L) (fun j v hv => by rw [Addr.add_lit, Nat.zero_add, hg.cell]; exact hv)
  have hst := run_storeCells_at Tryz.prog h 0 135 (rowS L) 0 (rowS M).toArray w hh (by simp [rowS_len, hL, hM]) (rowS_one L)
  have hlen : (rowS L).length = n * 10 := by rw [rowS_len, hL]
  have hlen2 : (rowS M).length = n * 10 := by rw [rowS_len, hM]
  have he : ((rowS M).take 0 ++ rowS L ++ (rowS M).drop (0 + (rowS L).length)) = rowS L := by
    rw [List.drop_of_length_le (by rw [hlen, hlen2]; omega)]; simp
  refine ⟨w.setRow h (rowS L).toArray, ?_, setRow_heap w h _ _ 135 _ hh, ⟨rfl, rfl, rfl, by simp [World.setRow], fun k _ hn => setRow_other w h k _ hn⟩⟩
  intro ty
  simp only [Nat.add_zero] at hst
  simp [Builtin.copy_, run_underlying Tryz.underlying131, Builtin.lenOf, Builtin.firstCells, sizeOf, typeInfo, hi, h1, ← hlen, hl, hst]
  exact ⟨rfl, by rw [List.drop_of_length_le (by rw [hlen, hlen2]; omega), List.append_nil]⟩
end Go.Proofs.YtnjlajjjcmhfgaaGreatDoor
