import Derived.Test.YtfdjfhhjfgdbaaaGreatDoorBa
namespace Go.Proofs.YtfdjfhhjfgdbaaaGreatDoor
open Go.RowKit
set_option linter.unusedVariables false
set_option linter.unusedSimpArgs false
theorem zeros_len (n : Nat) : (List.replicate n sZ).length = n := List.length_replicate
theorem PT.made (T : TypeId) (W : World) (n : Nat) (h1 : 1 ≤ n) (h2 : n ≤ 64) (hT : T ≠ 116) :
    PT T ((W.alloc (.cells (rowS (List.replicate n sZ)).toArray 116)).alloc (.cells #[.slice (some ⟨W.heap.size, 0, none⟩) n n] T)) (W.heap.size + 1) W.heap.size (List.replicate n sZ) := by
  have h3 := Bl.new (W.alloc (.cells (rowS (List.replicate n sZ)).toArray 116)) T [.slice (some ⟨W.heap.size, 0, none⟩) n n]
  rw [show (W.alloc (.cells (rowS (List.replicate n sZ)).toArray 116)).heap.size = W.heap.size + 1 by simp] at h3
  refine ⟨?_, (Bl.new W 116 (rowS (List.replicate n sZ))).below (below_new _ _), LOk.zeros n, by rw [zeros_len]; exact h1, by rw [zeros_len]; exact h2, hT⟩
  rw [zeros_len]
  exact h3
set_option maxRecDepth 100000 in
set_option maxHeartbeats 4000000 in
theorem new_yes (n : Nat) (W : World) (h1 : 1 ≤ n) (h2 : n ≤ 64) : Calls Tryz.prog 52 #[.int .i64 (n : Int)] W fun e w' => e = .returned (.tuple #[.pointer (some ⟨W.heap.size + 1, 0, none⟩), .int .i64 0]) ∧ PT 184 w' (W.heap.size + 1) W.heap.size (List.replicate n sZ) ∧ Below W.heap.size W w' := by
  have hm := makeS W n h2
  have HP := hidW (PT.made 184 W n h1 h2 (by decide))
  have HB := hidW (Below.step (below_new W (.cells (rowS (List.replicate n sZ)).toArray 116)) (below_new _ (.cells #[.slice (some ⟨W.heap.size, 0, none⟩) n n] 184)))
  generalize rowS (List.replicate n sZ) = R at *
  have q1 : ¬ (n : Int) < 1 := by omega
  have q2 : ¬ (64 : Int) < n := by omega
  go_enter Tryz.func52, Tryz.ntmps52
  go_wp2
  go_ret2
  exact ⟨rfl, HP.out, HB.out⟩
set_option maxRecDepth 100000 in
set_option maxHeartbeats 4000000 in
theorem new_no (n : Int) (W : World) (h : n < 1 ∨ 64 < n) : Calls Tryz.prog 52 #[.int .i64 n] W fun e w' => e = .returned (.tuple #[.pointer none, .int .i64 100]) ∧ W = w' := by
  by_cases h1 : n < 1
  · have q : decide (n < 1) = true := decide_eq_true h1
    go_enter Tryz.func52, Tryz.ntmps52
    go_wp2
    go_ret2
    exact ⟨rfl, rfl⟩
  · have q : decide (n < 1) = false := decide_eq_false h1
    have q2 : 64 < n := by omega
    go_enter Tryz.func52, Tryz.ntmps52
    go_wp2
    go_ret2
    exact ⟨rfl, rfl⟩
set_option maxRecDepth 100000 in
set_option maxHeartbeats 4000000 in
theorem unew_yes (n : Nat) (W : World) (h1 : 1 ≤ n) (h2 : n ≤ 64) : Calls Tryz.prog 53 #[.int .i64 (n : Int)] W fun e w' => e = .returned (.tuple #[.pointer (some ⟨W.heap.size + 1, 0, none⟩), .int .i64 0]) ∧ PT 118 w' (W.heap.size + 1) W.heap.size (List.replicate n sZ) ∧ Below W.heap.size W w' := by
  have hm := makeS W n h2
  have HP := hidW (PT.made 118 W n h1 h2 (by decide))
  have HB := hidW (Below.step (below_new W (.cells (rowS (List.replicate n sZ)).toArray 116)) (below_new _ (.cells #[.slice (some ⟨W.heap.size, 0, none⟩) n n] 118)))
  generalize rowS (List.replicate n sZ) = R at *
  have q1 : ¬ (n : Int) < 1 := by omega
  have q2 : ¬ (64 : Int) < n := by omega
  go_enter Tryz.func53, Tryz.ntmps53
  go_wp2
  go_ret2
  exact ⟨rfl, HP.out, HB.out⟩
set_option maxRecDepth 100000 in
set_option maxHeartbeats 4000000 in
theorem unew_no (n : Int) (W : World) (h : n < 1 ∨ 64 < n) : Calls Tryz.prog 53 #[.int .i64 n] W fun e w' => e = .returned (.tuple #[.pointer none, .int .i64 100]) ∧ W = w' := by
  by_cases h1 : n < 1
  · have q : decide (n < 1) = true := decide_eq_true h1
    go_enter Tryz.func53, Tryz.ntmps53
    go_wp2
    go_ret2
    exact ⟨rfl, rfl⟩
  · have q : decide (n < 1) = false := decide_eq_false h1
    have q2 : 64 < n := by omega
    go_enter Tryz.func53, Tryz.ntmps53
    go_wp2
    go_ret2
    exact ⟨rfl, rfl⟩
/-- copy over a whole row. -/
theorem copyS (w : World) (g h n : Nat) (L M : List Slo) (hg : Bl w g 116 (rowS L)) (hh : Bl w h 116 (rowS M)) (hL : L.length = n) (hM : M.length = n) :
    ∃ w', (∀ ty, (Builtin.copy_ #[66, 66] ty #[.slice (some ⟨h, 0, none⟩) n n, .slice (some ⟨g, 0, none⟩) n n]).run Tryz.prog w = .ok (.int .i64 (n : Int)) w') ∧ Bl w' h 116 (rowS L) ∧ Turn (· = h) w w' := by
  obtain ⟨i, hi, hz, h1, h2⟩ := info_parts infoS
  have hl := run_loadCells_list (P := Tryz.prog) w ⟨g, 0, none⟩ (rowS L) (fun j v hv => by rw [Addr.add_lit, Nat.zero_add, hg.cell]; exact hv)
  have hst := run_storeCells_at Tryz.prog h 0 116 (rowS L) 0 (rowS M).toArray w hh (by simp [rowS_len, hL, hM]) (rowS_one L)
  have hlen : (rowS L).length = n * 10 := by rw [rowS_len, hL]
  have hlen2 : (rowS M).length = n * 10 := by rw [rowS_len, hM]
  have he : ((rowS M).take 0 ++ rowS L ++ (rowS M).drop (0 + (rowS L).length)) = rowS L := by
    rw [List.drop_of_length_le (by rw [hlen, hlen2]; omega)]; simp
  refine ⟨w.setRow h (rowS L).toArray, ?_, setRow_heap w h _ _ 116 _ hh, ⟨rfl, rfl, rfl, by simp [World.setRow], fun k _ hn => setRow_other w h k _ hn⟩⟩
  intro ty
  simp only [Nat.add_zero] at hst
  simp [Builtin.copy_, run_underlying Tryz.underlying66, Builtin.lenOf, Builtin.firstCells, sizeOf, typeInfo, hi, h1, ← hlen, hl, hst]
  exact ⟨rfl, by rw [List.drop_of_length_le (by rw [hlen, hlen2]; omega), List.append_nil]⟩
set_option maxRecDepth 100000 in
set_option maxHeartbeats 4000000 in
theorem places_any (W : World) (p g : Nat) (L : List Slo) (hP : PT 184 W p g L) :
    Calls Tryz.prog 59 #[.pointer (some ⟨p, 0, none⟩)] W fun e w' => e = .returned (.slice (some ⟨W.heap.size, 0, none⟩) L.length L.length) ∧ Bl w' W.heap.size 116 (rowS L) ∧ Below W.heap.size W w' := by
  have c0 := hP.cell
  have hm := makeS W L.length hP.hi
  have hb1 := below_new W (.cells (rowS (List.replicate L.length sZ)).toArray 116)
  have hP1 := hP.below hb1
  have c1 := hP1.cell
  obtain ⟨w2, hr, hB, hT⟩ := copyS (W.alloc (.cells (rowS (List.replicate L.length sZ)).toArray 116)) g W.heap.size L.length L (List.replicate L.length sZ) hP1.row (Bl.new _ _ _) rfl (zeros_len _)
  have HF : Hid (Bl w2 W.heap.size 116 (rowS L) ∧ Below W.heap.size W w2) := hidW ⟨hB, ((Turn.below (S := (· = W.heap.size)) hb1).trans hT (fun x hx => .inl hx)).to (fun x hx => by rw [hx]; exact Nat.le_refl _) (Nat.le_refl _)⟩
  have hr3 := hr 3
  have hlt := hP.box.lt
  clear hP hb1 hP1 hB hT hr
  generalize rowS (List.replicate L.length sZ) = Z at *
  go_enter Tryz.func59, Tryz.ntmps59
  go_wp2
  go_ret
  exact ⟨rfl, HF.out.1, HF.out.2⟩
end Go.Proofs.YtfdjfhhjfgdbaaaGreatDoor
