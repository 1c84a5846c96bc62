import Derived.Test.YtilhceajhlaojaaGreatDoorAGn
namespace Go.Proofs.YtilhceajhlaojaaGreatDoor.Al
open Go.RowKit
set_option linter.unusedVariables false
set_option linter.unusedSimpArgs false
set_option maxRecDepth 100000 in
set_option maxHeartbeats 1000000 in
theorem gdo_lo (op a b : Int) (sh : Bool) (f : Fl) (w : World) (h : op < 1) :
    Calls Tryz.prog 82 #[.int .i64 op, .int .u32 a, .int .u32 b, .bool sh, .agg #[.bool f.n, .bool f.z, .bool f.c, .bool f.v]] w fun e w' => e = .returned (.tuple #[.int .u32 0, .bool false, .agg #[.bool f.n, .bool f.z, .bool f.c, .bool f.v]]) ∧ Below w.heap.size w w' := by
  have q0 : decide (op < 1) = true := decide_eq_true h
  clear h
  obtain ⟨fn, fz, fc, fv⟩ := f
  simp only at *
  have T3 : Hid (∀ o1 o2, Below w.heap.size w ((w.alloc o1).alloc o2)) := fun o1 o2 => ((Below.refl _ w).alloc (Nat.le_refl _) _).alloc (by simp) _
  have HS : Hid (∀ o l t, Bl ((w.alloc (.cells (l : List Value).toArray t)).alloc o) w.heap.size t l) := fun o l t => (Bl.new w t l).alloc o
  have HT : Hid (∀ o (l : List Value) t, Bl ((w.alloc o).alloc (.cells l.toArray t)) (w.heap.size + 1) t l) := fun o l t => by simpa using Bl.new (w.alloc o) t l
  go_enter Tryz.func82, Tryz.ntmps82
  go_wp2_with fail
  have S0 := HS.out (.cells #[.bool false, .bool false, .bool false, .bool false] 40) [.bool fn, .bool fz, .bool fc, .bool fv] 40
  have S1 := HT.out (.cells #[.bool fn, .bool fz, .bool fc, .bool fv] 40) [.bool false, .bool false, .bool false, .bool false] 40
  have S3 := T3.out (.cells #[.bool fn, .bool fz, .bool fc, .bool fv] 40) (.cells #[.bool false, .bool false, .bool false, .bool false] 40)
  clear T3 HS HT
  generalize ((w.alloc _).alloc _) = w2 at S0 S1 S3 ⊢
  obtain ⟨T1, T2, T0⟩ := put4 S1 S0 (by omega) (.bool fn) (.bool fz) (.bool fc) (.bool fv)
  have T3 : Hid (Below _ _ _) := T0 w.heap.size w (by omega) S3
  have T2 : Hid (Bl _ _ _ _) := T2.drew
  obtain ⟨⟨c0, c1, c2, c3⟩, d0, d1, d2, d3⟩ := S1.four
  obtain ⟨⟨k0, k1, k2, k3⟩, l0, l1, l2, l3⟩ := S0.drew.four
  clear T0 T1 S0 S1 S3
  go_region_held3 (fun w' => w'.cell? ⟨w.heap.size, 0, none⟩ = some (.bool fn) ∧ w'.cell? ⟨w.heap.size, 1, none⟩ = some (.bool fz) ∧ w'.cell? ⟨w.heap.size, 2, none⟩ = some (.bool fc) ∧ w'.cell? ⟨w.heap.size, 3, none⟩ = some (.bool fv)) (first | (with_reducible exact ⟨k0, k1, k2, k3⟩) | (with_reducible exact T2.out.four.1)) ((first | fail))
  go_wp2_with fail
  exact bodyPost_ret (v := .tuple #[.int .u32 0, .bool false, .agg #[.bool fn, .bool fz, .bool fc, .bool fv]]) (by simp [results, Tryz.results82, go_sem, c0, c1, c2, c3]) rfl ⟨rfl, below_drew T3.out⟩
set_option maxRecDepth 100000 in
set_option maxHeartbeats 1000000 in
theorem gdo_hi (op a b : Int) (sh : Bool) (f : Fl) (w : World) (h : 16 < op) :
    Calls Tryz.prog 82 #[.int .i64 op, .int .u32 a, .int .u32 b, .bool sh, .agg #[.bool f.n, .bool f.z, .bool f.c, .bool f.v]] w fun e w' => e = .returned (.tuple #[.int .u32 0, .bool false, .agg #[.bool f.n, .bool f.z, .bool f.c, .bool f.v]]) ∧ Below w.heap.size w w' := by
  have q0 : decide (op < 1) = false := decide_eq_false (by omega)
  have q1 : decide (16 < op) = true := decide_eq_true h
  clear h
  obtain ⟨fn, fz, fc, fv⟩ := f
  simp only at *
  have T3 : Hid (∀ o1 o2, Below w.heap.size w ((w.alloc o1).alloc o2)) := fun o1 o2 => ((Below.refl _ w).alloc (Nat.le_refl _) _).alloc (by simp) _
  have HS : Hid (∀ o l t, Bl ((w.alloc (.cells (l : List Value).toArray t)).alloc o) w.heap.size t l) := fun o l t => (Bl.new w t l).alloc o
  have HT : Hid (∀ o (l : List Value) t, Bl ((w.alloc o).alloc (.cells l.toArray t)) (w.heap.size + 1) t l) := fun o l t => by simpa using Bl.new (w.alloc o) t l
  go_enter Tryz.func82, Tryz.ntmps82
  go_wp2_with fail
  have S0 := HS.out (.cells #[.bool false, .bool false, .bool false, .bool false] 40) [.bool fn, .bool fz, .bool fc, .bool fv] 40
  have S1 := HT.out (.cells #[.bool fn, .bool fz, .bool fc, .bool fv] 40) [.bool false, .bool false, .bool false, .bool false] 40
  have S3 := T3.out (.cells #[.bool fn, .bool fz, .bool fc, .bool fv] 40) (.cells #[.bool false, .bool false, .bool false, .bool false] 40)
  clear T3 HS HT
  generalize ((w.alloc _).alloc _) = w2 at S0 S1 S3 ⊢
  obtain ⟨T1, T2, T0⟩ := put4 S1 S0 (by omega) (.bool fn) (.bool fz) (.bool fc) (.bool fv)
  have T3 : Hid (Below _ _ _) := T0 w.heap.size w (by omega) S3
  have T2 : Hid (Bl _ _ _ _) := T2.drew
  obtain ⟨⟨c0, c1, c2, c3⟩, d0, d1, d2, d3⟩ := S1.four
  obtain ⟨⟨k0, k1, k2, k3⟩, l0, l1, l2, l3⟩ := S0.drew.four
  clear T0 T1 S0 S1 S3
  go_region_held3 (fun w' => w'.cell? ⟨w.heap.size, 0, none⟩ = some (.bool fn) ∧ w'.cell? ⟨w.heap.size, 1, none⟩ = some (.bool fz) ∧ w'.cell? ⟨w.heap.size, 2, none⟩ = some (.bool fc) ∧ w'.cell? ⟨w.heap.size, 3, none⟩ = some (.bool fv)) (first | (with_reducible exact ⟨k0, k1, k2, k3⟩) | (with_reducible exact T2.out.four.1)) ((first | fail))
  go_wp2_with fail
  exact bodyPost_ret (v := .tuple #[.int .u32 0, .bool false, .agg #[.bool fn, .bool fz, .bool fc, .bool fv]]) (by simp [results, Tryz.results82, go_sem, c0, c1, c2, c3]) rfl ⟨rfl, below_drew T3.out⟩
theorem gdo_any (op a b : Int) (sh : Bool) (f : Fl) (w : World) (a0 : 0 ≤ a) (a1 : a < 4294967296) (b0 : 0 ≤ b) (b1 : b < 4294967296) :
    Calls Tryz.prog 82 #[.int .i64 op, .int .u32 a, .int .u32 b, .bool sh, .agg #[.bool f.n, .bool f.z, .bool f.c, .bool f.v]] w fun e w' => e = .returned (.tuple #[.int .u32 (dxW op a b f), .bool (dxR op), .agg #[.bool (dxF op a b sh f).n, .bool (dxF op a b sh f).z, .bool (dxF op a b sh f).c, .bool (dxF op a b sh f).v]]) ∧ Below w.heap.size w w' := by
  obtain ⟨fn, fz, fc, fv⟩ := f
  unfold dxW dxR dxF
  by_cases hl : op < 1
  · rw [if_pos (by omega), if_pos (by omega), if_pos (by omega)]
    exact gdo_lo op a b sh ⟨fn, fz, fc, fv⟩ w hl
  by_cases hh : 16 < op
  · rw [if_pos (by omega), if_pos (by omega), if_pos (by omega)]
    exact gdo_hi op a b sh ⟨fn, fz, fc, fv⟩ w hh
  rw [if_neg (by omega), if_neg (by omega), if_neg (by omega)]
  rcases (show op = 1 ∨ op = 2 ∨ op = 3 ∨ op = 4 ∨ op = 5 ∨ op = 6 ∨ op = 7 ∨ op = 8 ∨ op = 9 ∨ op = 10 ∨ op = 11 ∨ op = 12 ∨ op = 13 ∨ op = 14 ∨ op = 15 ∨ op = 16 by omega) with rfl | rfl | rfl | rfl | rfl | rfl | rfl | rfl | rfl | rfl | rfl | rfl | rfl | rfl | rfl | rfl
  · exact gdo_1 a b sh fn fz fc fv w a0 a1 b0 b1
  · exact gdo_2 a b sh fn fz fc fv w a0 a1 b0 b1
  · exact gdo_3 a b sh fn fz fc fv w a0 a1 b0 b1
  · exact gdo_4 a b sh fn fz fc fv w a0 a1 b0 b1
  · exact gdo_5 a b sh fn fz fc fv w a0 a1 b0 b1
  · exact gdo_6 a b sh fn fz fc fv w a0 a1 b0 b1
  · exact gdo_7 a b sh fn fz fc fv w a0 a1 b0 b1
  · exact gdo_8 a b sh fn fz fc fv w a0 a1 b0 b1
  · exact gdo_9 a b sh fn fz fc fv w a0 a1 b0 b1
  · exact gdo_10 a b sh fn fz fc fv w a0 a1 b0 b1
  · exact gdo_11 a b sh fn fz fc fv w a0 a1 b0 b1
  · exact gdo_12 a b sh fn fz fc fv w a0 a1 b0 b1
  · exact gdo_13 a b sh fn fz fc fv w a0 a1 b0 b1
  · exact gdo_14 a b sh fn fz fc fv w a0 a1 b0 b1
  · exact gdo_15 a b sh fn fz fc fv w a0 a1 b0 b1
  · exact gdo_16 a b sh fn fz fc fv w a0 a1 b0 b1
end Go.Proofs.YtilhceajhlaojaaGreatDoor.Al
