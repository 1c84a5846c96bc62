import Derived.Test.YtaahbklganhfkaaDoorRights
namespace Go.Proofs.YtaahbklganhfkaaDoor
open Go.RowKit
set_option linter.unusedVariables false

theorem eq_of_list {x y : ByteArray} (h : x.toList = y.toList) : x = y := by
  rw [Lib.toList_data, Lib.toList_data] at h
  rw [← Lib.mk_data x, ← Lib.mk_data y, h]

/-- The n-th text that atlasref01.Rights tries. -/
def nth (n : Nat) : ByteArray := rtx (decide (4 ≤ n)) (decide (n / 2 % 2 = 1)) (decide (n % 2 = 1))
theorem rtx_nth : ∀ a b c : Bool, ∃ n, n < 8 ∧ rtx a b c = nth n := by
  intro a b c
  refine ⟨(if a then 4 else 0) + (if b then 2 else 0) + (if c then 1 else 0), ?_, ?_⟩
  · cases a <;> cases b <;> cases c <;> decide
  · cases a <;> cases b <;> cases c <;> rfl

theorem next_no {s : ByteArray} {k : Nat} (h : ∀ j, j < k → s ≠ nth j) (hq : ((nth k).toList == s.toList) = false) : ∀ j, j < k + 1 → s ≠ nth j := by
  intro j hj he
  rcases Nat.lt_or_eq_of_le (Nat.le_of_lt_succ hj) with h1 | rfl
  · exact h j h1 he
  · rw [he] at hq
    simp at hq

theorem after_text {w wr w2 : World} {x0 x1 x2 : Value} (hB : Below w.heap.size w wr) (hsz : w.heap.size < wr.heap.size) (hblk : wr.heap[w.heap.size]? = some (.cells #[.bool false, .bool false, .bool false] 26 (0, 0)))
    (hb : Below (wr.alloc (.cells #[x0, x1, x2] 26)).heap.size (wr.alloc (.cells #[x0, x1, x2] 26)) w2) :
    w2.cell? ⟨w.heap.size, 0, none⟩ = some (.bool false) ∧ w2.cell? ⟨w.heap.size, 1, none⟩ = some (.bool false) ∧ w2.cell? ⟨w.heap.size, 2, none⟩ = some (.bool false) ∧
    w2.frozen? ⟨w.heap.size, 0, none⟩ = false ∧ w2.frozen? ⟨w.heap.size, 1, none⟩ = false ∧ w2.frozen? ⟨w.heap.size, 2, none⟩ = false ∧
    w2.cell? ⟨wr.heap.size, 0, none⟩ = some x0 ∧ w2.cell? ⟨wr.heap.size, 1, none⟩ = some x1 ∧ w2.cell? ⟨wr.heap.size, 2, none⟩ = some x2 ∧
    w2.heap[w.heap.size]? = some (.cells #[.bool false, .bool false, .bool false] 26 (0, 0)) ∧ Below w.heap.size w w2 ∧ w.heap.size < w2.heap.size := by
  have hs : (wr.alloc (.cells #[x0, x1, x2] 26)).heap.size = wr.heap.size + 1 := by simp
  have hblk2 : w2.heap[w.heap.size]? = some (.cells #[.bool false, .bool false, .bool false] 26 (0, 0)) := by
    rw [hb.block _ (by omega), Below.heap_alloc _ _ _ hsz]
    exact hblk
  have hblk3 : w2.heap[wr.heap.size]? = some (.cells #[x0, x1, x2] 26 (0, 0)) := by
    rw [hb.block _ (by omega)]
    show (wr.heap.push _)[wr.heap.size]? = _
    simp
  refine ⟨?_, ?_, ?_, ?_, ?_, ?_, ?_, ?_, ?_, hblk2, (hB.alloc (by omega) _).trans (hb.mono (by omega)), by have := hb.size; omega⟩
  all_goals simp [World.cell?, World.frozen?, hblk2, hblk3]

set_option maxRecDepth 100000 in
set_option maxHeartbeats 3000000 in
/-- atlasref01.Rights. -/
theorem refRights_any (s : ByteArray) (w : World) :
    Calls Tryd.prog 7 #[.string s] w fun e w' => ∃ a b c r, RightsSaid s a b c r ∧ e = .returned (.tuple #[.agg #[.bool a, .bool b, .bool c], .int .i64 r]) ∧ Below w.heap.size w w' := by
  go_enter Tryd.func7, Tryd.ntmps7
  go_wp2
  go_loopw [4, 5] (fun i _ wr => ∃ k : Nat, k ≤ 8 ∧ i = .int .i64 k ∧ Below w.heap.size w wr ∧ w.heap.size < wr.heap.size ∧ wr.heap[w.heap.size]? = some (.cells #[.bool false, .bool false, .bool false] 26 (0, 0)) ∧ Hid (∀ j, j < k → s ≠ nth j)) (fun i _ _ => 8 - (intOf i).toNat)
  case atStart => exact ⟨0, by omega, rfl, (Below.refl _ _).alloc (Nat.le_refl _) _, by simp, by show (w.heap.push _)[w.heap.size]? = _; simp, fun j hj => by omega⟩
  case round =>
    obtain ⟨k, h8, rfl, hB, hsz, hblk, hh⟩ := hrel
    rcases (show k = 0 ∨ k = 1 ∨ k = 2 ∨ k = 3 ∨ k = 4 ∨ k = 5 ∨ k = 6 ∨ k = 7 ∨ k = 8 by omega) with rfl | rfl | rfl | rfl | rfl | rfl | rfl | rfl | rfl
    · cases hq : ((rtx false false false).toList == s.toList)
      · have HQ : Hid (_ = _) := hq
        clear hq
        go_wp2_with fail
        refine (refText_any false false false _).mono ?_
        rintro e w2 ⟨rfl, hb⟩
        obtain ⟨q0, q1, q2, f0, f1, f2, r0, r1, r2, hblk2, hB2, hsz2⟩ := after_text hB hsz hblk hb
        clear hb
        generalize hx : rtx false false false = x at HQ ⊢
        have HX : Hid (_ = _) := hx
        have hq := HQ.out
        clear hx
        go_wp2
        go_roundw
        case rel => exact ⟨1, by omega, rfl, hB2, hsz2, hblk2, next_no hh.out (by rw [show nth 0 = x from HX.out]; exact HQ.out)⟩
        case measure => simp [intOf]
      · have HQ : Hid (_ = _) := hq
        clear hq
        go_wp2_with fail
        refine (refText_any false false false _).mono ?_
        rintro e w2 ⟨rfl, hb⟩
        obtain ⟨q0, q1, q2, f0, f1, f2, r0, r1, r2, hblk2, hB2, hsz2⟩ := after_text hB hsz hblk hb
        clear hb
        generalize hx : rtx false false false = x at HQ ⊢
        have HX : Hid (_ = _) := hx
        have hq := HQ.out
        clear hx
        go_wp2
        refine bodyPost_ret (v := .tuple #[.agg #[.bool false, .bool false, .bool false], .int .i64 0]) (by simp [results, Tryd.results7, go_sem, q0, q1, q2]) rfl ⟨_, _, _, _, .inl ⟨?_, rfl⟩, rfl, ?_⟩
        · rw [HX.out]
          exact (eq_of_list (beq_iff_eq.1 HQ.out)).symm
        · exact ((hB2.setCell (Nat.le_refl _) _).setCell (Nat.le_refl _) _).setCell (Nat.le_refl _) _
    · cases hq : ((rtx false false true).toList == s.toList)
      · have HQ : Hid (_ = _) := hq
        clear hq
        go_wp2_with fail
        refine (refText_any false false true _).mono ?_
        rintro e w2 ⟨rfl, hb⟩
        obtain ⟨q0, q1, q2, f0, f1, f2, r0, r1, r2, hblk2, hB2, hsz2⟩ := after_text hB hsz hblk hb
        clear hb
        generalize hx : rtx false false true = x at HQ ⊢
        have HX : Hid (_ = _) := hx
        have hq := HQ.out
        clear hx
        go_wp2
        go_roundw
        case rel => exact ⟨2, by omega, rfl, hB2, hsz2, hblk2, next_no hh.out (by rw [show nth 1 = x from HX.out]; exact HQ.out)⟩
        case measure => simp [intOf]
      · have HQ : Hid (_ = _) := hq
        clear hq
        go_wp2_with fail
        refine (refText_any false false true _).mono ?_
        rintro e w2 ⟨rfl, hb⟩
        obtain ⟨q0, q1, q2, f0, f1, f2, r0, r1, r2, hblk2, hB2, hsz2⟩ := after_text hB hsz hblk hb
        clear hb
        generalize hx : rtx false false true = x at HQ ⊢
        have HX : Hid (_ = _) := hx
        have hq := HQ.out
        clear hx
        go_wp2
        refine bodyPost_ret (v := .tuple #[.agg #[.bool false, .bool false, .bool true], .int .i64 0]) (by simp [results, Tryd.results7, go_sem, q0, q1, q2]) rfl ⟨_, _, _, _, .inl ⟨?_, rfl⟩, rfl, ?_⟩
        · rw [HX.out]
          exact (eq_of_list (beq_iff_eq.1 HQ.out)).symm
        · exact ((hB2.setCell (Nat.le_refl _) _).setCell (Nat.le_refl _) _).setCell (Nat.le_refl _) _
    · cases hq : ((rtx false true false).toList == s.toList)
      · have HQ : Hid (_ = _) := hq
        clear hq
        go_wp2_with fail
        refine (refText_any false true false _).mono ?_
        rintro e w2 ⟨rfl, hb⟩
        obtain ⟨q0, q1, q2, f0, f1, f2, r0, r1, r2, hblk2, hB2, hsz2⟩ := after_text hB hsz hblk hb
        clear hb
        generalize hx : rtx false true false = x at HQ ⊢
        have HX : Hid (_ = _) := hx
        have hq := HQ.out
        clear hx
        go_wp2
        go_roundw
        case rel => exact ⟨3, by omega, rfl, hB2, hsz2, hblk2, next_no hh.out (by rw [show nth 2 = x from HX.out]; exact HQ.out)⟩
        case measure => simp [intOf]
      · have HQ : Hid (_ = _) := hq
        clear hq
        go_wp2_with fail
        refine (refText_any false true false _).mono ?_
        rintro e w2 ⟨rfl, hb⟩
        obtain ⟨q0, q1, q2, f0, f1, f2, r0, r1, r2, hblk2, hB2, hsz2⟩ := after_text hB hsz hblk hb
        clear hb
        generalize hx : rtx false true false = x at HQ ⊢
        have HX : Hid (_ = _) := hx
        have hq := HQ.out
        clear hx
        go_wp2
        refine bodyPost_ret (v := .tuple #[.agg #[.bool false, .bool true, .bool false], .int .i64 0]) (by simp [results, Tryd.results7, go_sem, q0, q1, q2]) rfl ⟨_, _, _, _, .inl ⟨?_, rfl⟩, rfl, ?_⟩
        · rw [HX.out]
          exact (eq_of_list (beq_iff_eq.1 HQ.out)).symm
        · exact ((hB2.setCell (Nat.le_refl _) _).setCell (Nat.le_refl _) _).setCell (Nat.le_refl _) _
    · cases hq : ((rtx false true true).toList == s.toList)
      · have HQ : Hid (_ = _) := hq
        clear hq
        go_wp2_with fail
        refine (refText_any false true true _).mono ?_
        rintro e w2 ⟨rfl, hb⟩
        obtain ⟨q0, q1, q2, f0, f1, f2, r0, r1, r2, hblk2, hB2, hsz2⟩ := after_text hB hsz hblk hb
        clear hb
        generalize hx : rtx false true true = x at HQ ⊢
        have HX : Hid (_ = _) := hx
        have hq := HQ.out
        clear hx
        go_wp2
        go_roundw
        case rel => exact ⟨4, by omega, rfl, hB2, hsz2, hblk2, next_no hh.out (by rw [show nth 3 = x from HX.out]; exact HQ.out)⟩
        case measure => simp [intOf]
      · have HQ : Hid (_ = _) := hq
        clear hq
        go_wp2_with fail
        refine (refText_any false true true _).mono ?_
        rintro e w2 ⟨rfl, hb⟩
        obtain ⟨q0, q1, q2, f0, f1, f2, r0, r1, r2, hblk2, hB2, hsz2⟩ := after_text hB hsz hblk hb
        clear hb
        generalize hx : rtx false true true = x at HQ ⊢
        have HX : Hid (_ = _) := hx
        have hq := HQ.out
        clear hx
        go_wp2
        refine bodyPost_ret (v := .tuple #[.agg #[.bool false, .bool true, .bool true], .int .i64 0]) (by simp [results, Tryd.results7, go_sem, q0, q1, q2]) rfl ⟨_, _, _, _, .inl ⟨?_, rfl⟩, rfl, ?_⟩
        · rw [HX.out]
          exact (eq_of_list (beq_iff_eq.1 HQ.out)).symm
        · exact ((hB2.setCell (Nat.le_refl _) _).setCell (Nat.le_refl _) _).setCell (Nat.le_refl _) _
    · cases hq : ((rtx true false false).toList == s.toList)
      · have HQ : Hid (_ = _) := hq
        clear hq
        go_wp2_with fail
        refine (refText_any true false false _).mono ?_
        rintro e w2 ⟨rfl, hb⟩
        obtain ⟨q0, q1, q2, f0, f1, f2, r0, r1, r2, hblk2, hB2, hsz2⟩ := after_text hB hsz hblk hb
        clear hb
        generalize hx : rtx true false false = x at HQ ⊢
        have HX : Hid (_ = _) := hx
        have hq := HQ.out
        clear hx
        go_wp2
        go_roundw
        case rel => exact ⟨5, by omega, rfl, hB2, hsz2, hblk2, next_no hh.out (by rw [show nth 4 = x from HX.out]; exact HQ.out)⟩
        case measure => simp [intOf]
      · have HQ : Hid (_ = _) := hq
        clear hq
        go_wp2_with fail
        refine (refText_any true false false _).mono ?_
        rintro e w2 ⟨rfl, hb⟩
        obtain ⟨q0, q1, q2, f0, f1, f2, r0, r1, r2, hblk2, hB2, hsz2⟩ := after_text hB hsz hblk hb
        clear hb
        generalize hx : rtx true false false = x at HQ ⊢
        have HX : Hid (_ = _) := hx
        have hq := HQ.out
        clear hx
        go_wp2
        refine bodyPost_ret (v := .tuple #[.agg #[.bool true, .bool false, .bool false], .int .i64 0]) (by simp [results, Tryd.results7, go_sem, q0, q1, q2]) rfl ⟨_, _, _, _, .inl ⟨?_, rfl⟩, rfl, ?_⟩
        · rw [HX.out]
          exact (eq_of_list (beq_iff_eq.1 HQ.out)).symm
        · exact ((hB2.setCell (Nat.le_refl _) _).setCell (Nat.le_refl _) _).setCell (Nat.le_refl _) _
    · cases hq : ((rtx true false true).toList == s.toList)
      · have HQ : Hid (_ = _) := hq
        clear hq
        go_wp2_with fail
        refine (refText_any true false true _).mono ?_
        rintro e w2 ⟨rfl, hb⟩
        obtain ⟨q0, q1, q2, f0, f1, f2, r0, r1, r2, hblk2, hB2, hsz2⟩ := after_text hB hsz hblk hb
        clear hb
        generalize hx : rtx true false true = x at HQ ⊢
        have HX : Hid (_ = _) := hx
        have hq := HQ.out
        clear hx
        go_wp2
        go_roundw
        case rel => exact ⟨6, by omega, rfl, hB2, hsz2, hblk2, next_no hh.out (by rw [show nth 5 = x from HX.out]; exact HQ.out)⟩
        case measure => simp [intOf]
      · have HQ : Hid (_ = _) := hq
        clear hq
        go_wp2_with fail
        refine (refText_any true false true _).mono ?_
        rintro e w2 ⟨rfl, hb⟩
        obtain ⟨q0, q1, q2, f0, f1, f2, r0, r1, r2, hblk2, hB2, hsz2⟩ := after_text hB hsz hblk hb
        clear hb
        generalize hx : rtx true false true = x at HQ ⊢
        have HX : Hid (_ = _) := hx
        have hq := HQ.out
        clear hx
        go_wp2
        refine bodyPost_ret (v := .tuple #[.agg #[.bool true, .bool false, .bool true], .int .i64 0]) (by simp [results, Tryd.results7, go_sem, q0, q1, q2]) rfl ⟨_, _, _, _, .inl ⟨?_, rfl⟩, rfl, ?_⟩
        · rw [HX.out]
          exact (eq_of_list (beq_iff_eq.1 HQ.out)).symm
        · exact ((hB2.setCell (Nat.le_refl _) _).setCell (Nat.le_refl _) _).setCell (Nat.le_refl _) _
    · cases hq : ((rtx true true false).toList == s.toList)
      · have HQ : Hid (_ = _) := hq
        clear hq
        go_wp2_with fail
        refine (refText_any true true false _).mono ?_
        rintro e w2 ⟨rfl, hb⟩
        obtain ⟨q0, q1, q2, f0, f1, f2, r0, r1, r2, hblk2, hB2, hsz2⟩ := after_text hB hsz hblk hb
        clear hb
        generalize hx : rtx true true false = x at HQ ⊢
        have HX : Hid (_ = _) := hx
        have hq := HQ.out
        clear hx
        go_wp2
        go_roundw
        case rel => exact ⟨7, by omega, rfl, hB2, hsz2, hblk2, next_no hh.out (by rw [show nth 6 = x from HX.out]; exact HQ.out)⟩
        case measure => simp [intOf]
      · have HQ : Hid (_ = _) := hq
        clear hq
        go_wp2_with fail
        refine (refText_any true true false _).mono ?_
        rintro e w2 ⟨rfl, hb⟩
        obtain ⟨q0, q1, q2, f0, f1, f2, r0, r1, r2, hblk2, hB2, hsz2⟩ := after_text hB hsz hblk hb
        clear hb
        generalize hx : rtx true true false = x at HQ ⊢
        have HX : Hid (_ = _) := hx
        have hq := HQ.out
        clear hx
        go_wp2
        refine bodyPost_ret (v := .tuple #[.agg #[.bool true, .bool true, .bool false], .int .i64 0]) (by simp [results, Tryd.results7, go_sem, q0, q1, q2]) rfl ⟨_, _, _, _, .inl ⟨?_, rfl⟩, rfl, ?_⟩
        · rw [HX.out]
          exact (eq_of_list (beq_iff_eq.1 HQ.out)).symm
        · exact ((hB2.setCell (Nat.le_refl _) _).setCell (Nat.le_refl _) _).setCell (Nat.le_refl _) _
    · cases hq : ((rtx true true true).toList == s.toList)
      · have HQ : Hid (_ = _) := hq
        clear hq
        go_wp2_with fail
        refine (refText_any true true true _).mono ?_
        rintro e w2 ⟨rfl, hb⟩
        obtain ⟨q0, q1, q2, f0, f1, f2, r0, r1, r2, hblk2, hB2, hsz2⟩ := after_text hB hsz hblk hb
        clear hb
        generalize hx : rtx true true true = x at HQ ⊢
        have HX : Hid (_ = _) := hx
        have hq := HQ.out
        clear hx
        go_wp2
        go_roundw
        case rel => exact ⟨8, by omega, rfl, hB2, hsz2, hblk2, next_no hh.out (by rw [show nth 7 = x from HX.out]; exact HQ.out)⟩
        case measure => simp [intOf]
      · have HQ : Hid (_ = _) := hq
        clear hq
        go_wp2_with fail
        refine (refText_any true true true _).mono ?_
        rintro e w2 ⟨rfl, hb⟩
        obtain ⟨q0, q1, q2, f0, f1, f2, r0, r1, r2, hblk2, hB2, hsz2⟩ := after_text hB hsz hblk hb
        clear hb
        generalize hx : rtx true true true = x at HQ ⊢
        have HX : Hid (_ = _) := hx
        have hq := HQ.out
        clear hx
        go_wp2
        refine bodyPost_ret (v := .tuple #[.agg #[.bool true, .bool true, .bool true], .int .i64 0]) (by simp [results, Tryd.results7, go_sem, q0, q1, q2]) rfl ⟨_, _, _, _, .inl ⟨?_, rfl⟩, rfl, ?_⟩
        · rw [HX.out]
          exact (eq_of_list (beq_iff_eq.1 HQ.out)).symm
        · exact ((hB2.setCell (Nat.le_refl _) _).setCell (Nat.le_refl _) _).setCell (Nat.le_refl _) _
    · have hc0 : wr.cell? ⟨w.heap.size, 0, none⟩ = some (.bool false) := by simp [World.cell?, hblk]
      have hc1 : wr.cell? ⟨w.heap.size, 1, none⟩ = some (.bool false) := by simp [World.cell?, hblk]
      have hc2 : wr.cell? ⟨w.heap.size, 2, none⟩ = some (.bool false) := by simp [World.cell?, hblk]
      have hf0 : wr.frozen? ⟨w.heap.size, 0, none⟩ = false := by simp [World.frozen?, hblk]
      have hf1 : wr.frozen? ⟨w.heap.size, 1, none⟩ = false := by simp [World.frozen?, hblk]
      have hf2 : wr.frozen? ⟨w.heap.size, 2, none⟩ = false := by simp [World.frozen?, hblk]
      go_wp2
      refine bodyPost_ret (v := .tuple #[.agg #[.bool false, .bool false, .bool false], .int .i64 12]) (by simp [results, Tryd.results7, go_sem, hc0, hc1, hc2]) rfl ⟨_, _, _, _, .inr ⟨?_, rfl, rfl, rfl, rfl⟩, rfl, ?_⟩
      · intro a b c hs
        obtain ⟨n, hn, he⟩ := rtx_nth a b c
        exact hh.out n hn (hs.trans he)
      · exact ((hB.setCell (Nat.le_refl _) _).setCell (Nat.le_refl _) _).setCell (Nat.le_refl _) _
end Go.Proofs.YtaahbklganhfkaaDoor
