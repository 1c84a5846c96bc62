import Derived.Test.YtlfgnbjioofplabLa
namespace Go.Proofs.Ytlfgnbjioofplab
open Go.RowKit
set_option linter.unusedVariables false

theorem make0 (W : World) (n : Nat) (hn : n ≤ 281474976710656) : (Instr.makeSlice 33 (.int .i64 0) (.int .i64 (n : Int))).run Try.prog W = .ok (.slice (some ⟨W.heap.size, 0, none⟩) 0 n) (W.alloc (.cells (zr n (Value.int .u8 0)) 5)) := by
  obtain ⟨i0, hi, hz0, hz1, hz2⟩ := info_parts info8
  have := run_make (P := Try.prog) W 33 5 i0 _ Try.underlying33 hi hz0 .i64 .i64 0 n (by omega) (by omega) (by rw [hz2]; omega) (by omega)
  rw [this, hz1, Nat.mul_one, Int.toNat_natCast, show (Value.int .u8 0).cells = #[Value.int .u8 0] from rfl, madeCells_one]
  rfl
set_option maxHeartbeats 4000000 in
set_option maxRecDepth 100000 in
theorem room_any (W : World) (a : Option Addr) (ca : Nat) (bs : List Int) (ha : ∀ i v, bs[i]? = some v → ∃ g o, a = some ⟨g, o, none⟩ ∧ g < W.heap.size ∧ W.cell? ⟨g, o + i, none⟩ = some (.int .u8 v)) (hl : bs.length ≤ 140737488355328) (hz : a = none → bs = [] ∧ ca = 0) :
    Calls Try.prog 18 #[.slice a bs.length ca] W fun e W' => e = .returned (.slice (some ⟨W.heap.size, 0, none⟩) (bs.length + 2) (bs.length + 2)) ∧ RowAt W' W.heap.size 5 (encB (bs ++ [165, 90])) ∧ Turn (fun _ => False) W W' := by
  obtain ⟨i0, hi, hz0, hz1, hz2⟩ := info_parts info8
  have hmk := make0 W (bs.length + 2) (by omega)
  have hbl : (encB bs).length = bs.length := encB_len bs
  have hz0' := zr_row W (bs.length + 2) (.int .u8 0) 5
  have T0 : Turn (fun _ => False) W (W.alloc (.cells (zr (bs.length + 2) (.int .u8 0)) 5)) := (Turn.refl _ W).alloc _
  have hsrc : Src Try.prog 1 33 (.slice a bs.length ca) bs.length (encB bs) (W.alloc (.cells (zr (bs.length + 2) (.int .u8 0)) 5)) := by
    cases a with
    | none =>
      obtain ⟨rfl, rfl⟩ := hz rfl
      exact Src.ofNil _ Try.underlying33 0
    | some ad =>
      refine Src.ofSlice _ Try.underlying33 ad bs.length ca _ (by rw [hbl, Nat.mul_one]) (fun j u hj => ?_) (encB_one _)
      rw [encB, List.getElem?_map] at hj
      obtain ⟨v, hv, rfl⟩ := Option.map_eq_some_iff.1 hj
      obtain ⟨g, o, e, hg, hc⟩ := ha j v hv
      cases e
      rw [Addr.add_lit, T0.cell hg (fun h => h)]
      exact hc
  generalize hW1 : W.alloc (.cells (zr (bs.length + 2) (.int .u8 0)) 5) = W1 at *
  obtain ⟨w2, hr2, hrow2, hg2⟩ := append_room (P := Try.prog) W1 33 5 i0 Try.underlying33 hi W.heap.size 0 (bs.length + 2) _ hz0' (.slice a bs.length ca) bs.length (encB bs) (by rw [hz1]; exact hsrc) (by omega) (by rw [hbl, List.length_replicate]; omega)
  rw [Nat.zero_mul, List.take_zero, List.nil_append, Nat.zero_add, hbl, List.drop_replicate, show bs.length + 2 - bs.length = 2 by omega] at hrow2
  rw [Nat.zero_add] at hr2
  have T2 : Turn (fun _ => False) W w2 := T0.trans (S' := fun x => x = W.heap.size) (Turn.grown hg2 (fun k hk => by cases hk; exact .inl rfl)) (fun x hx => .inr (by rw [hx]; exact Nat.le_refl _))
  have hB := row_new w2 [.int .u8 165, .int .u8 90] 5
  have hrow3 := hrow2.turn ((Turn.refl (fun _ => False) w2).alloc (.cells #[.int .u8 165, .int .u8 90] 5)) (fun h => h)
  have hs3 : Src Try.prog 1 33 (.slice (some ⟨w2.heap.size, 0, none⟩) 2 2) 2 [.int .u8 165, .int .u8 90] (w2.alloc (.cells #[.int .u8 165, .int .u8 90] 5)) :=
    Src.ofSlice _ Try.underlying33 ⟨w2.heap.size, 0, none⟩ 2 2 _ rfl (fun j u hj => by rw [Addr.add_lit, Nat.zero_add]; exact (hB.cell j).trans hj) (fun u hu => by
      simp at hu
      rcases hu with rfl | rfl <;> rfl)
  obtain ⟨w4, hr4, hrow4, hg4⟩ := append_room (P := Try.prog) (w2.alloc (.cells #[.int .u8 165, .int .u8 90] 5)) 33 5 i0 Try.underlying33 hi W.heap.size bs.length (bs.length + 2) _ hrow3 (.slice (some ⟨w2.heap.size, 0, none⟩) 2 2) 2 [.int .u8 165, .int .u8 90] (by rw [hz1]; exact hs3) (Nat.le_refl _) (by rw [hz1, Nat.mul_one, List.length_append, hbl, List.length_replicate]; exact Nat.le_refl _)
  have HR : Hid (RowAt w4 W.heap.size 5 (encB (bs ++ [165, 90]))) := by
    show RowAt _ _ _ _
    rw [hz1, Nat.mul_one, List.take_append_of_le_length (by rw [hbl]; exact Nat.le_refl _), List.take_of_length_le (by rw [hbl]; exact Nat.le_refl _), List.drop_eq_nil_of_le (by rw [List.length_append, hbl, List.length_replicate]; exact Nat.le_refl _), List.append_nil] at hrow4
    simpa [encB] using hrow4
  have HT : Hid (Turn (fun _ => False) W w4) := (T2.alloc _).trans (S' := fun x => x = W.heap.size) (Turn.grown hg4 (fun k hk => by cases hk; exact .inl rfl)) (fun x hx => .inr (by rw [hx]; exact Nat.le_refl _))
  have hpl : ((bs.length : Int) + 2) = ((bs.length + 2 : Nat) : Int) := by omega
  rw [hpl.symm] at hmk
  clear hpl
  clear hrow4 hg4 hrow3 hB hs3 hrow2 hg2 T2 hsrc hz0' T0 ha hz hbl hi hz0 hz1 hz2 hW1
  generalize bs.length = n at *
  go_enter Try.func18, Try.ntmps18
  go_wp2_with (first
    | (at_builtin; refine Lib.wpList_append_run _ rfl _ _ 33 33 rfl _ _ rfl rfl _ _ (hr2 _) ?_; clear hr2)
    | (at_builtin; refine Lib.wpList_append_run _ rfl _ _ 33 33 rfl _ _ rfl rfl _ _ (hr4 _) ?_)
    | go_in)
  go_ret
  exact ⟨rfl, HR.out, HT.out⟩

end Go.Proofs.Ytlfgnbjioofplab
