import Derived.Test.YtlfgnbjioofplabRb
namespace Go.Proofs.Ytlfgnbjioofplab
open Go.RowKit
set_option linter.unusedVariables false

theorem make8c (W : World) : (Instr.makeSlice 33 (.int .i64 4096) (.int .i64 4096)).run Try.prog W = .ok (.slice (some ⟨W.heap.size, 0, none⟩) 4096 4096) (W.alloc (.cells (zr 4096 (Value.int .u8 0)) 5)) := make8 W 4096 (by omega)

theorem new_frame2 (W : World) (S : Nat → Prop) (r N : Nat) (m : Nat → Int) (v : Value) (fs : List (Nat × Nat)) (h : RMx W S r N m v fs) (n : Nat) (hn : n < N) (hno : ∀ x ∈ fs, x.1 ≠ n) :
    ∃ gb cap' w' X, X = w'.setCell ⟨r, 1, none⟩ (.slice (some ⟨gb, 0, none⟩) (fs.length + 1) cap') ∧
      (∀ ty, (Builtin.append_ #[78, 78] ty #[v, .slice (some ⟨W.heap.size + 1, 0, none⟩) 1 1]).run Try.prog (((W.alloc (.cells (zr 4096 (.int .u8 0)) 5)).alloc (.cells #[.int .i64 (n : Int), .slice (some ⟨W.heap.size, 0, none⟩) 4096 4096] 83)).drew) = .ok (.slice (some ⟨gb, 0, none⟩) (fs.length + 1) cap') w') ∧
      RMx X (gr S W X) r N m (.slice (some ⟨gb, 0, none⟩) (fs.length + 1) cap') (fs ++ [(n, W.heap.size)]) ∧ Turn S W X ∧ w'.frozen? ⟨r, 1, none⟩ = false ∧ w'.cell? ⟨r, 1, none⟩ = some v ∧
      X.cell? ⟨r, 1, none⟩ = some (.slice (some ⟨gb, 0, none⟩) (fs.length + 1) cap') ∧ X.cell? ⟨gb, fs.length * 2 + 1, none⟩ = some (.slice (some ⟨W.heap.size, 0, none⟩) 4096 4096) ∧ (∀ j, X.frozen? ⟨W.heap.size, j, none⟩ = false) ∧ (∀ o, o < 4096 → X.cell? ⟨W.heap.size, o, none⟩ = some (.int .u8 (m (n * 4096 + o)))) := by
  obtain ⟨v', w', hrun, hR, hT, hfz, hcv, hsz⟩ := new_frame W.drew S r N m v fs (h.keep (S' := fun _ => False) ⟨rfl, rfl, rfl, Nat.le_refl _, fun _ _ _ => rfl⟩ (fun _ _ h => h)) n hn hno
  obtain ⟨a', cap', hv, hcells⟩ := hR.view
  have hl1 : (fs ++ [(n, W.drew.heap.size)]).length = fs.length + 1 := by simp
  obtain ⟨gb, ha, _, y0, y1⟩ := hcells fs.length (n, W.drew.heap.size) (by simp)
  rw [hl1, ha] at hv
  subst hv
  obtain ⟨f1, f2, f3⟩ := hR.frm (n, W.drew.heap.size) (by simp)
  refine ⟨gb, cap', w', _, rfl, hrun, ?_, ⟨hT.os, hT.tape, hT.output, hT.size, hT.block⟩, hfz, hcv, hR.cell1, y1, f2.frozen, fun o ho => ?_⟩
  · refine hR.mono (fun b hb => ?_) (fun b hb => ?_)
    · rcases hb with hb | ⟨h1, h2⟩
      · exact .inl hb
      · exact .inr ⟨h1, by rw [← hsz]; exact h2⟩
    · exact gr_low h.low hT.size b hb
  · have := f2.cell o
    rw [List.getElem?_map, fr_at _ _ ho] at this
    exact this

set_option maxHeartbeats 8000000 in
set_option maxRecDepth 100000 in
theorem rput_none (W : World) (S : Nat → Prop) (r N : Nat) (m : Nat → Int) (pa : Nat) (u : Int) (v : Value) (fs : List (Nat × Nat)) (h : RMx W S r N m v fs) (hp : pa < N * 4096) (hu : 0 ≤ u ∧ u < 256) (hno : ∀ x ∈ fs, x.1 ≠ pa / 4096) :
    Calls Try.prog 43 #[.pointer (some ⟨r, 0, none⟩), .int .u64 pa, .int .u8 u] W fun e W' => e = .returned (.tuple #[]) ∧ RM W' (gr S W W') r N (upd m pa u) ∧ Turn S W W' := by
  have hN := h.n2
  have hq : (pa : Int) / 4096 = ((pa / 4096 : Nat) : Int) := by omega
  have hr : (pa : Int) % 4096 = ((pa % 4096 : Nat) : Int) := by omega
  have hqr : pa / 4096 * 4096 + pa % 4096 = pa := by omega
  have hr4 : pa % 4096 < 4096 := by omega
  have hqN : pa / 4096 < N := by omega
  have hat := at_none W S r N m v fs h (pa / 4096) hno
  have hc1 := h.cell1
  have hlen := h.len
  have hlow := h.low
  have hrl := h.lt
  have hmk := make8c
  obtain ⟨gb, cap', w', X, hX, hrun, hR, hT, hfz, hcv, z1, z2, z3, z4⟩ := new_frame2 W S r N m v fs h (pa / 4096) hqN hno
  have HU := hR.upd (x := (pa / 4096, W.heap.size)) (by simp) hr4 hu
  have z5 := z4 (pa % 4096) hr4
  rw [hqr] at z5
  rw [show (pa / 4096, W.heap.size).1 * 4096 + pa % 4096 = pa from hqr] at HU
  have hwq : IntKind.i64.wrap ((pa / 4096 : Nat) : Int) = ((pa / 4096 : Nat) : Int) := by rw [IntKind.wrap_i64]; omega
  have hwq2 : IntKind.u64.wrap ((pa / 4096 : Nat) : Int) = ((pa / 4096 : Nat) : Int) := by rw [IntKind.wrap_u64]; omega
  have hn0 := World.new_ne W _ hc1
  obtain ⟨a, cap, rfl, _⟩ := h.view
  have HT : Hid (Turn S W X) := hT
  have HXX : Hid (X = w'.setCell ⟨r, 1, none⟩ (.slice (some ⟨gb, 0, none⟩) (fs.length + 1) cap')) := hX
  have HUU : Hid _ := HU
  clear h hno HU hR hT hqr z4 hX
  generalize pa / 4096 = q at *
  generalize pa % 4096 = o at *
  go_enter Try.func43, Try.ntmps43
  go_wp2_with (first
    | (go_at_call 46; refine hat.mono ?_; rintro e w1 ⟨rfl, rfl⟩)
    | go_in)
  go_region_law (refine step_append (by rfl) _ _ 78 78 (by rfl) _ _ (by simp [Act.eval]) (by simp [Act.eval]) (hrun _) ?_)
  all_goals
    rw [← HXX.out]
    go_wp2
    exact bodyPost_end (results_none Try.results43 _ _ _) rfl ⟨rfl, ⟨_, _, HUU.out.1.mono (fun b hb => by
      rcases hb with hb | ⟨h1, h2⟩
      · exact .inl hb
      · exact .inr ⟨h1, Nat.lt_of_lt_of_le h2 HUU.out.2.size⟩) (gr_low hlow (Nat.le_trans HT.out.size HUU.out.2.size))⟩, HT.out.trans HUU.out.2 (fun x hx => by
      rcases hx with hx | ⟨h1, _⟩
      · exact .inl hx
      · exact .inr h1)⟩
theorem rput_any (W : World) (S : Nat → Prop) (r N : Nat) (m : Nat → Int) (pa : Nat) (u : Int) (h : RM W S r N m) (hp : pa < N * 4096) (hu : 0 ≤ u ∧ u < 256) :
    Calls Try.prog 43 #[.pointer (some ⟨r, 0, none⟩), .int .u64 pa, .int .u8 u] W fun e W' => e = .returned (.tuple #[]) ∧ RM W' (gr S W W') r N (upd m pa u) ∧ Turn S W W' := by
  obtain ⟨v, fs, h⟩ := h
  rcases h.parted (pa / 4096) with ⟨i, x, hx, hxn⟩ | hno
  · exact rput_some W S r N m pa u v fs h hp hu i x hx hxn
  · exact rput_none W S r N m pa u v fs h hp hu hno
end Go.Proofs.Ytlfgnbjioofplab
