import Derived.Test.YtlfgnbjioofplabRa
import Derived.Maps.RangeWalk
namespace Go.Proofs.Ytlfgnbjioofplab
open Go.RowKit
set_option linter.unusedVariables false

theorem step_append {P : Program} {ops : Array Oper} {o : Oper} {a : Act} {w : World} {K : Act → World → Prop} {Q : Exit → Act → World → Prop} {E : Prop}
    (hg : o.guard = none) (d x : Operand) (dT sT : TypeId) (hop : o.op = Op.call { callee := Callee.builtin Builtin.append, args := #[d, x], argTypes := #[dT, sT] })
    (v u : Value) (hd : a.eval d = v) (hx : a.eval x = u) {v' : Value} {w' : World} (hr : (Builtin.append_ #[dT, sT] o.type #[v, u]).run P w = .ok v' w') (hK : K (a.put o.dst v') w') :
    if Region.wanted o (yielded ops a.tmps) = true then Oper.wp P o a w K Q else E := by
  have hw : Region.wanted o (yielded ops a.tmps) = true := by simp [Region.wanted, hg]
  rw [if_pos hw]
  unfold Oper.wp
  simp [execOp, hop, resolve, invoke, builtin, hd, hx, hr, Result.andThen]
  exact hK
theorem infoF : (Try.prog.info? 83).map (fun i => (i.zero, i.size, i.bytes)) = some (some (.agg #[.int .i64 0, .slice none 0 0]), 2, 32) := by kernel_rfl
theorem RM.low {W : World} {S : Nat → Prop} {p N : Nat} {m : Nat → Int} (h : RM W S p N m) : ∀ b, S b → b < W.heap.size := by obtain ⟨v, fs, h⟩ := h; exact h.low
theorem RM.keep {W W' : World} {S S' : Nat → Prop} {p N : Nat} {m : Nat → Int} (h : RM W S p N m) (T : Turn S' W W') (hd : ∀ b, S b → ¬ S' b) : RM W' S p N m := by obtain ⟨v, fs, h⟩ := h; exact ⟨v, fs, h.keep T hd⟩
theorem RM.mono {W : World} {S S' : Nat → Prop} {p N : Nat} {m : Nat → Int} (h : RM W S p N m) (hS : ∀ b, S b → S' b) (hl : ∀ b, S' b → b < W.heap.size) : RM W S' p N m := by obtain ⟨v, fs, h⟩ := h; exact ⟨v, fs, h.mono hS hl⟩
theorem RM.cell0 {W : World} {S : Nat → Prop} {p N : Nat} {m : Nat → Int} (h : RM W S p N m) : W.cell? ⟨p, 0, none⟩ = some (.int .i64 N) := by obtain ⟨v, fs, h⟩ := h; exact h.cell0
theorem RM.n2 {W : World} {S : Nat → Prop} {p N : Nat} {m : Nat → Int} (h : RM W S p N m) : N ≤ 65536 := by obtain ⟨v, fs, h⟩ := h; exact h.n2
theorem RM.n1 {W : World} {S : Nat → Prop} {p N : Nat} {m : Nat → Int} (h : RM W S p N m) : 1 ≤ N := by obtain ⟨v, fs, h⟩ := h; exact h.n1
theorem RM.byts {W : World} {S : Nat → Prop} {p N : Nat} {m : Nat → Int} (h : RM W S p N m) : Byts m := by obtain ⟨v, fs, h⟩ := h; exact h.byts
theorem RM.lt {W : World} {S : Nat → Prop} {p N : Nat} {m : Nat → Int} (h : RM W S p N m) : p < W.heap.size := by obtain ⟨v, fs, h⟩ := h; exact h.lt
theorem RM.gr {W W' : World} {S : Nat → Prop} {p N : Nat} {m : Nat → Int} (h : RM W' S p N m) (hl : ∀ b, S b → b < W.heap.size) (hs : W.heap.size ≤ W'.heap.size) : RM W' (gr S W W') p N m := by
  obtain ⟨v, fs, h⟩ := h
  exact ⟨v, fs, h.mono (fun b hb => .inl hb) (gr_low hl hs)⟩

/-- Blocks of two kinds are two. -/
theorem RMx.xne {W : World} {S : Nat → Prop} {r N : Nat} {m : Nat → Int} {v : Value} {fs : List (Nat × Nat)} (h : RMx W S r N m v fs) {x : Nat × Nat} (hx : x ∈ fs) : x.2 ≠ r ∧ ∀ b, v.ownBlock = some b → x.2 ≠ b := by
  obtain ⟨f1, f2, f3⟩ := h.frm x hx
  constructor
  · intro e
    have hb := h.box
    rw [← e, show W.heap[x.2]? = _ from f2] at hb
    injection hb with hb
    injection hb with _ hb _
    cases hb
  · intro b hb e
    rcases row_of_own h.own with ⟨rfl, _⟩ | ⟨g, cap, cur, rfl, _, b2, _⟩
    · cases hb
    · cases hb
      subst e
      rw [RowAt, show W.heap[x.2]? = _ from f2] at b2
      injection b2 with b2
      injection b2 with _ b2 _
      cases b2
theorem RMx.gne {W : World} {S : Nat → Prop} {r N : Nat} {m : Nat → Int} {v : Value} {fs : List (Nat × Nat)} (h : RMx W S r N m v fs) : ∀ b, v.ownBlock = some b → b ≠ r := by
  intro b hb e
  rcases row_of_own h.own with ⟨rfl, _⟩ | ⟨g, cap, cur, rfl, _, b2, _⟩
  · cases hb
  · cases hb
    have hb := h.box
    rw [← e, show W.heap[_]? = _ from b2] at hb
    injection hb with hb
    injection hb with _ hb _
    cases hb

/-- One byte turned. -/
theorem RMx.upd {W : World} {S : Nat → Prop} {r N : Nat} {m : Nat → Int} {v : Value} {fs : List (Nat × Nat)} (h : RMx W S r N m v fs) {x : Nat × Nat} (hx : x ∈ fs) {o : Nat} (ho : o < 4096) {u : Int} (hu : 0 ≤ u ∧ u < 256) :
    RMx (W.setCell ⟨x.2, o, none⟩ (.int .u8 u)) S r N (Go.Proofs.Ytlfgnbjioofplab.upd m (x.1 * 4096 + o) u) v fs ∧ Turn S W (W.setCell ⟨x.2, o, none⟩ (.int .u8 u)) := by
  have hxn := h.xne hx
  obtain ⟨f1, f2, f3⟩ := h.frm x hx
  have T : Turn (fun b => b = x.2) W (W.setCell ⟨x.2, o, none⟩ (.int .u8 u)) := (Turn.refl (fun b => b = x.2) W).setCell (p := ⟨x.2, o, none⟩) (.inl rfl) _
  refine ⟨⟨by rw [T.block r h.lt (fun e => hxn.1 e.symm)]; exact h.box, own_turn h.own T (fun b hb e => hxn.2 b hb e.symm), h.vS, fun y hy => ?_, h.nod1, h.nod2, fun n hn hno => ?_, h.Sr, upd_byts h.byts hu _, h.n1, h.n2, fun b hb => Nat.lt_of_lt_of_le (h.low b hb) T.size⟩, T.mono (fun b _ hb => by rw [hb]; exact f3)⟩
  · obtain ⟨g1, g2, g3⟩ := h.frm y hy
    by_cases e : y = x
    · subst e
      refine ⟨g1, ?_, g3⟩
      rw [fr_upd _ _ _ _ ho, List.map_set]
      exact g2.set o _
    · have hn2 : y.2 ≠ x.2 := fun e2 => e (by
        obtain ⟨i, hi⟩ := List.getElem?_of_mem hx
        obtain ⟨j, hj⟩ := List.getElem?_of_mem hy
        have hp := h.nod2
        have h1 : (fs.map (·.2))[j]? = some x.2 := by rw [List.getElem?_map, hj, ← e2]; rfl
        have h2 : (fs.map (·.2))[i]? = some x.2 := by rw [List.getElem?_map, hi]; rfl
        have := (List.getElem?_inj (by simpa using (List.getElem?_eq_some_iff.1 hj).1) hp).1 (h1.trans h2.symm)
        subst this
        rw [hi] at hj
        cases hj
        rfl)
      have hn1 : y.1 ≠ x.1 := fun e1 => e (by
        obtain ⟨i, hi⟩ := List.getElem?_of_mem hx
        obtain ⟨j, hj⟩ := List.getElem?_of_mem hy
        have hp := h.nod1
        have h1 : (fs.map (·.1))[j]? = some x.1 := by rw [List.getElem?_map, hj, ← e1]; rfl
        have h2 : (fs.map (·.1))[i]? = some x.1 := by rw [List.getElem?_map, hi]; rfl
        have := (List.getElem?_inj (by simpa using (List.getElem?_eq_some_iff.1 hj).1) hp).1 (h1.trans h2.symm)
        subst this
        rw [hi] at hj
        cases hj
        rfl)
      rw [fr_upd_other _ _ _ _ _ ho hn1]
      exact ⟨g1, g2.turn T hn2, g3⟩
  · rw [fr_upd_other _ _ _ _ _ ho (fun e => hno x hx e.symm)]
    exact h.out n hn hno

set_option maxHeartbeats 4000000 in
set_option maxRecDepth 100000 in
theorem rput_some (W : World) (S : Nat → Prop) (r N : Nat) (m : Nat → Int) (pa : Nat) (u : Int) (v : Value) (fs : List (Nat × Nat)) (h : RMx W S r N m v fs) (hp : pa < N * 4096) (hu : 0 ≤ u ∧ u < 256) (i : Nat) (x : Nat × Nat) (hx : fs[i]? = some x) (hxn : x.1 = pa / 4096) :
    Calls Try.prog 43 #[.pointer (some ⟨r, 0, none⟩), .int .u64 pa, .int .u8 u] W fun e W' => e = .returned (.tuple #[]) ∧ RM W' (gr S W W') r N (upd m pa u) ∧ Turn S W W' := by
  have hN := h.n2
  have hq : (pa : Int) / 4096 = ((pa / 4096 : Nat) : Int) := by omega
  have hr : (pa : Int) % 4096 = ((pa % 4096 : Nat) : Int) := by omega
  have hqr : pa / 4096 * 4096 + pa % 4096 = pa := by omega
  have hr4 : pa % 4096 < 4096 := by omega
  have hat := at_some W S r N m v fs h (pa / 4096) i x hx hxn
  have HU := h.upd (List.mem_of_getElem? hx) hr4 hu
  rw [hxn, hqr] at HU
  obtain ⟨a, cap, rfl, hcells⟩ := h.view
  obtain ⟨gb, rfl, _, e0, e1⟩ := hcells i x hx
  have hc1 := h.cell1
  have hlen := h.len
  obtain ⟨f1, f2, f3⟩ := h.frm x (List.mem_of_getElem? hx)
  have hcell : W.cell? ⟨x.2, pa % 4096, none⟩ = some (.int .u8 (m pa)) := by
    rw [f2.cell, List.getElem?_map, fr_at _ _ hr4, hxn, hqr]; rfl
  have hfz := f2.frozen
  have hin : (i : Int) < (fs.length : Int) := by have := (List.getElem?_eq_some_iff.1 hx).1; omega
  have HUU : Hid _ := HU
  have hlow := h.low
  clear hcells hx hxn h f1 f2 f3 hqr HU
  generalize pa / 4096 = q at *
  generalize pa % 4096 = o at *
  go_enter Try.func43, Try.ntmps43
  go_wp2_with (first
    | (go_at_call 46; refine hat.mono ?_; rintro e w1 ⟨rfl, rfl⟩)
    | go_in)
  exact bodyPost_end (results_none Try.results43 _ _ _) rfl ⟨rfl, RM.gr ⟨_, _, HUU.out.1⟩ hlow HUU.out.2.size, HUU.out.2⟩

/-- A new frame behind the others. -/
theorem new_frame (W : World) (S : Nat → Prop) (r N : Nat) (m : Nat → Int) (v : Value) (fs : List (Nat × Nat)) (h : RMx W S r N m v fs) (n : Nat) (hn : n < N) (hno : ∀ x ∈ fs, x.1 ≠ n) :
    ∃ v' w', (∀ ty, (Builtin.append_ #[78, 78] ty #[v, .slice (some ⟨W.heap.size + 1, 0, none⟩) 1 1]).run Try.prog ((W.alloc (.cells (zr 4096 (.int .u8 0)) 5)).alloc (.cells #[.int .i64 (n : Int), .slice (some ⟨W.heap.size, 0, none⟩) 4096 4096] 83)) = .ok v' w') ∧
      RMx (w'.setCell ⟨r, 1, none⟩ v') (gr S W w') r N m v' (fs ++ [(n, W.heap.size)]) ∧ Turn S W (w'.setCell ⟨r, 1, none⟩ v') ∧ w'.frozen? ⟨r, 1, none⟩ = false ∧ w'.cell? ⟨r, 1, none⟩ = some v ∧ w'.heap.size = (w'.setCell ⟨r, 1, none⟩ v').heap.size := by
  obtain ⟨i0, hi, hz0, hz1, hz2⟩ := info_parts infoF
  have hlen := h.len
  have hN := h.n2
  have T1 : Turn (fun _ => False) W ((W.alloc (.cells (zr 4096 (.int .u8 0)) 5)).alloc (.cells #[.int .i64 (n : Int), .slice (some ⟨W.heap.size, 0, none⟩) 4096 4096] 83)) := ((Turn.refl _ W).alloc _).alloc _
  have hB1 : RowAt ((W.alloc (.cells (zr 4096 (.int .u8 0)) 5)).alloc (.cells #[.int .i64 (n : Int), .slice (some ⟨W.heap.size, 0, none⟩) 4096 4096] 83)) W.heap.size 5 (List.replicate 4096 (.int .u8 0)) := (zr_row W 4096 (.int .u8 0) 5).grown (World.grownBy_alloc _ _ none) (by simp)
  have hB2 := row_new (W.alloc (.cells (zr 4096 (.int .u8 0)) 5)) [.int .i64 (n : Int), .slice (some ⟨W.heap.size, 0, none⟩) 4096 4096] 83
  have hs1 : (W.alloc (.cells (zr 4096 (.int .u8 0)) 5)).heap.size = W.heap.size + 1 := by simp
  rw [hs1] at hB2
  have hs2 : ((W.alloc (.cells (zr 4096 (.int .u8 0)) 5)).alloc (.cells #[.int .i64 (n : Int), .slice (some ⟨W.heap.size, 0, none⟩) 4096 4096] 83)).heap.size = W.heap.size + 2 := by simp
  have hown := own_turn h.own T1 (fun _ _ h => h)
  generalize hWW : (W.alloc (.cells (zr 4096 (.int .u8 0)) 5)).alloc (.cells #[.int .i64 (n : Int), .slice (some ⟨W.heap.size, 0, none⟩) 4096 4096] 83) = WW at *
  obtain ⟨v', w', hr, ho, hg, hb⟩ := append_any (P := Try.prog) WW 78 83 i0 _ Try.underlying78 hi hz0 (by rw [hz1]; rfl) 0 fs.length 1 v (.slice (some ⟨W.heap.size + 1, 0, none⟩) 1 1) (fs.flatMap encR) [.int .i64 (n : Int), .slice (some ⟨W.heap.size, 0, none⟩) 4096 4096] (by rw [hz1]; exact hown)
    (by rw [hz1]; exact Src.ofSlice _ Try.underlying78 ⟨W.heap.size + 1, 0, none⟩ 1 1 _ rfl (fun j u hj => by rw [Addr.add_lit, Nat.zero_add, hB2.cell]; exact hj) (fun u hu => by
      simp at hu
      rcases hu with rfl | rfl <;> rfl)) (Nat.zero_le _) (by unfold maxLen; omega) (by rw [hz2]; omega)
  have hbS : ∀ b, v.ownBlock = some b → S b ∧ b ≠ r := fun b hb => ⟨h.vS b hb, h.gne b hb⟩
  have T2 : Turn (fun b => v.ownBlock = some b) WW w' := Turn.grown hg (fun k hk => .inl hk)
  have T3 : Turn (fun b => v.ownBlock = some b) W w' := (T1.mono (fun _ _ h => h.elim)).trans T2 (fun x hx => .inl hx)
  have hrne : ¬ v.ownBlock = some r := fun e => (hbS r e).2 rfl
  have hbox : w'.heap[r]? = some (.cells #[.int .i64 N, v] 80 (0, 0)) := by rw [T3.block r h.lt hrne]; exact h.box
  have hboxR : RowAt w' r 80 [.int .i64 N, v] := hbox
  have T4 : Turn (fun b => b = r) w' (w'.setCell ⟨r, 1, none⟩ v') := (Turn.refl (fun b => b = r) w').setCell (p := ⟨r, 1, none⟩) (.inl rfl) _
  have hszW : W.heap.size + 2 ≤ w'.heap.size := by rw [← hs2]; exact hg.size
  have hsame : w'.heap.size = (w'.setCell ⟨r, 1, none⟩ v').heap.size := by simp [World.setCell]
  have hvb : ∀ b, v'.ownBlock = some b → b ≠ r := fun b hb' e => by
    rcases hb b hb' with h1 | h1
    · exact (hbS b h1).2 e
    · have := h.lt; omega
  refine ⟨v', w', hr, ?_, ?_, hboxR.frozen 1, by rw [hboxR.cell]; rfl, hsame⟩
  · refine ⟨hboxR.set 1 v', ?_, ?_, ?_, ?_, ?_, ?_, .inl h.Sr, h.byts, h.n1, h.n2, ?_⟩
    · have := own_turn ho T4 hvb
      rw [hz1] at this
      rw [List.length_append, List.flatMap_append]
      exact this
    · intro b hb'
      rcases hb b hb' with h1 | h1
      · exact .inl (hbS b h1).1
      · exact .inr ⟨by omega, (World.ownsRow.lt ho b hb').2⟩
    · intro x hx
      rcases List.mem_append.1 hx with hx | hx
      · obtain ⟨f1, f2, f3⟩ := h.frm x hx
        have hne := h.xne hx
        exact ⟨f1, (f2.turn T3 (fun e => (hne.2 _ e) rfl)).turn T4 hne.1, .inl f3⟩
      · simp at hx
        subst hx
        have hfz : fr m n = List.replicate 4096 0 := fr_of_zero (h.out n hn hno)
        refine ⟨hn, ?_, .inr ⟨Nat.le_refl _, by omega⟩⟩
        rw [hfz, List.map_replicate]
        have hrl := h.lt
        exact (hB1.turn T2 (fun e => by have := h.low _ (hbS _ e).1; omega)).turn T4 (by show ¬ W.heap.size = r; omega)
    · rw [List.map_append, List.nodup_append]
      refine ⟨h.nod1, by simp, fun a ha b hb' e => ?_⟩
      simp at hb'
      obtain ⟨x, hx, rfl⟩ := List.mem_map.1 ha
      exact hno x hx (by omega)
    · rw [List.map_append, List.nodup_append]
      refine ⟨h.nod2, by simp, fun a ha b hb' e => ?_⟩
      simp at hb'
      obtain ⟨x, hx, rfl⟩ := List.mem_map.1 ha
      have := h.low _ (h.frm x hx).2.2
      omega
    · intro k hk hkno
      exact h.out k hk (fun x hx => hkno x (by simp [hx]))
    · intro b hb'
      rw [← hsame]
      exact gr_low h.low (by omega) b hb'
  · exact (T3.mono (fun b _ hb => (hbS b hb).1)).trans T4 (fun x hx => .inl (by rw [hx]; exact h.Sr))
end Go.Proofs.Ytlfgnbjioofplab
