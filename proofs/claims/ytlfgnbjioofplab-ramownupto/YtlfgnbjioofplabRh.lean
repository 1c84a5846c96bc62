import Derived.Test.YtlfgnbjioofplabRg
namespace Go.Proofs.Ytlfgnbjioofplab
open Go.RowKit
set_option linter.unusedVariables false

/-- What a clone of the reference's under way holds. -/
def CopR (wr W : World) (N : Nat) (m : Nat → Int) (fs fs2 : List (Nat × Nat)) (v2 : Value) : Prop :=
  RowAt wr W.heap.size 80 [.int .i64 N, v2] ∧ wr.ownsRow (W.heap.size + 1) 83 2 v2 fs2.length (fs2.flatMap encR) ∧ fs2.map (·.1) = fs.map (·.1) ∧
  (∀ y ∈ fs2, RowAt wr y.2 5 (encB (fr m y.1)) ∧ W.heap.size < y.2) ∧ (fs2.map (·.2)).Nodup ∧ Turn (fun _ => False) W wr

theorem CopR.done {wr W : World} {S : Nat → Prop} {r N : Nat} {m : Nat → Int} {v v2 : Value} {fs fs2 : List (Nat × Nat)} (h : CopR wr W N m fs fs2 v2) (h0 : RMx W S r N m v fs) : RM wr (gr (fun _ => False) W wr) W.heap.size N m := by
  obtain ⟨h1, h2, h3, h4, h5, h6⟩ := h
  have hm : ∀ n, n ∈ fs2.map (·.1) ↔ n ∈ fs.map (·.1) := fun n => by rw [h3]
  refine ⟨v2, fs2, ⟨h1, own_low h2, fun b hb => ?_, fun x hx => ?_, ?_, h5, fun n hn hno => ?_, .inr ⟨Nat.le_refl _, h1.lt⟩, h0.byts, h0.n1, h0.n2, gr_low (fun _ h => h.elim) h6.size⟩⟩
  · have := World.ownsRow.lt h2 b hb
    exact .inr ⟨by omega, this.2⟩
  · obtain ⟨y, hy, e⟩ := List.mem_map.1 ((hm x.1).1 (List.mem_map.2 ⟨x, hx, rfl⟩))
    obtain ⟨g1, g2⟩ := h4 x hx
    exact ⟨by rw [← e]; exact (h0.frm y hy).1, g1, .inr ⟨by omega, g1.lt⟩⟩
  · rw [h3]; exact h0.nod1
  · refine h0.out n hn (fun y hy e => ?_)
    obtain ⟨z, hz, e2⟩ := List.mem_map.1 ((hm n).2 (List.mem_map.2 ⟨y, hy, e⟩))
    exact hno z hz e2

set_option maxHeartbeats 8000000 in
set_option maxRecDepth 100000 in
theorem rclone_any (W : World) (S : Nat → Prop) (r N : Nat) (m : Nat → Int) (h : RM W S r N m) :
    Calls Try.prog 24 #[.pointer (some ⟨r, 0, none⟩)] W fun e W' => e = .returned (.pointer (some ⟨W.heap.size, 0, none⟩)) ∧ RM W' (gr (fun _ => False) W W') W.heap.size N m ∧ Turn (fun _ => False) W W' := by
  obtain ⟨v, fs, h⟩ := h
  have hN := h.n2
  have hc0 := h.cell0
  have hlen := h.len
  have hrl := h.lt
  obtain ⟨a, cap, rfl, hcells⟩ := h.view
  have hc1 := h.cell1
  have HC : Hid (∀ i x, fs[i]? = some x → ∃ gb, a = some ⟨gb, 0, none⟩ ∧ S gb ∧ W.cell? ⟨gb, i * 2, none⟩ = some (.int .i64 (x.1 : Int)) ∧ W.cell? ⟨gb, i * 2 + 1, none⟩ = some (.slice (some ⟨x.2, 0, none⟩) 4096 4096)) := hcells
  have HH : Hid _ := h
  have hlow := h.low
  have hmk := make8c
  clear hcells h
  generalize hq : fs.length = q at *
  have HQ : Hid (fs.length = q) := hq
  clear hq
  obtain ⟨i0, hi, hz0, hz1, hz2⟩ := info_parts info8
  have HI : Hid (Try.prog.info? 5 = some i0 ∧ i0.size = 1) := ⟨hi, hz1⟩
  clear hi hz0 hz1 hz2
  go_enter Try.func24, Try.ntmps24
  go_wp2
  go_loopw [4] (fun i wr => ∃ (k : Nat) (fs2 : List (Nat × Nat)) (v2 : Value), k ≤ q ∧ i = .int .i64 k ∧ Hid (CopR wr W N m (fs.take k) fs2 v2)) (fun i _ => q - (intOf i).toNat)
  case atStart => exact ⟨0, [], .slice none 0 0, Nat.zero_le _, rfl, row_new W [.int .i64 N, .slice none 0 0] 80, World.ownsRow_nil _ _ _ _, rfl, fun y hy => (by cases hy), List.nodup_nil, (Turn.refl _ _).alloc _⟩
  case round =>
    obtain ⟨k, fs2, v2, hk, rfl, HX⟩ := hrel
    obtain ⟨h1, h2, h3, h4, h5, h6⟩ := HX.out
    have hc1w : wr.cell? ⟨r, 1, none⟩ = some (.slice a q cap) := by rw [h6.cell hrl (fun h => h)]; exact hc1
    by_cases hlt : k < q
    · have hkz : (k : Int) < (q : Int) := by omega
      obtain ⟨x, hx⟩ : ∃ x, fs[k]? = some x := ⟨_, List.getElem?_eq_getElem (by rw [HQ.out]; omega)⟩
      obtain ⟨gb, rfl, hgS, e0, e1⟩ := HC.out k x hx
      have hgl := hlow gb hgS
      rw [← h6.cell hgl (fun h => h)] at e0 e1
      obtain ⟨f1, f2, f3⟩ := HH.out.frm x (List.mem_of_getElem? hx)
      have hxl := hlow x.2 f3
      have f2' : RowAt wr x.2 5 (encB (fr m x.1)) := f2.turn h6 (fun h => h)
      have hsz := h6.size
      have hBl := h1.lt
      -- the new frame's bytes
      have hz := zr_row wr 4096 (.int .u8 0) 5
      have f3' : RowAt (wr.alloc (.cells (zr 4096 (.int .u8 0)) 5)) x.2 5 (encB (fr m x.1)) := f2'.turn ((Turn.refl (fun _ => False) wr).alloc _) (fun h => h)
      have hcl : (encB (fr m x.1)).length = 4096 := by rw [encB_len, fr_len]
      obtain ⟨w2, hr2, hrow2, hg2⟩ := copy_row (P := Try.prog) (wr.alloc (.cells (zr 4096 (.int .u8 0)) 5)) 33 33 5 i0 Try.underlying33 HI.out.1 wr.heap.size 0 4096 ⟨x.2, 0, none⟩ 4096 (List.replicate 4096 (Value.int .u8 0)) 5 (encB (fr m x.1)) hz
        (by rw [hcl, HI.out.2, Nat.mul_one]; exact (Nat.min_self _).symm) (fun j u hj => by rw [Addr.add_lit, Nat.zero_add, f3'.cell]; exact hj) (by rw [hcl, List.length_replicate]; exact Nat.le_refl _) (encB_one _)
      rw [hcl, List.take_zero, List.nil_append, Nat.zero_add, List.drop_eq_nil_of_le (by rw [List.length_replicate]; exact Nat.le_refl _), List.append_nil] at hrow2
      rw [show Nat.min 4096 4096 = 4096 from rfl] at hr2
      have T2 : Turn (fun b => b = wr.heap.size) wr w2 := ((Turn.refl (fun b => b = wr.heap.size) wr).alloc _).trans (S' := fun b => b = wr.heap.size) (Turn.grown hg2 (fun k hk => by cases hk; exact .inl rfl)) (fun x hx => .inl hx)
      have o2 := own_turn h2 T2 (fun b hb e => by have := (World.ownsRow.lt h2 b hb).2; omega)
      obtain ⟨v3, w3, hr3, o3, T3, T3s⟩ := appF w2.drew (W.heap.size + 1) v2 fs2 (x.1, wr.heap.size) o2 (by have := T2.size; show W.heap.size + 1 ≤ w2.heap.size; omega) (by
        have : fs2.length = (fs.take k).length := by rw [← List.length_map (f := (·.1)), h3, List.length_map]
        have h2 := List.length_take_le k fs
        omega)
      have hr3' : ∀ ty, (Builtin.append_ #[78, 78] ty #[v2, .slice (some ⟨w2.heap.size, 0, none⟩) 1 1]).run Try.prog ((w2.alloc (.cells #[.int .i64 (x.1 : Int), .slice (some ⟨wr.heap.size, 0, none⟩) 4096 4096] 83)).drew) = .ok v3 w3 := hr3
      have hB2 : RowAt w2 W.heap.size 80 [.int .i64 N, v2] := h1.turn T2 (by show ¬ W.heap.size = wr.heap.size; omega)
      have T3' : Turn (fun b => W.heap.size + 1 ≤ b) w2 w3 := ⟨T3.os, T3.tape, T3.output, T3.size, T3.block⟩
      have hB3 : RowAt w3 W.heap.size 80 [.int .i64 N, v2] := hB2.turn T3' (by show ¬ W.heap.size + 1 ≤ W.heap.size; omega)
      have hB4 := hB3.set 1 v3
      have T4 : Turn (fun b => b = W.heap.size) w3 (w3.setCell ⟨W.heap.size, 1, none⟩ v3) := (Turn.refl (fun b => b = W.heap.size) w3).setCell (p := ⟨W.heap.size, 1, none⟩) (.inl rfl) _
      have T3t : Turn (fun b => v2.ownBlock = some b) w2 w3 := ⟨T3s.os, T3s.tape, T3s.output, T3s.size, T3s.block⟩
      have hv2 : ∀ b, v2.ownBlock = some b → W.heap.size + 1 ≤ b ∧ b < wr.heap.size := fun b hb => World.ownsRow.lt h2 b hb
      have hrowB : RowAt w3 wr.heap.size 5 (encB (fr m x.1)) := hrow2.turn T3t (fun e => by have := (hv2 _ e).2; omega)
      have hv3 : ∀ b, v3.ownBlock = some b → W.heap.size + 1 ≤ b := fun b hb => (World.ownsRow.lt o3 b hb).1
      obtain ⟨a3, c3, rfl⟩ := slice_form o3
      have HX3 : Hid (CopR (w3.setCell ⟨W.heap.size, 1, none⟩ (.slice a3 (fs2 ++ [(x.1, wr.heap.size)]).length c3)) W N m (fs.take (k + 1)) (fs2 ++ [(x.1, wr.heap.size)]) (.slice a3 (fs2 ++ [(x.1, wr.heap.size)]).length c3)) := by
        refine ⟨hB4, own_turn o3 T4 (fun b hb e => by have := hv3 b hb; omega), ?_, fun y hy => ?_, ?_, ?_⟩
        · rw [take_snoc fs hx, List.map_append, List.map_append, h3]; rfl
        · rcases List.mem_append.1 hy with hy | hy
          · obtain ⟨g1, g2⟩ := h4 y hy
            have hyl := g1.lt
            have hny : ∀ b, v2.ownBlock = some b → y.2 ≠ b := fun b hb e => by
              rcases row_of_own h2 with ⟨rfl, _⟩ | ⟨g, cap, cur, rfl, _, b2, _⟩
              · cases hb
              · cases hb
                subst e
                rw [RowAt, show wr.heap[y.2]? = _ from g1] at b2
                injection b2 with b2
                injection b2 with _ b2 _
                cases b2
            exact ⟨((g1.turn T2 (by show ¬ y.2 = wr.heap.size; omega)).turn T3t (fun e => hny _ e rfl)).turn T4 (by show ¬ y.2 = W.heap.size; omega), g2⟩
          · simp at hy
            subst hy
            exact ⟨hrowB.turn T4 (by show ¬ wr.heap.size = W.heap.size; omega), hBl⟩
        · rw [List.map_append, List.nodup_append]
          refine ⟨h5, by simp, fun a ha b hb e => ?_⟩
          simp at hb
          obtain ⟨y, hy, rfl⟩ := List.mem_map.1 ha
          have := (h4 y hy).1.lt
          omega
        · exact ((h6.trans T2 (fun x hx => .inr (by rw [hx]; exact hsz))).trans T3' (fun x hx => .inr (by omega))).trans T4 (fun x hx => .inr (by rw [hx]; exact Nat.le_refl _))
      have hll : (fs2 ++ [(x.1, wr.heap.size)]).length = fs2.length + 1 := by simp
      rw [hll] at HX3 hr3'
      have k0 : w2.cell? ⟨W.heap.size, 1, none⟩ = some v2 := by rw [hB2.cell]; rfl
      have k1 : w2.cell? ⟨r, 1, none⟩ = some (.slice (some ⟨gb, 0, none⟩) q cap) := by rw [T2.cell (by omega) (by omega)]; exact hc1w
      have k2 : w2.cell? ⟨gb, k * 2, none⟩ = some (.int .i64 (x.1 : Int)) := by rw [T2.cell (by omega) (by omega)]; exact e0
      have n0 := World.new_ne w2 _ k0
      have n1 := World.new_ne w2 _ k1
      have n2 := World.new_ne w2 _ k2
      have hrw : r < wr.heap.size := by omega
      have hs2 := T2.size
      have q0 : W.heap.size < w2.heap.size := by omega
      have q1 : r < w2.heap.size := by omega
      have q2 : gb < w2.heap.size := by omega
      have hgw : gb < wr.heap.size := by omega
      have z0 := hB3.frozen 1
      have z1 : w3.cell? ⟨W.heap.size, 1, none⟩ = some v2 := by rw [hB3.cell]; rfl
      obtain ⟨va2, vc2, rfl⟩ := slice_form h2
      clear HX h1 h2 h3 h4 h5 h6 hx f1 f2 f2' f3' hz hrow2 hg2 T2 o2 T3 T3s hB2 T3' hB3 hB4 T4 T3t hv2 hrowB hv3 o3 hr3 hcl
      go_wp2_with (first
        | (at_builtin; refine wpl_copy _ rfl _ _ 33 33 rfl _ _ rfl rfl (hr2 _ _ _) ?_)
        | go_in)
      go_region_law (refine step_append (by rfl) _ _ 78 78 (by rfl) _ _ (by simp [Act.eval]) (by simp [Act.eval]) (hr3' _) ?_)
      all_goals go_wp2
      all_goals go_roundw
      all_goals first
        | exact ⟨k + 1, _, _, by omega, by go_num, HX3⟩
        | (simp [intOf]; omega)
    · have hkn : fs.take k = fs := List.take_of_length_le (by rw [HQ.out]; omega)
      have HF := HX.out
      rw [hkn] at HF
      have HR : Hid _ := HF.done HH.out
      have HT : Hid _ := h6
      clear HF HX h1 h2 h3 h4 h5 h6 hkn
      go_wp2
      go_ret
      exact ⟨rfl, HR.out, HT.out⟩
end Go.Proofs.Ytlfgnbjioofplab
