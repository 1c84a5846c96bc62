import Derived.Test.YtplobjdghaokoaaSf
import Derived.Deep.RegionLaw
namespace Go.Proofs.Ytplobjdghaokoaa
open Go.RowKit
set_option linter.unusedVariables false

theorem step_append {P : Program} {ops : Array Oper} {o : Oper} {a : Act} {w : World} {K : Act → World → Prop} {Q : Exit → Act → World → Prop} {E : Prop}
    (hg : o.guard = none) (d x : Operand) (dT sT : TypeId) (hop : o.op = Op.call { callee := Callee.builtin Builtin.append, args := #[d, x], argTypes := #[dT, sT] })
    (v u : Value) (hd : a.eval d = v) (hx : a.eval x = u) {v' : Value} {w' : World} (hr : (Builtin.append_ #[dT, sT] o.type #[v, u]).run P w = .ok v' w') (hK : K (a.put o.dst v') w') :
    if Region.wanted o (yielded ops a.tmps) = true then Oper.wp P o a w K Q else E := by
  have hw : Region.wanted o (yielded ops a.tmps) = true := by simp [Region.wanted, hg]
  rw [if_pos hw]
  unfold Oper.wp
  simp [execOp, hop, resolve, invoke, builtin, hd, hx, hr, Result.andThen]
  exact hK
theorem zc_cut : (Builtin.zeroCells (Value.agg #[.int .i64 0, .bool false, .bool false, .bool false, .bool false]).cells 1).toList = [.int .i64 0, .bool false, .bool false, .bool false, .bool false] := by kernel_rfl

set_option maxHeartbeats 4000000 in
set_option maxRecDepth 100000 in
theorem delete_any (w : World) (g cap n i : Nat) (cs : List Cut) (hs : w.ownsRow 0 85 5 (.slice (some ⟨g, 0, none⟩) n cap) n (cs.flatMap Cut.enc)) (hcn : cs.length = n) (hi : i < n) (hn : n ≤ 268435456) :
    Calls Try.prog 49 #[.slice (some ⟨g, 0, none⟩) n cap, .int .i64 i, .int .i64 ((i : Int) + 1)] w fun e w' => e = .returned (.slice (some ⟨g, 0, none⟩) (n - 1) cap) ∧ w'.ownsRow 0 85 5 (.slice (some ⟨g, 0, none⟩) (n - 1) cap) (n - 1) ((cs.eraseIdx i).flatMap Cut.enc) ∧ Turn (· = g) w w' := by
  rcases row_of_own hs with ⟨e, _, _⟩ | ⟨g', cap', cur, e, hlo, hg, hnc, hcm, hcl, hct⟩
  · cases e
  cases e
  have hcm0 := hcm
  unfold maxLen at hcm
  obtain ⟨inf, hi0, hz0, hzs, hzb⟩ := info_parts infoEL
  have hl1 : ((cs.flatMap Cut.enc).drop ((i + 1) * 5)).length = (n - (i + 1)) * 5 := by rw [List.length_drop, cat_len Cut.enc 5 Cut.enc_len, hcn]; omega
  have h1x : ∀ u ∈ (cs.flatMap Cut.enc).drop ((i + 1) * 5), u.oneCell' = true := fun u hu => enc_one cs u (List.mem_of_mem_drop hu)
  have hcl5 : n * 5 ≤ cur.length := by rw [hcl]; exact Nat.mul_le_mul_right _ hnc
  have hxl : (cs.flatMap Cut.enc).length = n * 5 := by rw [cat_len Cut.enc 5 Cut.enc_len, hcn]
  have hg' : RowAt w.drew g 85 cur := hg
  have hadr : ∀ ad : Addr, (i + 1 < n → ad = ⟨g, (i + 1) * 5, none⟩) → ∀ c', ∃ w1, (∀ ty, (Builtin.append_ #[79, 79] ty #[.slice (some ⟨g, 0, none⟩) i cap, .slice (some ad) (n - (i + 1)) c']).run Try.prog w.drew = .ok (.slice (some ⟨g, 0, none⟩) (n - 1) cap) w1) ∧ RowAt w1 g 85 (cur.take (i * 5) ++ (cs.flatMap Cut.enc).drop ((i + 1) * 5) ++ cur.drop (i * 5 + (n - (i + 1)) * 5)) ∧ w.drew.grownBy w1 (some g) := fun ad had c' => by
    have hsrc : Src Try.prog 5 79 (.slice (some ad) (n - (i + 1)) c') (n - (i + 1)) ((cs.flatMap Cut.enc).drop ((i + 1) * 5)) w.drew :=
      Src.ofSlice _ Try.underlying79 ad (n - (i + 1)) c' _ hl1 (fun j u hj => by
        have hlt : i + 1 < n := by
          have := (List.getElem?_eq_some_iff.1 hj).1
          rw [hl1] at this
          omega
        rw [had hlt, Addr.add_lit]
        show w.cell? _ = _
        rw [hg.cell]
        rw [List.getElem?_drop, ← hct, List.getElem?_take] at hj
        split at hj
        · exact hj
        · cases hj) h1x
    obtain ⟨w1, h1, h2, h3⟩ := append_room (P := Try.prog) w.drew 79 85 inf Try.underlying79 hi0 g i cap cur hg' _ (n - (i + 1)) _ (by rw [hzs]; exact hsrc) (by omega) (by rw [hzs, hl1]; omega)
    rw [hzs, hl1] at h2
    refine ⟨w1, fun ty => ?_, h2, h3⟩
    have := h1 ty
    rw [show i + (n - (i + 1)) = n - 1 by omega] at this
    exact this
  have hfin : ∀ w1, RowAt w1 g 85 (cur.take (i * 5) ++ (cs.flatMap Cut.enc).drop ((i + 1) * 5) ++ cur.drop (i * 5 + (n - (i + 1)) * 5)) → w.drew.grownBy w1 (some g) → ∃ w2, (∀ ty c, (Builtin.clear_ #[79] ty #[.slice (some ⟨g, (n - 1) * 5, none⟩) 1 c]).run Try.prog w1 = .ok (.tuple #[]) w2) ∧ Hid (w2.ownsRow 0 85 5 (.slice (some ⟨g, 0, none⟩) (n - 1) cap) (n - 1) ((cs.eraseIdx i).flatMap Cut.enc) ∧ Turn (· = g) w w2) := fun w1 hr1 hg1 => by
    have hrl : (cur.take (i * 5) ++ (cs.flatMap Cut.enc).drop ((i + 1) * 5) ++ cur.drop (i * 5 + (n - (i + 1)) * 5)).length = cap * 5 := by
      rw [List.length_append, List.length_append, hl1, List.length_take, List.length_drop, hcl]; omega
    obtain ⟨w2, h1, h2, h3⟩ := clear_row (P := Try.prog) w1 79 85 inf _ Try.underlying79 hi0 hz0 g ((n - 1) * 5) 1 _ 85 hr1 (by rw [hrl]; show _ + 1 * 5 ≤ _; omega) (by rw [zc_cut]; intro v hv; simp at hv; rcases hv with rfl | rfl <;> rfl) (by omega)
    refine ⟨w2, h1, own_of_row h2 (Nat.zero_le _) (by omega) hcm0 ?_ ?_, ?_⟩
    · rw [zc_cut, List.length_append, List.length_append, List.length_take, List.length_drop, hrl]
      show _ + 5 + (_ - (_ + 1 * 5)) = _
      omega
    · have hA : (cur.take (i * 5) ++ (cs.flatMap Cut.enc).drop ((i + 1) * 5)).length = (n - 1) * 5 := by
        rw [List.length_append, List.length_take, hl1]; omega
      rw [List.append_assoc, List.take_append_of_le_length (by rw [List.length_take, hrl]; omega), List.take_take, Nat.min_self, List.take_append_of_le_length (by rw [hA]; exact Nat.le_refl _), List.take_of_length_le (by rw [hA]; exact Nat.le_refl _)]
      rw [List.eraseIdx_eq_take_drop_succ, List.flatMap_append, flat_take, flat_drop]
      congr 1
      rw [← hct, List.take_take, Nat.min_eq_left (by omega)]
    · exact (((Turn.refl (· = g) w).drewN 1).trans (Turn.grown (S := (· = g)) hg1 (fun k hk => .inl (by cases hk; rfl))) (fun b hb => .inl hb)).trans (Turn.grown (S := (· = g)) h3 (fun k hk => .inl (by cases hk; rfl))) (fun b hb => .inl hb)
  have hii : (i : Int) ≤ (i : Int) + 1 := by omega
  have hin : (i : Int) + 1 ≤ (n : Int) := by omega
  have hne : ¬ ((i : Int) = (i : Int) + 1) := by omega
  have htn : ((i : Int) + 1).toNat = i + 1 := by omega
  have hn1 : (n : Int) ≤ (cap : Int) := by omega
  have hb4 : ¬ (cap = n - 1) := by omega
  have hs1 : n - (n - 1) = 1 := by omega
  have hic : i ≤ cap := by omega
  have hi10 : (0 : Int) ≤ (i : Int) + 1 := by omega
  have hjn : i + 1 ≤ n := by omega
  have hjc : i + 1 ≤ cap := by omega
  have hnn : n - 1 ≤ n := by omega
  clear hs hct hcl h1x hl1 hxl hg' hg
  by_cases hlast : i + 1 = cap
  · obtain ⟨w1, hr1, hrow1, hg1⟩ := hadr ⟨g, 0, none⟩ (fun h => by omega) (cap - (i + 1))
    obtain ⟨w2, hr2, HF⟩ := hfin w1 hrow1 hg1
    have hb2 : cap = i + 1 := hlast.symm
    clear hadr hfin hrow1 hg1 hlast
    subst hb2
    obtain rfl : n = i + 1 := by omega
    simp only [Nat.sub_self, Nat.add_sub_cancel] at hr1 hr2 HF hs1 hb4 ⊢
    go_enter Try.func49, Try.ntmps49
    go_wp2
    go_region_law (refine step_append (by rfl) _ _ 79 79 (by rfl) _ _ (by simp [Act.eval, Act.put]) (by simp [Act.eval, Act.put]) (hr1 _) ?_)
    go_wp2_with (at_builtin; refine wpl_clear _ rfl _ 79 rfl _ rfl (hr2 _ _) ?_)
    go_ret
    exact ⟨rfl, HF.out⟩
  · obtain ⟨w1, hr1, hrow1, hg1⟩ := hadr ⟨g, (i + 1) * 5, none⟩ (fun _ => rfl) (cap - (i + 1))
    obtain ⟨w2, hr2, HF⟩ := hfin w1 hrow1 hg1
    have hb2 : ¬ (cap = i + 1) := fun e => hlast e.symm
    clear hadr hfin hrow1 hg1
    go_enter Try.func49, Try.ntmps49
    go_wp2
    go_region_law (refine step_append (by rfl) _ _ 79 79 (by rfl) _ _ (by simp [Act.eval, Act.put]) (by simp [Act.eval, Act.put]) (hr1 _) ?_)
    go_wp2_with (at_builtin; refine wpl_clear _ rfl _ 79 rfl _ rfl (hr2 _ _) ?_)
    go_ret
    exact ⟨rfl, HF.out⟩
end Go.Proofs.Ytplobjdghaokoaa
