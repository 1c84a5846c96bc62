import Derived.Test.YtliiblaodhcjhabRSpW
namespace Go.Proofs.Ytliiblaodhcjhab
open Go.RowKit
set_option linter.unusedVariables false

theorem infoD : (Try.prog.info? 96).map (fun i => (i.zero, i.size, i.bytes)) = some (some (.agg #[.int .u64 0, .int .u64 0, .bool false, .int .i64 0]), 4, 32) := by kernel_rfl

theorem ref_ne {W : World} {lo p : Nat} {v : Value} {D : List Dn} (h : RefAt W lo p v D) : ∀ g, v.ownBlock = some g → p ≠ g := by
  intro g hg e
  rcases row_of_own h.own with ⟨rfl, _, _⟩ | ⟨g', cap, cur, rfl, a, b, _⟩
  · cases hg
  · cases hg
    have h1 := h.box
    have h2 : W.heap[g']? = _ := b
    rw [show g' = p from e.symm, h1] at h2
    cases h2

/-- append of one more that was done. -/
theorem did_append (w : World) (lo p : Nat) (v : Value) (D : List Dn) (d : Dn) (h : RefAt w lo p v D) (hs : D.length ≤ 2097152) :
    ∃ v' w', (∀ ty, (Builtin.append_ #[53, 53] ty #[v, .slice (some ⟨w.heap.size, 0, none⟩) 1 1]).run Try.prog (w.alloc (.cells #[.int .u64 d.lo, .int .u64 d.hi, .bool d.has, .int .i64 d.val] 96)) = .ok v' w') ∧ w'.ownsRow lo 96 4 v' (D ++ [d]).length ((D ++ [d]).flatMap encD) ∧ w.grownBy w' v.ownBlock ∧ (∀ g, v'.ownBlock = some g → v.ownBlock = some g ∨ w.heap.size ≤ g) := by
  obtain ⟨inf, hi0, hz0, hzs, hzb⟩ := info_parts infoD
  have hlt := h.lt
  have hlow := h.low
  have h1 : Below w.heap.size w (w.alloc (.cells #[.int .u64 d.lo, .int .u64 d.hi, .bool d.has, .int .i64 d.val] 96)) := below_alloc (Below.refl _ w) _
  have ho1 : (w.alloc (.cells #[.int .u64 d.lo, .int .u64 d.hi, .bool d.has, .int .i64 d.val] 96)).ownsRow 0 96 4 (.slice (some ⟨w.heap.size, 0, none⟩) 1 1) 1 (encD d) :=
    own_of_row (cur := encD d) (heap_alloc_new w _) (Nat.zero_le _) (Nat.le_refl _) (by decide) rfl rfl
  obtain ⟨v', w', hr, ho, hg, hb⟩ := append_any (P := Try.prog) (w.alloc (.cells #[.int .u64 d.lo, .int .u64 d.hi, .bool d.has, .int .i64 d.val] 96)) 53 96 inf _ Try.underlying53 hi0 hz0 (by rw [hzs]; rfl) lo D.length 1 v (.slice (some ⟨w.heap.size, 0, none⟩) 1 1) (D.flatMap encD) (encD d)
    (by rw [hzs]; exact row_keep h.own h1) (by rw [hzs]; exact src_of_own Try.underlying53 ho1 (by intro u hu; simp [encD] at hu; rcases hu with rfl | rfl | rfl | rfl <;> rfl)) (by have := h1.size; omega) (by unfold maxLen; omega) (by rw [hzb]; omega)
  refine ⟨v', w', hr, ?_, grownBy_trans (grownBy_none _ (below_grown h1)) hg, fun g hgg => ?_⟩
  · rw [hzs] at ho
    rw [List.length_append, List.flatMap_append]
    simpa using ho
  · rcases hb g hgg with e | e
    · exact .inl e
    · exact .inr (Nat.le_trans h1.size e)

theorem after_ref {W w6 : World} {lo p : Nat} {v v' : Value} {D : List Dn} {d : Dn} (h : RefAt W lo p v D) (ho : w6.ownsRow lo 96 4 v' (D ++ [d]).length ((D ++ [d]).flatMap encD)) (hg : W.grownBy w6 v.ownBlock) (hb : ∀ g, v'.ownBlock = some g → v.ownBlock = some g ∨ W.heap.size ≤ g)
    (hd : 0 ≤ d.lo ∧ d.lo ≤ d.hi ∧ d.hi ≤ 18446744073709551615 ∧ (d.has = false → d.val = 0)) :
    w6.cell? ⟨p, 0, none⟩ = some v ∧ w6.frozen? ⟨p, 0, none⟩ = false ∧ (∃ v'', RefAt (w6.setCell ⟨p, 0, none⟩ v') lo p v'' (D ++ [d]) ∧ Turn W (w6.setCell ⟨p, 0, none⟩ v') p v ∧ (∀ g, v''.ownBlock = some g → v.ownBlock = some g ∨ W.heap.size ≤ g)) := by
  have hlt := h.lt
  have hne := ref_ne h
  have hbox : w6.heap[p]? = some (.cells #[v] 55 (0, 0)) := by
    rw [hg.block p hlt (fun e => hne p e.symm rfl)]; exact h.box
  refine ⟨by simp [World.cell?, hbox], by simp [World.frozen?, hbox], v', ⟨?_, ?_, h.low, ?_⟩, ?_, hb⟩
  · rw [setCell_eq_setRow w6 p 0 #[v] 55 (0, 0) v' hbox]
    exact setRow_heap w6 p _ _ 55 (0, 0) hbox
  · have hnp : v'.ownBlock ≠ some p := by
      intro e
      rcases hb p e with e2 | e2
      · exact hne p e2 rfl
      · omega
    rcases row_of_own ho with ⟨rfl, h1, h2⟩ | ⟨g, cap, cur, rfl, a, b, c, dd, e, f⟩
    · simp at h1
    · refine own_of_row (g := g) (cur := cur) ?_ a c dd e f
      show (w6.setCell _ _).heap[g]? = _
      rw [Below.heap_setCell _ _ _ _ (fun e => hnp (by show some g = some p; rw [e]))]; exact b
  · intro e he
    rcases List.mem_append.1 he with he | he
    · exact h.rng e he
    · rw [List.mem_singleton] at he
      subst he
      exact hd
  · refine ⟨hg.os, hg.tape, hg.output, ?_, fun k hk hkp hkv => ?_⟩
    · have h2 := hg.size
      simp [World.setCell]; omega
    · rw [Below.heap_setCell _ _ _ _ hkp, hg.block k hk hkv]

def didR (D : List Dn) (d : Dn) : List Dn := if d.lo ≤ d.hi then D ++ [d] else D

set_option maxHeartbeats 4000000 in
set_option maxRecDepth 100000 in
theorem rset_any (W : World) (lo p : Nat) (v : Value) (D : List Dn) (a b x : Int) (h : RefAt W lo p v D) (hs : D.length ≤ 2097152) (ha : 0 ≤ a) (hb : b ≤ 18446744073709551615) :
    Calls Try.prog 52 #[.pointer (some ⟨p, 0, none⟩), .int .u64 a, .int .u64 b, .int .i64 x] W fun e W' => e = .returned (.int .i64 (errC a b)) ∧ ∃ v', RefAt W' lo p v' (didR D ⟨a, b, true, x⟩) ∧ Turn W W' p v ∧ (∀ g, v'.ownBlock = some g → v.ownBlock = some g ∨ W.heap.size ≤ g) := by
  by_cases hab : a ≤ b
  · rw [errC, if_pos hab, didR, if_pos (show (⟨a, b, true, x⟩ : Dn).lo ≤ (⟨a, b, true, x⟩ : Dn).hi from hab)]
    obtain ⟨v', w2, hr, ho, hg, hbb⟩ := did_append W lo p v D ⟨a, b, true, x⟩ h hs
    obtain ⟨hx1, hx2, hx3⟩ := after_ref h ho hg hbb ⟨ha, hab, hb, fun e => by cases e⟩
    obtain ⟨va, vc, hv⟩ := slice_form h.own
    have hcW : W.cell? ⟨p, 0, none⟩ = some v := h.cell
    have hab' : ¬ (b < a) := by omega
    obtain ⟨va', vc', hv'⟩ := slice_form ho
    dsimp only at hr
    subst hv
    subst hv'
    have HX : Hid (∃ v'', RefAt (w2.setCell ⟨p, 0, none⟩ (.slice va' (D ++ [Dn.mk a b true x]).length vc')) lo p v'' (D ++ [Dn.mk a b true x]) ∧ Turn W (w2.setCell ⟨p, 0, none⟩ (.slice va' (D ++ [Dn.mk a b true x]).length vc')) p (.slice va D.length vc) ∧ (∀ g, v''.ownBlock = some g → (Value.slice va D.length vc).ownBlock = some g ∨ W.heap.size ≤ g)) := hx3
    generalize hDD : D ++ [(⟨a, b, true, x⟩ : Dn)] = DD at *
    clear ho hg hbb hDD hx3
    go_enter Try.func52, Try.ntmps52
    go_wp2_with (at_builtin; refine Lib.wpList_append_run _ rfl _ _ 53 53 rfl _ _ (by rfl) (by rfl) _ _ (hr _) ?_)
    go_ret
    exact ⟨rfl, HX.out⟩
  · rw [errC, if_neg hab, didR, if_neg (show ¬ (⟨a, b, true, x⟩ : Dn).lo ≤ (⟨a, b, true, x⟩ : Dn).hi from hab)]
    have hab' : b < a := by omega
    go_enter Try.func52, Try.ntmps52
    go_wp2
    go_ret
    exact ⟨rfl, v, h, Turn.refl _ _ _, fun g hg => .inl hg⟩

set_option maxHeartbeats 4000000 in
set_option maxRecDepth 100000 in
theorem rclear_any (W : World) (lo p : Nat) (v : Value) (D : List Dn) (a b : Int) (h : RefAt W lo p v D) (hs : D.length ≤ 2097152) (ha : 0 ≤ a) (hb : b ≤ 18446744073709551615) :
    Calls Try.prog 53 #[.pointer (some ⟨p, 0, none⟩), .int .u64 a, .int .u64 b] W fun e W' => e = .returned (.int .i64 (errC a b)) ∧ ∃ v', RefAt W' lo p v' (didR D ⟨a, b, false, 0⟩) ∧ Turn W W' p v ∧ (∀ g, v'.ownBlock = some g → v.ownBlock = some g ∨ W.heap.size ≤ g) := by
  by_cases hab : a ≤ b
  · rw [errC, if_pos hab, didR, if_pos (show (⟨a, b, false, 0⟩ : Dn).lo ≤ (⟨a, b, false, 0⟩ : Dn).hi from hab)]
    obtain ⟨v', w2, hr, ho, hg, hbb⟩ := did_append W lo p v D ⟨a, b, false, 0⟩ h hs
    obtain ⟨hx1, hx2, hx3⟩ := after_ref h ho hg hbb ⟨ha, hab, hb, fun e => rfl⟩
    obtain ⟨va, vc, hv⟩ := slice_form h.own
    have hcW : W.cell? ⟨p, 0, none⟩ = some v := h.cell
    have hab' : ¬ (b < a) := by omega
    obtain ⟨va', vc', hv'⟩ := slice_form ho
    dsimp only at hr
    subst hv
    subst hv'
    have HX : Hid (∃ v'', RefAt (w2.setCell ⟨p, 0, none⟩ (.slice va' (D ++ [Dn.mk a b false 0]).length vc')) lo p v'' (D ++ [Dn.mk a b false 0]) ∧ Turn W (w2.setCell ⟨p, 0, none⟩ (.slice va' (D ++ [Dn.mk a b false 0]).length vc')) p (.slice va D.length vc) ∧ (∀ g, v''.ownBlock = some g → (Value.slice va D.length vc).ownBlock = some g ∨ W.heap.size ≤ g)) := hx3
    generalize hDD : D ++ [(⟨a, b, false, 0⟩ : Dn)] = DD at *
    clear ho hg hbb hDD hx3
    go_enter Try.func53, Try.ntmps53
    go_wp2_with (at_builtin; refine Lib.wpList_append_run _ rfl _ _ 53 53 rfl _ _ (by rfl) (by rfl) _ _ (hr _) ?_)
    go_ret
    exact ⟨rfl, HX.out⟩
  · rw [errC, if_neg hab, didR, if_neg (show ¬ (⟨a, b, false, 0⟩ : Dn).lo ≤ (⟨a, b, false, 0⟩ : Dn).hi from hab)]
    have hab' : b < a := by omega
    go_enter Try.func53, Try.ntmps53
    go_wp2
    go_ret
    exact ⟨rfl, v, h, Turn.refl _ _ _, fun g hg => .inl hg⟩
end Go.Proofs.Ytliiblaodhcjhab
