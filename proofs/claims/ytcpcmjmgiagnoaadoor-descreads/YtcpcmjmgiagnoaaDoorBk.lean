import Derived.Test.YtcpcmjmgiagnoaaDoorBj
namespace Go.Proofs.YtcpcmjmgiagnoaaDoor
open Go.RowKit
set_option linter.unusedVariables false
set_option linter.unusedSimpArgs false
theorem wpl_loadB (w : World) {ops : Array Oper} {rest : List Oper} {o : Oper} {a : Act} {Q : Exit → Act → World → Prop} (hgd : o.guard = none) (x : Operand) (ho : o.op = Op.load 54 x) (v : Value) (hx : a.eval x = v) {v' : Value}
    (hr : (Instr.loadAt 54 v).run Tryd.prog w = .ok v' w) (h : wpList Tryd.prog ops Q rest (a.put o.dst v') w) : wpList Tryd.prog ops Q (o :: rest) a w := by
  refine wpList_plain hgd fun _ hK => ?_
  unfold Oper.wp execOp
  simp only [ho, hx, Sem.run_bind, hr, Sem.run_pure, Result.andThen_ok]
  exact hK _ _ h
theorem wpl_storeB (w : World) {ops : Array Oper} {rest : List Oper} {o : Oper} {a : Act} {Q : Exit → Act → World → Prop} (hgd : o.guard = none) (x y : Operand) (ho : o.op = Op.store 54 x y) (v u : Value) (hx : a.eval x = v) (hy : a.eval y = u) {w' : World}
    (hr : (Instr.storeAt 54 v u).run Tryd.prog w = .ok () w') (h : wpList Tryd.prog ops Q rest (a.put o.dst undef) w') : wpList Tryd.prog ops Q (o :: rest) a w := by
  refine wpList_plain hgd fun _ hK => ?_
  unfold Oper.wp execOp
  simp only [ho, hx, hy, Sem.run_bind, hr, Sem.run_pure, Result.andThen_ok]
  exact hK _ _ h
theorem bt_div (x : Int) (k : Nat) (hx : 0 ≤ x) : 0 ≤ x / 2 ^ k ∧ (x / 2 ^ k).tmod 2 = bt x k ∧ (x / 2 ^ k).tdiv 2 = x / 2 ^ (k + 1) := by
  have h0 : 0 ≤ x / 2 ^ k := Int.ediv_nonneg hx (Int.le_of_lt (pow_pos k))
  refine ⟨h0, Int.tmod_eq_emod_of_nonneg h0, ?_⟩
  rw [Int.tdiv_eq_ediv_of_nonneg h0, Int.pow_succ, Int.ediv_ediv_of_nonneg (Int.le_of_lt (pow_pos k))]
theorem encB_congr {f g : Nat → Int} (h : ∀ i, i < 32 → f i = g i) : encB f = encB g := by
  apply List.ext_getElem?
  intro j
  by_cases hj : j < 32
  · rw [encB_at _ _ hj, encB_at _ _ hj, h j hj]
  · rw [List.getElem?_eq_none (by rw [encB_len]; omega), List.getElem?_eq_none (by rw [encB_len]; omega)]
/-- The bits that are laid so far. -/
def part (x : Int) (k : Nat) : Nat → Int := fun j => if j < k then bt x j else 0
set_option maxRecDepth 100000 in
set_option maxHeartbeats 4000000 in
theorem bits_any (x : Int) (w : World) (hx : 0 ≤ x ∧ x < 4294967296) : Calls Tryd.prog 33 #[.int .u32 x] w fun e w' => e = .returned (.agg (encB (bt x)).toArray) ∧ Below w.heap.size w w' := by
  have hz := zeroB
  have h0 := (Bl.new w 54 (encB (fun _ => 0))).below ((Below.refl _ _).alloc (Nat.le_refl _) (.cells (encB (fun _ => 0)).toArray 54))
  have h1 := Bl.new (w.alloc (.cells (encB (fun _ => 0)).toArray 54)) 54 (encB (fun _ => 0))
  rw [show (w.alloc (.cells (encB (fun _ => 0)).toArray 54)).heap.size = w.heap.size + 1 by simp] at h1
  have HS : Hid (Bl ((w.alloc (.cells (encB (fun _ => 0)).toArray 54)).alloc (.cells (encB (fun _ => 0)).toArray 54)) w.heap.size 54 (encB (fun _ => 0)) ∧ Bl ((w.alloc (.cells (encB (fun _ => 0)).toArray 54)).alloc (.cells (encB (fun _ => 0)).toArray 54)) (w.heap.size + 1) 54 (encB (fun _ => 0)) ∧ Below w.heap.size w ((w.alloc (.cells (encB (fun _ => 0)).toArray 54)).alloc (.cells (encB (fun _ => 0)).toArray 54))) := ⟨h0, h1, (((Below.refl _ _).alloc (Nat.le_refl _) _).alloc (by simp) _)⟩
  clear h0 h1
  have Hx : Hid (0 ≤ x ∧ x < 4294967296) := hx
  clear hx
  generalize hzz : encB (fun _ => 0) = Z at *
  have HZZ : Hid (encB (fun _ => 0) = Z) := hzz
  clear hzz
  go_enter Tryd.func33, Tryd.ntmps33
  go_wp2
  go_loopw [0, 4] (fun p i wr => ∃ k : Nat, k ≤ 32 ∧ p = .int .u32 (x / 2 ^ k) ∧ i = .int .i64 k ∧ Hid (Bl wr w.heap.size 54 Z ∧ Bl wr (w.heap.size + 1) 54 (encB (part x k)) ∧ Below w.heap.size w wr)) (fun _ i _ => 32 - (intOf i).toNat)
  case atStart =>
    refine ⟨0, by omega, by simp, rfl, HS.out.1, ?_, HS.out.2.2⟩
    rw [show encB (part x 0) = Z from (encB_congr (fun i hi => by unfold part; rw [if_neg (by omega)])).trans HZZ.out]
    exact HS.out.2.1
  case round =>
    obtain ⟨k, hk, rfl, rfl, HX⟩ := hrel
    clear HS
    by_cases h : k < 32
    · obtain ⟨d0, d1, d2⟩ := bt_div x k Hx.out.1
      have hb := bt_rng x k
      have hc := (HX.out.2.1.cell k).trans (encB_at _ k h)
      have hf := HX.out.2.1.frozen k
      have g1 : (k : Int) < 32 := by omega
      have g2 : (0 : Int) ≤ (k : Int) := by omega
      have w1 : IntKind.i64.wrap (bt x k) = bt x k := by rw [IntKind.wrap_i64]; omega
      have HN : Hid (∀ v : Int, v = bt x k → (encB (part x k)).set k (.int .i64 v) = encB (part x (k + 1))) := by
        intro v hv
        rw [encB_set]
        apply encB_congr
        intro j hj
        unfold part
        by_cases e : j = k
        · rw [if_pos e, if_pos (by omega), hv, e]
        · rw [if_neg e]
          by_cases e2 : j < k
          · rw [if_pos e2, if_pos (by omega)]
          · rw [if_neg e2, if_neg (by omega)]
      go_wp2
      go_roundw
      case rel =>
        have hlt : x / 2 ^ (k + 1) % 4294967296 = x / 2 ^ (k + 1) := Int.emod_eq_of_lt (Int.ediv_nonneg Hx.out.1 (Int.le_of_lt (pow_pos _))) (Int.lt_of_le_of_lt (Int.ediv_le_self _ Hx.out.1) Hx.out.2)
        refine ⟨k + 1, by omega, by rw [hlt], rfl, ?_, ?_, ?_⟩
        · exact (Below.heap_setCell wr ⟨w.heap.size + 1, k, none⟩ _ w.heap.size (by simp)).trans HX.out.1
        · rw [← HN.out _ rfl]
          exact HX.out.2.1.write1 k _
        · exact Below.setCell HX.out.2.2 (by simp) _
      case measure => simp [intOf]; omega
    · obtain rfl : k = 32 := by omega
      have HP : Hid (encB (part x 32) = encB (bt x)) := encB_congr (fun i hi => by unfold part; rw [if_pos hi])
      have g1 : ¬ ((32 : Nat) : Int) < 32 := by omega
      have HL : Hid ((Instr.loadAt 54 (Value.pointer (some ⟨w.heap.size + 1, 0, none⟩))).run Tryd.prog wr = .ok (.agg (encB (bt x)).toArray) wr) := by
        have := loadB wr _ _ HX.out.2.1
        rw [HP.out] at this
        exact this
      have hZl : Z.length = 32 := by rw [← HZZ.out, encB_len]
      have HT : Hid ((Instr.storeAt 54 (Value.pointer (some ⟨w.heap.size, 0, none⟩)) (.agg (encB (bt x)).toArray)).run Tryd.prog wr = .ok () (wr.setRow w.heap.size (encB (bt x)).toArray)) := storeB wr _ _ Z HX.out.1 hZl
      have HR : Hid ((Instr.loadAt 54 (Value.pointer (some ⟨w.heap.size, 0, none⟩))).run Tryd.prog (wr.setRow w.heap.size (encB (bt x)).toArray) = .ok (.agg (encB (bt x)).toArray) (wr.setRow w.heap.size (encB (bt x)).toArray)) := loadB _ _ _ (storeB_bl wr _ _ Z HX.out.1)
      go_wp2_with (first
        | (guard_target =~ wpList _ _ _ (Oper.mk (some 16) _ _ _ _ _ :: _) _ _; refine wpl_loadB _ rfl _ rfl (.pointer (some ⟨w.heap.size + 1, 0, none⟩)) rfl HL.out ?_)
        | (guard_target =~ wpList _ _ _ (Oper.mk none (Op.store 54 _ _) _ _ _ _ :: _) _ _; refine wpl_storeB _ rfl _ _ rfl (.pointer (some ⟨w.heap.size, 0, none⟩)) (.agg (encB (bt x)).toArray) rfl rfl HT.out ?_)
        | go_in)
      have hR := HR.out
      refine bodyPost_ret (v := .agg (encB (bt x)).toArray) ?_ rfl ⟨rfl, Below.setRow HX.out.2.2 _ (Nat.le_refl _) _⟩
      simp [results, Tryd.results33, Instr.loadAt, Instr.sureAddr] at hR ⊢
      exact hR
end Go.Proofs.YtcpcmjmgiagnoaaDoor
