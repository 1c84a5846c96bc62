import Derived.Test.YtmodcbdgnmjkoabDoorBz
import Derived.Laws.CopyRow
import Derived.Laws.OwnMore
namespace Go.Proofs.YtmodcbdgnmjkoabDoor
open Go.RowKit
set_option linter.unusedVariables false
set_option linter.unusedSimpArgs false
/-- The bits of a word, as the reference keeps them. -/
def encB (f : Nat → Int) : List Value := (List.range 32).map fun i => .int .i64 (f i)
theorem encB_len (f : Nat → Int) : (encB f).length = 32 := by simp [encB]
theorem encB_at (f : Nat → Int) (i : Nat) (h : i < 32) : (encB f)[i]? = some (.int .i64 (f i)) := by simp [encB, h]
def bt (x : Int) (i : Nat) : Int := x / 2 ^ i % 2
theorem bt_rng (x : Int) (i : Nat) : 0 ≤ bt x i ∧ bt x i ≤ 1 := by unfold bt; omega
theorem num_step (x : Int) (i k : Nat) : 2 * (x / 2 ^ (i + 1) % 2 ^ k) + bt x i = x / 2 ^ i % 2 ^ (k + 1) := by
  unfold bt
  have h1 : x / 2 ^ (i + 1) = x / 2 ^ i / 2 := by
    rw [Int.pow_succ, Int.ediv_ediv_of_nonneg (Int.le_of_lt (pow_pos i))]
  rw [h1]
  generalize x / 2 ^ i = y
  have hp := pow_pos k
  rw [Int.pow_succ, Int.mul_comm (2 ^ k) 2]
  generalize (2 : Int) ^ k = P at *
  have a1 := Int.emod_add_mul_ediv (y / 2) P
  have a2 := Int.emod_nonneg (y / 2) (show P ≠ 0 by omega)
  have a3 := Int.emod_lt_of_pos (y / 2) hp
  have e : y = 2 * (y / 2 % P) + y % 2 + 2 * P * (y / 2 / P) := by
    have e1 : 2 * P * (y / 2 / P) = 2 * (P * (y / 2 / P)) := by rw [Int.mul_assoc]
    rw [e1]
    omega
  have g : y % (2 * P) = (2 * (y / 2 % P) + y % 2) % (2 * P) := by
    have := Int.add_mul_emod_self_left (2 * (y / 2 % P) + y % 2) (2 * P) (y / 2 / P)
    rw [← e] at this
    exact this
  rw [g]
  exact (Int.emod_eq_of_lt (by omega) (by omega)).symm
theorem pow32 (k : Nat) (h : k ≤ 32) : (2 : Int) ^ k ≤ 4294967296 := by
  have := Nat.pow_le_pow_right (n := 2) (by omega) h
  have e := pow_nat k
  omega
set_option maxRecDepth 100000 in
set_option maxHeartbeats 4000000 in
theorem num_any (x : Int) (hi lo : Nat) (w : World) (h1 : lo ≤ hi) (h2 : hi < 32) : Calls Tryd.prog 41 #[.agg (encB (bt x)).toArray, .int .i64 hi, .int .i64 lo] w fun e w' => e = .returned (.int .i64 (x / 2 ^ lo % 2 ^ (hi + 1 - lo))) ∧ ∃ o, w' = w.alloc o := by
  have hN := Bl.new w 98 (encB (bt x))
  have hcell : ∀ k, k < 32 → (w.alloc (.cells (encB (bt x)).toArray 98)).cell? ⟨w.heap.size, k, none⟩ = some (.int .i64 (bt x k)) := fun k hk => (hN.cell k).trans (encB_at _ k hk)
  have HC : Hid (∀ k, k < 32 → (w.alloc (.cells (encB (bt x)).toArray 98)).cell? ⟨w.heap.size, k, none⟩ = some (.int .i64 (bt x k))) := hcell
  clear hcell hN
  generalize encB (bt x) = l at *
  go_enter Tryd.func41, Tryd.ntmps41
  go_wp2
  go_loopw [7, 8] (fun n i wr => ∃ m : Nat, lo ≤ m ∧ m ≤ hi + 1 ∧ n = .int .i64 (x / 2 ^ m % 2 ^ (hi + 1 - m)) ∧ i = .int .i64 ((m : Int) - 1) ∧ wr = w.alloc (.cells l.toArray 98)) (fun _ i _ => (intOf i + 1 - lo).toNat)
  case atStart => exact ⟨hi + 1, by omega, by omega, by rw [Nat.sub_self]; simp, congrArg _ (by omega), rfl⟩
  case round =>
    obtain ⟨m, hm1, hm2, rfl, rfl, rfl⟩ := hrel
    by_cases h : lo < m
    · obtain ⟨k, rfl⟩ : ∃ k, m = k + 1 := ⟨m - 1, by omega⟩
      have hst := num_step x k (hi + 1 - (k + 1))
      rw [show hi + 1 - (k + 1) + 1 = hi + 1 - k by omega] at hst
      have hc := HC.out k (by omega)
      have hb := bt_rng x k
      have n1 := Int.emod_nonneg (x / 2 ^ (k + 1)) (show (2 : Int) ^ (hi + 1 - (k + 1)) ≠ 0 by have := pow_pos (hi + 1 - (k + 1)); omega)
      have n2 := Int.emod_lt_of_pos (x / 2 ^ (k + 1)) (pow_pos (hi + 1 - (k + 1)))
      have n3 := pow32 (hi + 1 - (k + 1)) (by omega)
      generalize x / 2 ^ (k + 1) % 2 ^ (hi + 1 - (k + 1)) = V at *
      generalize bt x k = bb at *
      have e1 : ((k + 1 : Nat) : Int) - 1 = (k : Int) := by omega
      rw [e1]
      have g1 : (lo : Int) ≤ (k : Int) := by omega
      have g2 : (0 : Int) ≤ (k : Int) ∧ (k : Int) < 32 := by omega
      have w1 : IntKind.i64.wrap (2 * V) = 2 * V := by rw [IntKind.wrap_i64]; omega
      have w2 : IntKind.i64.wrap (2 * V + bb) = 2 * V + bb := by rw [IntKind.wrap_i64]; omega
      have HS : Hid (2 * V + bb = x / 2 ^ k % 2 ^ (hi + 1 - k)) := hst
      clear hst n1 n2 n3 hb
      go_wp2
      go_roundw
      case rel => exact ⟨k, by omega, by omega, by rw [← HS.out], rfl, trivial⟩
      case measure => simp [intOf]; omega
    · obtain rfl : m = lo := by omega
      have g1 : ¬ (m : Int) ≤ (m : Int) - 1 := by omega
      go_wp2
      go_ret
      exact ⟨rfl, _, rfl⟩
end Go.Proofs.YtmodcbdgnmjkoabDoor
namespace Go.Proofs.YtmodcbdgnmjkoabDoor
open Go.RowKit
set_option linter.unusedVariables false
set_option linter.unusedSimpArgs false
theorem zeroB (W : World) : (zeroValue 98).run Tryd.prog W = .ok (.agg (encB (fun _ => 0)).toArray) W := by kernel_rfl
theorem Bl.write1 {w : World} {b : Nat} {t : TypeId} {l : List Value} (h : Bl w b t l) (i : Nat) (v : Value) : Bl (w.setCell ⟨b, i, none⟩ v) b t (l.set i v) := by
  unfold Bl at h ⊢
  simp only [World.setCell, Array.getElem?_modify, h, if_true]
  simp
theorem encB_set (g : Nat → Int) (k : Nat) (v : Int) : (encB g).set k (.int .i64 v) = encB (fun j => if j = k then v else g j) := by
  apply List.ext_getElem?
  intro j
  by_cases hj : j < 32
  · by_cases hk : k = j
    · subst hk
      rw [List.getElem?_set_self (by rw [encB_len]; omega), encB_at _ _ hj, if_pos rfl]
    · rw [List.getElem?_set_ne hk, encB_at _ _ hj, encB_at _ _ hj, if_neg (fun e => hk e.symm)]
  · rw [List.getElem?_eq_none (by rw [List.length_set, encB_len]; omega), List.getElem?_eq_none (by rw [encB_len]; omega)]
/-- Loading an array of bits. -/
theorem loadB (W : World) (b : Nat) (g : Nat → Int) (h : Bl W b 98 (encB g)) : (Instr.loadAt 98 (Value.pointer (some ⟨b, 0, none⟩))).run Tryd.prog W = .ok (.agg (encB g).toArray) W := by
  have hl := run_loadCells_list (P := Tryd.prog) W ⟨b, 0, none⟩ (encB g) (fun j v hj => by rw [Addr.add_lit, Nat.zero_add, h.cell]; exact hj)
  rw [encB_len] at hl
  simp [Instr.loadAt, Instr.sureAddr, loadVar, Tryd.isAgg98, Tryd.sizeOf98, hl]
end Go.Proofs.YtmodcbdgnmjkoabDoor
namespace Go.Proofs.YtmodcbdgnmjkoabDoor
open Go.RowKit
set_option linter.unusedVariables false
set_option linter.unusedSimpArgs false
/-- Storing an array of bits. -/
theorem storeB (W : World) (b : Nat) (g : Nat → Int) (cur : List Value) (h : Bl W b 98 cur) (hc : cur.length = 32) : (Instr.storeAt 98 (Value.pointer (some ⟨b, 0, none⟩)) (.agg (encB g).toArray)).run Tryd.prog W = .ok () (W.setRow b (encB g).toArray) := by
  have hl := run_storeCells_at Tryd.prog b 0 98 (encB g) 0 cur.toArray W h (by rw [encB_len]; simp [hc]) (by
    intro v hv
    obtain ⟨i, _, rfl⟩ := List.mem_map.1 hv
    rfl)
  have e : (cur.take 0 ++ encB g ++ cur.drop (0 + (encB g).length)) = encB g := by
    rw [List.take_zero, List.nil_append, Nat.zero_add, encB_len, List.drop_eq_nil_of_le (by omega), List.append_nil]
  have hsz : (encB g).toArray.size = 32 := by rw [List.size_toArray, encB_len]
  simp only [Nat.add_zero] at hl
  rw [e] at hl
  simp [Instr.storeAt, Instr.sureAddr, storeVar, Value.cells, Tryd.sizeOf98, hsz, encB_len]
  exact hl
theorem storeB_bl (W : World) (b : Nat) (g : Nat → Int) (cur : List Value) (h : Bl W b 98 cur) : Bl (W.setRow b (encB g).toArray) b 98 (encB g) := setRow_heap W b _ _ _ _ h
theorem Below.setRow {B : Nat} {a w : World} (h : Below B a w) (b : Nat) (hb : B ≤ b) (c : Array Value) : Below B a (w.setRow b c) :=
  h.trans ⟨rfl, rfl, rfl, by simp [World.setRow], fun k hk => setRow_other w b k c (by omega)⟩
end Go.Proofs.YtmodcbdgnmjkoabDoor
namespace Go.Proofs.YtmodcbdgnmjkoabDoor
open Go.RowKit
set_option linter.unusedVariables false
set_option linter.unusedSimpArgs false
theorem wpl_loadB (w : World) {ops : Array Oper} {rest : List Oper} {o : Oper} {a : Act} {Q : Exit → Act → World → Prop} (hgd : o.guard = none) (x : Operand) (ho : o.op = Op.load 98 x) (v : Value) (hx : a.eval x = v) {v' : Value}
    (hr : (Instr.loadAt 98 v).run Tryd.prog w = .ok v' w) (h : wpList Tryd.prog ops Q rest (a.put o.dst v') w) : wpList Tryd.prog ops Q (o :: rest) a w := by
  refine wpList_plain hgd fun _ hK => ?_
  unfold Oper.wp execOp
  simp only [ho, hx, Sem.run_bind, hr, Sem.run_pure, Result.andThen_ok]
  exact hK _ _ h
theorem wpl_storeB (w : World) {ops : Array Oper} {rest : List Oper} {o : Oper} {a : Act} {Q : Exit → Act → World → Prop} (hgd : o.guard = none) (x y : Operand) (ho : o.op = Op.store 98 x y) (v u : Value) (hx : a.eval x = v) (hy : a.eval y = u) {w' : World}
    (hr : (Instr.storeAt 98 v u).run Tryd.prog w = .ok () w') (h : wpList Tryd.prog ops Q rest (a.put o.dst undef) w') : wpList Tryd.prog ops Q (o :: rest) a w := by
  refine wpList_plain hgd fun _ hK => ?_
  unfold Oper.wp execOp
  simp only [ho, hx, hy, Sem.run_bind, hr, Sem.run_pure, Result.andThen_ok]
  exact hK _ _ h
theorem bt_div (x : Int) (k : Nat) (hx : 0 ≤ x) : 0 ≤ x / 2 ^ k ∧ (x / 2 ^ k).tmod 2 = bt x k ∧ (x / 2 ^ k).tdiv 2 = x / 2 ^ (k + 1) := by
  have h0 : 0 ≤ x / 2 ^ k := Int.ediv_nonneg hx (Int.le_of_lt (pow_pos k))
  refine ⟨h0, Int.tmod_eq_emod_of_nonneg h0, ?_⟩
  rw [Int.tdiv_eq_ediv_of_nonneg h0, Int.pow_succ, Int.ediv_ediv_of_nonneg (Int.le_of_lt (pow_pos k))]
theorem encB_congr {f g : Nat → Int} (h : ∀ i, i < 32 → f i = g i) : encB f = encB g := by
  apply List.ext_getElem?
  intro j
  by_cases hj : j < 32
  · rw [encB_at _ _ hj, encB_at _ _ hj, h j hj]
  · rw [List.getElem?_eq_none (by rw [encB_len]; omega), List.getElem?_eq_none (by rw [encB_len]; omega)]
/-- The bits that are laid so far. -/
def part (x : Int) (k : Nat) : Nat → Int := fun j => if j < k then bt x j else 0
set_option maxRecDepth 100000 in
set_option maxHeartbeats 4000000 in
theorem bits_any (x : Int) (w : World) (hx : 0 ≤ x ∧ x < 4294967296) : Calls Tryd.prog 40 #[.int .u32 x] w fun e w' => e = .returned (.agg (encB (bt x)).toArray) ∧ Below w.heap.size w w' := by
  have hz := zeroB
  have h0 := (Bl.new w 98 (encB (fun _ => 0))).below ((Below.refl _ _).alloc (Nat.le_refl _) (.cells (encB (fun _ => 0)).toArray 98))
  have h1 := Bl.new (w.alloc (.cells (encB (fun _ => 0)).toArray 98)) 98 (encB (fun _ => 0))
  rw [show (w.alloc (.cells (encB (fun _ => 0)).toArray 98)).heap.size = w.heap.size + 1 by simp] at h1
  have HS : Hid (Bl ((w.alloc (.cells (encB (fun _ => 0)).toArray 98)).alloc (.cells (encB (fun _ => 0)).toArray 98)) w.heap.size 98 (encB (fun _ => 0)) ∧ Bl ((w.alloc (.cells (encB (fun _ => 0)).toArray 98)).alloc (.cells (encB (fun _ => 0)).toArray 98)) (w.heap.size + 1) 98 (encB (fun _ => 0)) ∧ Below w.heap.size w ((w.alloc (.cells (encB (fun _ => 0)).toArray 98)).alloc (.cells (encB (fun _ => 0)).toArray 98))) := ⟨h0, h1, (((Below.refl _ _).alloc (Nat.le_refl _) _).alloc (by simp) _)⟩
  clear h0 h1
  have Hx : Hid (0 ≤ x ∧ x < 4294967296) := hx
  clear hx
  generalize hzz : encB (fun _ => 0) = Z at *
  have HZZ : Hid (encB (fun _ => 0) = Z) := hzz
  clear hzz
  go_enter Tryd.func40, Tryd.ntmps40
  go_wp2
  go_loopw [0, 4] (fun p i wr => ∃ k : Nat, k ≤ 32 ∧ p = .int .u32 (x / 2 ^ k) ∧ i = .int .i64 k ∧ Hid (Bl wr w.heap.size 98 Z ∧ Bl wr (w.heap.size + 1) 98 (encB (part x k)) ∧ Below w.heap.size w wr)) (fun _ i _ => 32 - (intOf i).toNat)
  case atStart =>
    refine ⟨0, by omega, by simp, rfl, HS.out.1, ?_, HS.out.2.2⟩
    rw [show encB (part x 0) = Z from (encB_congr (fun i hi => by unfold part; rw [if_neg (by omega)])).trans HZZ.out]
    exact HS.out.2.1
  case round =>
    obtain ⟨k, hk, rfl, rfl, HX⟩ := hrel
    clear HS
    by_cases h : k < 32
    · obtain ⟨d0, d1, d2⟩ := bt_div x k Hx.out.1
      have hb := bt_rng x k
      have hc := (HX.out.2.1.cell k).trans (encB_at _ k h)
      have hf := HX.out.2.1.frozen k
      have g1 : (k : Int) < 32 := by omega
      have g2 : (0 : Int) ≤ (k : Int) := by omega
      have w1 : IntKind.i64.wrap (bt x k) = bt x k := by rw [IntKind.wrap_i64]; omega
      have HN : Hid (∀ v : Int, v = bt x k → (encB (part x k)).set k (.int .i64 v) = encB (part x (k + 1))) := by
        intro v hv
        rw [encB_set]
        apply encB_congr
        intro j hj
        unfold part
        by_cases e : j = k
        · rw [if_pos e, if_pos (by omega), hv, e]
        · rw [if_neg e]
          by_cases e2 : j < k
          · rw [if_pos e2, if_pos (by omega)]
          · rw [if_neg e2, if_neg (by omega)]
      go_wp2
      go_roundw
      case rel =>
        have hlt : x / 2 ^ (k + 1) % 4294967296 = x / 2 ^ (k + 1) := Int.emod_eq_of_lt (Int.ediv_nonneg Hx.out.1 (Int.le_of_lt (pow_pos _))) (Int.lt_of_le_of_lt (Int.ediv_le_self _ Hx.out.1) Hx.out.2)
        refine ⟨k + 1, by omega, by rw [hlt], rfl, ?_, ?_, ?_⟩
        · exact (Below.heap_setCell wr ⟨w.heap.size + 1, k, none⟩ _ w.heap.size (by simp)).trans HX.out.1
        · rw [← HN.out _ rfl]
          exact HX.out.2.1.write1 k _
        · exact Below.setCell HX.out.2.2 (by simp) _
      case measure => simp [intOf]; omega
    · obtain rfl : k = 32 := by omega
      have HP : Hid (encB (part x 32) = encB (bt x)) := encB_congr (fun i hi => by unfold part; rw [if_pos hi])
      have g1 : ¬ ((32 : Nat) : Int) < 32 := by omega
      have HL : Hid ((Instr.loadAt 98 (Value.pointer (some ⟨w.heap.size + 1, 0, none⟩))).run Tryd.prog wr = .ok (.agg (encB (bt x)).toArray) wr) := by
        have := loadB wr _ _ HX.out.2.1
        rw [HP.out] at this
        exact this
      have hZl : Z.length = 32 := by rw [← HZZ.out, encB_len]
      have HT : Hid ((Instr.storeAt 98 (Value.pointer (some ⟨w.heap.size, 0, none⟩)) (.agg (encB (bt x)).toArray)).run Tryd.prog wr = .ok () (wr.setRow w.heap.size (encB (bt x)).toArray)) := storeB wr _ _ Z HX.out.1 hZl
      have HR : Hid ((Instr.loadAt 98 (Value.pointer (some ⟨w.heap.size, 0, none⟩))).run Tryd.prog (wr.setRow w.heap.size (encB (bt x)).toArray) = .ok (.agg (encB (bt x)).toArray) (wr.setRow w.heap.size (encB (bt x)).toArray)) := loadB _ _ _ (storeB_bl wr _ _ Z HX.out.1)
      go_wp2_with (first
        | (guard_target =~ wpList _ _ _ (Oper.mk (some 16) _ _ _ _ _ :: _) _ _; refine wpl_loadB _ rfl _ rfl (.pointer (some ⟨w.heap.size + 1, 0, none⟩)) rfl HL.out ?_)
        | (guard_target =~ wpList _ _ _ (Oper.mk none (Op.store 98 _ _) _ _ _ _ :: _) _ _; refine wpl_storeB _ rfl _ _ rfl (.pointer (some ⟨w.heap.size, 0, none⟩)) (.agg (encB (bt x)).toArray) rfl rfl HT.out ?_)
        | go_in)
      have hR := HR.out
      refine bodyPost_ret (v := .agg (encB (bt x)).toArray) ?_ rfl ⟨rfl, Below.setRow HX.out.2.2 _ (Nat.le_refl _) _⟩
      simp [results, Tryd.results40, Instr.loadAt, Instr.sureAddr] at hR ⊢
      exact hR
end Go.Proofs.YtmodcbdgnmjkoabDoor
namespace Go.Proofs.YtmodcbdgnmjkoabDoor
open Go.RowKit
set_option linter.unusedVariables false
set_option linter.unusedSimpArgs false
theorem exec54 (o : Oper) (a : Act) (x : Operand) (ho : o.op = Op.load 98 x) (b : Nat) (g : Nat → Int) (hx : a.eval x = .pointer (some ⟨b, 0, none⟩)) (w : World) (h : Bl w b 98 (encB g)) :
    (execOp a.eval o).run Tryd.prog w = .ok (.value (.agg (encB g).toArray)) w := by
  unfold execOp
  simp only [ho, hx, Sem.run_bind, loadB w b g h, Sem.run_pure, Result.andThen_ok]
theorem hidIn {p : Prop} (h : p) : Hid p := h
theorem belS {w w1 w2 : World} (h1 : Below w.heap.size w w1) (h2 : Below w1.heap.size w1 w2) : Below w.heap.size w w2 := h1.trans (h2.mono h1.size)
theorem belA (w : World) (o : Obj) : Below w.heap.size w (w.alloc o) := (Below.refl _ _).alloc (Nat.le_refl _) o
theorem Bl.setC {w : World} {b : Nat} {t : TypeId} {l : List Value} (h : Bl w b t l) (c o : Nat) (hp : c ≠ b) (v : Value) : Bl (w.setCell ⟨c, o, none⟩ v) b t l := (Below.heap_setCell w ⟨c, o, none⟩ v b (Ne.symm hp)).trans h
theorem Bl.keep4 {w : World} {b : Nat} {t : TypeId} {l : List Value} (h : Bl w b t l) (c : Nat) (hc : c ≠ b) (v0 v1 v2 v3 : Value) : Bl ((((w.setCell ⟨c, 0, none⟩ v0).setCell ⟨c, 1, none⟩ v1).setCell ⟨c, 2, none⟩ v2).setCell ⟨c, 3, none⟩ v3) b t l := by
  have h := Bl.setC h c 0 hc v0
  have h := Bl.setC h c 1 hc v1
  have h := Bl.setC h c 2 hc v2
  have h := Bl.setC h c 3 hc v3
  exact h
theorem Bl.keep8' {w : World} {b : Nat} {t : TypeId} {l : List Value} (h : Bl w b t l) (c : Nat) (hc : c ≠ b) (v0 v1 v2 v3 v4 v5 v6 v7 : Value) : Bl ((((((((w.setCell ⟨c, 0, none⟩ v0).setCell ⟨c, 1, none⟩ v1).setCell ⟨c, 2, none⟩ v2).setCell ⟨c, 3, none⟩ v3).setCell ⟨c, 4, none⟩ v4).setCell ⟨c, 5, none⟩ v5).setCell ⟨c, 6, none⟩ v6).setCell ⟨c, 7, none⟩ v7) b t l := by
  have h := Bl.setC h c 0 hc v0
  have h := Bl.setC h c 1 hc v1
  have h := Bl.setC h c 2 hc v2
  have h := Bl.setC h c 3 hc v3
  have h := Bl.setC h c 4 hc v4
  have h := Bl.setC h c 5 hc v5
  have h := Bl.setC h c 6 hc v6
  have h := Bl.setC h c 7 hc v7
  exact h
theorem Bl.write4 {w : World} {c : Nat} {t : TypeId} {u0 u1 u2 u3 : Value} (h : Bl w c t [u0, u1, u2, u3]) (v0 v1 v2 v3 : Value) : Bl ((((w.setCell ⟨c, 0, none⟩ v0).setCell ⟨c, 1, none⟩ v1).setCell ⟨c, 2, none⟩ v2).setCell ⟨c, 3, none⟩ v3) c t [v0, v1, v2, v3] :=
  (((h.write1 0 v0).write1 1 v1).write1 2 v2).write1 3 v3
theorem belC {B : Nat} {a w : World} (h : Below B a w) (c : Nat) (hc : B ≤ c) (k : Nat) (v : Value) : Below B a (w.setCell ⟨c, k, none⟩ v) := Below.setCell h hc _
theorem via {G : Nat → World → Prop} {P : Nat → World → Prop} {R : Prop} (main : (∀ c w, P c w → G c w) → R) (key : ∀ c w, P c w → G c w) : R := main key
theorem power_l (n : Nat) (N : Int) (w : World) (hn : n ≤ 60) (hN : (2 : Int) ^ n = N) (m : Int) (hm : m = (n : Int)) : Calls Tryd.prog 42 #[.int .i64 m] w fun e w' => e = .returned (.int .u64 N) ∧ w = w' := by
  subst hm; subst hN
  exact power_any n w hn
/-- Behind 'b := bits(w)': the bits in block n, the result's block still zero. -/
structure RS (f : Nat → Int) (W : World) (n : Nat) (w : World) : Prop where
  arr : Bl w n 98 (encB f)
  res : Bl w W.heap.size 70 [.int .i64 0, .int .u64 0, .int .i64 0, .bool false, .int .i64 0, .int .u32 0, .bool false, .bool false]
  bel : Below W.heap.size W w
  lt : W.heap.size < n
theorem RS.below {f : Nat → Int} {W : World} {n : Nat} {w w' : World} (h : RS f W n w) (hb : Below w.heap.size w w') : RS f W n w' := ⟨h.arr.below hb, h.res.below hb, belS h.bel hb, h.lt⟩
theorem RS.drew {f : Nat → Int} {W : World} {n : Nat} {w : World} (h : RS f W n w) : RS f W n w.drew := ⟨h.arr.drew, h.res.drew, below_drew h.bel, h.lt⟩
theorem RS.cell {f : Nat → Int} {W : World} {n : Nat} {w : World} (h : RS f W n w) (k : Nat) (hk : k < 32) : w.cell? ⟨n, k, none⟩ = some (.int .i64 (f k)) := (h.arr.cell k).trans (encB_at f k hk)
theorem rs_start {f : Nat → Int} {W w1 : World} (Z : List Value) (hb : Below (W.alloc (.cells ([.int .i64 0, .int .u64 0, .int .i64 0, .bool false, .int .i64 0, .int .u32 0, .bool false, .bool false] : List Value).toArray 70)).heap.size (W.alloc (.cells ([.int .i64 0, .int .u64 0, .int .i64 0, .bool false, .int .i64 0, .int .u32 0, .bool false, .bool false] : List Value).toArray 70)) w1) :
    RS f W w1.heap.size ((w1.alloc (.cells Z.toArray 98)).setRow w1.heap.size (encB f).toArray) := by
  have h1 := (Bl.new W 70 [.int .i64 0, .int .u64 0, .int .i64 0, .bool false, .int .i64 0, .int .u32 0, .bool false, .bool false]).below hb
  have h2 := h1.lt
  refine ⟨storeB_bl _ _ f Z (Bl.new w1 98 Z), ?_, ?_, h2⟩
  · exact (setRow_other _ _ _ _ (by omega)).trans (h1.below (belA w1 _))
  · exact Below.setRow (belS (Below.one hb) (belA w1 _)) _ (by omega) _
/-- And with a leaf in block c. -/
structure RL (f : Nat → Int) (W : World) (n : Nat) (l : List Value) (c : Nat) (w : World) : Prop extends RS f W n w where
  leaf : Bl w c 47 l
  ltc : W.heap.size < c
  nec : c ≠ n
theorem RL.below {f : Nat → Int} {W : World} {n : Nat} {l : List Value} {c : Nat} {w w' : World} (h : RL f W n l c w) (hb : Below w.heap.size w w') : RL f W n l c w' := ⟨h.toRS.below hb, h.leaf.below hb, h.ltc, h.nec⟩
theorem RL.drew {f : Nat → Int} {W : World} {n : Nat} {l : List Value} {c : Nat} {w : World} (h : RL f W n l c w) : RL f W n l c w.drew := ⟨h.toRS.drew, h.leaf.drew, h.ltc, h.nec⟩
theorem RS.alloc {f : Nat → Int} {W : World} {n : Nat} {w : World} (h : RS f W n w) (l : List Value) : RL f W n l w.heap.size (w.alloc (.cells l.toArray 47)) :=
  ⟨h.below (belA w _), Bl.new w _ l, h.res.lt, by have := h.arr.lt; omega⟩
theorem RL.store {f : Nat → Int} {W : World} {n c : Nat} {w : World} {u0 u1 u2 u3 : Value} (h : RL f W n [u0, u1, u2, u3] c w) (v0 v1 v2 v3 : Value) : RL f W n [v0, v1, v2, v3] c ((((w.setCell ⟨c, 0, none⟩ v0).setCell ⟨c, 1, none⟩ v1).setCell ⟨c, 2, none⟩ v2).setCell ⟨c, 3, none⟩ v3) := by
  have h1 := h.ltc
  exact ⟨⟨h.arr.keep4 c h.nec _ _ _ _, h.res.keep4 c (by omega) _ _ _ _, belC (belC (belC (belC h.bel c (by omega) _ _) c (by omega) _ _) c (by omega) _ _) c (by omega) _ _, h.lt⟩, h.leaf.write4 _ _ _ _, h.ltc, h.nec⟩
theorem RL.put {f : Nat → Int} {W : World} {n c : Nat} {w : World} {l : List Value} (h : RL f W n l c w) (k : Nat) (v : Value) : RL f W n (l.set k v) c (w.setCell ⟨c, k, none⟩ v) := by
  have h1 := h.ltc
  exact ⟨⟨h.arr.setC c k h.nec v, h.res.setC c k (by omega) v, belC h.bel c (by omega) _ _, h.lt⟩, h.leaf.write1 k v, h.ltc, h.nec⟩
end Go.Proofs.YtmodcbdgnmjkoabDoor
