import Derived.Test.YtcpcmjmgiagnoabDoorBz
import Derived.Laws.CopyRow
import Derived.Laws.OwnMore
namespace Go.Proofs.YtcpcmjmgiagnoabDoor
open Go.RowKit
set_option linter.unusedVariables false
set_option linter.unusedSimpArgs false
/-- The bits of a word, as the reference keeps them. -/
def encB (f : Nat → Int) : List Value := (List.range 32).map fun i => .int .i64 (f i)
theorem encB_len (f : Nat → Int) : (encB f).length = 32 := by simp [encB]
theorem encB_at (f : Nat → Int) (i : Nat) (h : i < 32) : (encB f)[i]? = some (.int .i64 (f i)) := by simp [encB, h]
def bt (x : Int) (i : Nat) : Int := x / 2 ^ i % 2
theorem bt_rng (x : Int) (i : Nat) : 0 ≤ bt x i ∧ bt x i ≤ 1 := by unfold bt; omega
theorem num_step (x : Int) (i k : Nat) : 2 * (x / 2 ^ (i + 1) % 2 ^ k) + bt x i = x / 2 ^ i % 2 ^ (k + 1) := by
  unfold bt
  have h1 : x / 2 ^ (i + 1) = x / 2 ^ i / 2 := by
    rw [Int.pow_succ, Int.ediv_ediv_of_nonneg (Int.le_of_lt (pow_pos i))]
  rw [h1]
  generalize x / 2 ^ i = y
  have hp := pow_pos k
  rw [Int.pow_succ, Int.mul_comm (2 ^ k) 2]
  generalize (2 : Int) ^ k = P at *
  have a1 := Int.emod_add_mul_ediv (y / 2) P
  have a2 := Int.emod_nonneg (y / 2) (show P ≠ 0 by omega)
  have a3 := Int.emod_lt_of_pos (y / 2) hp
  have e : y = 2 * (y / 2 % P) + y % 2 + 2 * P * (y / 2 / P) := by
    have e1 : 2 * P * (y / 2 / P) = 2 * (P * (y / 2 / P)) := by rw [Int.mul_assoc]
    rw [e1]
    omega
  have g : y % (2 * P) = (2 * (y / 2 % P) + y % 2) % (2 * P) := by
    have := Int.add_mul_emod_self_left (2 * (y / 2 % P) + y % 2) (2 * P) (y / 2 / P)
    rw [← e] at this
    exact this
  rw [g]
  exact (Int.emod_eq_of_lt (by omega) (by omega)).symm
theorem pow32 (k : Nat) (h : k ≤ 32) : (2 : Int) ^ k ≤ 4294967296 := by
  have := Nat.pow_le_pow_right (n := 2) (by omega) h
  have e := pow_nat k
  omega
theorem zeroB (W : World) : (zeroValue 54).run Tryd.prog W = .ok (.agg (encB (fun _ => 0)).toArray) W := by kernel_rfl
theorem Bl.write1 {w : World} {b : Nat} {t : TypeId} {l : List Value} (h : Bl w b t l) (i : Nat) (v : Value) : Bl (w.setCell ⟨b, i, none⟩ v) b t (l.set i v) := by
  unfold Bl at h ⊢
  simp only [World.setCell, Array.getElem?_modify, h, if_true]
  simp
theorem encB_set (g : Nat → Int) (k : Nat) (v : Int) : (encB g).set k (.int .i64 v) = encB (fun j => if j = k then v else g j) := by
  apply List.ext_getElem?
  intro j
  by_cases hj : j < 32
  · by_cases hk : k = j
    · subst hk
      rw [List.getElem?_set_self (by rw [encB_len]; omega), encB_at _ _ hj, if_pos rfl]
    · rw [List.getElem?_set_ne hk, encB_at _ _ hj, encB_at _ _ hj, if_neg (fun e => hk e.symm)]
  · rw [List.getElem?_eq_none (by rw [List.length_set, encB_len]; omega), List.getElem?_eq_none (by rw [encB_len]; omega)]
/-- Loading an array of bits. -/
theorem loadB (W : World) (b : Nat) (g : Nat → Int) (h : Bl W b 54 (encB g)) : (Instr.loadAt 54 (Value.pointer (some ⟨b, 0, none⟩))).run Tryd.prog W = .ok (.agg (encB g).toArray) W := by
  have hl := run_loadCells_list (P := Tryd.prog) W ⟨b, 0, none⟩ (encB g) (fun j v hj => by rw [Addr.add_lit, Nat.zero_add, h.cell]; exact hj)
  rw [encB_len] at hl
  simp [Instr.loadAt, Instr.sureAddr, loadVar, Tryd.isAgg54, Tryd.sizeOf54, hl]
/-- Storing an array of bits. -/
theorem storeB (W : World) (b : Nat) (g : Nat → Int) (cur : List Value) (h : Bl W b 54 cur) (hc : cur.length = 32) : (Instr.storeAt 54 (Value.pointer (some ⟨b, 0, none⟩)) (.agg (encB g).toArray)).run Tryd.prog W = .ok () (W.setRow b (encB g).toArray) := by
  have hl := run_storeCells_at Tryd.prog b 0 54 (encB g) 0 cur.toArray W h (by rw [encB_len]; simp [hc]) (by
    intro v hv
    obtain ⟨i, _, rfl⟩ := List.mem_map.1 hv
    rfl)
  have e : (cur.take 0 ++ encB g ++ cur.drop (0 + (encB g).length)) = encB g := by
    rw [List.take_zero, List.nil_append, Nat.zero_add, encB_len, List.drop_eq_nil_of_le (by omega), List.append_nil]
  have hsz : (encB g).toArray.size = 32 := by rw [List.size_toArray, encB_len]
  simp only [Nat.add_zero] at hl
  rw [e] at hl
  simp [Instr.storeAt, Instr.sureAddr, storeVar, Value.cells, Tryd.sizeOf54, hsz, encB_len]
  exact hl
theorem storeB_bl (W : World) (b : Nat) (g : Nat → Int) (cur : List Value) (h : Bl W b 54 cur) : Bl (W.setRow b (encB g).toArray) b 54 (encB g) := setRow_heap W b _ _ _ _ h
theorem Below.setRow {B : Nat} {a w : World} (h : Below B a w) (b : Nat) (hb : B ≤ b) (c : Array Value) : Below B a (w.setRow b c) :=
  h.trans ⟨rfl, rfl, rfl, by simp [World.setRow], fun k hk => setRow_other w b k c (by omega)⟩
theorem wpl_loadB (w : World) {ops : Array Oper} {rest : List Oper} {o : Oper} {a : Act} {Q : Exit → Act → World → Prop} (hgd : o.guard = none) (x : Operand) (ho : o.op = Op.load 54 x) (v : Value) (hx : a.eval x = v) {v' : Value}
    (hr : (Instr.loadAt 54 v).run Tryd.prog w = .ok v' w) (h : wpList Tryd.prog ops Q rest (a.put o.dst v') w) : wpList Tryd.prog ops Q (o :: rest) a w := by
  refine wpList_plain hgd fun _ hK => ?_
  unfold Oper.wp execOp
  simp only [ho, hx, Sem.run_bind, hr, Sem.run_pure, Result.andThen_ok]
  exact hK _ _ h
theorem wpl_storeB (w : World) {ops : Array Oper} {rest : List Oper} {o : Oper} {a : Act} {Q : Exit → Act → World → Prop} (hgd : o.guard = none) (x y : Operand) (ho : o.op = Op.store 54 x y) (v u : Value) (hx : a.eval x = v) (hy : a.eval y = u) {w' : World}
    (hr : (Instr.storeAt 54 v u).run Tryd.prog w = .ok () w') (h : wpList Tryd.prog ops Q rest (a.put o.dst undef) w') : wpList Tryd.prog ops Q (o :: rest) a w := by
  refine wpList_plain hgd fun _ hK => ?_
  unfold Oper.wp execOp
  simp only [ho, hx, hy, Sem.run_bind, hr, Sem.run_pure, Result.andThen_ok]
  exact hK _ _ h
theorem bt_div (x : Int) (k : Nat) (hx : 0 ≤ x) : 0 ≤ x / 2 ^ k ∧ (x / 2 ^ k).tmod 2 = bt x k ∧ (x / 2 ^ k).tdiv 2 = x / 2 ^ (k + 1) := by
  have h0 : 0 ≤ x / 2 ^ k := Int.ediv_nonneg hx (Int.le_of_lt (pow_pos k))
  refine ⟨h0, Int.tmod_eq_emod_of_nonneg h0, ?_⟩
  rw [Int.tdiv_eq_ediv_of_nonneg h0, Int.pow_succ, Int.ediv_ediv_of_nonneg (Int.le_of_lt (pow_pos k))]
theorem encB_congr {f g : Nat → Int} (h : ∀ i, i < 32 → f i = g i) : encB f = encB g := by
  apply List.ext_getElem?
  intro j
  by_cases hj : j < 32
  · rw [encB_at _ _ hj, encB_at _ _ hj, h j hj]
  · rw [List.getElem?_eq_none (by rw [encB_len]; omega), List.getElem?_eq_none (by rw [encB_len]; omega)]
end Go.Proofs.YtcpcmjmgiagnoabDoor
