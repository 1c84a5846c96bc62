import Derived.Laws.AppendOwn
import Derived.Laws.OwnMore
import Derived.Laws.CopyRow
import Derived.Deep.AppendSrc
import Derived.Lib.AppendZeros
import Derived.Lib.Overlaps
import Derived.Laws.Externs
import Derived.Below
import Derived.Deep.Draws
namespace Go.Proofs.YtmcloaonpkfibaaDoor
open Go.RowKit
set_option linter.unusedVariables false
variable {P : Program}

/-- A block of plain cells. -/
def RowAt (W : World) (g : Nat) (e : TypeId) (cur : List Value) : Prop := W.heap[g]? = some (.cells cur.toArray e (0, 0))

theorem RowAt.lt {W : World} {g : Nat} {e : TypeId} {cur : List Value} (h : RowAt W g e cur) : g < W.heap.size := (Array.getElem?_eq_some_iff.1 h).1

theorem RowAt.cell {W : World} {g : Nat} {e : TypeId} {cur : List Value} (h : RowAt W g e cur) (j : Nat) : W.cell? ⟨g, j, none⟩ = cur[j]? := by
  rw [cell_of_row W g j cur.toArray e (0, 0) h]; simp

theorem RowAt.frozen {W : World} {g : Nat} {e : TypeId} {cur : List Value} (h : RowAt W g e cur) (j : Nat) : W.frozen? ⟨g, j, none⟩ = false := by
  simp [World.frozen?, show W.heap[g]? = _ from h]

theorem RowAt.grown {W W' : World} {g : Nat} {e : TypeId} {cur : List Value} {row : Option Nat} (h : RowAt W g e cur) (hg : W.grownBy W' row) (hne : some g ≠ row) : RowAt W' g e cur := by
  show W'.heap[g]? = _
  rw [hg.block g h.lt hne]; exact h

theorem grownBy_refl (W : World) (r : Option Nat) : W.grownBy W r := ⟨rfl, rfl, rfl, Nat.le_refl _, fun _ _ _ => rfl⟩
theorem grownBy_trans {W W1 W2 : World} {r : Option Nat} (h : W.grownBy W1 r) (h2 : W1.grownBy W2 r) : W.grownBy W2 r :=
  ⟨h2.os.trans h.os, h2.tape.trans h.tape, h2.output.trans h.output, Nat.le_trans h.size h2.size, fun k hk hne => (h2.block k (Nat.lt_of_lt_of_le hk h.size) hne).trans (h.block k hk hne)⟩
/-- A row that was not there is none that has turned. -/
theorem grownBy_new {W W1 W2 : World} {r : Option Nat} {g : Nat} (h : W.grownBy W1 r) (h2 : W1.grownBy W2 (some g)) (hg : W.heap.size ≤ g) : W.grownBy W2 r :=
  ⟨h2.os.trans h.os, h2.tape.trans h.tape, h2.output.trans h.output, Nat.le_trans h.size h2.size, fun k hk hne => (h2.block k (Nat.lt_of_lt_of_le hk h.size) (fun e => by cases e; omega)).trans (h.block k hk hne)⟩
theorem grownBy_none {W W1 : World} (r : Option Nat) (h : W.grownBy W1 none) : W.grownBy W1 r :=
  ⟨h.os, h.tape, h.output, h.size, fun k hk _ => h.block k hk (by simp)⟩
theorem grownBy_drew (W : World) (r : Option Nat) : W.grownBy W.drew r := ⟨rfl, rfl, rfl, Nat.le_refl _, fun _ _ _ => rfl⟩
theorem grownBy_drewN (W : World) (r : Option Nat) (n : Nat) : W.grownBy (W.drewN n) r := ⟨rfl, rfl, rfl, Nat.le_refl _, fun _ _ _ => rfl⟩
theorem grownBy_setRow (W : World) (g : Nat) (c : Array Value) : W.grownBy (W.setRow g c) (some g) :=
  ⟨rfl, rfl, rfl, by simp [World.setRow], fun k hk hne => setRow_other W g k c (fun e => hne (by rw [e]))⟩

/-- copy into a row. -/
theorem copy_row (w : World) (dT sT elem : TypeId) (i : TypeInfo) (hu : P.underlying dT = some (.slice elem)) (hi : P.info? elem = some i) (g o dLen : Nat) (a : Addr) (sLen : Nat) (cur : List Value) (t : TypeId) (cs : List Value)
    (hg : RowAt w g t cur) (hn : cs.length = Nat.min sLen dLen * i.size)
    (hsrc : ∀ j v, cs[j]? = some v → w.cell? (a.add j) = some v) (hfit : o + cs.length ≤ cur.length) (h1 : ∀ v ∈ cs, v.oneCell' = true) :
    ∃ w', (∀ ty dc sc, (Builtin.copy_ #[dT, sT] ty #[.slice (some ⟨g, o, none⟩) dLen dc, .slice (some a) sLen sc]).run P w = .ok (goInt (Nat.min sLen dLen)) w') ∧
      RowAt w' g t (cur.take o ++ cs ++ cur.drop (o + cs.length)) ∧ w.grownBy w' (some g) := by
  have hl := run_loadCells_list (P := P) w a cs hsrc
  have hst := run_storeCells_at P g o t cs 0 cur.toArray w hg (by simpa using hfit) h1
  refine ⟨w.setRow g (cur.take o ++ cs ++ cur.drop (o + cs.length)).toArray, ?_, setRow_heap w g _ _ t _ hg, grownBy_setRow _ _ _⟩
  intro ty dc sc
  simp [Builtin.copy_, run_underlying hu, Builtin.lenOf, Builtin.firstCells, sizeOf, typeInfo, hi, ← hn, hl, hst]

theorem copy_none (w : World) (dT sT elem : TypeId) (i : TypeInfo) (hu : P.underlying dT = some (.slice elem)) (hi : P.info? elem = some i) (a : Addr) (dLen : Nat) :
    ∀ ty dc, (Builtin.copy_ #[dT, sT] ty #[.slice (some a) dLen dc, .slice none 0 0]).run P w = .ok (goInt 0) w := by
  intro ty dc
  simp [Builtin.copy_, run_underlying hu, Builtin.lenOf, Builtin.firstCells, sizeOf, typeInfo, hi, storeCells]

theorem zeroCells_list (z : Array Value) (n : Nat) : (Builtin.zeroCells z n).toList.length = n * z.size := by
  rw [Array.length_toList, size_zeroCells]

/-- clear of a piece of a row. -/
theorem clear_row (w : World) (dT elem : TypeId) (i : TypeInfo) (z : Value) (hu : P.underlying dT = some (.slice elem)) (hi : P.info? elem = some i) (hz : i.zero = some z) (g o n : Nat) (cur : List Value) (t : TypeId)
    (hg : RowAt w g t cur) (hfit : o + n * z.cells.size ≤ cur.length) (h1 : ∀ v ∈ (Builtin.zeroCells z.cells n).toList, v.oneCell' = true) (h0 : 0 < n) :
    ∃ w', (∀ ty c, (Builtin.clear_ #[dT] ty #[.slice (some ⟨g, o, none⟩) n c]).run P w = .ok (.tuple #[]) w') ∧
      RowAt w' g t (cur.take o ++ (Builtin.zeroCells z.cells n).toList ++ cur.drop (o + n * z.cells.size)) ∧ w.grownBy w' (some g) := by
  have hst := run_storeCells_at P g o t (Builtin.zeroCells z.cells n).toList 0 cur.toArray w hg (by rw [zeroCells_list]; simpa using hfit) h1
  rw [zeroCells_list] at hst
  refine ⟨w.setRow g (cur.take o ++ (Builtin.zeroCells z.cells n).toList ++ cur.drop (o + n * z.cells.size)).toArray, ?_, setRow_heap w g _ _ t _ hg, grownBy_setRow _ _ _⟩
  intro ty c
  cases n with
  | zero => omega
  | succ n => simp [Builtin.clear_, run_underlying hu, zeroValue, typeInfo, hi, hz, hst]

theorem clear_none (w : World) (dT : TypeId) (elem : TypeId) (hu : P.underlying dT = some (.slice elem)) (a : Option Addr) :
    ∀ ty c, (Builtin.clear_ #[dT] ty #[.slice a 0 c]).run P w = .ok (.tuple #[]) w := by
  intro ty c
  cases a <;> simp [Builtin.clear_, run_underlying hu]

/-- append onto a row with room. -/
theorem append_room (w : World) (t e : TypeId) (i : TypeInfo) (ht : P.underlying t = some (.slice e)) (hi : P.info? e = some i) (g sLen sCap : Nat) (cur : List Value) (hg : RowAt w g e cur)
    (x : Value) (m : Nat) (news : List Value) (hs : Src P i.size t x m news w) (hroom : sLen + m ≤ sCap) (hfit : sLen * i.size + news.length ≤ cur.length) :
    ∃ w', (∀ ty, (Builtin.append_ #[t, t] ty #[.slice (some ⟨g, 0, none⟩) sLen sCap, x]).run P w = .ok (.slice (some ⟨g, 0, none⟩) (sLen + m) sCap) w') ∧
      RowAt w' g e (cur.take (sLen * i.size) ++ news ++ cur.drop (sLen * i.size + news.length)) ∧ w.grownBy w' (some g) := by
  have hst := run_storeCells_at P g (sLen * i.size) e news 0 cur.toArray w hg (by simpa using hfit) hs.one
  simp only [Nat.add_zero] at hst
  refine ⟨w.setRow g (cur.take (sLen * i.size) ++ news ++ cur.drop (sLen * i.size + news.length)).toArray, ?_, setRow_heap w g _ _ e _ hg, grownBy_setRow _ _ _⟩
  intro ty
  simp [Builtin.append_, run_underlying ht, sizeOf, typeInfo, hi, hs.len, hroom, hs.cells, Addr.add_lit, hst]

/-- append without room: a new row. -/
theorem append_away (w : World) (t e : TypeId) (i : TypeInfo) (z : Value) (ht : P.underlying t = some (.slice e)) (hi : P.info? e = some i) (hz : i.zero = some z) (hzs : z.cells.size = i.size)
    (base : Option Addr) (sLen sCap : Nat) (olds : List Value) (hol : olds.length = sLen * i.size) (hold : (Builtin.firstCells i.size sLen (.slice base sLen sCap)).run P w.drew = .ok olds.toArray w.drew)
    (x : Value) (m : Nat) (news : List Value) (hs : Src P i.size t x m news w) (hroom : sCap < sLen + m) (h63 : sLen + m ≤ maxLen) (hby : (sLen + m) * i.bytes ≤ 140737488355328) :
    ∃ w' cap rest, (∀ ty, (Builtin.append_ #[t, t] ty #[.slice base sLen sCap, x]).run P w = .ok (.slice (some ⟨w.heap.size, 0, none⟩) (sLen + m) cap) w') ∧
      RowAt w' w.heap.size e (olds ++ news ++ rest) ∧ rest.length = (cap - (sLen + m)) * i.size ∧ sLen + m ≤ cap ∧ cap ≤ maxLen ∧ w.grownBy w' none ∧ w'.heap.size = w.heap.size + 1 := by
  have hr := fun ty => run_append_grow_src (P := P) w t t ty e i z ht hi hz base sLen sCap olds hold x m news hs hroom (by unfold maxLen at h63; omega) (growslice_fits hroom hby)
  refine ⟨_, _, (Builtin.zeroCells z.cells (grownCap w (sLen + m) sCap e - (sLen + m))).toList, hr, ?_, ?_, grownCap_ge _ _ _ _, grownCap_le_maxLen _ _ _ _ h63, ?_, ?_⟩
  · show _ = _
    have := heap_alloc_new w.drew (.cells ((olds ++ news).toArray ++ Builtin.zeroCells z.cells (grownCap w (sLen + m) sCap e - (sLen + m))) e)
    rw [show w.heap.size = w.drew.heap.size from rfl, this]
    congr 2
    apply Array.ext'
    simp
  · rw [zeroCells_list, hzs]
  · exact grownBy_trans (grownBy_drew w none) (World.grownBy_alloc _ _ _)
  · simp

/-- append(s[:i], make(S, n)...) without room: a new row. -/
theorem append_zeros (w : World) (t tn e : TypeId) (i : TypeInfo) (z : Value) (k kn : IntKind) (ht : P.underlying t = some (.slice e)) (htn : P.underlying tn = some (.int kn)) (hi : P.info? e = some i) (hz : i.zero = some z) (hzs : z.cells.size = i.size)
    (hpos : 0 < i.size) (a : Addr) (sLen sCap : Nat) (olds : List Value) (hol : olds.length = sLen * i.size) (hcell : ∀ j v, olds[j]? = some v → w.cell? (a.add j) = some v)
    (m : Nat) (h0 : 0 < m) (hroom : sCap < sLen + m) (h63 : sLen + m ≤ maxLen) (hby : (sLen + m) * i.bytes ≤ 140737488355328) (nn : Int) (hnn : nn = (m : Int)) :
    ∃ w' cap rest, (∀ ty, (Builtin.append_ #[t, tn] ty #[.slice (some a) sLen sCap, .int k nn]).run P w = .ok (.slice (some ⟨w.heap.size, 0, none⟩) (sLen + m) cap) w') ∧
      RowAt w' w.heap.size e (olds ++ rest) ∧ rest.length = (cap - sLen) * i.size ∧ sLen + m ≤ cap ∧ cap ≤ maxLen ∧ w.grownBy w' none ∧ w'.heap.size = w.heap.size + 1 := by
  subst hnn
  have h63' : sLen + m ≤ 9223372036854775807 := by unfold maxLen at h63; omega
  have hw : IntKind.i64.wrap (m : Int) = m := by rw [IntKind.wrap_i64]; omega
  have hneg : ¬ ((m : Int) < 0) := by omega
  have hmb : m * i.bytes ≤ 140737488355328 := Nat.le_trans (Nat.mul_le_mul_right _ (by omega)) hby
  have h48i : ¬ (281474976710656 < (m : Int) * (i.bytes : Int)) := by rw [← Int.natCast_mul]; omega
  have hns : ¬ (m * i.size = 0) := Nat.mul_ne_zero (by omega) (by omega)
  have hn : ¬ (sLen + m ≤ sCap) := by omega
  have h63i : ¬ (9223372036854775807 < ((sLen : Int) + (m : Int))) := by omega
  have h48' : ¬ (281474976710656 < Builtin.nextslicecap (sLen + m) sCap * i.bytes) := by have := growslice_fits hroom hby; omega
  have hold := run_firstCells_some (P := P) w.drew i.size sLen a sLen sCap olds hol (by simpa using hcell)
  have hgc := grownCap_ge w (sLen + m) sCap e
  refine ⟨w.drew.alloc (.cells ((olds ++ ((Builtin.zeroCells z.cells m).toList ++ (Builtin.zeroCells z.cells (grownCap w (sLen + m) sCap e - (sLen + m))).toList)).toArray) e), grownCap w (sLen + m) sCap e, (Builtin.zeroCells z.cells m).toList ++ (Builtin.zeroCells z.cells (grownCap w (sLen + m) sCap e - (sLen + m))).toList, ?_, ?_, ?_, hgc, grownCap_le_maxLen _ _ _ _ h63, ?_, ?_⟩
  · intro ty
    simp [Builtin.append_, run_underlying ht, run_underlying htn, sizeOf, typeInfo, zeroValue, hi, hz, asInt, asIntOf, hw, hneg, h48i, hn, h63i, h48', Question.forced, hold, newRow, grownCap]
    rw [if_neg hns]
    congr 3
    apply Array.ext'
    simp
  · show _ = _
    have := heap_alloc_new w.drew (.cells ((olds ++ ((Builtin.zeroCells z.cells m).toList ++ (Builtin.zeroCells z.cells (grownCap w (sLen + m) sCap e - (sLen + m))).toList)).toArray) e)
    rw [show w.heap.size = w.drew.heap.size from rfl, this]
  · rw [List.length_append, zeroCells_list, zeroCells_list, hzs, ← Nat.add_mul]
    congr 1
    omega
  · exact grownBy_trans (grownBy_drew w none) (World.grownBy_alloc _ _ _)
  · simp

/-- The operations where their runs are known by equations. -/
theorem wpl_copy (w : World) {ops : Array Oper} {rest : List Oper} {o : Oper} {a : Act} {Q : Exit → Act → World → Prop} (hgd : o.guard = none) (d s : Operand) (t t' : TypeId)
    (ho : o.op = .call { callee := .builtin .copy, args := #[d, s], argTypes := #[t, t'] }) (v u : Value) (hd : a.eval d = v) (hs : a.eval s = u) {v' : Value} {w' : World}
    (hr : (Builtin.copy_ #[t, t'] o.type #[v, u]).run P w = .ok v' w') (h : wpList P ops Q rest (a.put o.dst v') w') : wpList P ops Q (o :: rest) a w := by
  refine wpList_plain hgd fun _ hK => ?_
  unfold Oper.wp execOp
  simp only [ho, resolve, invoke, builtin, Sem.run_bind, Sem.run_pure, Result.andThen_ok, List.map_toArray, List.map_cons, List.map_nil, hd, hs, hr]
  exact hK _ _ h

theorem step_copy {ops : Array Oper} {o : Oper} {a : Act} {w : World} {K : Act → World → Prop} {Q : Exit → Act → World → Prop} {E : Prop}
    (hg : o.guard = none) (d x : Operand) (dT sT : TypeId) (hop : o.op = Op.call { callee := Callee.builtin Builtin.copy, args := #[d, x], argTypes := #[dT, sT] })
    (v u : Value) (hd : a.eval d = v) (hx : a.eval x = u) {v' : Value} {w' : World} (hr : (Builtin.copy_ #[dT, sT] o.type #[v, u]).run P w = .ok v' w') (hK : K (a.put o.dst v') w') :
    if Region.wanted o (yielded ops a.tmps) = true then Oper.wp P o a w K Q else E := by
  have hw : Region.wanted o (yielded ops a.tmps) = true := by simp [Region.wanted, hg]
  rw [if_pos hw]
  unfold Oper.wp
  simp [execOp, hop, resolve, invoke, builtin, hd, hx, hr, Result.andThen]
  exact hK

theorem wpl_clear (w : World) {ops : Array Oper} {rest : List Oper} {o : Oper} {a : Act} {Q : Exit → Act → World → Prop} (hgd : o.guard = none) (d : Operand) (t : TypeId)
    (ho : o.op = .call { callee := .builtin .clear, args := #[d], argTypes := #[t] }) (v : Value) (hd : a.eval d = v) {v' : Value} {w' : World}
    (hr : (Builtin.clear_ #[t] o.type #[v]).run P w = .ok v' w') (h : wpList P ops Q rest (a.put o.dst v') w') : wpList P ops Q (o :: rest) a w := by
  refine wpList_plain hgd fun _ hK => ?_
  unfold Oper.wp execOp
  simp only [ho, resolve, invoke, builtin, Sem.run_bind, Sem.run_pure, Result.andThen_ok, List.map_toArray, List.map_cons, List.map_nil, hd, hr]
  exact hK _ _ h
end Go.Proofs.YtmcloaonpkfibaaDoor
