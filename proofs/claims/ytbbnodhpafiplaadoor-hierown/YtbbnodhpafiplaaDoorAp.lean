import Derived.Test.YtbbnodhpafiplaaDoorHa
import Derived.Laws.AppendOwn
import Derived.Laws.OwnMore
import Derived.Deep.AppendSrc
namespace Go.Proofs.YtbbnodhpafiplaaDoor
open Go.RowKit
set_option linter.unusedVariables false
set_option linter.unusedSimpArgs false
section
variable {P : Program}
/-- A block of plain cells. -/
def RowAt (W : World) (g : Nat) (e : TypeId) (cur : List Value) : Prop := W.heap[g]? = some (.cells cur.toArray e (0, 0))
theorem grownBy_trans {W W1 W2 : World} {r : Option Nat} (h : W.grownBy W1 r) (h2 : W1.grownBy W2 r) : W.grownBy W2 r :=
  ⟨h2.os.trans h.os, h2.tape.trans h.tape, h2.output.trans h.output, Nat.le_trans h.size h2.size, fun k hk hne => (h2.block k (Nat.lt_of_lt_of_le hk h.size) hne).trans (h.block k hk hne)⟩
theorem grownBy_drew (W : World) (r : Option Nat) : W.grownBy W.drew r := ⟨rfl, rfl, rfl, Nat.le_refl _, fun _ _ _ => rfl⟩
theorem zeroCells_list (z : Array Value) (n : Nat) : (Builtin.zeroCells z n).toList.length = n * z.size := by
  rw [Array.length_toList, size_zeroCells]

/-- append without room: a new row. -/
theorem append_away (w : World) (t e : TypeId) (i : TypeInfo) (z : Value) (ht : P.underlying t = some (.slice e)) (hi : P.info? e = some i) (hz : i.zero = some z) (hzs : z.cells.size = i.size)
    (base : Option Addr) (sLen sCap : Nat) (olds : List Value) (hol : olds.length = sLen * i.size) (hold : (Builtin.firstCells i.size sLen (.slice base sLen sCap)).run P w.drew = .ok olds.toArray w.drew)
    (x : Value) (m : Nat) (news : List Value) (hs : Src P i.size t x m news w) (hroom : sCap < sLen + m) (h63 : sLen + m ≤ maxLen) (hby : (sLen + m) * i.bytes ≤ 140737488355328) :
    ∃ w' cap rest, (∀ ty, (Builtin.append_ #[t, t] ty #[.slice base sLen sCap, x]).run P w = .ok (.slice (some ⟨w.heap.size, 0, none⟩) (sLen + m) cap) w') ∧
      RowAt w' w.heap.size e (olds ++ news ++ rest) ∧ rest.length = (cap - (sLen + m)) * i.size ∧ sLen + m ≤ cap ∧ cap ≤ maxLen ∧ w.grownBy w' none ∧ w'.heap.size = w.heap.size + 1 := by
  have hr := fun ty => run_append_grow_src (P := P) w t t ty e i z ht hi hz base sLen sCap olds hold x m news hs hroom (by unfold maxLen at h63; omega) (growslice_fits hroom hby)
  refine ⟨_, _, (Builtin.zeroCells z.cells (grownCap w (sLen + m) sCap e - (sLen + m))).toList, hr, ?_, ?_, grownCap_ge _ _ _ _, grownCap_le_maxLen _ _ _ _ h63, ?_, ?_⟩
  · show _ = _
    have := heap_alloc_new w.drew (.cells ((olds ++ news).toArray ++ Builtin.zeroCells z.cells (grownCap w (sLen + m) sCap e - (sLen + m))) e)
    rw [show w.heap.size = w.drew.heap.size from rfl, this]
    congr 2
    apply Array.ext'
    simp
  · rw [zeroCells_list, hzs]
  · exact grownBy_trans (grownBy_drew w none) (World.grownBy_alloc _ _ _)
  · simp

end
theorem wpList_append_eq {P : Program} {w : World} {ops : Array Oper} {rest : List Oper} {o : Oper} {a : Act} {Q : Exit → Act → World → Prop} (hgd : o.guard = none) (s x : Operand) (t : TypeId)
    (ho : o.op = .call { callee := .builtin .append, args := #[s, x], argTypes := #[t, t] }) (v u : Value) (hs : a.eval s = v) (hx : a.eval x = u) {v' : Value} {w' : World} (hr : (Builtin.append_ #[t, t] o.type #[v, u]).run P w = .ok v' w')
    (h : wpList P ops Q rest (a.put o.dst v') w') : wpList P ops Q (o :: rest) a w :=
  wpList_plain hgd fun _ hK => by
    unfold Oper.wp execOp
    simp only [ho, resolve, invoke, builtin, Sem.run_bind, Sem.run_pure, Result.andThen_ok, List.map_toArray, List.map_cons, List.map_nil, hs, hx, hr]
    exact hK _ _ h

theorem below_grown {w w' : World} (h : w.grownBy w' none) : Below w.heap.size w w' := ⟨h.os, h.tape, h.output, h.size, fun i hi => h.block i hi (by simp)⟩
/-- append where there is no room: a new row. -/
theorem app_new (w : World) (gd gs : Nat) (olds news : List Slo) (nd m : Nat) (hd : Bl w gd 57 (rowS olds)) (hs : Bl w gs 57 (rowS news)) (h1 : olds.length = nd) (h2 : news.length = m) (hm : 1 ≤ m) (hn : nd ≤ 64) (hm2 : m ≤ 64) :
    ∃ w' cap rest, (∀ ty, (Builtin.append_ #[54, 54] ty #[.slice (some ⟨gd, 0, none⟩) nd nd, .slice (some ⟨gs, 0, none⟩) m m]).run Tryd.prog w = .ok (.slice (some ⟨w.heap.size, 0, none⟩) (nd + m) cap) w') ∧ Bl w' w.heap.size 57 (rowS (olds ++ news) ++ rest) ∧ nd + m ≤ cap ∧ Below w.heap.size w w' := by
  obtain ⟨i, hi, hz, hz1, hz2⟩ := info_parts infoS
  have hc : rowS (olds ++ news) = rowS olds ++ rowS news := by simp [rowS]
  obtain ⟨w', cap, rest, r1, r2, r3, r4, r5, r6, r7⟩ := append_away (P := Tryd.prog) w 54 57 i _ Tryd.underlying54 hi hz (by rw [hz1]; rfl) (some ⟨gd, 0, none⟩) nd nd (rowS olds) (by rw [rowS_len, h1, hz1])
    (run_firstCells_some (P := Tryd.prog) w.drew i.size nd ⟨gd, 0, none⟩ nd nd (rowS olds) (by rw [rowS_len, h1, hz1]) (fun j u hj => by rw [Addr.add_lit, Nat.zero_add]; exact (hd.cell j).trans hj))
    (.slice (some ⟨gs, 0, none⟩) m m) m (rowS news) (by rw [hz1]; exact Src.ofSlice _ Tryd.underlying54 ⟨gs, 0, none⟩ m m _ (by rw [rowS_len, h2]) (fun j u hj => by rw [Addr.add_lit, Nat.zero_add]; exact (hs.cell j).trans hj) (rowS_one news)) (by omega) (by unfold maxLen; omega) (by rw [hz2]; omega)
  exact ⟨w', cap, rest, r1, by rw [hc]; exact r2, r4, below_grown r6⟩
/-- append onto nothing. -/
theorem app_nil (w : World) (gs : Nat) (news : List Slo) (m : Nat) (hs : Bl w gs 57 (rowS news)) (h2 : news.length = m) (hm : 1 ≤ m) (hm2 : m ≤ 64) :
    ∃ w' cap rest, (∀ ty, (Builtin.append_ #[54, 54] ty #[.slice none 0 0, .slice (some ⟨gs, 0, none⟩) m m]).run Tryd.prog w = .ok (.slice (some ⟨w.heap.size, 0, none⟩) m cap) w') ∧ Bl w' w.heap.size 57 (rowS news ++ rest) ∧ m ≤ cap ∧ Below w.heap.size w w' := by
  obtain ⟨i, hi, hz, hz1, hz2⟩ := info_parts infoS
  obtain ⟨w', cap, rest, r1, r2, r3, r4, r5, r6, r7⟩ := append_away (P := Tryd.prog) w 54 57 i _ Tryd.underlying54 hi hz (by rw [hz1]; rfl) none 0 0 [] (by simp)
    (by simp [Builtin.firstCells])
    (.slice (some ⟨gs, 0, none⟩) m m) m (rowS news) (by rw [hz1]; exact Src.ofSlice _ Tryd.underlying54 ⟨gs, 0, none⟩ m m _ (by rw [rowS_len, h2]) (fun j u hj => by rw [Addr.add_lit, Nat.zero_add]; exact (hs.cell j).trans hj) (rowS_one news)) (by omega) (by unfold maxLen; omega) (by rw [hz2]; omega)
  simp only [Nat.zero_add, List.nil_append] at r1 r2 r4
  exact ⟨w', cap, rest, r1, r2, r4, below_grown r6⟩
end Go.Proofs.YtbbnodhpafiplaaDoor
