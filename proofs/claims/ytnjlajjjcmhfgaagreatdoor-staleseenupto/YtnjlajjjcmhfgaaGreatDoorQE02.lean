import Derived.Test.YtnjlajjjcmhfgaaGreatDoorQE01
import Derived.Test.YtnjlajjjcmhfgaaGreatDoorQA43
namespace Go.Proofs.YtnjlajjjcmhfgaaGreatDoor
open Go.RowKit
open Mm (Turn gr RM valV errV Byts setV RowAt)
set_option linter.unusedVariables false
set_option linter.unusedSimpArgs false
attribute [local go_sem] Oper.semAt_some
abbrev zC : List Value := [.bool false, .bool false, .bool false, .int .i64 0, .bool false, .bool false, .int .u64 0, .int .u64 0, .int .u32 0, .int .u32 0, .int .u32 0, .int .i64 0]
/-- What was told lies in a box of its own. -/
structure Got1 (wr wx : World) (s : Nat) (T : TypeId) (l : List Value) : Prop where
  bel : Below wr.heap.size wr wx
  B : Bl wx s T l
  hs : wr.heap.size ≤ s
theorem gb1 {wr w1 : World} (h : Below wr.heap.size wr w1) (T : TypeId) (l : List Value) : Got1 wr (w1.alloc (.cells l.toArray T)) w1.heap.size T l := ⟨Below.step h (below_new _ _), Bl.new _ _ _, h.size⟩
theorem gbB {wr w1 : World} (h : Below wr.heap.size wr w1) (b : Blo) (g : Nat) (hg : wr.heap.size ≤ g) (hB : Bl w1 g 45 [.int .i64 0, .int .i64 0, .int .u32 0, .int .u64 0, .int .i64 0, .int .i64 0, .int .u32 0, .bool false, .bool false]) : Got1 wr (((((((((w1.setCell ⟨g, 0, none⟩ (.int .i64 b.asid)).setCell ⟨g, 1, none⟩ (.int .i64 b.t.size)).setCell ⟨g, 2, none⟩ (.int .u32 b.t.va)).setCell ⟨g, 3, none⟩ (.int .u64 b.t.pa)).setCell ⟨g, 4, none⟩ (.int .i64 b.t.dom)).setCell ⟨g, 5, none⟩ (.int .i64 b.t.ap)).setCell ⟨g, 6, none⟩ (.int .u32 b.t.bits)).setCell ⟨g, 7, none⟩ (.bool b.t.ng)).setCell ⟨g, 8, none⟩ (.bool b.t.xn)) g 45 ([.int .i64 b.asid, .int .i64 b.t.size, .int .u32 b.t.va, .int .u64 b.t.pa, .int .i64 b.t.dom, .int .i64 b.t.ap, .int .u32 b.t.bits, .bool b.t.ng, .bool b.t.xn]) := by
  refine ⟨Below.setCell (Below.setCell (Below.setCell (Below.setCell (Below.setCell (Below.setCell (Below.setCell (Below.setCell (Below.setCell h hg _) hg _) hg _) hg _) hg _) hg _) hg _) hg _) hg _, ?_, hg⟩
  have := ((((((((hB.set 0 (.int .i64 b.asid)).set 1 (.int .i64 b.t.size)).set 2 (.int .u32 b.t.va)).set 3 (.int .u64 b.t.pa)).set 4 (.int .i64 b.t.dom)).set 5 (.int .i64 b.t.ap)).set 6 (.int .u32 b.t.bits)).set 7 (.bool b.t.ng)).set 8 (.bool b.t.xn)
  exact this
theorem gbC {wr w1 : World} (h : Below wr.heap.size wr w1) (c : Ctx) (g : Nat) (hg : wr.heap.size ≤ g) (hB : Bl w1 g 47 zC) : Got1 wr ((((((((((((w1.setCell ⟨g, 0, none⟩ (.bool c.on)).setCell ⟨g, 1, none⟩ (.bool c.tre)).setCell ⟨g, 2, none⟩ (.bool c.afe)).setCell ⟨g, 3, none⟩ (.int .i64 c.n)).setCell ⟨g, 4, none⟩ (.bool c.pd0)).setCell ⟨g, 5, none⟩ (.bool c.pd1)).setCell ⟨g, 6, none⟩ (.int .u64 c.b0)).setCell ⟨g, 7, none⟩ (.int .u64 c.b1)).setCell ⟨g, 8, none⟩ (.int .u32 c.dacr)).setCell ⟨g, 9, none⟩ (.int .u32 c.prrr)).setCell ⟨g, 10, none⟩ (.int .u32 c.nmrr)).setCell ⟨g, 11, none⟩ (.int .i64 c.asid)) g 47 ([.bool c.on, .bool c.tre, .bool c.afe, .int .i64 c.n, .bool c.pd0, .bool c.pd1, .int .u64 c.b0, .int .u64 c.b1, .int .u32 c.dacr, .int .u32 c.prrr, .int .u32 c.nmrr, .int .i64 c.asid]) := by
  refine ⟨Below.setCell (Below.setCell (Below.setCell (Below.setCell (Below.setCell (Below.setCell (Below.setCell (Below.setCell (Below.setCell (Below.setCell (Below.setCell (Below.setCell h hg _) hg _) hg _) hg _) hg _) hg _) hg _) hg _) hg _) hg _) hg _) hg _, ?_, hg⟩
  have := (((((((((((hB.set 0 (.bool c.on)).set 1 (.bool c.tre)).set 2 (.bool c.afe)).set 3 (.int .i64 c.n)).set 4 (.bool c.pd0)).set 5 (.bool c.pd1)).set 6 (.int .u64 c.b0)).set 7 (.int .u64 c.b1)).set 8 (.int .u32 c.dacr)).set 9 (.int .u32 c.prrr)).set 10 (.int .u32 c.nmrr)).set 11 (.int .i64 c.asid)
  exact this
/-! ### words appended -/
theorem oper_append {P : Program} {w : World} {o : Oper} {a : Act} {K : Act → World → Prop} {Q : Exit → Act → World → Prop} (s x : Operand) (t : TypeId)
    (ho : o.op = .call { callee := .builtin .append, args := #[s, x], argTypes := #[t, t] }) (v u : Value) (hs : a.eval s = v) (hx : a.eval x = u) {v' : Value} {w' : World} (hr : (Builtin.append_ #[t, t] o.type #[v, u]).run P w = .ok v' w')
    (h : K (a.put o.dst v') w') : o.wp P a w K Q := by
  unfold Oper.wp execOp
  simp only [ho, resolve, invoke, builtin, Sem.run_bind, Sem.run_pure, Result.andThen_ok, List.map_toArray, List.map_cons, List.map_nil, hs, hx, hr]
  exact h
abbrev encW (l : List Int) : List Value := l.map (Value.int .u32)
theorem infoW : (Tryz.prog.info? 32).map (fun i => (i.zero, i.size, i.bytes)) = some (some (.int .u32 0), 1, 4) := by kernel_rfl
theorem appW (w : World) (lo : Nat) (v x : Value) (l news : List Int) (m : Nat) (h : w.ownsRow lo 32 1 v l.length (encW l)) (hx : Src Tryz.prog 1 23 x m (encW news) w) (hm : news.length = m) (hlo : lo ≤ w.heap.size) (hk : (l.length + m) * 4 ≤ 140737488355328) :
    ∃ v' w', (∀ ty, (Builtin.append_ #[23, 23] ty #[v, x]).run Tryz.prog w = .ok v' w') ∧ w'.ownsRow lo 32 1 v' (l ++ news).length (encW (l ++ news)) ∧ Turn (fun b => v.ownBlock = some b) w w' ∧ (∀ g, v'.ownBlock = some g → v.ownBlock = some g ∨ w.heap.size ≤ g) := by
  obtain ⟨i0, hi, hz0, hz1, hz2⟩ := info_parts infoW
  obtain ⟨v', w', hr, ho', hg, hb⟩ := Mm.append_any (P := Tryz.prog) w 23 32 i0 _ Tryz.underlying23 hi hz0 (by rw [hz1]; rfl) lo l.length m v x (encW l) (encW news) (by rw [hz1]; exact h) (by rw [hz1]; exact hx) hlo (by unfold maxLen; omega) (by rw [hz2]; exact hk)
  rw [hz1] at ho'
  refine ⟨v', w', hr, ?_, Turn.grown hg (fun x hx => .inl hx), hb⟩
  rw [List.length_append, hm]
  simpa [encW] using ho'
theorem app2 (w : World) (lo : Nat) (v : Value) (l : List Int) (a b : Int) (h : w.ownsRow lo 32 1 v l.length (encW l)) (hlo : lo ≤ w.heap.size) (hk : (l.length + 2) * 4 ≤ 140737488355328) :
    ∃ v' w', (∀ ty, (Builtin.append_ #[23, 23] ty #[v, .slice (some ⟨w.heap.size, 0, none⟩) 2 2]).run Tryz.prog (w.alloc (.cells #[.int .u32 a, .int .u32 b] 32)) = .ok v' w') ∧ w'.ownsRow lo 32 1 v' (l ++ [a, b]).length (encW (l ++ [a, b])) ∧ Turn (fun b => v.ownBlock = some b) w w' ∧ (∀ g, v'.ownBlock = some g → v.ownBlock = some g ∨ w.heap.size ≤ g) := by
  have hB := Mm.row_new w [.int .u32 a, .int .u32 b] 32
  have ho := Mm.own_turn h (((Turn.refl (fun _ => False) w).alloc (.cells #[.int .u32 a, .int .u32 b] 32))) (fun _ _ h => h)
  obtain ⟨v', w', hr, ho', hT, hb⟩ := appW (w.alloc (.cells #[.int .u32 a, .int .u32 b] 32)) lo v (.slice (some ⟨w.heap.size, 0, none⟩) 2 2) l [a, b] 2 ho
    (Src.ofSlice _ Tryz.underlying23 ⟨w.heap.size, 0, none⟩ 2 2 _ rfl (fun j u hj => by rw [Addr.add_lit, Nat.zero_add]; exact (hB.cell j).trans hj) (fun u hu => by simp [encW] at hu; rcases hu with rfl | rfl <;> rfl)) rfl (by simp; omega) hk
  refine ⟨v', w', hr, ho', ((Turn.refl _ w).alloc _).trans hT (fun x hx => .inl hx), fun g hg => ?_⟩
  rcases hb g hg with h1 | h1
  · exact .inl h1
  · simp at h1; exact .inr (by omega)
theorem Sli.src {w : World} {a : Option Addr} {n cap : Nat} {l : List Int} (h : Sli e32 1 w (.slice a n cap) l) : Src Tryz.prog 1 23 (.slice a n cap) l.length (encW l) w := by
  obtain ⟨a', cap', e, h⟩ := h
  cases e
  cases a with
  | none =>
    cases l with
    | nil => exact Src.ofNil _ Tryz.underlying23 _
    | cons x l => obtain ⟨b, off, ha, _⟩ := h 0 x rfl; cases ha
  | some ad =>
    refine Src.ofSlice _ Tryz.underlying23 ad l.length _ _ (by simp [encW]) (fun j u hj => ?_) (fun u hu => ?_)
    · rw [List.getElem?_map] at hj
      cases hx : l[j]? with
      | none => rw [hx] at hj; cases hj
      | some x =>
        rw [hx] at hj
        cases hj
        obtain ⟨b, off, ha, _, hc⟩ := h j x hx
        cases ha
        have := hc 0 _ rfl
        rw [Nat.mul_one, Nat.add_zero] at this
        rw [Addr.add_lit]
        exact this
    · obtain ⟨x, _, rfl⟩ := List.mem_map.1 hu
      rfl
theorem own_sli {w : World} {lo : Nat} {v : Value} {l : List Int} (h : w.ownsRow lo 32 1 v l.length (encW l)) : Sli e32 1 w v l := by
  rcases Mm.row_of_own h with ⟨rfl, h1, h2⟩ | ⟨g, cap, cur, rfl, _⟩
  · refine ⟨none, 0, by rw [h1], fun i o ho => ?_⟩
    have := (List.getElem?_eq_some_iff.1 ho).1
    omega
  · refine ⟨_, _, rfl, fun i o ho => ?_⟩
    have hi := (List.getElem?_eq_some_iff.1 ho).1
    refine ⟨g, 0, rfl, (h.lt g rfl).2, fun j c hj => ?_⟩
    have e : j = 0 := by
      cases j with
      | zero => rfl
      | succ j => simp [e32] at hj
    subst e
    rw [Nat.zero_add, Nat.mul_one, Nat.add_zero, h.cellAt i (by omega), List.getElem?_map, ho]
    simpa [e32] using hj
end Go.Proofs.YtnjlajjjcmhfgaaGreatDoor
