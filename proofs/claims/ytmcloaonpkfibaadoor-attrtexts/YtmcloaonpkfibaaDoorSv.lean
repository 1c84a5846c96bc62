import Derived.Test.YtmcloaonpkfibaaDoorAp
import Derived.Test.YtmcloaonpkfibaaDoorSh
import Derived.OwnWalk
namespace Go.Proofs.YtmcloaonpkfibaaDoor
open Go.RowKit
set_option linter.unusedVariables false
set_option linter.unusedSimpArgs false
theorem own_new (w : World) (x : ByteArray) : (w.alloc (.cells #[.string x] 9)).ownsRow w.heap.size 9 1 (.slice (some ⟨w.heap.size, 0, none⟩) 1 1) [x].length ([x].map Value.string) :=
  own_of_row (cur := [.string x]) (Bl.new w 9 [.string x]) (Nat.le_refl _) (Nat.le_refl _) (by unfold maxLen; omega) rfl rfl
theorem dev_ap (w : World) (x y : ByteArray) : ∃ g c w2, (∀ ty, (Builtin.append_ #[47, 47] ty #[.slice (some ⟨w.heap.size, 0, none⟩) 1 1, .slice (some ⟨w.heap.size + 1, 0, none⟩) 1 1]).run Tryd.prog ((w.alloc (.cells #[.string x] 9)).alloc (.cells #[.string y] 9)) = .ok (.slice (some ⟨g, 0, none⟩) 2 c) w2) ∧
    g < w2.heap.size ∧ 2 ≤ c ∧ (∀ (j : Nat) z, [x, y][j]? = some z → w2.cell? ⟨g, 0 + j, none⟩ = some (.string z)) ∧ Below w.heap.size w w2 := by
  have hs : (w.alloc (.cells #[.string x] 9)).heap.size = w.heap.size + 1 := by simp
  obtain ⟨v', w', hr, ho, hb⟩ := app_s (own_new w x) [y] 1 #[.string y] rfl rfl (by omega) (by simp)
  rw [hs] at hr
  obtain ⟨g, c, rfl, h1, h2, h3, h4⟩ := own_lies ho (by simp)
  exact ⟨g, c, w', hr, h2, h3, h4, (below_new _ _).trans hb⟩
theorem nor_ap (w : World) (x a b s : ByteArray) : ∃ v2 w2 g c w3, (∀ ty, (Builtin.append_ #[47, 47] ty #[.slice (some ⟨w.heap.size, 0, none⟩) 1 1, .slice (some ⟨w.heap.size + 1, 0, none⟩) 2 2]).run Tryd.prog ((w.alloc (.cells #[.string x] 9)).drew.alloc (.cells #[.string a, .string b] 9)) = .ok v2 w2) ∧
    (∀ ty, (Builtin.append_ #[47, 47] ty #[v2, .slice (some ⟨w2.heap.size, 0, none⟩) 1 1]).run Tryd.prog (w2.alloc (.cells #[.string s] 9)) = .ok (.slice (some ⟨g, 0, none⟩) 4 c) w3) ∧
    Below w.heap.size w w2 ∧ g < w3.heap.size ∧ 4 ≤ c ∧ (∀ (j : Nat) z, [x, a, b, s][j]? = some z → w3.cell? ⟨g, 0 + j, none⟩ = some (.string z)) ∧ Below w.heap.size w w3 := by
  have hs : (w.alloc (.cells #[.string x] 9)).drew.heap.size = w.heap.size + 1 := by simp
  have ho0 : (w.alloc (.cells #[.string x] 9)).drew.ownsRow w.heap.size 9 1 (.slice (some ⟨w.heap.size, 0, none⟩) 1 1) [x].length ([x].map Value.string) := own_new w x
  obtain ⟨v', w', hr, ho, hb⟩ := app_s ho0 [a, b] 2 #[.string a, .string b] rfl rfl (by omega) (by simp)
  rw [hs] at hr
  have hb1 : Below w.heap.size w w' := (below_drew (below_new _ _)).trans hb
  obtain ⟨v2, w2, hr2, ho2, hb2⟩ := app_s ho [s] 1 #[.string s] rfl rfl hb1.size (by simp)
  obtain ⟨g, c, rfl, h1, h2, h3, h4⟩ := own_lies ho2 (by simp)
  exact ⟨v', w', g, c, w2, hr, hr2, hb1, h2, h3, h4, hb1.trans hb2⟩
/-- Join's call. -/
theorem join_call (xs : List ByteArray) (k g c : Nat) (w : World) (hk : xs.length = k) (hg : g < w.heap.size) (hc : k ≤ c) (hx : ∀ (j : Nat) z, xs[j]? = some z → w.cell? ⟨g, 0 + j, none⟩ = some (.string z)) (h4 : k ≤ 4) (hl : (Lib.join (xs.map (·.data.toList)) [32]).length ≤ 31) :
    Calls Tryd.prog 18 #[.slice (some ⟨g, 0, none⟩) k c, .string ⟨#[32]⟩] w fun e w' => e = .returned (.string (jn xs)) ∧ Below w.heap.size w w' := by
  subst hk
  exact Tryd.strings_Join g 0 c xs ⟨#[32]⟩ w hx hg (by omega) hc (Nat.le_trans hl (by decide))
/-- A box of a kind, in a world behind; all tables. -/
structure GX (w wr : World) (m : Mem) : Prop where
  bel : Below w.heap.size w wr
  box : Bl wr w.heap.size 24 [.int .i64 m.t, .int .i64 m.i, .int .i64 m.o, .int .i64 m.s]
  tab : TA wr
theorem GX.new (w : World) (m : Mem) (h : TA w) : GX w (w.alloc (.cells #[.int .i64 m.t, .int .i64 m.i, .int .i64 m.o, .int .i64 m.s] 24)) m := ⟨below_new _ _, Bl.new w _ _, h.below (below_new _ _)⟩
theorem GX.step {w wr wn : World} {m : Mem} (h : GX w wr m) (hb : Below wr.heap.size wr wn) : GX w wn m := ⟨Below.step h.bel hb, h.box.below hb, h.tab.below hb⟩
theorem GX.lt {w wr : World} {m : Mem} (h : GX w wr m) : w.heap.size < wr.heap.size := h.box.lt
/-- An append whose run is known. -/
theorem wpList_app {P : Program} {ops : Array Oper} {rest : List Oper} {o : Oper} {a : Act} {Q : Exit → Act → World → Prop} {w : World} (hgd : o.guard = none) (s x : Operand) (t : TypeId)
    (ho : o.op = .call { callee := .builtin .append, args := #[s, x], argTypes := #[t, t] }) (v u v' : Value) (w' : World) (hs : a.eval s = v) (hx : a.eval x = u)
    (hr : ∀ ty, (Builtin.append_ #[t, t] ty #[v, u]).run P w = .ok v' w') (h : wpList P ops Q rest (a.put o.dst v') w') : wpList P ops Q (o :: rest) a w := by
  refine wpList_plain hgd fun K hK => ?_
  unfold Oper.wp execOp
  simp only [ho, resolve, invoke, builtin, Sem.run_bind, Sem.run_pure, Result.andThen_ok, List.map_toArray, List.map_cons, List.map_nil, hs, hx, hr]
  exact hK _ _ h
theorem wp_app {P : Program} {o : Oper} {a : Act} {K : Act → World → Prop} {Q : Exit → Act → World → Prop} {w : World} (s x : Operand) (t : TypeId)
    (ho : o.op = .call { callee := .builtin .append, args := #[s, x], argTypes := #[t, t] }) (v u v' : Value) (w' : World) (hs : a.eval s = v) (hx : a.eval x = u)
    (hr : ∀ ty, (Builtin.append_ #[t, t] ty #[v, u]).run P w = .ok v' w') (h : K (a.put o.dst v') w') : Oper.wp P o a w K Q := by
  unfold Oper.wp execOp
  simp only [ho, resolve, invoke, builtin, Sem.run_bind, Sem.run_pure, Result.andThen_ok, List.map_toArray, List.map_cons, List.map_nil, hs, hx, hr]
  exact h
theorem K_str : K ⟨0, 0, 0, 2⟩ := .inl ⟨rfl, rfl, rfl, rfl⟩
theorem K_dev {s : Int} (h0 : 0 ≤ s) (h2 : s ≤ 2) : K ⟨1, 0, 0, s⟩ := .inr (.inl ⟨rfl, rfl, rfl, h0, h2⟩)
theorem K_nor {i o s : Int} (a0 : 0 ≤ i) (a3 : i ≤ 3) (b0 : 0 ≤ o) (b3 : o ≤ 3) (h0 : 0 ≤ s) (h2 : s ≤ 2) : K ⟨2, i, o, s⟩ := .inr (.inr ⟨rfl, a0, a3, b0, b3, h0, h2⟩)
theorem one_cells (w : World) (x : ByteArray) : ∀ (j : Nat) z, [x][j]? = some z → (w.alloc (.cells #[.string x] 9)).cell? ⟨w.heap.size, 0 + j, none⟩ = some (.string z) := fun j z hz => by
  rw [Nat.zero_add]
  have := (Bl.new w 9 [.string x]).cell j
  rw [this]
  rcases j with _ | j
  · simp at hz
    subst hz
    rfl
  · simp at hz
theorem HK_yes {m : Mem} (hm : K m) : ∀ w, Calls Tryd.prog 17 #[.agg #[.int .i64 m.t, .int .i64 m.i, .int .i64 m.o, .int .i64 m.s]] w fun e w' => e = .returned (.bool true) ∧ Below w.heap.size w w' := fun w => by
  have := isKind_any m w
  rw [decide_eq_true hm] at this
  exact this
end Go.Proofs.YtmcloaonpkfibaaDoor
