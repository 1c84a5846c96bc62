import Derived.Test.YtplobjdghaokoabLw
namespace Go.Proofs.Ytplobjdghaokoab
open Go.RowKit
set_option linter.unusedVariables false

theorem usesR_at {f0 : Nat} {u : List Nat} {k x : Nat} (h : u[k]? = some x) : usesR f0 u ((f0 : Int) + k) = x := by
  have hl : k < u.length := (List.getElem?_eq_some_iff.1 h).1
  unfold usesR
  have hb : hasB f0 u ((f0 : Int) + k) 1 = true := decide_eq_true ⟨by omega, by omega⟩
  rw [if_pos hb, show (((f0 : Int) + k) - f0).toNat = k by omega, h]
  rfl
def intsOf (u : List Nat) : List Int := u.map fun (x : Nat) => (x : Int)
theorem intsOf_len (u : List Nat) : (intsOf u).length = u.length := by simp [intsOf]
theorem intsOf_at {u : List Nat} {k x : Nat} (h : u[k]? = some x) : (intsOf u)[k]? = some (x : Int) := by simp [intsOf, h]
theorem intsOf_inj {u v : List Nat} (h : intsOf u = intsOf v) : u = v := by
  apply List.ext_getElem?
  intro i
  have := congrArg (fun l => l[i]?) h
  simp only [intsOf, List.getElem?_map] at this
  cases hu : u[i]? with
  | none => rw [hu] at this; cases hv : v[i]? with
    | none => rfl
    | some y => rw [hv] at this; simp at this
  | some x => rw [hu] at this; cases hv : v[i]? with
    | none => rw [hv] at this; simp at this
    | some y => rw [hv] at this; simp at this; rw [show x = y by omega]
/-- append of one number onto a list that is owned. -/
theorem app_int {W : World} {lo : Nat} {v : Value} {A : List Int} (h : W.ownsRow lo 3 1 v A.length (encI A)) (x : Int) (hlo : lo ≤ W.heap.size) (hl : A.length ≤ 8796093022208) :
    ∃ v' w', (∀ ty, (Builtin.append_ #[61, 61] ty #[v, .slice (some ⟨W.heap.size, 0, none⟩) 1 1]).run Try.prog (W.alloc (.cells #[.int .i64 x] 3)) = .ok v' w') ∧ w'.ownsRow lo 3 1 v' (A ++ [x]).length (encI (A ++ [x])) ∧ Turn (fun b => lo ≤ b) W w' := by
  obtain ⟨i0, hi, hz0, hz1, hz2⟩ := info_parts infoI
  have T0 : Turn (fun _ => False) W (W.alloc (.cells #[.int .i64 x] 3)) := (Turn.refl _ W).alloc _
  have hrow := row_new W [.int .i64 x] 3
  have hown := own_turn h T0 (fun _ _ h => h)
  have hsz : (W.alloc (.cells #[.int .i64 x] 3)).heap.size = W.heap.size + 1 := by simp
  have hsrc : Src Try.prog 1 61 (.slice (some ⟨W.heap.size, 0, none⟩) 1 1) 1 [.int .i64 x] (W.alloc (.cells #[.int .i64 x] 3)) :=
    Src.ofSlice _ Try.underlying61 ⟨W.heap.size, 0, none⟩ 1 1 _ rfl (fun j u hj => by rw [Addr.add_lit, Nat.zero_add]; exact (hrow.cell j).trans hj) (fun u hu => by simp at hu; subst hu; rfl)
  obtain ⟨v', w', hr, ho, hg, hb⟩ := append_any (P := Try.prog) (W.alloc (.cells #[.int .i64 x] 3)) 61 3 i0 _ Try.underlying61 hi hz0 (by rw [hz1]; rfl) lo A.length 1 v (.slice (some ⟨W.heap.size, 0, none⟩) 1 1) (encI A) [.int .i64 x] (by rw [hz1]; exact hown) (by rw [hz1]; exact hsrc) (by omega) (by unfold maxLen; omega) (by rw [hz2]; omega)
  rw [hz1] at ho
  refine ⟨v', w', hr, ?_, T0.mono (fun _ _ h => h.elim) |>.trans (Turn.grown (S := fun b => lo ≤ b) hg (fun k hk => ?_)) (fun b hb => .inl hb)⟩
  · rw [List.length_append, encI, List.map_append]
    exact ho
  · exact .inl (own_block_new hown hk).1
end Go.Proofs.Ytplobjdghaokoab
