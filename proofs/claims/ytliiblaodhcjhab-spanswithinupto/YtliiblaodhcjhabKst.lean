import Derived.Test.YtliiblaodhcjhabLive
namespace Go.Proofs.Ytliiblaodhcjhab
open Go.RowKit
set_option linter.unusedVariables false

/-- A list of uint64 as it lies in memory. -/
structure U64s (W : World) (a : Option Addr) (xs : List Int) : Prop where
  lies : ∀ i x, xs[i]? = some x → ∃ b off, a = some ⟨b, off, none⟩ ∧ b < W.heap.size ∧ W.cell? ⟨b, off + i, none⟩ = some (.int .u64 x)
  rng : ∀ x ∈ xs, 0 ≤ x ∧ x ≤ 18446744073709551615

/-- A list of uint64 of our own. -/
def Ks (W : World) (lo : Nat) (v : Value) (xs : List Int) : Prop := W.ownsRow lo 23 1 v xs.length (xs.map (Value.int .u64))

theorem infoU : (Try.prog.info? 23).map (fun i => (i.zero, i.size, i.bytes)) = some (some (.int .u64 0), 1, 8) := by kernel_rfl

theorem ks_one (xs : List Int) : ∀ u ∈ xs.map (Value.int .u64), u.oneCell' = true := by
  intro u hu
  obtain ⟨x, _, rfl⟩ := List.mem_map.1 hu
  rfl

theorem ks_append (w : World) (B : Nat) (v x : Value) (xs ys : List Int) (h : Ks w B v xs) (hx : Src Try.prog 1 79 x ys.length (ys.map (Value.int .u64)) w) (hB : B ≤ w.heap.size) (hby : xs.length + ys.length ≤ 17592186044416) :
    ∃ v' w', (∀ ty, (Builtin.append_ #[79, 79] ty #[v, x]).run Try.prog w = .ok v' w') ∧ Ks w' B v' (xs ++ ys) ∧ w.grownBy w' v.ownBlock := by
  obtain ⟨inf, hi0, hz0, hzs, hzb⟩ := info_parts infoU
  obtain ⟨v', w', hr, ho, hg, hb⟩ := append_any (P := Try.prog) w 79 23 inf _ Try.underlying79 hi0 hz0 (by rw [hzs]; rfl) B xs.length ys.length v x (xs.map (Value.int .u64)) (ys.map (Value.int .u64))
    (by rw [hzs]; exact h) (by rw [hzs]; exact hx) hB (by unfold maxLen; omega) (by rw [hzb]; omega)
  refine ⟨v', w', hr, ?_, hg⟩
  rw [Ks, List.length_append, List.map_append]
  rw [hzs] at ho
  exact ho

theorem Ks.keep {W W' : World} {lo : Nat} {v : Value} {L : List Int} (h : Ks W lo v L) (hB : Below W.heap.size W W') : Ks W' lo v L := by
  rcases row_of_own h with ⟨rfl, h1, h2⟩ | ⟨g, cap, cur, rfl, a, b, c, d, e, f⟩
  · rw [Ks, h1, h2]; exact World.ownsRow_nil _ _ _ _
  · refine own_of_row (g := g) (cur := cur) ?_ a c d e f
    show W'.heap[g]? = _
    rw [hB.block g b.lt]; exact b

theorem Ks.view {W : World} {lo : Nat} {v : Value} {xs : List Int} (h : Ks W lo v xs) : ∃ a cap, v = .slice a xs.length cap ∧ ∀ i x, xs[i]? = some x → ∃ g, a = some ⟨g, 0, none⟩ ∧ g < W.heap.size ∧ W.cell? ⟨g, i, none⟩ = some (.int .u64 x) := by
  rcases row_of_own h with ⟨rfl, h1, h2⟩ | ⟨g, cap, cur, rfl, a, b, c, d, e, f⟩
  · refine ⟨none, 0, by rw [h1], fun i x hx => ?_⟩
    have : xs = [] := List.eq_nil_of_length_eq_zero h1
    rw [this] at hx
    simp at hx
  · refine ⟨some ⟨g, 0, none⟩, cap, rfl, fun i x hx => ⟨g, rfl, b.lt, ?_⟩⟩
    have hlt : i < xs.length := (List.getElem?_eq_some_iff.1 hx).1
    rw [World.ownsRow.cellAt h i (by omega), List.getElem?_map, hx]
    rfl

theorem src_u64s {W w : World} {a : Option Addr} {xs : List Int} (h : U64s W a xs) (hB : Below W.heap.size W w) (cap : Nat) (hnil : a = none → cap = 0) : Src Try.prog 1 79 (.slice a xs.length cap) xs.length (xs.map (Value.int .u64)) w := by
  cases a with
  | none =>
    obtain rfl : xs = [] := by
      cases xs with
      | nil => rfl
      | cons x r => obtain ⟨b, off, e, _⟩ := h.lies 0 x rfl; cases e
    exact Src.ofNil w Try.underlying79 cap
  | some ad =>
    refine Src.ofSlice w Try.underlying79 ad xs.length cap _ (by simp) (fun j u hj => ?_) (ks_one xs)
    rw [List.getElem?_map] at hj
    cases hx : xs[j]? with
    | none => rw [hx] at hj; cases hj
    | some x =>
      rw [hx] at hj
      cases hj
      obtain ⟨b, off, e, hb, hc⟩ := h.lies j x hx
      cases e
      rw [Addr.add_lit, hB.cell hb]
      exact hc

/-- A list of uint64, laid anew. -/
theorem ks_new (w : World) (xs : List Int) (lo : Nat) (hlo : lo ≤ w.heap.size) (hm : xs.length ≤ 1000) : Ks (w.alloc (.cells (xs.map (Value.int .u64)).toArray 23)) lo (.slice (some ⟨w.heap.size, 0, none⟩) xs.length xs.length) xs := by
  refine own_of_row (cur := xs.map (Value.int .u64)) (heap_alloc_new w _) hlo (Nat.le_refl _) (by unfold maxLen; omega) (by simp) (List.take_of_length_le (by simp))

theorem ks_src {w : World} {lo : Nat} {v : Value} {xs : List Int} (h : Ks w lo v xs) : Src Try.prog 1 79 v xs.length (xs.map (Value.int .u64)) w := src_of_own Try.underlying79 h (ks_one xs)

theorem neq_span (a b c a' b' c' : Int) (w : World) : (binOp .neq 45 (.agg #[.int .u64 a, .int .u64 b, .int .i64 c]) (.agg #[.int .u64 a', .int .u64 b', .int .i64 c'])).run Try.prog w = .ok (.bool (!(a == a' && b == b' && c == c'))) w := by
  have h1 := eql_span a b c a' b' c' w
  rw [run_eql_struct] at h1
  rw [run_neq_struct]
  cases hq : (Op.equalIn 10000 45 (.agg #[.int .u64 a, .int .u64 b, .int .i64 c]) (.agg #[.int .u64 a', .int .u64 b', .int .i64 c'])).run Try.prog w with
  | ok b w' =>
    rw [hq] at h1
    simp only [Result.andThen] at h1 ⊢
    cases h1
    rfl
  | _ => rw [hq] at h1; simp [Result.andThen] at h1

/-- append of one uint64 that is laid anew. -/
theorem one_append (w : World) (B : Nat) (v : Value) (xs : List Int) (y : Int) (h : Ks w B v xs) (hB : B ≤ w.heap.size) (hby : xs.length ≤ 10000000) :
    ∃ v' w', (∀ ty, (Builtin.append_ #[79, 79] ty #[v, .slice (some ⟨w.heap.size, 0, none⟩) 1 1]).run Try.prog (w.alloc (.cells #[.int .u64 y] 23)) = .ok v' w') ∧ Ks w' B v' (xs ++ [y]) ∧ w.grownBy w' v.ownBlock := by
  have h1 : Below w.heap.size w (w.alloc (.cells #[.int .u64 y] 23)) := (below_alloc (Below.refl _ w) _)
  obtain ⟨v', w', hr, ho, hg⟩ := ks_append (w.alloc (.cells #[.int .u64 y] 23)) B v (.slice (some ⟨w.heap.size, 0, none⟩) 1 1) xs [y] (h.keep h1) (ks_src (ks_new w [y] 0 (Nat.zero_le _) (by simp))) (by simp; omega) (by simp; omega)
  exact ⟨v', w', hr, ho, grownBy_trans (grownBy_none _ (below_grown h1)) hg⟩

end Go.Proofs.Ytliiblaodhcjhab
