import Derived.Test.YtliiblaodhcjhaaGap
import Derived.Test.YtliiblaodhcjhaaLastB
namespace Go.Proofs.Ytliiblaodhcjhaa
open Go.RowKit
set_option linter.unusedVariables false

/-- append of one uint64 that is laid anew. -/
theorem one_append (w : World) (B : Nat) (v : Value) (xs : List Int) (y : Int) (h : Ks w B v xs) (hB : B ≤ w.heap.size) (hby : xs.length ≤ 10000000) :
    ∃ v' w', (∀ ty, (Builtin.append_ #[38, 38] ty #[v, .slice (some ⟨w.heap.size, 0, none⟩) 1 1]).run Try.prog (w.alloc (.cells #[.int .u64 y] 26)) = .ok v' w') ∧ Ks w' B v' (xs ++ [y]) ∧ w.grownBy w' v.ownBlock := by
  have h1 : Below w.heap.size w (w.alloc (.cells #[.int .u64 y] 26)) := (below_alloc (Below.refl _ w) _)
  obtain ⟨v', w', hr, ho, hg⟩ := ks_append (w.alloc (.cells #[.int .u64 y] 26)) B v (.slice (some ⟨w.heap.size, 0, none⟩) 1 1) xs [y] (h.keep h1) (ks_src (ks_new w [y] 0 (Nat.zero_le _) (by simp))) (by simp; omega) (by simp; omega)
  exact ⟨v', w', hr, ho, grownBy_trans (grownBy_none _ (below_grown h1)) hg⟩

/-- Multiples of al among the keys. -/
def Mults (al : Int) (xs : List Int) : Prop := ∀ x ∈ xs, (0 ≤ x ∧ x ≤ 18446744073709551615) ∧ x % al = 0
theorem Mults.snoc {al : Int} {xs : List Int} (h : Mults al xs) {y : Int} (h1 : 0 ≤ y) (h2 : y ≤ 18446744073709551615) (h3 : y % al = 0) : Mults al (xs ++ [y]) := by
  intro x hx
  rcases List.mem_append.1 hx with hx | hx
  · exact h x hx
  · rw [List.mem_singleton] at hx
    subst hx
    exact ⟨⟨h1, h2⟩, h3⟩

set_option maxHeartbeats 4000000 in
set_option maxRecDepth 100000 in
theorem least_zero (W : World) (a : Option Addr) (cap : Nat) (ops : List Op4) (S : Script W a ops) (hs : ops.length ≤ 1048576) (lo hi n al k : Int) (l1 : 0 ≤ lo) (l2 : lo ≤ 18446744073709551615) (b1 : 0 ≤ hi) (b2 : hi ≤ 18446744073709551615) (n1 : 0 ≤ n) (n2 : n ≤ 18446744073709551615) (a1 : 0 ≤ al) (a2 : al ≤ 18446744073709551615) (k1 : 0 ≤ k) (k2 : k ≤ 18446744073709551615) (h0 : n = 0 ∨ al = 0) :
    Calls Try.prog 5 #[.slice a ops.length cap, .int .u64 lo, .int .u64 hi, .int .u64 n, .int .u64 al, .int .u64 k] W fun e W' => e = .returned (.bool true) ∧ Below W.heap.size W W' := by
  have hC1 := laid_any W a cap ops S (by omega)
  clear S
  generalize hn : ops.length = nn at *
  generalize hL : layL ops = L at *
  clear hn hL
  have hsum : ((n == 0) || (al == 0)) = true := by rcases h0 with h | h <;> simp [h]
  go_enter Try.func5, Try.ntmps5
  go_wp2_with (fail)
  refine hC1.mono ?_
  rintro e w1 ⟨rfl, ⟨v, hM1, hl1⟩, hB1⟩
  go_wp2_with (fail)
  refine (live_any _).mono ?_
  rintro e w2 ⟨rfl, hb2⟩
  have hM2 := hM1.keep hb2
  have hB2 := below_go hB1 hb2
  have HLn : Hid (L.length ≤ 2 * nn) := hl1
  clear hM1 hB1 hb2 hC1 hl1
  go_wp2_with (fail)
  refine (gap_none w2 _ lo hi n al h0).mono ?_
  simp only [gapV]
  rintro e w3 ⟨rfl, hb3⟩
  by_cases c1 : n = 0
  · have d1 : (n == 0) = true := by simp [c1]
    clear c1 h0 hsum
    go_wp2
    go_ret
    exact ⟨rfl, below_go hB2 hb3⟩
  · have d1 : (n == 0) = false := by simp [c1]
    have d2 : (al == 0) = true := by have : al = 0 := by omega
                                     simp [this]
    clear c1 h0 hsum
    go_wp2
    go_ret
    exact ⟨rfl, below_go hB2 hb3⟩

set_option maxHeartbeats 4000000 in
set_option maxRecDepth 100000 in
theorem least_far (W : World) (a : Option Addr) (cap : Nat) (ops : List Op4) (S : Script W a ops) (hs : ops.length ≤ 1048576) (lo hi n al k : Int) (l1 : 0 ≤ lo) (l2 : lo ≤ 18446744073709551615) (b1 : 0 ≤ hi) (b2 : hi ≤ 18446744073709551615) (n1 : 0 ≤ n) (n2 : n ≤ 18446744073709551615) (a1 : 0 ≤ al) (a2 : al ≤ 18446744073709551615) (k1 : 0 ≤ k) (k2 : k ≤ 18446744073709551615) (n3 : 0 < n) (a3 : 0 < al) (c0 : hi < lo) :
    Calls Try.prog 5 #[.slice a ops.length cap, .int .u64 lo, .int .u64 hi, .int .u64 n, .int .u64 al, .int .u64 k] W fun e W' => e = .returned (.bool true) ∧ Below W.heap.size W W' := by
  have hC1 := laid_any W a cap ops S (by omega)
  clear S
  generalize hn : ops.length = nn at *
  generalize hL : layL ops = L at *
  clear hn hL
  have d1 : (n == 0) = false := by simp; omega
  have d2 : (al == 0) = false := by simp; omega
  go_enter Try.func5, Try.ntmps5
  go_wp2_with (fail)
  refine hC1.mono ?_
  rintro e w1 ⟨rfl, ⟨v, hM1, hl1⟩, hB1⟩
  go_wp2_with (fail)
  refine (live_any _).mono ?_
  rintro e w2 ⟨rfl, hb2⟩
  have hM2 := hM1.keep hb2
  have hB2 := below_go hB1 hb2
  have HLn : Hid (L.length ≤ 2 * nn) := hl1
  clear hM1 hB1 hb2 hC1 hl1
  go_wp2_with (fail)
  have hsz : L.length < 4611686018427387904 := by have := HLn.out; omega
  refine (gap_any w2 _ _ v L lo hi n al hM2 hsz l1 l2 b1 b2 n3 n2 a3 a2).mono ?_
  rintro e w3 ⟨r, rfl, hG, hb3⟩
  cases r with
  | some g =>
    have h1 := (hG.1 g rfl).1
    have h2 := h1.2.1
    have h3 := h1.2.2.2.1
    omega
  | none =>
    simp only [gapV]
    clear hG
    go_wp2
    go_ret
    exact ⟨rfl, below_go hB2 hb3⟩

end Go.Proofs.Ytliiblaodhcjhaa
