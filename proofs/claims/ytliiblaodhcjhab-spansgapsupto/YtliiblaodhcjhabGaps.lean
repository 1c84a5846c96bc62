import Derived.Test.YtliiblaodhcjhabMade
import Derived.Test.YtliiblaodhcjhabRGap
namespace Go.Proofs.Ytliiblaodhcjhab
open Go.RowKit
set_option linter.unusedVariables false

set_option maxHeartbeats 4000000 in
set_option maxRecDepth 100000 in
theorem rgap_none (W : World) (p : Nat) (lo hi n al : Int) (h0 : n = 0 ∨ al = 0) :
    Calls Try.prog 10 #[.pointer (some ⟨p, 0, none⟩), .int .u64 lo, .int .u64 hi, .int .u64 n, .int .u64 al] W fun e W' => e = .returned (gapV none) ∧ Below W.heap.size W W' := by
  simp only [gapV]
  by_cases hn : n = 0
  · subst hn
    go_enter Try.func10, Try.ntmps10
    go_wp2
    go_ret2
    exact ⟨rfl, Below.refl _ _⟩
  · have ha : al = 0 := by omega
    subst ha
    have hb : (n == 0) = false := by simp [hn]
    go_enter Try.func10, Try.ntmps10
    go_wp2
    go_ret2
    exact ⟨rfl, Below.refl _ _⟩

set_option maxHeartbeats 4000000 in
set_option maxRecDepth 100000 in
theorem law_gaps (W : World) (a : Option Addr) (cap : Nat) (ops : List Op4) (S : Script W a ops) (hs : ops.length ≤ 1048576) (lo hi n al : Int) (bl : 0 ≤ lo ∧ lo ≤ 18446744073709551615) (bh : 0 ≤ hi ∧ hi ≤ 18446744073709551615) (bn : 0 ≤ n ∧ n ≤ 18446744073709551615) (ba : 0 ≤ al ∧ al ≤ 18446744073709551615) :
    Calls Try.prog 3 #[.slice a ops.length cap, .int .u64 lo, .int .u64 hi, .int .u64 n, .int .u64 al] W fun e W' => e = .returned (.bool true) ∧ Below W.heap.size W W' := by
  have hC := made_any W a cap ops S hs
  generalize layL ops = L at *
  generalize didL ops = D at *
  generalize ops.length = m at *
  clear S
  go_enter Try.func3, Try.ntmps3
  go_wp2_with (fail)
  refine hC.mono ?_
  rintro e w1 ⟨rfl, ⟨v, u, hM, hR, hBo, hl, hd⟩, hB⟩
  clear hC
  go_wp2_with (fail)
  refine (live_any _).mono ?_
  rintro e w2 ⟨rfl, hb2⟩
  have hM2 := hM.keep hb2
  have hR2 := hR.keep hb2
  have hB2 := below_go hB hb2
  have hg := hM.good
  clear hM hR hB hb2
  by_cases h0 : n = 0 ∨ al = 0
  · have hG := gap_none w2 W.heap.size lo hi n al h0
    have hK := fun w => rgap_none w (W.heap.size + 1) lo hi n al h0
    simp only [gapV] at hG hK
    clear h0
    go_wp2_with (fail)
    refine hG.mono ?_
    rintro e w3 ⟨rfl, hb3⟩
    go_wp2_with (fail)
    refine (hK _).mono ?_
    rintro e w4 ⟨rfl, hb4⟩
    have hB4 := below_go (below_go hB2 hb3) hb4
    clear hb3 hb4 hB2
    go_wp2
    go_ret
    exact ⟨by first | rfl | simp, hB4⟩
  · have hG := gap_any w2 _ W.heap.size v L lo hi n al hM2 (by omega) bl.1 bl.2 bh.1 bh.2 (by omega) bn.2 (by omega) ba.2
    clear hM2
    go_wp2_with (fail)
    refine hG.mono ?_
    rintro e w3 ⟨r, rfl, hr, hb3⟩
    have hR3 := hR2.keep hb3
    have hK := rgap_any w3 _ (W.heap.size + 1) u D lo hi n al hR3 (by omega) bl.1 bl.2 bh.1 bh.2 (by omega) bn.2 (by omega) ba.2 L hg hBo
    have HR : Hid (GapIs L lo hi n al r) := hr
    have hB3 := below_go hB2 hb3
    clear hR3 hR2 hG hb3 hB2 hr h0
    cases r with
    | none =>
      simp only [gapV]
      go_wp2_with (fail)
      refine hK.mono ?_
      rintro e w4 ⟨r', rfl, hr', hb4⟩
      obtain rfl : r' = none := hr'.uniq HR.out
      have hB4 := below_go hB3 hb4
      clear hb4 hB3 hr' hK
      simp only [gapV]
      go_wp2
      go_ret
      exact ⟨by first | rfl | simp, hB4⟩
    | some g =>
      simp only [gapV]
      go_wp2_with (fail)
      refine hK.mono ?_
      rintro e w4 ⟨r', rfl, hr', hb4⟩
      obtain rfl : r' = some g := hr'.uniq HR.out
      have hB4 := below_go hB3 hb4
      clear hb4 hB3 hr' hK
      simp only [gapV]
      go_wp2
      go_ret
      exact ⟨by first | rfl | simp, hB4⟩
end Go.Proofs.Ytliiblaodhcjhab
