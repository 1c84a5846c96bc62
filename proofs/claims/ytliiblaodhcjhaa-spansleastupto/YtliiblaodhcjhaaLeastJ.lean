import Derived.Test.YtliiblaodhcjhaaLeastD
import Derived.Test.YtliiblaodhcjhaaLeastU
import Derived.Test.YtliiblaodhcjhaaLeastX
import Derived.Test.YtliiblaodhcjhaaOpen
namespace Go.Proofs.Ytliiblaodhcjhaa
open Go.RowKit
set_option linter.unusedVariables false

theorem law_least (W : World) (a : Option Addr) (cap : Nat) (ops : List Op4) (S : Script W a ops) (hs : ops.length ≤ 1048576) (lo hi n al k : Int) (l : 0 ≤ lo ∧ lo ≤ 18446744073709551615) (b : 0 ≤ hi ∧ hi ≤ 18446744073709551615) (hn : 0 ≤ n ∧ n ≤ 18446744073709551615) (ha : 0 ≤ al ∧ al ≤ 18446744073709551615) (hk : 0 ≤ k ∧ k ≤ 18446744073709551615) :
    Calls Try.prog 5 #[.slice a ops.length cap, .int .u64 lo, .int .u64 hi, .int .u64 n, .int .u64 al, .int .u64 k] W fun e W' => e = .returned (.bool true) ∧ Below W.heap.size W W' := by
  obtain ⟨l1, l2⟩ := l
  obtain ⟨b1, b2⟩ := b
  obtain ⟨n1, n2⟩ := hn
  obtain ⟨a1, a2⟩ := ha
  obtain ⟨k1, k2⟩ := hk
  by_cases h0 : n = 0 ∨ al = 0
  · exact least_zero W a cap ops S hs lo hi n al k l1 l2 b1 b2 n1 n2 a1 a2 k1 k2 h0
  · have n3 : 0 < n := by omega
    have a3 : 0 < al := by omega
    by_cases c0 : hi < lo
    · exact least_far W a cap ops S hs lo hi n al k l1 l2 b1 b2 n1 n2 a1 a2 k1 k2 n3 a3 c0
    · by_cases c1 : lo % al = 0
      · exact least_D W a cap ops S hs lo hi n al k l1 l2 b1 b2 n1 n2 a1 a2 k1 k2 n3 a3 (by omega) c1
      · by_cases c2 : lo ≤ 18446744073709551615 - (al - lo % al)
        · exact least_U W a cap ops S hs lo hi n al k l1 l2 b1 b2 n1 n2 a1 a2 k1 k2 n3 a3 (by omega) c1 c2
        · exact least_X W a cap ops S hs lo hi n al k l1 l2 b1 b2 n1 n2 a1 a2 k1 k2 n3 a3 (by omega) c1 c2
end Go.Proofs.Ytliiblaodhcjhaa
