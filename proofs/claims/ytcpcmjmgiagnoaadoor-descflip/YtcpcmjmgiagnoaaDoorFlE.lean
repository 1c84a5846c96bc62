import Derived.Test.YtcpcmjmgiagnoaaDoorFlT
import Derived.Test.YtcpcmjmgiagnoaaDoorFlS
import Derived.Test.YtcpcmjmgiagnoaaDoorFlL
import Derived.Test.YtcpcmjmgiagnoaaDoorFlM
namespace Go.Proofs.YtcpcmjmgiagnoaaDoor
open Go.RowKit
set_option linter.unusedVariables false
theorem flT_same (x : Int) (k : Nat) (hk : k < 32) (hx : 0 ≤ x ∧ x < 4294967296) (h4 : x % 4 = 1) : (bits .and .u32 4294966763 (2 ^ k) == 0) = (D1 x).same (D1 (fl x k)) := by
  have h1 := and_bit 4294966763 k (by decide) hk
  have h2 := (Ent.same_iff (D1 x) (D1 (fl x k))).trans ((D1_iff x (fl x k) hx (fl_xor x k hx hk).2.1).trans (flT x k hk hx h4))
  refine Eq.trans h1 ?_
  cases hs : (D1 x).same (D1 (fl x k))
  · rw [hs] at h2
    exact decide_eq_false (fun e => by simpa using h2.2 e)
  · rw [hs] at h2
    exact decide_eq_true (h2.1 rfl)
theorem flS_same (x : Int) (k : Nat) (hk : k < 32) (hx : 0 ≤ x ∧ x < 4294967296) (h4 : x % 4 = 2) : (bits .and .u32 4294966783 (2 ^ k) == 0) = (D1 x).same (D1 (fl x k)) := by
  have h1 := and_bit 4294966783 k (by decide) hk
  have h2 := (Ent.same_iff (D1 x) (D1 (fl x k))).trans ((D1_iff x (fl x k) hx (fl_xor x k hx hk).2.1).trans (flS x k hk hx h4))
  refine Eq.trans h1 ?_
  cases hs : (D1 x).same (D1 (fl x k))
  · rw [hs] at h2
    exact decide_eq_false (fun e => by simpa using h2.2 e)
  · rw [hs] at h2
    exact decide_eq_true (h2.1 rfl)
theorem flL_same (x : Int) (k : Nat) (hk : k < 32) (hx : 0 ≤ x ∧ x < 4294967296) (h4 : x % 4 = 1) : (bits .and .u32 4294966847 (2 ^ k) == 0) = (D2 x).same (D2 (fl x k)) := by
  have h1 := and_bit 4294966847 k (by decide) hk
  have h2 := (Ent.same_iff (D2 x) (D2 (fl x k))).trans ((D2_iff x (fl x k) hx (fl_xor x k hx hk).2.1).trans (flL x k hk hx h4))
  refine Eq.trans h1 ?_
  cases hs : (D2 x).same (D2 (fl x k))
  · rw [hs] at h2
    exact decide_eq_false (fun e => by simpa using h2.2 e)
  · rw [hs] at h2
    exact decide_eq_true (h2.1 rfl)
theorem flM_same (x : Int) (k : Nat) (hk : k < 32) (hx : 0 ≤ x ∧ x < 4294967296) (h4 : x % 4 = 2 ∨ x % 4 = 3) : (bits .and .u32 4294967295 (2 ^ k) == 0) = (D2 x).same (D2 (fl x k)) := by
  have h1 := and_bit 4294967295 k (by decide) hk
  have h2 := (Ent.same_iff (D2 x) (D2 (fl x k))).trans ((D2_iff x (fl x k) hx (fl_xor x k hx hk).2.1).trans (flM x k hk hx h4))
  refine Eq.trans h1 ?_
  cases hs : (D2 x).same (D2 (fl x k))
  · rw [hs] at h2
    exact decide_eq_false (fun e => by simpa using h2.2 e)
  · rw [hs] at h2
    exact decide_eq_true (h2.1 rfl)
end Go.Proofs.YtcpcmjmgiagnoaaDoor
