import Derived.Test.YtmmocnejacflmabDoorP4f
import Derived.Test.YtmmocnejacflmabDoorP4n
import Derived.Test.YtmmocnejacflmabDoorP4t
import Derived.Test.YtmmocnejacflmabDoorPnf
import Derived.Test.YtmmocnejacflmabDoorPnn
import Derived.Test.YtmmocnejacflmabDoorPnt
namespace Go.Proofs.YtmmocnejacflmabDoor
open Go.RowKit
set_option linter.unusedVariables false
set_option linter.unusedSimpArgs false
theorem maR_le (n : Nat) (afe : Bool) (h : n < 8) : maR n afe false = true → maR n afe true = true := by
  rcases (show n = 0 ∨ n = 1 ∨ n = 2 ∨ n = 3 ∨ n = 4 ∨ n = 5 ∨ n = 6 ∨ n = 7 by omega) with rfl | rfl | rfl | rfl | rfl | rfl | rfl | rfl <;> cases afe <;> decide
theorem maW_le (n : Nat) (afe : Bool) (h : n < 8) : maW n afe false = true → maW n afe true = true := by
  rcases (show n = 0 ∨ n = 1 ∨ n = 2 ∨ n = 3 ∨ n = 4 ∨ n = 5 ∨ n = 6 ∨ n = 7 by omega) with rfl | rfl | rfl | rfl | rfl | rfl | rfl | rfl <;> cases afe <;> decide
theorem al_le (ap : Int) (xn afe : Bool) (k : Int) (h : alF ap xn afe false k = true) : alF ap xn afe true k = true := by
  unfold alF at h ⊢
  split at h
  · rename_i hp
    rw [if_pos hp]
    have h1 := maR_le ap.toNat afe (by omega)
    have h2 := maW_le ap.toNat afe (by omega)
    by_cases k1 : k = 1
    · rw [if_pos k1] at h ⊢
      simp only [Bool.and_eq_true] at h ⊢
      exact ⟨h1 h.1, h.2⟩
    · rw [if_neg k1] at h ⊢
      by_cases k2 : k = 2
      · rw [if_pos k2] at h ⊢
        exact h1 h
      · rw [if_neg k2] at h ⊢
        by_cases k3 : k = 3
        · rw [if_pos k3] at h ⊢
          exact h2 h
        · rw [if_neg k3] at h
          cases h
  · cases h
/-- A block that P708 speaks of, by a context. -/
def tP (s d P B : Int) (ng xn : Bool) : Tra := ⟨s, 0, 0, d, P, B, ng, xn⟩
def cP (afe : Bool) (a : Int) : Ctx := ⟨true, false, afe, 0, false, false, 0, 0, a, 0, 0, 0⟩
theorem tP_ft (s d P B : Int) (ng xn : Bool) (hB : 0 ≤ B ∧ B ≤ 63) : Ft (tP s d P B ng xn) := ⟨by simp [tP], by simp [tP], by simp only [tP]; omega⟩
theorem tP_right (s d P B : Int) (ng xn : Bool) (hs : 1 ≤ s ∧ s ≤ 4) (hd : 0 ≤ d ∧ d ≤ 15) (hP : 0 ≤ P ∧ P ≤ 7) (hB : 0 ≤ B ∧ B ≤ 63) (h4 : s = 4 → d = 0) : riF (tP s d P B ng xn) = true := by
  have hf := tP_ft s d P B ng xn hB
  refine (ri_iff (tP s d P B ng xn) ⟨hf.pa, hf.bt⟩ hs).2 ⟨Int.zero_emod _, ⟨hP.1, hP.2, hB.2⟩, hd, Int.zero_emod _, ?_⟩
  show if s = 4 then (0 : Int) < 1099511627776 ∧ d = 0 else (0 : Int) < 4294967296
  by_cases h : s = 4
  · rw [if_pos h]
    exact ⟨by decide, h4 h⟩
  · rw [if_neg h]
    decide
theorem ch_kind (s d P B : Int) (ng xn afe : Bool) (a : Int) (priv : Bool) (k : Int) (hr : riF (tP s d P B ng xn) = true) : (chF (tP s d P B ng xn) (cP afe a) priv k).k = baF (tP s d P B ng xn) afe a priv k := by
  have e : ((cP afe a).on && riF (tP s d P B ng xn)) = true := by rw [hr]; rfl
  unfold chF
  rw [if_pos e]
  by_cases h : baF (tP s d P B ng xn) (cP afe a).afe (cP afe a).dacr priv k = 0
  · rw [if_pos h]
    exact h.symm
  · rw [if_neg h]
    rfl
theorem kinds7 (s d P B : Int) (ng xn afe : Bool) (a : Int) (priv : Bool) (k : Int) (h : afe = true ∧ P % 2 = 0) : baF (tP s d P B ng xn) afe a priv k = 7 := by
  have h' : afe = true ∧ (tP s d P B ng xn).ap % 2 = 0 := h
  unfold baF
  rw [if_pos h']
theorem kindsN (s d P B : Int) (ng xn afe : Bool) (A : Nat → Int) (hA : ∀ n, n < 4 → fdF (A n) d = n) (h : ¬ (afe = true ∧ P % 2 = 0)) (priv : Bool) (k : Int) :
    baF (tP s d P B ng xn) afe (A 0) priv k = 8 ∧ baF (tP s d P B ng xn) afe (A 2) priv k = 8 ∧ baF (tP s d P B ng xn) afe (A 3) priv k = 0 ∧ baF (tP s d P B ng xn) afe (A 1) priv k = if alF P xn afe priv k then 0 else 9 := by
  have h0 : fdF (A 0) (tP s d P B ng xn).dom = 0 := hA 0 (by decide)
  have h1 : fdF (A 1) (tP s d P B ng xn).dom = 1 := hA 1 (by decide)
  have h2 : fdF (A 2) (tP s d P B ng xn).dom = 2 := hA 2 (by decide)
  have h3 : fdF (A 3) (tP s d P B ng xn).dom = 3 := hA 3 (by decide)
  have h' : ¬ (afe = true ∧ (tP s d P B ng xn).ap % 2 = 0) := h
  unfold baF
  rw [if_neg h', if_neg h', if_neg h', if_neg h', h0, h1, h2, h3]
  exact ⟨rfl, rfl, rfl, rfl⟩
theorem fd_shl (d : Int) (hd : 0 ≤ d ∧ d ≤ 15) (n : Nat) (hn : n < 4) : (n : Int) * 2 ^ (2 * d).toNat % 4294967296 = (n : Int) * 2 ^ (2 * d).toNat ∧ fdF ((n : Int) * 2 ^ (2 * d).toNat) d = n ∧ 0 ≤ (n : Int) * 2 ^ (2 * d).toNat ∧ (n : Int) * 2 ^ (2 * d).toNat < 4294967296 := by
  have hp := pow_pos (2 * d).toNat
  have hl : (2 : Nat) ^ (2 * d).toNat ≤ 2 ^ 30 := Nat.pow_le_pow_right (by omega) (by omega)
  have hl2 : ((2 ^ (2 * d).toNat : Nat) : Int) ≤ 1073741824 := by omega
  rw [pow_nat] at hl2
  have h0 : 0 ≤ (n : Int) * 2 ^ (2 * d).toNat := Int.mul_nonneg (by omega) (by omega)
  have h1 : (n : Int) * 2 ^ (2 * d).toNat < 4294967296 := by
    have : (n : Int) * 2 ^ (2 * d).toNat ≤ 3 * 1073741824 := Int.mul_le_mul (by omega) hl2 (by omega) (by omega)
    omega
  refine ⟨Int.emod_eq_of_lt h0 h1, ?_, h0, h1⟩
  unfold fdF
  rw [Int.mul_ediv_cancel _ (by omega)]
  omega
theorem law_priv (ap bt : Int) (ng xn : Bool) (sz dom : Int) (afe : Bool) (w : World) (hT : TV w) (hb : 0 ≤ bt ∧ bt < 4294967296) :
    Calls Tryd.prog 4 #[.agg #[.int .i64 ap, .int .u32 bt, .bool ng, .bool xn], .int .i64 sz, .int .i64 dom, .bool afe] w fun e w' => e = .returned (.bool true) ∧ Below w.heap.size w w' := by
  have hP : bits .and .i64 ap 7 = ap % 8 := i64_low ap 3 (by decide)
  have hB : bits .and .u32 bt 63 = bt % 64 := band_low bt 6 hb (by decide)
  have hs : IntKind.i64.wrap (1 + bits .and .i64 sz 3) = 1 + sz % 4 := by
    rw [show bits .and .i64 sz 3 = sz % 4 from i64_low sz 2 (by decide), IntKind.wrap_i64]
    omega
  have hd0 : bits .and .i64 dom 15 = dom % 16 := i64_low dom 4 (by decide)
  have hPr : 0 ≤ ap % 8 ∧ ap % 8 ≤ 7 := by omega
  have hBr : 0 ≤ bt % 64 ∧ bt % 64 ≤ 63 := by omega
  have hsr : 1 ≤ 1 + sz % 4 ∧ 1 + sz % 4 ≤ 4 := by omega
  have hdr : 0 ≤ dom % 16 ∧ dom % 16 ≤ 15 := by omega
  have b1 := and64_1 (ap % 8) hPr
  generalize ap % 8 = P at *
  generalize bt % 64 = B at *
  generalize 1 + sz % 4 = s at *
  generalize dom % 16 = d at *
  have HC : ∀ (s d : Int) (A : Nat → Int), riF (tP s d P B ng xn) = true → (∀ n : Nat, n < 4 → 0 ≤ A n ∧ A n < 4294967296) → ∀ (n : Nat), n < 4 → ∀ (priv : Bool) (k : Int), ∃ ul ud : Int, ∀ w, TC w → Calls Tryd.prog 12 #[.agg #[.int .i64 (tP s d P B ng xn).size, .int .u32 (tP s d P B ng xn).va, .int .u64 (tP s d P B ng xn).pa, .int .i64 (tP s d P B ng xn).dom, .int .i64 (tP s d P B ng xn).ap, .int .u32 (tP s d P B ng xn).bits, .bool (tP s d P B ng xn).ng, .bool (tP s d P B ng xn).xn], .agg #[.bool (cP afe (A n)).on, .bool (cP afe (A n)).tre, .bool (cP afe (A n)).afe, .int .i64 (cP afe (A n)).n, .bool (cP afe (A n)).pd0, .bool (cP afe (A n)).pd1, .int .u64 (cP afe (A n)).b0, .int .u64 (cP afe (A n)).b1, .int .u32 (cP afe (A n)).dacr, .int .u32 (cP afe (A n)).prrr, .int .u32 (cP afe (A n)).nmrr, .int .i64 (cP afe (A n)).asid], .bool priv, .int .i64 k] w fun e w' => e = .returned (.agg #[.int .i64 (baF (tP s d P B ng xn) afe (A n) priv k), .int .i64 ul, .int .i64 ud]) ∧ Below w.heap.size w w' := by
    intro s d A hr hA n hn priv k
    refine ⟨(chF (tP s d P B ng xn) (cP afe (A n)) priv k).l, (chF (tP s d P B ng xn) (cP afe (A n)) priv k).d, fun w hw => ?_⟩
    have h := check_any (tP s d P B ng xn) (cP afe (A n)) priv k w hw (tP_ft s d P B ng xn hBr) (hA n hn)
    rw [ch_kind s d P B ng xn afe (A n) priv k hr] at h
    exact h
  have HA := fun (priv : Bool) (k : Int) w (hw : TP w) => allows_any P B ng xn afe priv k w hw
  have hle := fun k => al_le P xn afe k
  by_cases h4 : s = 4
  · subst h4
    have hr := tP_right 4 0 P B ng xn hsr (by decide) hPr hBr (fun _ => rfl)
    have hf : ∀ n : Nat, n < 4 → fdF ((fun n : Nat => (n : Int)) n) 0 = n := fun n hn => by
      show (n : Int) / 2 ^ (2 * (0 : Int)).toNat % 4 = n
      rw [show (2 : Int) ^ (2 * (0 : Int)).toNat = 1 from rfl]
      omega
    have HC4 := HC 4 0 (fun n => (n : Int)) hr (fun n hn => by show 0 ≤ (n : Int) ∧ (n : Int) < 4294967296; omega)
    by_cases hg : afe = true ∧ P % 2 = 0
    · obtain ⟨rfl, hg2⟩ := hg
      exact priv_4f ap bt sz dom P B d 0 ng xn w hT (fun n priv k => baF (tP 4 0 P B ng xn) true (n : Int) priv k) _ hP hB hs hd0 (by rw [b1, hg2]) HC4 HA (fun n priv k => kinds7 4 0 P B ng xn true _ priv k ⟨rfl, hg2⟩)
    · have hk := kindsN 4 0 P B ng xn afe (fun n => (n : Int)) hf hg
      cases afe
      · exact priv_4n ap bt sz dom P B d 0 ng xn w hT (fun n priv k => baF (tP 4 0 P B ng xn) false (n : Int) priv k) _ hP hB hs hd0 HC4 HA hk hle
      · exact priv_4t ap bt sz dom P B d (P % 2) ng xn w hT (fun n priv k => baF (tP 4 0 P B ng xn) true (n : Int) priv k) _ hP hB hs hd0 b1 (by simpa using hg) HC4 HA hk hle
  · have q4 : (s == 4) = false := by simp [h4]
    have hr := tP_right s d P B ng xn hsr hdr hPr hBr (fun h => absurd h h4)
    have HCn := HC s d (fun n => (n : Int) * 2 ^ (2 * d).toNat) hr (fun n hn => (fd_shl d hdr n hn).2.2)
    have hA : ∀ n : Nat, n < 4 → (n : Int) * 2 ^ (2 * d).toNat % 4294967296 = (fun n : Nat => (n : Int) * 2 ^ (2 * d).toNat) n := fun n hn => (fd_shl d hdr n hn).1
    by_cases hg : afe = true ∧ P % 2 = 0
    · obtain ⟨rfl, hg2⟩ := hg
      exact priv_nf ap bt sz dom P B s d 0 ng xn w hT (fun n priv k => baF (tP s d P B ng xn) true ((n : Int) * 2 ^ (2 * d).toNat) priv k) _ (fun n => (n : Int) * 2 ^ (2 * d).toNat) hP hB hs hd0 q4 hdr hA (by rw [b1, hg2]) HCn HA (fun n priv k => kinds7 s d P B ng xn true _ priv k ⟨rfl, hg2⟩)
    · have hk := kindsN s d P B ng xn afe (fun n => (n : Int) * 2 ^ (2 * d).toNat) (fun n hn => (fd_shl d hdr n hn).2.1) hg
      cases afe
      · exact priv_nn ap bt sz dom P B s d 0 ng xn w hT (fun n priv k => baF (tP s d P B ng xn) false ((n : Int) * 2 ^ (2 * d).toNat) priv k) _ (fun n => (n : Int) * 2 ^ (2 * d).toNat) hP hB hs hd0 q4 hdr hA HCn HA hk hle
      · exact priv_nt ap bt sz dom P B s d (P % 2) ng xn w hT (fun n priv k => baF (tP s d P B ng xn) true ((n : Int) * 2 ^ (2 * d).toNat) priv k) _ (fun n => (n : Int) * 2 ^ (2 * d).toNat) hP hB hs hd0 q4 hdr hA b1 (by simpa using hg) HCn HA hk hle
end Go.Proofs.YtmmocnejacflmabDoor
