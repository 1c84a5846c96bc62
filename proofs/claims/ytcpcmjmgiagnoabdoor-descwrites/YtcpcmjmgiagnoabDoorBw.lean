import Derived.Test.YtcpcmjmgiagnoabDoorAv
import Derived.Test.YtcpcmjmgiagnoabDoorRg
namespace Go.Proofs.YtcpcmjmgiagnoabDoor
open Go.RowKit
set_option linter.unusedVariables false
set_option linter.unusedSimpArgs false
theorem one_any (b : Bool) (w : World) : Calls Tryd.prog 28 #[.bool b] w fun e w' => e = .returned (.int .u64 (b2 b)) ∧ w = w' := by
  cases b
  · go_enter Tryd.func28, Tryd.ntmps28
    go_wp2
    go_ret
    exact ⟨rfl, rfl⟩
  · go_enter Tryd.func28, Tryd.ntmps28
    go_wp2
    go_ret
    exact ⟨rfl, rfl⟩
theorem val_step (f : Nat → Int) (k m : Nat) : f k + 2 * val f (k + 1) m = val f k (m + 1) := rfl
set_option maxRecDepth 100000 in
set_option maxHeartbeats 4000000 in
theorem word_any (f : Nat → Int) (w : World) (hr : ∀ j, 0 ≤ f j ∧ f j ≤ 1) : Calls Tryd.prog 29 #[.agg (encB f).toArray] w fun e w' => e = .returned (.int .u32 (val f 0 32)) ∧ Below w.heap.size w w' := by
  have hN := Bl.new w 54 (encB f)
  have hcell : ∀ k, k < 32 → (w.alloc (.cells (encB f).toArray 54)).cell? ⟨w.heap.size, k, none⟩ = some (.int .i64 (f k)) := fun k hk => (hN.cell k).trans (encB_at _ k hk)
  have HC : Hid (∀ k, k < 32 → (w.alloc (.cells (encB f).toArray 54)).cell? ⟨w.heap.size, k, none⟩ = some (.int .i64 (f k))) := hcell
  have HR : Hid (∀ j, 0 ≤ f j ∧ f j ≤ 1) := hr
  clear hcell hN hr
  generalize encB f = l at *
  go_enter Tryd.func29, Tryd.ntmps29
  go_wp2
  go_loopw [3, 4] (fun n i wr => ∃ m : Nat, m ≤ 32 ∧ n = .int .u32 (val f m (32 - m)) ∧ i = .int .i64 ((m : Int) - 1) ∧ wr = w.alloc (.cells l.toArray 54)) (fun _ i _ => (intOf i + 1).toNat)
  case atStart => exact ⟨32, by omega, rfl, rfl, rfl⟩
  case round =>
    obtain ⟨m, hm2, rfl, rfl, rfl⟩ := hrel
    by_cases h : 0 < m
    · obtain ⟨k, rfl⟩ : ∃ k, m = k + 1 := ⟨m - 1, by omega⟩
      have hst := val_step f k (32 - (k + 1))
      rw [show 32 - (k + 1) + 1 = 32 - k by omega] at hst
      have hc := HC.out k (by omega)
      have hb := HR.out k
      have n1 := val_rng f (32 - (k + 1)) (k + 1) (fun j _ _ => HR.out j)
      have n3 : (2 : Int) ^ (32 - (k + 1)) ≤ 2147483648 := by
        have := Nat.pow_le_pow_right (n := 2) (by omega) (show 32 - (k + 1) ≤ 31 by omega)
        have e := pow_nat (32 - (k + 1))
        omega
      generalize val f (k + 1) (32 - (k + 1)) = V at *
      generalize f k = bb at *
      have e1 : ((k + 1 : Nat) : Int) - 1 = (k : Int) := by omega
      rw [e1]
      have g1 : (0 : Int) ≤ (k : Int) := by omega
      have g2 : (k : Int) < 32 := by omega
      have w1 : V * 2 % 4294967296 = V * 2 := by omega
      have w2 : bb % 4294967296 = bb := by omega
      have w3 : (V * 2 + bb) % 4294967296 = V * 2 + bb := by omega
      have HS : Hid (V * 2 + bb = val f k (32 - k)) := by
        unfold Hid
        rw [← hst]
        omega
      clear hst n1 n3 hb
      go_wp2
      go_roundw
      case rel => exact ⟨k, by omega, by rw [← HS.out], rfl, trivial⟩
      case measure => simp [intOf]
    · obtain rfl : m = 0 := by omega
      have g1 : ¬ (0 : Int) ≤ ((0 : Nat) : Int) - 1 := by omega
      go_wp2
      go_ret
      exact ⟨rfl, (Below.refl _ _).alloc (Nat.le_refl _) _⟩
def lp (f : Nat → Int) (lo k : Nat) (n : Int) : Nat → Int := fun j => if lo ≤ j ∧ j < k then bt n (j - lo) else f j
theorem lp_laid (f : Nat → Int) (lo hi : Nat) (n : Int) : encB (lp f lo (hi + 1) n) = encB (laid f lo hi n) := by
  apply encB_congr
  intro i _
  unfold lp laid
  by_cases e : lo ≤ i ∧ i ≤ hi
  · rw [if_pos e, if_pos (by omega)]
  · rw [if_neg e, if_neg (by omega)]
set_option maxRecDepth 100000 in
set_option maxHeartbeats 4000000 in
theorem lay_any (f : Nat → Int) (lo hi : Nat) (x : Int) (w : World) (h1 : lo ≤ hi) (h2 : hi < 32) (hx : 0 ≤ x ∧ x < 18446744073709551616) :
    Calls Tryd.prog 26 #[.agg (encB f).toArray, .int .i64 hi, .int .i64 lo, .int .u64 x] w fun e w' => e = .returned (.agg (encB (laid f lo hi x)).toArray) ∧ Below w.heap.size w w' := by
  have hz := zeroB
  have h0 := (Bl.new w 54 (encB f)).below ((Below.refl _ _).alloc (Nat.le_refl _) (.cells (encB (fun _ => 0)).toArray 54))
  have h1' := Bl.new (w.alloc (.cells (encB f).toArray 54)) 54 (encB (fun _ => 0))
  rw [show (w.alloc (.cells (encB f).toArray 54)).heap.size = w.heap.size + 1 by simp] at h1'
  have HS : Hid (Bl ((w.alloc (.cells (encB f).toArray 54)).alloc (.cells (encB (fun _ => 0)).toArray 54)) w.heap.size 54 (encB f) ∧ Bl ((w.alloc (.cells (encB f).toArray 54)).alloc (.cells (encB (fun _ => 0)).toArray 54)) (w.heap.size + 1) 54 (encB (fun _ => 0)) ∧ Below w.heap.size w ((w.alloc (.cells (encB f).toArray 54)).alloc (.cells (encB (fun _ => 0)).toArray 54))) := ⟨h0, h1', (((Below.refl _ _).alloc (Nat.le_refl _) _).alloc (by simp) _)⟩
  clear h0 h1'
  have Hx : Hid (0 ≤ x ∧ x < 18446744073709551616) := hx
  clear hx
  have hZl : (encB (fun _ => 0)).length = 32 := encB_len _
  generalize encB (fun _ => 0) = Z at *
  have HZl : Hid (Z.length = 32) := hZl
  clear hZl
  generalize hll : encB f = l at *
  have HL0 : Hid (encB f = l) := hll
  clear hll
  go_enter Tryd.func26, Tryd.ntmps26
  go_wp2
  go_loopw [3, 9] (fun p i wr => ∃ k : Nat, lo ≤ k ∧ k ≤ hi + 1 ∧ p = .int .u64 (x / 2 ^ (k - lo)) ∧ i = .int .i64 k ∧ Hid (Bl wr w.heap.size 54 (encB (lp f lo k x)) ∧ Bl wr (w.heap.size + 1) 54 Z ∧ Below w.heap.size w wr)) (fun _ i _ => (hi + 1 - intOf i).toNat)
  case atStart =>
    refine ⟨lo, by omega, by omega, by rw [Nat.sub_self]; simp, rfl, ?_, HS.out.2.1, HS.out.2.2⟩
    rw [show encB (lp f lo lo x) = l from (encB_congr (fun i hi => by unfold lp; rw [if_neg (by omega)])).trans HL0.out]
    exact HS.out.1
  case round =>
    obtain ⟨k, hk0, hk, rfl, rfl, HX⟩ := hrel
    clear HS
    by_cases h : k ≤ hi
    · obtain ⟨d0, d1, d2⟩ := bt_div x (k - lo) Hx.out.1
      have hb := bt_rng x (k - lo)
      have hc := (HX.out.1.cell k).trans (encB_at _ k (by omega))
      have hf := HX.out.1.frozen k
      have g1 : (k : Int) ≤ (hi : Int) := by omega
      have g2 : (0 : Int) ≤ (k : Int) := by omega
      have g3 : (k : Int) < 32 := by omega
      have w1 : IntKind.i64.wrap (bt x (k - lo)) = bt x (k - lo) := by rw [IntKind.wrap_i64]; omega
      have HN : Hid (∀ v : Int, v = bt x (k - lo) → (encB (lp f lo k x)).set k (.int .i64 v) = encB (lp f lo (k + 1) x)) := by
        intro v hv
        rw [encB_set]
        apply encB_congr
        intro j hj
        unfold lp
        by_cases e : j = k
        · rw [if_pos e, if_pos (by omega), hv, e]
        · rw [if_neg e]
          by_cases e2 : lo ≤ j ∧ j < k
          · rw [if_pos e2, if_pos (by omega)]
          · rw [if_neg e2, if_neg (by omega)]
      go_wp2
      go_roundw
      case rel =>
        have hlt : x / 2 ^ (k - lo + 1) % 18446744073709551616 = x / 2 ^ (k - lo + 1) := Int.emod_eq_of_lt (Int.ediv_nonneg Hx.out.1 (Int.le_of_lt (pow_pos _))) (Int.lt_of_le_of_lt (Int.ediv_le_self _ Hx.out.1) Hx.out.2)
        refine ⟨k + 1, by omega, by omega, by rw [show k + 1 - lo = k - lo + 1 by omega, IntKind.wrap_u64, hlt], rfl, ?_, ?_, ?_⟩
        · rw [← HN.out _ rfl]
          exact HX.out.1.write1 k _
        · exact (Below.heap_setCell wr ⟨w.heap.size, k, none⟩ _ (w.heap.size + 1) (by simp)).trans HX.out.2.1
        · exact Below.setCell HX.out.2.2 (by simp) _
      case measure => simp [intOf]; omega
    · obtain rfl : k = hi + 1 := by omega
      have HP : Hid (encB (lp f lo (hi + 1) x) = encB (laid f lo hi x)) := lp_laid f lo hi x
      have g1 : ¬ ((hi + 1 : Nat) : Int) ≤ (hi : Int) := by omega
      have HL : Hid ((Instr.loadAt 54 (Value.pointer (some ⟨w.heap.size, 0, none⟩))).run Tryd.prog wr = .ok (.agg (encB (laid f lo hi x)).toArray) wr) := by
        have := loadB wr _ _ HX.out.1
        rw [HP.out] at this
        exact this
      have HT : Hid ((Instr.storeAt 54 (Value.pointer (some ⟨w.heap.size + 1, 0, none⟩)) (.agg (encB (laid f lo hi x)).toArray)).run Tryd.prog wr = .ok () (wr.setRow (w.heap.size + 1) (encB (laid f lo hi x)).toArray)) := storeB wr _ _ Z HX.out.2.1 HZl.out
      have HR : Hid ((Instr.loadAt 54 (Value.pointer (some ⟨w.heap.size + 1, 0, none⟩))).run Tryd.prog (wr.setRow (w.heap.size + 1) (encB (laid f lo hi x)).toArray) = .ok (.agg (encB (laid f lo hi x)).toArray) (wr.setRow (w.heap.size + 1) (encB (laid f lo hi x)).toArray)) := loadB _ _ _ (storeB_bl wr _ _ Z HX.out.2.1)
      generalize hLL : encB (laid f lo hi x) = L at *
      have HLL : Hid (encB (laid f lo hi x) = L) := hLL
      clear hLL
      go_wp2_with (first
        | (guard_target =~ wpList _ _ _ (Oper.mk (some 23) _ _ _ _ _ :: _) _ _; refine wpl_loadB _ rfl _ rfl (.pointer (some ⟨w.heap.size, 0, none⟩)) rfl HL.out ?_)
        | (guard_target =~ wpList _ _ _ (Oper.mk none (Op.store 54 _ _) _ _ _ _ :: _) _ _; refine wpl_storeB _ rfl _ _ rfl (.pointer (some ⟨w.heap.size + 1, 0, none⟩)) (.agg L.toArray) rfl rfl HT.out ?_)
        | go_in)
      have hR := HR.out
      refine bodyPost_ret (v := .agg L.toArray) ?_ rfl ⟨by rw [HLL.out], Below.setRow HX.out.2.2 _ (Nat.le_succ _) _⟩
      simp [results, Tryd.results26, Instr.loadAt, Instr.sureAddr] at hR ⊢
      exact hR
end Go.Proofs.YtcpcmjmgiagnoabDoor
