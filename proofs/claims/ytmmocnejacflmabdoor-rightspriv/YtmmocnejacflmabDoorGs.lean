import Derived.Test.YtmmocnejacflmabDoorGt
namespace Go.Proofs.YtmmocnejacflmabDoor
open Go.RowKit
set_option linter.unusedVariables false
set_option linter.unusedSimpArgs false
set_option maxRecDepth 100000 in
set_option maxHeartbeats 1000000 in
theorem isRight_out (f : Fa) (w : World) (h : ¬ Rg f) :
    Calls Tryd.prog 25 #[.agg #[.int .i64 f.k, .int .i64 f.l, .int .i64 f.d]] w fun e w' => e = .returned (.bool false) ∧ Below w.heap.size w w' := by
  have HN : Hid (∀ o, Below w.heap.size w (w.alloc o)) := below_new w
  obtain ⟨k, l, d⟩ := f
  simp only [Rg] at h ⊢
  by_cases h1 : k < 0
  · have q1 : decide (k < 0) = true := by simp [h1]
    clear h
    go_enter Tryd.func25, Tryd.ntmps25
    go_wp2
    go_ret
    exact ⟨rfl, HN.out _⟩
  have q1 : decide (k < 0) = false := by simp; omega
  by_cases h2 : 11 ≤ k
  · have q2 : decide (11 ≤ k) = true := by simp [h2]
    clear h
    go_enter Tryd.func25, Tryd.ntmps25
    go_wp2
    go_ret
    exact ⟨rfl, HN.out _⟩
  have q2 : decide (11 ≤ k) = false := by simp; omega
  by_cases h3 : l < 0
  · have q3 : decide (l < 0) = true := by simp [h3]
    clear h
    go_enter Tryd.func25, Tryd.ntmps25
    go_wp2
    go_ret
    exact ⟨rfl, HN.out _⟩
  have q3 : decide (l < 0) = false := by simp; omega
  have q4 : decide (3 ≤ l) = true := by simp; omega
  clear h
  go_enter Tryd.func25, Tryd.ntmps25
  go_wp2
  go_ret
  exact ⟨rfl, HN.out _⟩
set_option maxRecDepth 100000 in
set_option maxHeartbeats 2000000 in
theorem isRight_in (k l : Nat) (d c : Int) (dm : Bool) (w : World) (hk : k < 11) (hl : l < 3) (hc : w.cell? ⟨1, k * 4 + l, none⟩ = some (.int .u32 c)) (hd : w.cell? ⟨1, k * 4 + 3, none⟩ = some (.bool dm)) :
    Calls Tryd.prog 25 #[.agg #[.int .i64 k, .int .i64 l, .int .i64 d]] w fun e w' => e = .returned (.bool (if c = 0 then false else if dm then decide (0 ≤ d) && decide (d ≤ 15) else d == 0)) ∧ Below w.heap.size w w' := by
  have HN : Hid (∀ o, Below w.heap.size w (w.alloc o).drew) := fun o => below_drew (below_new w o)
  have l0 := cell_lt hc
  simp only at l0
  have hg : ¬ (1 = w.heap.size) := by omega
  have q1 : decide ((k : Int) < 0) = false := decide_eq_false (by omega)
  have q2 : decide (11 ≤ (k : Int)) = false := by simp; omega
  have q3 : decide ((l : Int) < 0) = false := decide_eq_false (by omega)
  have q4 : decide (3 ≤ (l : Int)) = false := by simp; omega
  have i1 : (k : Int) < 11 := by omega
  have i2 : (l : Int) < 3 := by omega
  by_cases h0 : c = 0
  · have z : (c == 0) = true := by simp [h0]
    rw [if_pos h0]
    clear h0
    go_enter Tryd.func25, Tryd.ntmps25
    go_wp2
    go_region
    go_wp2
    go_ret
    exact ⟨rfl, HN.out _⟩
  · have z : (c == 0) = false := by simp [h0]
    rw [if_neg h0]
    clear h0
    cases dm
    · go_enter Tryd.func25, Tryd.ntmps25
      go_wp2
      go_region
      go_wp2
      go_ret
      exact ⟨by simp, HN.out _⟩
    · by_cases h5 : 0 ≤ d
      · have z5 : decide (0 ≤ d) = true := by simp [h5]
        go_enter Tryd.func25, Tryd.ntmps25
        go_wp2
        go_region
        go_wp2
        go_ret
        exact ⟨by simp [*], HN.out _⟩
      · have z5 : decide (0 ≤ d) = false := by simp [h5]
        go_enter Tryd.func25, Tryd.ntmps25
        go_wp2
        go_region
        go_wp2
        go_ret
        exact ⟨by simp [*], HN.out _⟩
theorem lForm_at (k : Nat) (h : k < 11) : lForm[k]? = some (foF k) := by
  have : k < lForm.length := h
  simp [foF, List.getD, this]
theorem code_at {k : Nat} {l : Nat} {w : World} (hT : TF w) (hk : k < 11) (hl : l < 3) : w.cell? ⟨1, k * 4 + l, none⟩ = some (.int .u32 (cdF k l)) := by
  have h := hT k _ (lForm_at k hk)
  rcases (show l = 0 ∨ l = 1 ∨ l = 2 by omega) with rfl | rfl | rfl
  · exact h.c0
  · exact h.c1
  · exact h.c2
theorem dm_at {k : Nat} {w : World} (hT : TF w) (hk : k < 11) : w.cell? ⟨1, k * 4 + 3, none⟩ = some (.bool (foF k).dm) := (hT k _ (lForm_at k hk)).c3
theorem isRight_any (f : Fa) (w : World) (hT : TF w) :
    Calls Tryd.prog 25 #[.agg #[.int .i64 f.k, .int .i64 f.l, .int .i64 f.d]] w fun e w' => e = .returned (.bool (rtF f)) ∧ Below w.heap.size w w' := by
  by_cases h : Rg f
  · obtain ⟨k, l, d⟩ := f
    unfold rtF
    rw [if_pos h]
    simp only [Rg] at h ⊢
    obtain ⟨k, rfl⟩ := Int.eq_ofNat_of_zero_le h.1
    obtain ⟨l, rfl⟩ := Int.eq_ofNat_of_zero_le h.2.2.1
    exact isRight_in k l d _ _ w (by omega) (by omega) (code_at hT (by omega) (by omega)) (dm_at hT (by omega))
  · have e : rtF f = false := by unfold rtF; rw [if_neg h]
    rw [e]
    exact isRight_out f w h
theorem codes_ok : ∀ k l : Nat, k < 11 → l < 3 → 0 ≤ cdF k l ∧ cdF k l ≤ 16 := by
  intro k l hk hl
  rcases (show k = 0 ∨ k = 1 ∨ k = 2 ∨ k = 3 ∨ k = 4 ∨ k = 5 ∨ k = 6 ∨ k = 7 ∨ k = 8 ∨ k = 9 ∨ k = 10 by omega) with rfl | rfl | rfl | rfl | rfl | rfl | rfl | rfl | rfl | rfl | rfl <;> rcases (show l = 0 ∨ l = 1 ∨ l = 2 by omega) with rfl | rfl | rfl <;> decide
/-- The word's parts, laid beside one another. -/
theorem st_bits (c d : Int) (hc : 0 ≤ c ∧ c ≤ 16) (hd : 0 ≤ d ∧ d ≤ 15) :
    bits .and .u32 c 15 = c % 16 ∧ bits .or .u32 (c % 16) (c / 16 * 1024) = c % 16 + c / 16 * 1024 ∧ bits .or .u32 (c % 16 + c / 16 * 1024) (d * 16) = c % 16 + c / 16 * 1024 + d * 16 ∧ bits .or .u32 (c % 16 + c / 16 * 1024 + d * 16) 2048 = c % 16 + c / 16 * 1024 + d * 16 + 2048 := by
  have key : ∀ c, c ≤ 16 → ∀ d, d ≤ 15 → c &&& 15 = c % 16 ∧ c % 16 ||| c / 16 * 1024 = c % 16 + c / 16 * 1024 ∧ (c % 16 + c / 16 * 1024) ||| d * 16 = c % 16 + c / 16 * 1024 + d * 16 ∧ (c % 16 + c / 16 * 1024 + d * 16) ||| 2048 = c % 16 + c / 16 * 1024 + d * 16 + 2048 := by decide +kernel
  obtain ⟨c, rfl⟩ := Int.eq_ofNat_of_zero_le hc.1
  obtain ⟨d, rfl⟩ := Int.eq_ofNat_of_zero_le hd.1
  obtain ⟨k1, k2, k3, k4⟩ := key c (by omega) d (by omega)
  have u1 := u32_and_nat c 15 (by omega) (by omega)
  have u2 := u32_or_nat (c % 16) (c / 16 * 1024) (by omega) (by omega)
  have u3 := u32_or_nat (c % 16 + c / 16 * 1024) (d * 16) (by omega) (by omega)
  have u4 := u32_or_nat (c % 16 + c / 16 * 1024 + d * 16) 2048 (by omega) (by omega)
  rw [k1] at u1
  rw [k2] at u2
  rw [k3] at u3
  rw [k4] at u4
  exact ⟨u1, u2, u3, u4⟩
set_option maxRecDepth 100000 in
set_option maxHeartbeats 2000000 in
theorem status_no (f : Fa) (b : Bool) (w : World) (hT : TF w) (HR : ∀ w, TF w → Calls Tryd.prog 25 #[.agg #[.int .i64 f.k, .int .i64 f.l, .int .i64 f.d]] w fun e w' => e = .returned (.bool false) ∧ Below w.heap.size w w') :
    Calls Tryd.prog 18 #[.agg #[.int .i64 f.k, .int .i64 f.l, .int .i64 f.d], .bool b] w fun e w' => e = .returned (.tuple #[.int .u32 0, .int .i64 70]) ∧ Below w.heap.size w w' := by
  have HT : Hid (TF (w.alloc (.cells #[.int .i64 f.k, .int .i64 f.l, .int .i64 f.d] 39))) := hT.below (below_new w _)
  have HB0 : Hid (Below w.heap.size w (w.alloc (.cells #[.int .i64 f.k, .int .i64 f.l, .int .i64 f.d] 39))) := below_new w _
  have HR' : Hid (∀ w, TF w → Calls Tryd.prog 25 #[.agg #[.int .i64 f.k, .int .i64 f.l, .int .i64 f.d]] w fun e w' => e = .returned (.bool false) ∧ Below w.heap.size w w') := HR
  clear hT HR
  go_enter Tryd.func18, Tryd.ntmps18
  go_wp2_with (fail)
  go_at_call 25
  refine (HR'.out _ HT.out).mono ?_
  rintro e w1 ⟨rfl, hb⟩
  have HB1 : Hid (Below w.heap.size w w1) := Below.step HB0.out hb
  clear hb HB0 HT HR'
  go_wp2
  go_ret2
  exact ⟨rfl, HB1.out⟩
set_option maxRecDepth 100000 in
set_option maxHeartbeats 2000000 in
theorem status_yes (k l : Nat) (d c : Int) (b : Bool) (w : World) (hk : k < 11) (hl : l < 3) (hcc : 0 ≤ c ∧ c ≤ 16) (hd : 0 ≤ d ∧ d ≤ 15) (hT : TF w) (hc : ∀ w, TF w → w.cell? ⟨1, k * 4 + l, none⟩ = some (.int .u32 c)) (HR : ∀ w, TF w → Calls Tryd.prog 25 #[.agg #[.int .i64 k, .int .i64 l, .int .i64 d]] w fun e w' => e = .returned (.bool true) ∧ Below w.heap.size w w') :
    Calls Tryd.prog 18 #[.agg #[.int .i64 k, .int .i64 l, .int .i64 d], .bool b] w fun e w' => e = .returned (.tuple #[.int .u32 (c % 16 + c / 16 * 1024 + d * 16 + (if b then 2048 else 0)), .int .i64 0]) ∧ Below w.heap.size w w' := by
  have HT : Hid (TF (w.alloc (.cells #[.int .i64 k, .int .i64 l, .int .i64 d] 39))) := hT.below (below_new w _)
  have HB0 : Hid (Below w.heap.size w (w.alloc (.cells #[.int .i64 k, .int .i64 l, .int .i64 d] 39))) := below_new w _
  have HL0 : Hid (Bl (w.alloc (.cells #[.int .i64 k, .int .i64 l, .int .i64 d] 39)) w.heap.size 39 [.int .i64 k, .int .i64 l, .int .i64 d]) := Bl.new _ _ _
  have HR' : Hid (∀ w, TF w → Calls Tryd.prog 25 #[.agg #[.int .i64 k, .int .i64 l, .int .i64 d]] w fun e w' => e = .returned (.bool true) ∧ Below w.heap.size w w') := HR
  have HC : Hid (∀ w, TF w → w.cell? ⟨1, k * 4 + l, none⟩ = some (.int .u32 c)) := hc
  obtain ⟨b1, b2, b3, b4⟩ := st_bits c d hcc hd
  have s2 : c / 16 * 1024 % 4294967296 = c / 16 * 1024 := by omega
  have s3 : d % 4294967296 = d := by omega
  have s4 : d * 16 % 4294967296 = d * 16 := by omega
  have i1 : (k : Int) < 11 := by omega
  have i2 : (l : Int) < 3 := by omega
  clear hT HR hc hcc hd
  go_enter Tryd.func18, Tryd.ntmps18
  go_wp2_with (fail)
  go_at_call 25
  refine (HR'.out _ HT.out).mono ?_
  rintro e w1 ⟨rfl, hb⟩
  have HB1 : Hid (Below w.heap.size w w1.drew) := below_drew (Below.step HB0.out hb)
  have hL := HL0.out.below hb
  have c1 := hL.cell
  have c2 := HC.out _ (HT.out.below hb)
  clear hb HB0 HT HR' HC HL0 hL
  cases b
  · go_wp2
    go_region
    go_wp2
    go_ret2
    exact ⟨by simp, HB1.out⟩
  · go_wp2
    go_region
    go_wp2
    go_ret2
    exact ⟨by simp, HB1.out⟩
theorem status_any (f : Fa) (b : Bool) (w : World) (hT : TF w) :
    Calls Tryd.prog 18 #[.agg #[.int .i64 f.k, .int .i64 f.l, .int .i64 f.d], .bool b] w fun e w' => e = .returned (.tuple #[.int .u32 (stF f b).1, .int .i64 (stF f b).2]) ∧ Below w.heap.size w w' := by
  have HR := fun w hw => isRight_any f w hw
  unfold stF
  cases h : rtF f with
  | false =>
    rw [h] at HR
    exact status_no f b w hT HR
  | true =>
    rw [h] at HR
    rw [if_pos rfl]
    obtain ⟨k, l, d⟩ := f
    have hr : Rg ⟨k, l, d⟩ ∧ 0 ≤ d ∧ d ≤ 15 := by
      unfold rtF at h
      split at h
      · rename_i hg
        refine ⟨hg, ?_⟩
        split at h
        · cases h
        · split at h
          · simpa using h
          · have : d = 0 := by simpa using h
            omega
      · cases h
    simp only [Rg] at hr
    obtain ⟨⟨r1, r2, r3, r4⟩, r5, r6⟩ := hr
    obtain ⟨k, rfl⟩ := Int.eq_ofNat_of_zero_le r1
    obtain ⟨l, rfl⟩ := Int.eq_ofNat_of_zero_le r3
    have hco := codes_ok k l (by omega) (by omega)
    have := status_yes k l d (cdF k l) b w (by omega) (by omega) hco ⟨r5, r6⟩ hT (fun w hw => code_at hw (by omega) (by omega)) HR
    simp only [stW]
    exact this
end Go.Proofs.YtmmocnejacflmabDoor
