import Derived.Test.YtdelcknpaldngaaLm
namespace Go.Proofs.Ytdelcknpaldngaa
open Go.RowKit
set_option linter.unusedVariables false
set_option linter.unusedSimpArgs false
/-- The least turn among the last few. -/
def lsN (x : Nat) : Nat → Int
  | 0 => -1
  | j + 1 => if rolR (15 - j) x < 256 then ((15 - j : Nat) : Int) else lsN x j
theorem lsN_succ (x j : Nat) : lsN x (j + 1) = if rolR (15 - j) x < 256 then ((15 - j : Nat) : Int) else lsN x j := rfl
theorem lsN_none (x j : Nat) (hj : j ≤ 16) (h : lsN x j < 0) : lsN x j = -1 ∧ ∀ s, 16 - j ≤ s → s < 16 → 256 ≤ rolR s x := by
  induction j with
  | zero => exact ⟨rfl, fun s h1 h2 => by omega⟩
  | succ j ih =>
    unfold lsN at h ⊢
    split at h
    · omega
    · rename_i hn
      rw [if_neg hn]
      obtain ⟨h1, h2⟩ := ih (by omega) h
      refine ⟨h1, fun s h3 h4 => ?_⟩
      by_cases hs : s = 15 - j
      · subst hs; omega
      · exact h2 s (by omega) h4
theorem lsN_some (x j : Nat) (hj : j ≤ 16) (h : 0 ≤ lsN x j) : ∃ s : Nat, lsN x j = s ∧ 16 - j ≤ s ∧ s < 16 ∧ rolR s x < 256 ∧ ∀ t, 16 - j ≤ t → t < s → 256 ≤ rolR t x := by
  induction j with
  | zero => exact absurd h (show ¬ (0 : Int) ≤ -1 by decide)
  | succ j ih =>
    unfold lsN at h ⊢
    split at h
    · rename_i hp
      rw [if_pos hp]
      exact ⟨15 - j, rfl, by omega, by omega, hp, fun t h1 h2 => by omega⟩
    · rename_i hn
      rw [if_neg hn]
      obtain ⟨s, h1, h2, h3, h4, h5⟩ := ih (by omega) h
      refine ⟨s, h1, by omega, h3, h4, fun t h6 h7 => ?_⟩
      by_cases ht : t = 15 - j
      · subst ht; omega
      · exact h5 t (by omega) h7
/-- What is packed, and the least turn. -/
theorem pk_least (x : Nat) (hx : x < 4294967296) : (pkO x = false ∧ pkW x = 0 ∧ lsN x 16 = -1) ∨ (pkO x = true ∧ pkW x < 4096 ∧ expW (pkW x) = x ∧ lsN x 16 = ((pkW x / 256 : Nat) : Int) ∧ 0 ≤ lsN x 16) := by
  cases h : packX x with
  | none =>
    left
    refine ⟨by simp [pkO, h], by simp [pkW, h], ?_⟩
    by_cases hl : lsN x 16 < 0
    · exact (lsN_none x 16 (by decide) hl).1
    · obtain ⟨s, h1, h2, h3, h4, h5⟩ := lsN_some x 16 (by decide) (by omega)
      have := packF_none x 16 0 (by decide) h s (by omega) (by omega)
      omega
  | some p =>
    right
    obtain ⟨g1, g2, g3⟩ := packX_some x p hx h
    obtain ⟨s, h1, h2, h3, h4, h5⟩ := packF_some x 16 0 p (by decide) h
    have e : pkW x = p := by simp [pkW, h]
    have hl : ¬ lsN x 16 < 0 := fun hl => by
      have := (lsN_none x 16 (by decide) hl).2 s (by omega) (by omega)
      omega
    obtain ⟨s2, k1, k2, k3, k4, k5⟩ := lsN_some x 16 (by decide) (by omega)
    have hs : s2 = s := by
      rcases Nat.lt_trichotomy s2 s with hh | hh | hh
      · have := h5 s2 (by omega) hh; omega
      · exact hh
      · have := k5 s (by omega) hh; omega
    rw [e]
    refine ⟨by simp [pkO, h], g1, g2, ?_, by omega⟩
    rw [k1, hs, h4]
    have : (s * 256 + rolR s x) / 256 = s := by omega
    rw [this]
theorem rolR_0 (x : Nat) (h : x < 4294967296) : rolR 0 x = x := rorK_32 x h
theorem rolR_lt (k x : Nat) (h : x < 4294967296) : rolR k x < 4294967296 := rorK_lt _ _ (by omega) h
set_option maxRecDepth 100000 in
set_option maxHeartbeats 8000000 in
theorem law_packs (x b : Nat) (r : Int) (w : World) (hx : x < 4294967296) (hb : b < 4294967296) :
    Calls Try.prog 8 #[.int .u32 x, .int .u32 b, .int .i64 r] w fun e w' => e = .returned (.bool true) ∧ Below w.heap.size w w' := by
  have b1 : bits .and .u32 (b : Int) 255 = ((b % 256 : Nat) : Int) := by rw [band_mod 8 255 _ (by decide) (by decide) (by omega)]; omega
  have b2 := i64_and15 r
  have wr2 : IntKind.i64.wrap (2 * (r % 16)) = 2 * (r % 16) := by rw [IntKind.wrap_i64]; omega
  have HY : Hid (∃ (y : Nat) (q : Bool), y < 4294967296 ∧ ∀ w, Calls Try.prog 11 #[.int .i64 3, .int .u32 ((b % 256 : Nat) : Int), .int .i64 (2 * (r % 16)), .bool false] w fun e w' => e = .returned (.tuple #[.int .u32 (y : Int), .bool q]) ∧ Below w.heap.size w w') := by
    refine ⟨(shX 3 (b % 256) (2 * (r % 16)) false).1, _, ?_, fun w => gshift_any 3 _ (b % 256) false w (by omega)⟩
    unfold shX
    rw [if_neg (by omega)]
    unfold shW
    rw [if_neg (by decide), if_neg (by decide)]
    split
    · dsimp only; omega
    · rw [if_neg (by decide), if_neg (by decide), if_neg (by decide)]
      exact rorK_lt _ _ (by omega) (by omega)
  obtain ⟨y, qy, hy, HY⟩ := HY.out
  have HY : Hid (∀ w, Calls Try.prog 11 #[.int .i64 3, .int .u32 ((b % 256 : Nat) : Int), .int .i64 (2 * (r % 16)), .bool false] w fun e w' => e = .returned (.tuple #[.int .u32 (y : Int), .bool qy]) ∧ Below w.heap.size w w') := HY
  have HSh : Hid (∀ (v : Nat) (K : Int) w, v < 4294967296 → 1 ≤ K → K ≤ 15 → ∃ q, Calls Try.prog 11 #[.int .i64 3, .int .u32 v, .int .i64 (32 - 2 * K), .bool false] w fun e w' => e = .returned (.tuple #[.int .u32 (rolR K.toNat v : Nat), .bool q]) ∧ Below w.heap.size w w') := fun v K w hv k0 k1 => ⟨_, by
    have := gshift_any 3 (32 - 2 * K) v false w hv
    rwa [shX_ror v _ false (by omega) (by omega), show rorK (32 - 2 * K).toNat v = rolR K.toNat v by unfold rolR; congr 1; omega] at this⟩
  have HS0 : Hid (∀ (v : Nat) w, v < 4294967296 → ∃ z q, Calls Try.prog 11 #[.int .i64 3, .int .u32 v, .int .i64 32, .bool false] w fun e w' => e = .returned (.tuple #[.int .u32 (z : Int), .bool q]) ∧ Below w.heap.size w w') := fun v w hv => ⟨_, _, gshift_any 3 32 v false w hv⟩
  have HP : Hid (∀ (v : Nat) w, v < 4294967296 → Calls Try.prog 15 #[.int .u32 v] w fun e w' => e = .returned (.tuple #[.int .u32 (pkW v : Nat), .bool (pkO v)]) ∧ Below w.heap.size w w') := fun v w hv => gpack_any v w hv
  have HX : Hid (∀ (i : Nat) w, i < 4096 → ∃ q, Calls Try.prog 16 #[.int .u32 i, .bool false] w fun e w' => e = .returned (.tuple #[.int .u32 (expW i : Nat), .bool q]) ∧ Below w.heap.size w w') := fun i w hi => ⟨_, gexpand_any i false w (by omega)⟩
  have HL : Hid (∀ w, Calls Try.prog 10 #[] w fun e w' => e = .returned (.bool true) ∧ Below w.heap.size w w') := live_any
  have HV : Hid (x < 4294967296 ∧ y < 4294967296) := ⟨hx, hy⟩
  generalize hR : r % 16 = R at *
  have R0 : 0 ≤ R := by omega
  have R1 : R < 16 := by omega
  clear hR hx hb hy
  go_enter Try.func8, Try.ntmps8
  go_wp2_with (first
    | (go_at_call 10; refine (HL.out _).mono ?_; rintro e w1 ⟨rfl, hb⟩; have HB : Hid (Below w.heap.size w w1) := hb; clear hb)
    | (go_at_call 11; refine (HY.out _).mono ?_; rintro e w2 ⟨rfl, hb⟩; have HB : Hid (Below w.heap.size w w2) := Below.step HB.out hb; clear hb))
  have B : Hid (Bl _ _ _ _) := Bl.new w2 25 [.int .u32 (x : Int), .int .u32 (y : Int)]
  have HB : Hid (Below w.heap.size w _) := Below.step HB.out (below_new w2 (.cells #[.int .u32 (x : Int), .int .u32 (y : Int)] 25))
  generalize w2.heap.size = q at B ⊢
  generalize w2.alloc _ = wz at B HB ⊢
  go_loopw [10] (fun k wr => ∃ (j : Nat), j ≤ 2 ∧ k = .int .i64 j ∧ Bl wr q 25 [.int .u32 (x : Int), .int .u32 (y : Int)] ∧ Below w.heap.size w wr) (fun k _ => (2 - intOf k).toNat)
  case atStart => exact ⟨0, by omega, rfl, B.out, HB.out⟩
  case round =>
    obtain ⟨j, h1, rfl, bb, hB⟩ := hrel
    clear B HB
    have B : Hid (Bl _ _ _ _) := bb
    have HB : Hid (Below _ _ _) := hB
    clear bb hB
    rcases (show j = 0 ∨ j = 1 ∨ j = 2 by omega) with rfl | rfl | rfl
    · have CK : Hid (∀ w, Bl w q 25 [.int .u32 (x : Int), .int .u32 (y : Int)] → w.cell? ⟨q, 0, none⟩ = some (.int .u32 (x : Int))) := fun w h => h.cell 0
      have k0 := CK.out _ B.out
      have hv : x < 4294967296 := HV.out.1
      have PL := pk_least x hv
      go_wp2_with (go_at_call 15; refine (HP.out x _ hv).mono ?_; rintro e w3 ⟨rfl, hb⟩; have B : Hid (Bl _ _ _ _) := B.out.below hb; have HB : Hid (Below _ _ _) := Below.step HB.out hb; clear hb k0; have k0 := CK.out _ B.out)
      go_loopw [13, 14] (fun l k wr => ∃ (K : Int), -1 ≤ K ∧ K ≤ 15 ∧ l = .int .i64 (lsN x (15 - K).toNat) ∧ k = .int .i64 K ∧ Bl wr q 25 [.int .u32 (x : Int), .int .u32 (y : Int)] ∧ Below w.heap.size w wr) (fun _ k _ => (intOf k + 1).toNat)
      case atStart => exact ⟨15, by omega, by omega, rfl, rfl, B.out, HB.out⟩
      case round =>
        obtain ⟨K, g1, g2, rfl, rfl, bb, hB⟩ := hrel
        clear B HB k0
        have B : Hid (Bl _ _ _ _) := bb
        have HB : Hid (Below _ _ _) := hB
        have k0 := CK.out _ bb
        clear bb hB
        by_cases hK : 0 ≤ K
        · have z1 : decide (0 ≤ K) = true := decide_eq_true hK
          have el : lsN x (15 - (K - 1)).toNat = if rolR K.toNat x < 256 then K else lsN x (15 - K).toNat := by
            rw [show (15 - (K - 1)).toNat = (15 - K).toNat + 1 by omega]
            rw [lsN_succ, show 15 - (15 - K).toNat = K.toNat by omega]
            split
            · omega
            · rfl
          by_cases hK0 : K = 0
          · subst hK0
            have el : Hid _ := el
            obtain ⟨z, qq, H⟩ := HS0.out x wr hv
            have H : Hid (Calls _ _ _ _ _) := H
            by_cases hr : x < 256
            · have z2 : decide ((x : Int) < 256) = true := decide_eq_true (by omega)
              go_wp2_with (go_at_call 11; refine H.out.mono ?_; rintro e w4 ⟨rfl, hb⟩; have B : Hid (Bl _ _ _ _) := B.out.below hb; have HB : Hid (Below _ _ _) := Below.step HB.out hb; clear hb k0; have k0 := CK.out _ B.out)
              go_roundw
              case rel => exact ⟨-1, by omega, by omega, by rw [show (-1 : Int) = 0 - 1 by rfl, el.out, show (0 : Int).toNat = 0 by rfl, rolR_0 x hv, if_pos hr], rfl, B.out, HB.out⟩
              case measure => simp [intOf]
            · have z2 : decide ((x : Int) < 256) = false := decide_eq_false (by omega)
              go_wp2_with (go_at_call 11; refine H.out.mono ?_; rintro e w4 ⟨rfl, hb⟩; have B : Hid (Bl _ _ _ _) := B.out.below hb; have HB : Hid (Below _ _ _) := Below.step HB.out hb; clear hb k0; have k0 := CK.out _ B.out)
              go_roundw
              case rel => exact ⟨-1, by omega, by omega, by rw [show (-1 : Int) = 0 - 1 by rfl, el.out, show (0 : Int).toNat = 0 by rfl, rolR_0 x hv, if_neg hr]; rfl, rfl, B.out, HB.out⟩
              case measure => simp [intOf]
          · have z3 : (K == 0) = false := by simp [hK0]
            have w5 : IntKind.i64.wrap (K - 1) = K - 1 := by rw [IntKind.wrap_i64]; omega
            have w6 : IntKind.i64.wrap (2 * K) = 2 * K := by rw [IntKind.wrap_i64]; omega
            have w7 : IntKind.i64.wrap (32 - 2 * K) = 32 - 2 * K := by rw [IntKind.wrap_i64]; omega
            obtain ⟨qq, H⟩ := HSh.out x K wr hv (by omega) g2
            have H : Hid (Calls _ _ _ _ _) := H
            have el : Hid _ := el
            by_cases hr : rolR K.toNat x < 256
            · have z2 : decide ((rolR K.toNat x : Int) < 256) = true := decide_eq_true (by omega)
              have z4 : decide (rolR K.toNat x < 256) = true := decide_eq_true hr
              have hr : Hid _ := hr
              generalize hZ : rolR K.toNat x = Z at *
              clear hZ
              go_wp2_with (go_at_call 11; refine H.out.mono ?_; rintro e w4 ⟨rfl, hb⟩; have B : Hid (Bl _ _ _ _) := B.out.below hb; have HB : Hid (Below _ _ _) := Below.step HB.out hb; clear hb k0; have k0 := CK.out _ B.out)
              go_roundw
              case rel => exact ⟨K - 1, by omega, by omega, by rw [el.out, if_pos hr.out], rfl, B.out, HB.out⟩
              case measure => simp [intOf]; omega
            · have z2 : decide ((rolR K.toNat x : Int) < 256) = false := decide_eq_false (by omega)
              have z4 : decide (rolR K.toNat x < 256) = false := decide_eq_false hr
              have hr : Hid _ := hr
              generalize hZ : rolR K.toNat x = Z at *
              clear hZ
              go_wp2_with (go_at_call 11; refine H.out.mono ?_; rintro e w4 ⟨rfl, hb⟩; have B : Hid (Bl _ _ _ _) := B.out.below hb; have HB : Hid (Below _ _ _) := Below.step HB.out hb; clear hb k0; have k0 := CK.out _ B.out)
              go_roundw
              case rel => exact ⟨K - 1, by omega, by omega, by rw [el.out, if_neg hr.out], rfl, B.out, HB.out⟩
              case measure => simp [intOf]; omega
        · obtain rfl : K = -1 := by omega
          rw [show (15 - (-1 : Int)).toNat = 16 by rfl]
          rcases PL with ⟨p1, p2, p3⟩ | ⟨p1, p2, p3, p4, p5⟩
          · rw [p1, p2, p3]
            clear p1 p2 p3
            go_wp2_with fail
            go_roundw
            case rel => exact ⟨1, by omega, rfl, B.out, HB.out⟩
            case measure => simp [intOf]
          · obtain ⟨qq, H⟩ := HX.out (pkW x) wr p2
            rw [p3] at H
            have H : Hid (Calls _ _ _ _ _) := H
            rw [p1, p4]
            have w8 : IntKind.i64.wrap (((pkW x / 256 : Nat) : Int)) = ((pkW x / 256 : Nat) : Int) := by rw [IntKind.wrap_i64]; omega
            have w9 : ((pkW x : Int)) / 256 = ((pkW x / 256 : Nat) : Int) := by omega
            have z5 : decide (0 ≤ ((pkW x / 256 : Nat) : Int)) = true := decide_eq_true (by omega)
            generalize pkW x / 256 = PP at *
            clear p1 p2 p3 p4 p5
            go_wp2_with (go_at_call 16; refine H.out.mono ?_; rintro e w4 ⟨rfl, hb⟩; have B : Hid (Bl _ _ _ _) := B.out.below hb; have HB : Hid (Below _ _ _) := Below.step HB.out hb; clear hb k0; have k0 := CK.out _ B.out)
            go_roundw
            case rel => exact ⟨1, by omega, rfl, B.out, HB.out⟩
            case measure => simp [intOf]
    · have CK : Hid (∀ w, Bl w q 25 [.int .u32 (x : Int), .int .u32 (y : Int)] → w.cell? ⟨q, 1, none⟩ = some (.int .u32 (y : Int))) := fun w h => h.cell 1
      have k0 := CK.out _ B.out
      have hv : y < 4294967296 := HV.out.2
      have PL := pk_least y hv
      go_wp2_with (go_at_call 15; refine (HP.out y _ hv).mono ?_; rintro e w3 ⟨rfl, hb⟩; have B : Hid (Bl _ _ _ _) := B.out.below hb; have HB : Hid (Below _ _ _) := Below.step HB.out hb; clear hb k0; have k0 := CK.out _ B.out)
      go_loopw [13, 14] (fun l k wr => ∃ (K : Int), -1 ≤ K ∧ K ≤ 15 ∧ l = .int .i64 (lsN y (15 - K).toNat) ∧ k = .int .i64 K ∧ Bl wr q 25 [.int .u32 (x : Int), .int .u32 (y : Int)] ∧ Below w.heap.size w wr) (fun _ k _ => (intOf k + 1).toNat)
      case atStart => exact ⟨15, by omega, by omega, rfl, rfl, B.out, HB.out⟩
      case round =>
        obtain ⟨K, g1, g2, rfl, rfl, bb, hB⟩ := hrel
        clear B HB k0
        have B : Hid (Bl _ _ _ _) := bb
        have HB : Hid (Below _ _ _) := hB
        have k0 := CK.out _ bb
        clear bb hB
        by_cases hK : 0 ≤ K
        · have z1 : decide (0 ≤ K) = true := decide_eq_true hK
          have el : lsN y (15 - (K - 1)).toNat = if rolR K.toNat y < 256 then K else lsN y (15 - K).toNat := by
            rw [show (15 - (K - 1)).toNat = (15 - K).toNat + 1 by omega]
            rw [lsN_succ, show 15 - (15 - K).toNat = K.toNat by omega]
            split
            · omega
            · rfl
          by_cases hK0 : K = 0
          · subst hK0
            have el : Hid _ := el
            obtain ⟨z, qq, H⟩ := HS0.out y wr hv
            have H : Hid (Calls _ _ _ _ _) := H
            by_cases hr : y < 256
            · have z2 : decide ((y : Int) < 256) = true := decide_eq_true (by omega)
              go_wp2_with (go_at_call 11; refine H.out.mono ?_; rintro e w4 ⟨rfl, hb⟩; have B : Hid (Bl _ _ _ _) := B.out.below hb; have HB : Hid (Below _ _ _) := Below.step HB.out hb; clear hb k0; have k0 := CK.out _ B.out)
              go_roundw
              case rel => exact ⟨-1, by omega, by omega, by rw [show (-1 : Int) = 0 - 1 by rfl, el.out, show (0 : Int).toNat = 0 by rfl, rolR_0 y hv, if_pos hr], rfl, B.out, HB.out⟩
              case measure => simp [intOf]
            · have z2 : decide ((y : Int) < 256) = false := decide_eq_false (by omega)
              go_wp2_with (go_at_call 11; refine H.out.mono ?_; rintro e w4 ⟨rfl, hb⟩; have B : Hid (Bl _ _ _ _) := B.out.below hb; have HB : Hid (Below _ _ _) := Below.step HB.out hb; clear hb k0; have k0 := CK.out _ B.out)
              go_roundw
              case rel => exact ⟨-1, by omega, by omega, by rw [show (-1 : Int) = 0 - 1 by rfl, el.out, show (0 : Int).toNat = 0 by rfl, rolR_0 y hv, if_neg hr]; rfl, rfl, B.out, HB.out⟩
              case measure => simp [intOf]
          · have z3 : (K == 0) = false := by simp [hK0]
            have w5 : IntKind.i64.wrap (K - 1) = K - 1 := by rw [IntKind.wrap_i64]; omega
            have w6 : IntKind.i64.wrap (2 * K) = 2 * K := by rw [IntKind.wrap_i64]; omega
            have w7 : IntKind.i64.wrap (32 - 2 * K) = 32 - 2 * K := by rw [IntKind.wrap_i64]; omega
            obtain ⟨qq, H⟩ := HSh.out y K wr hv (by omega) g2
            have H : Hid (Calls _ _ _ _ _) := H
            have el : Hid _ := el
            by_cases hr : rolR K.toNat y < 256
            · have z2 : decide ((rolR K.toNat y : Int) < 256) = true := decide_eq_true (by omega)
              have z4 : decide (rolR K.toNat y < 256) = true := decide_eq_true hr
              have hr : Hid _ := hr
              generalize hZ : rolR K.toNat y = Z at *
              clear hZ
              go_wp2_with (go_at_call 11; refine H.out.mono ?_; rintro e w4 ⟨rfl, hb⟩; have B : Hid (Bl _ _ _ _) := B.out.below hb; have HB : Hid (Below _ _ _) := Below.step HB.out hb; clear hb k0; have k0 := CK.out _ B.out)
              go_roundw
              case rel => exact ⟨K - 1, by omega, by omega, by rw [el.out, if_pos hr.out], rfl, B.out, HB.out⟩
              case measure => simp [intOf]; omega
            · have z2 : decide ((rolR K.toNat y : Int) < 256) = false := decide_eq_false (by omega)
              have z4 : decide (rolR K.toNat y < 256) = false := decide_eq_false hr
              have hr : Hid _ := hr
              generalize hZ : rolR K.toNat y = Z at *
              clear hZ
              go_wp2_with (go_at_call 11; refine H.out.mono ?_; rintro e w4 ⟨rfl, hb⟩; have B : Hid (Bl _ _ _ _) := B.out.below hb; have HB : Hid (Below _ _ _) := Below.step HB.out hb; clear hb k0; have k0 := CK.out _ B.out)
              go_roundw
              case rel => exact ⟨K - 1, by omega, by omega, by rw [el.out, if_neg hr.out], rfl, B.out, HB.out⟩
              case measure => simp [intOf]; omega
        · obtain rfl : K = -1 := by omega
          rw [show (15 - (-1 : Int)).toNat = 16 by rfl]
          rcases PL with ⟨p1, p2, p3⟩ | ⟨p1, p2, p3, p4, p5⟩
          · rw [p1, p2, p3]
            clear p1 p2 p3
            go_wp2_with fail
            go_roundw
            case rel => exact ⟨2, by omega, rfl, B.out, HB.out⟩
            case measure => simp [intOf]
          · obtain ⟨qq, H⟩ := HX.out (pkW y) wr p2
            rw [p3] at H
            have H : Hid (Calls _ _ _ _ _) := H
            rw [p1, p4]
            have w8 : IntKind.i64.wrap (((pkW y / 256 : Nat) : Int)) = ((pkW y / 256 : Nat) : Int) := by rw [IntKind.wrap_i64]; omega
            have w9 : ((pkW y : Int)) / 256 = ((pkW y / 256 : Nat) : Int) := by omega
            have z5 : decide (0 ≤ ((pkW y / 256 : Nat) : Int)) = true := decide_eq_true (by omega)
            generalize pkW y / 256 = PP at *
            clear p1 p2 p3 p4 p5
            go_wp2_with (go_at_call 16; refine H.out.mono ?_; rintro e w4 ⟨rfl, hb⟩; have B : Hid (Bl _ _ _ _) := B.out.below hb; have HB : Hid (Below _ _ _) := Below.step HB.out hb; clear hb k0; have k0 := CK.out _ B.out)
            go_roundw
            case rel => exact ⟨2, by omega, rfl, B.out, HB.out⟩
            case measure => simp [intOf]
    · go_wp2_with fail
      go_ret
      exact ⟨rfl, HB.out⟩
end Go.Proofs.Ytdelcknpaldngaa
