import Derived.Test.YtdelcknpaldngacRo
namespace Go.Proofs.Ytdelcknpaldngac
open Go.RowKit
set_option linter.unusedVariables false
set_option linter.unusedSimpArgs false
theorem jbit_hi (x j : Nat) (w : World) (hx : x < 4294967296) (hj : j < 32) :
    Calls Try.prog 25 #[.int .u32 x, .int .i64 (31 - (j : Int))] w fun e w' => e = .returned (.bool (decide (x / 2 ^ (31 - j) % 2 = 1))) ∧ w' = w := by
  have := jbit_nat x (31 - j) w hx (by omega)
  rwa [show ((31 - j : Nat) : Int) = 31 - (j : Int) by omega] at this
set_option maxRecDepth 100000 in
set_option maxHeartbeats 2000000 in
theorem jsmall_25 (x : Nat) (turn : Int) (w : World) (hx : x < 4294967296) :
    Calls Try.prog 8 #[.int .i64 25, .int .u32 x, .int .i64 turn] w fun e w' => e = .returned (.tuple #[.int .u32 ((lzN x : Nat) : Int), .bool true]) ∧ w' = w := by
  have HB : Hid (∀ (j : Nat) w, j < 32 → Calls Try.prog 25 #[.int .u32 x, .int .i64 (31 - (j : Int))] w fun e w' => e = .returned (.bool (decide (x / 2 ^ (31 - j) % 2 = 1))) ∧ w' = w) := fun j w hj => jbit_hi x j w hx hj
  have HL : Hid (lzN x ≤ 32 ∧ (∀ j, j < lzN x → x / 2 ^ (31 - j) % 2 = 0) ∧ (lzN x < 32 → x / 2 ^ (31 - lzN x) % 2 = 1)) := ⟨lz_le x, fun j hj => lz_bit x j hx hj, lz_end x hx⟩
  have HS : Hid (∀ w, Calls Try.prog 24 #[.int .i64 3, .int .u32 x, .int .i64 (8 * (turn % 4)), .bool false] w fun e w' => e = .returned (.tuple #[.int .u32 (trN x turn : Nat), .bool (shX 3 x (8 * (turn % 4)) false).2]) ∧ w' = w) := fun w => by
    have := jshift_any 3 (8 * (turn % 4)) x false w hx
    rwa [shX_tr] at this
  have h3 := i64_and3 turn
  have w1 : IntKind.i64.wrap (8 * (turn % 4)) = 8 * (turn % 4) := by rw [IntKind.wrap_i64]; omega
  have tlt := trN_lt x turn hx
  generalize trN x turn = t at *
  generalize (shX 3 x (8 * (turn % 4)) false).2 = tc at *
  generalize hTT : turn % 4 = TT at *
  have t0 : 0 ≤ TT := by omega
  have t1 : TT < 4 := by omega
  clear hTT
  clear hx tlt
  generalize lzN x = L at *
  go_enter Try.func8, Try.ntmps8
  go_wp2_with (go_at_call 24; refine (HS.out _).mono ?_; rintro e w' ⟨rfl, rfl⟩)
  go_loopw [10] (fun k wr => ∃ (j : Nat), j ≤ L ∧ k = .int .u32 j ∧ wr = w') (fun k _ => (L - intOf k).toNat)
  case atStart => exact ⟨0, by omega, rfl, rfl⟩
  case round =>
    obtain ⟨j, h1, rfl, rfl⟩ := hrel
    obtain ⟨l1, l2, l3⟩ := HL.out
    have hw2 : IntKind.i64.wrap (31 - (j : Int)) = 31 - (j : Int) := by rw [IntKind.wrap_i64]; omega
    have hw3 : IntKind.i64.wrap (j : Int) = (j : Int) := by rw [IntKind.wrap_i64]; omega
    by_cases h : j < L
    · have hw : IntKind.u32.wrap ((j : Int) + 1) = ((j + 1 : Nat) : Int) := by rw [IntKind.wrap_u32']; omega
      have z1 : decide ((j : Int) < 32) = true := decide_eq_true (by omega)
      have z2 : decide (x / 2 ^ (31 - j) % 2 = 1) = false := decide_eq_false (by rw [l2 j h]; decide)
      have h32 : j < 32 := by omega
      clear l1 l2 l3
      go_wp2_with (go_at_call 25; refine (HB.out j _ h32).mono ?_; rintro e w' ⟨rfl, rfl⟩)
      go_roundw
      case rel => exact ⟨j + 1, by omega, rfl, trivial⟩
      case measure => simp [intOf]; omega
    · obtain rfl : j = L := by omega
      by_cases h32 : j < 32
      · have z1 : decide ((j : Int) < 32) = true := decide_eq_true (by omega)
        have z2 : decide (x / 2 ^ (31 - j) % 2 = 1) = true := decide_eq_true (l3 h32)
        clear l1 l2 l3
        go_wp2_with (go_at_call 25; refine (HB.out j _ h32).mono ?_; rintro e w' ⟨rfl, rfl⟩)
        exact bodyPost_ret (v := .tuple #[.int .u32 (j : Int), .bool true]) (by simp [results, Try.results8, go_sem]) rfl ⟨rfl, rfl⟩
      · have z1 : decide ((j : Int) < 32) = false := decide_eq_false (by omega)
        clear l1 l2 l3
        go_wp2_with fail
        exact bodyPost_ret (v := .tuple #[.int .u32 (j : Int), .bool true]) (by simp [results, Try.results8, go_sem]) rfl ⟨rfl, rfl⟩
set_option maxRecDepth 100000 in
set_option maxHeartbeats 2000000 in
theorem jsmall_27 (x : Nat) (turn : Int) (w : World) (hx : x < 4294967296) :
    Calls Try.prog 8 #[.int .i64 27, .int .u32 x, .int .i64 turn] w fun e w' => e = .returned (.tuple #[.int .u32 ((trN x turn : Int) % 256), .bool true]) ∧ w' = w := by
  have HS : Hid (∀ w, Calls Try.prog 24 #[.int .i64 3, .int .u32 x, .int .i64 (8 * (turn % 4)), .bool false] w fun e w' => e = .returned (.tuple #[.int .u32 (trN x turn : Nat), .bool (shX 3 x (8 * (turn % 4)) false).2]) ∧ w' = w) := fun w => by
    have := jshift_any 3 (8 * (turn % 4)) x false w hx
    rwa [shX_tr] at this
  have h3 := i64_and3 turn
  have w1 : IntKind.i64.wrap (8 * (turn % 4)) = 8 * (turn % 4) := by rw [IntKind.wrap_i64]; omega
  have tlt := trN_lt x turn hx
  generalize trN x turn = t at *
  generalize (shX 3 x (8 * (turn % 4)) false).2 = tc at *
  generalize hTT : turn % 4 = TT at *
  have t0 : 0 ≤ TT := by omega
  have t1 : TT < 4 := by omega
  clear hTT
  have b1 : bits .and .u32 (t : Int) 255 = (t : Int) % 256 := band_mod 8 255 _ (by decide) (by decide) (by omega)
  clear hx tlt
  go_enter Try.func8, Try.ntmps8
  go_wp2_with (go_at_call 24; refine (HS.out _).mono ?_; rintro e w' ⟨rfl, rfl⟩)
  exact bodyPost_ret (v := .tuple #[.int .u32 ((t : Int) % 256), .bool true]) (by simp [results, Try.results8, go_sem]) rfl ⟨rfl, rfl⟩
set_option maxRecDepth 100000 in
set_option maxHeartbeats 2000000 in
theorem jsmall_28 (x : Nat) (turn : Int) (w : World) (hx : x < 4294967296) :
    Calls Try.prog 8 #[.int .i64 28, .int .u32 x, .int .i64 turn] w fun e w' => e = .returned (.tuple #[.int .u32 ((trN x turn : Int) % 65536), .bool true]) ∧ w' = w := by
  have HS : Hid (∀ w, Calls Try.prog 24 #[.int .i64 3, .int .u32 x, .int .i64 (8 * (turn % 4)), .bool false] w fun e w' => e = .returned (.tuple #[.int .u32 (trN x turn : Nat), .bool (shX 3 x (8 * (turn % 4)) false).2]) ∧ w' = w) := fun w => by
    have := jshift_any 3 (8 * (turn % 4)) x false w hx
    rwa [shX_tr] at this
  have h3 := i64_and3 turn
  have w1 : IntKind.i64.wrap (8 * (turn % 4)) = 8 * (turn % 4) := by rw [IntKind.wrap_i64]; omega
  have tlt := trN_lt x turn hx
  generalize trN x turn = t at *
  generalize (shX 3 x (8 * (turn % 4)) false).2 = tc at *
  generalize hTT : turn % 4 = TT at *
  have t0 : 0 ≤ TT := by omega
  have t1 : TT < 4 := by omega
  clear hTT
  have b1 : bits .and .u32 (t : Int) 65535 = (t : Int) % 65536 := band_mod 16 65535 _ (by decide) (by decide) (by omega)
  clear hx tlt
  go_enter Try.func8, Try.ntmps8
  go_wp2_with (go_at_call 24; refine (HS.out _).mono ?_; rintro e w' ⟨rfl, rfl⟩)
  exact bodyPost_ret (v := .tuple #[.int .u32 ((t : Int) % 65536), .bool true]) (by simp [results, Try.results8, go_sem]) rfl ⟨rfl, rfl⟩
set_option maxRecDepth 100000 in
set_option maxHeartbeats 2000000 in
theorem jsmall_29n (x : Nat) (turn : Int) (w : World) (hx : x < 4294967296) (hn : (trN x turn : Int) % 256 < 128) :
    Calls Try.prog 8 #[.int .i64 29, .int .u32 x, .int .i64 turn] w fun e w' => e = .returned (.tuple #[.int .u32 ((trN x turn : Int) % 256), .bool true]) ∧ w' = w := by
  have HS : Hid (∀ w, Calls Try.prog 24 #[.int .i64 3, .int .u32 x, .int .i64 (8 * (turn % 4)), .bool false] w fun e w' => e = .returned (.tuple #[.int .u32 (trN x turn : Nat), .bool (shX 3 x (8 * (turn % 4)) false).2]) ∧ w' = w) := fun w => by
    have := jshift_any 3 (8 * (turn % 4)) x false w hx
    rwa [shX_tr] at this
  have h3 := i64_and3 turn
  have w1 : IntKind.i64.wrap (8 * (turn % 4)) = 8 * (turn % 4) := by rw [IntKind.wrap_i64]; omega
  have tlt := trN_lt x turn hx
  generalize trN x turn = t at *
  generalize (shX 3 x (8 * (turn % 4)) false).2 = tc at *
  generalize hTT : turn % 4 = TT at *
  have t0 : 0 ≤ TT := by omega
  have t1 : TT < 4 := by omega
  clear hTT
  have b1 : bits .and .u32 (t : Int) 255 = (t : Int) % 256 := band_mod 8 255 _ (by decide) (by decide) (by omega)
  clear hx tlt
  have q : decide (128 ≤ (t : Int) % 256) = false := decide_eq_false (by omega)
  clear hn
  go_enter Try.func8, Try.ntmps8
  go_wp2_with (go_at_call 24; refine (HS.out _).mono ?_; rintro e w' ⟨rfl, rfl⟩)
  exact bodyPost_ret (v := .tuple #[.int .u32 ((t : Int) % 256), .bool true]) (by simp [results, Try.results8, go_sem]) rfl ⟨rfl, rfl⟩
set_option maxRecDepth 100000 in
set_option maxHeartbeats 2000000 in
theorem jsmall_29y (x : Nat) (turn : Int) (w : World) (hx : x < 4294967296) (hn : 128 ≤ (trN x turn : Int) % 256) :
    Calls Try.prog 8 #[.int .i64 29, .int .u32 x, .int .i64 turn] w fun e w' => e = .returned (.tuple #[.int .u32 ((trN x turn : Int) % 256 + 4294967040), .bool true]) ∧ w' = w := by
  have HS : Hid (∀ w, Calls Try.prog 24 #[.int .i64 3, .int .u32 x, .int .i64 (8 * (turn % 4)), .bool false] w fun e w' => e = .returned (.tuple #[.int .u32 (trN x turn : Nat), .bool (shX 3 x (8 * (turn % 4)) false).2]) ∧ w' = w) := fun w => by
    have := jshift_any 3 (8 * (turn % 4)) x false w hx
    rwa [shX_tr] at this
  have h3 := i64_and3 turn
  have w1 : IntKind.i64.wrap (8 * (turn % 4)) = 8 * (turn % 4) := by rw [IntKind.wrap_i64]; omega
  have tlt := trN_lt x turn hx
  generalize trN x turn = t at *
  generalize (shX 3 x (8 * (turn % 4)) false).2 = tc at *
  generalize hTT : turn % 4 = TT at *
  have t0 : 0 ≤ TT := by omega
  have t1 : TT < 4 := by omega
  clear hTT
  have b1 : bits .and .u32 (t : Int) 255 = (t : Int) % 256 := band_mod 8 255 _ (by decide) (by decide) (by omega)
  clear hx tlt
  have q : decide (128 ≤ (t : Int) % 256) = true := decide_eq_true hn
  clear hn
  go_enter Try.func8, Try.ntmps8
  go_wp2_with (go_at_call 24; refine (HS.out _).mono ?_; rintro e w' ⟨rfl, rfl⟩)
  exact bodyPost_ret (v := .tuple #[.int .u32 ((t : Int) % 256 + 4294967040), .bool true]) (by simp [results, Try.results8, go_sem]) rfl ⟨rfl, rfl⟩
set_option maxRecDepth 100000 in
set_option maxHeartbeats 2000000 in
theorem jsmall_30n (x : Nat) (turn : Int) (w : World) (hx : x < 4294967296) (hn : (trN x turn : Int) % 65536 < 32768) :
    Calls Try.prog 8 #[.int .i64 30, .int .u32 x, .int .i64 turn] w fun e w' => e = .returned (.tuple #[.int .u32 ((trN x turn : Int) % 65536), .bool true]) ∧ w' = w := by
  have HS : Hid (∀ w, Calls Try.prog 24 #[.int .i64 3, .int .u32 x, .int .i64 (8 * (turn % 4)), .bool false] w fun e w' => e = .returned (.tuple #[.int .u32 (trN x turn : Nat), .bool (shX 3 x (8 * (turn % 4)) false).2]) ∧ w' = w) := fun w => by
    have := jshift_any 3 (8 * (turn % 4)) x false w hx
    rwa [shX_tr] at this
  have h3 := i64_and3 turn
  have w1 : IntKind.i64.wrap (8 * (turn % 4)) = 8 * (turn % 4) := by rw [IntKind.wrap_i64]; omega
  have tlt := trN_lt x turn hx
  generalize trN x turn = t at *
  generalize (shX 3 x (8 * (turn % 4)) false).2 = tc at *
  generalize hTT : turn % 4 = TT at *
  have t0 : 0 ≤ TT := by omega
  have t1 : TT < 4 := by omega
  clear hTT
  have b1 : bits .and .u32 (t : Int) 65535 = (t : Int) % 65536 := band_mod 16 65535 _ (by decide) (by decide) (by omega)
  clear hx tlt
  have q : decide (32768 ≤ (t : Int) % 65536) = false := decide_eq_false (by omega)
  clear hn
  go_enter Try.func8, Try.ntmps8
  go_wp2_with (go_at_call 24; refine (HS.out _).mono ?_; rintro e w' ⟨rfl, rfl⟩)
  exact bodyPost_ret (v := .tuple #[.int .u32 ((t : Int) % 65536), .bool true]) (by simp [results, Try.results8, go_sem]) rfl ⟨rfl, rfl⟩
set_option maxRecDepth 100000 in
set_option maxHeartbeats 2000000 in
theorem jsmall_30y (x : Nat) (turn : Int) (w : World) (hx : x < 4294967296) (hn : 32768 ≤ (trN x turn : Int) % 65536) :
    Calls Try.prog 8 #[.int .i64 30, .int .u32 x, .int .i64 turn] w fun e w' => e = .returned (.tuple #[.int .u32 ((trN x turn : Int) % 65536 + 4294901760), .bool true]) ∧ w' = w := by
  have HS : Hid (∀ w, Calls Try.prog 24 #[.int .i64 3, .int .u32 x, .int .i64 (8 * (turn % 4)), .bool false] w fun e w' => e = .returned (.tuple #[.int .u32 (trN x turn : Nat), .bool (shX 3 x (8 * (turn % 4)) false).2]) ∧ w' = w) := fun w => by
    have := jshift_any 3 (8 * (turn % 4)) x false w hx
    rwa [shX_tr] at this
  have h3 := i64_and3 turn
  have w1 : IntKind.i64.wrap (8 * (turn % 4)) = 8 * (turn % 4) := by rw [IntKind.wrap_i64]; omega
  have tlt := trN_lt x turn hx
  generalize trN x turn = t at *
  generalize (shX 3 x (8 * (turn % 4)) false).2 = tc at *
  generalize hTT : turn % 4 = TT at *
  have t0 : 0 ≤ TT := by omega
  have t1 : TT < 4 := by omega
  clear hTT
  have b1 : bits .and .u32 (t : Int) 65535 = (t : Int) % 65536 := band_mod 16 65535 _ (by decide) (by decide) (by omega)
  clear hx tlt
  have q : decide (32768 ≤ (t : Int) % 65536) = true := decide_eq_true hn
  clear hn
  go_enter Try.func8, Try.ntmps8
  go_wp2_with (go_at_call 24; refine (HS.out _).mono ?_; rintro e w' ⟨rfl, rfl⟩)
  exact bodyPost_ret (v := .tuple #[.int .u32 ((t : Int) % 65536 + 4294901760), .bool true]) (by simp [results, Try.results8, go_sem]) rfl ⟨rfl, rfl⟩
set_option maxRecDepth 100000 in
set_option maxHeartbeats 2000000 in
theorem jsmall_no (op : Int) (x : Nat) (turn : Int) (w : World) (hx : x < 4294967296) (ho : ¬ (25 ≤ op ∧ op ≤ 30)) :
    Calls Try.prog 8 #[.int .i64 op, .int .u32 x, .int .i64 turn] w fun e w' => e = .returned (.tuple #[.int .u32 0, .bool false]) ∧ w' = w := by
  have HS : Hid (∀ w, Calls Try.prog 24 #[.int .i64 3, .int .u32 x, .int .i64 (8 * (turn % 4)), .bool false] w fun e w' => e = .returned (.tuple #[.int .u32 (trN x turn : Nat), .bool (shX 3 x (8 * (turn % 4)) false).2]) ∧ w' = w) := fun w => by
    have := jshift_any 3 (8 * (turn % 4)) x false w hx
    rwa [shX_tr] at this
  have h3 := i64_and3 turn
  have w1 : IntKind.i64.wrap (8 * (turn % 4)) = 8 * (turn % 4) := by rw [IntKind.wrap_i64]; omega
  have tlt := trN_lt x turn hx
  generalize trN x turn = t at *
  generalize (shX 3 x (8 * (turn % 4)) false).2 = tc at *
  generalize hTT : turn % 4 = TT at *
  have t0 : 0 ≤ TT := by omega
  have t1 : TT < 4 := by omega
  clear hTT
  have z25 : (op == 25) = false := by simp; omega
  have z26 : (op == 26) = false := by simp; omega
  have z27 : (op == 27) = false := by simp; omega
  have z28 : (op == 28) = false := by simp; omega
  have z29 : (op == 29) = false := by simp; omega
  have z30 : (op == 30) = false := by simp; omega
  clear hx tlt ho
  go_enter Try.func8, Try.ntmps8
  go_wp2_with (go_at_call 24; refine (HS.out _).mono ?_; rintro e w' ⟨rfl, rfl⟩)
  exact bodyPost_ret (v := .tuple #[.int .u32 0, .bool false]) (by simp [results, Try.results8, go_sem]) rfl ⟨rfl, rfl⟩
set_option maxRecDepth 100000 in
set_option maxHeartbeats 2000000 in
theorem jsmall_26 (x : Nat) (turn : Int) (w : World) (hx : x < 4294967296) :
    Calls Try.prog 8 #[.int .i64 26, .int .u32 x, .int .i64 turn] w fun e w' => e = .returned (.tuple #[.int .u32 ((x : Int) % 256 * 16777216 + (x : Int) / 256 % 256 * 65536 + (x : Int) / 65536 % 256 * 256 + (x : Int) / 16777216), .bool true]) ∧ w' = w := by
  have HS : Hid (∀ w, Calls Try.prog 24 #[.int .i64 3, .int .u32 x, .int .i64 (8 * (turn % 4)), .bool false] w fun e w' => e = .returned (.tuple #[.int .u32 (trN x turn : Nat), .bool (shX 3 x (8 * (turn % 4)) false).2]) ∧ w' = w) := fun w => by
    have := jshift_any 3 (8 * (turn % 4)) x false w hx
    rwa [shX_tr] at this
  have h3 := i64_and3 turn
  have w1 : IntKind.i64.wrap (8 * (turn % 4)) = 8 * (turn % 4) := by rw [IntKind.wrap_i64]; omega
  have tlt := trN_lt x turn hx
  generalize trN x turn = t at *
  generalize (shX 3 x (8 * (turn % 4)) false).2 = tc at *
  generalize hTT : turn % 4 = TT at *
  have t0 : 0 ≤ TT := by omega
  have t1 : TT < 4 := by omega
  clear hTT
  have b1 : bits .and .u32 (x : Int) 255 = (x : Int) % 256 := band_mod 8 255 _ (by decide) (by decide) (by omega)
  have b2 : bits .and .u32 ((x : Int) / 256) 255 = (x : Int) / 256 % 256 := band_mod 8 255 _ (by decide) (by decide) (by omega)
  have b3 : bits .and .u32 ((x : Int) / 65536) 255 = (x : Int) / 65536 % 256 := band_mod 8 255 _ (by decide) (by decide) (by omega)
  have o1 : bits .or .u32 ((x : Int) % 256 * 16777216) ((x : Int) / 256 % 256 * 65536) = (x : Int) % 256 * 16777216 + (x : Int) / 256 % 256 * 65536 := or_low 24 _ _ ((x : Int) % 256) (by rw [Int.mul_comm]; rfl) (by omega) (by omega) (by omega) (by omega) (by decide)
  have o2 : bits .or .u32 ((x : Int) % 256 * 16777216 + (x : Int) / 256 % 256 * 65536) ((x : Int) / 65536 % 256 * 256) = (x : Int) % 256 * 16777216 + (x : Int) / 256 % 256 * 65536 + (x : Int) / 65536 % 256 * 256 := or_low 16 _ _ ((x : Int) % 256 * 256 + (x : Int) / 256 % 256) (by omega) (by omega) (by omega) (by omega) (by omega) (by decide)
  have o3 : bits .or .u32 ((x : Int) % 256 * 16777216 + (x : Int) / 256 % 256 * 65536 + (x : Int) / 65536 % 256 * 256) ((x : Int) / 16777216) = (x : Int) % 256 * 16777216 + (x : Int) / 256 % 256 * 65536 + (x : Int) / 65536 % 256 * 256 + (x : Int) / 16777216 := or_low 8 _ _ ((x : Int) % 256 * 65536 + (x : Int) / 256 % 256 * 256 + (x : Int) / 65536 % 256) (by omega) (by omega) (by omega) (by omega) (by omega) (by decide)
  clear tlt
  go_enter Try.func8, Try.ntmps8
  go_wp2_with (go_at_call 24; refine (HS.out _).mono ?_; rintro e w' ⟨rfl, rfl⟩)
  exact bodyPost_ret (v := .tuple #[.int .u32 ((x : Int) % 256 * 16777216 + (x : Int) / 256 % 256 * 65536 + (x : Int) / 65536 % 256 * 256 + (x : Int) / 16777216), .bool true]) (by simp [results, Try.results8, go_sem]) rfl ⟨rfl, rfl⟩
theorem jsmall_any (op : Int) (x : Nat) (turn : Int) (w : World) (hx : x < 4294967296) :
    Calls Try.prog 8 #[.int .i64 op, .int .u32 x, .int .i64 turn] w fun e w' => e = .returned (.tuple #[.int .u32 (smW op x turn), .bool (smO op)]) ∧ w' = w := by
  by_cases ho : 25 ≤ op ∧ op ≤ 30
  · rcases (show op = 25 ∨ op = 26 ∨ op = 27 ∨ op = 28 ∨ op = 29 ∨ op = 30 by omega) with rfl | rfl | rfl | rfl | rfl | rfl
    · exact jsmall_25 x turn w hx
    · exact jsmall_26 x turn w hx
    · exact jsmall_27 x turn w hx
    · exact jsmall_28 x turn w hx
    · by_cases hn : (trN x turn : Int) % 256 < 128
      · have := jsmall_29n x turn w hx hn
        rwa [show smW 29 x turn = (trN x turn : Int) % 256 by simp [smW, hn]]
      · have := jsmall_29y x turn w hx (by omega)
        rwa [show smW 29 x turn = (trN x turn : Int) % 256 + 4294967040 by simp [smW, hn]]
    · by_cases hn : (trN x turn : Int) % 65536 < 32768
      · have := jsmall_30n x turn w hx hn
        rwa [show smW 30 x turn = (trN x turn : Int) % 65536 by simp [smW, hn]]
      · have := jsmall_30y x turn w hx (by omega)
        rwa [show smW 30 x turn = (trN x turn : Int) % 65536 + 4294901760 by simp [smW, hn]]
  · have := jsmall_no op x turn w hx ho
    rwa [show smW op x turn = 0 by unfold smW; (repeat rw [if_neg (by omega)]), show smO op = false from decide_eq_false ho]
end Go.Proofs.Ytdelcknpaldngac
