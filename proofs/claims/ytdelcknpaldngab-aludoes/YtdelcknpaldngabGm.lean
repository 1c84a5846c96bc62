import Derived.Test.YtdelcknpaldngabGj
namespace Go.Proofs.Ytdelcknpaldngab
open Go.RowKit
set_option linter.unusedVariables false
set_option linter.unusedSimpArgs false
theorem tr_rot (x : Nat) (turn : Int) (hx : x < 4294967296) : rorK (32 - ((-8 * (turn % 4)) % 32).toNat) x = trN x turn := by
  unfold trN
  generalize hr : turn % 4 = r
  rcases (show r = 0 ∨ r = 1 ∨ r = 2 ∨ r = 3 by omega) with rfl | rfl | rfl | rfl
  · show rorK 32 x = rorK 0 x
    rw [rorK_32 x hx, rorK_0]
  · rfl
  · rfl
  · rfl
set_option maxRecDepth 100000 in
set_option maxHeartbeats 1000000 in
theorem gsmall_25 (x : Nat) (turn : Int) (w : World) (hx : x < 4294967296) :
    Calls Try.prog 24 #[.int .i64 25, .int .u32 x, .int .i64 turn] w fun e w' => e = .returned (.tuple #[.int .u32 ((lzN x : Nat) : Int), .bool true]) ∧ w' = w := by
  have h3 := i64_and3 turn
  have w1 : IntKind.i64.wrap (-8 * (turn % 4)) = -8 * (turn % 4) := by rw [IntKind.wrap_i64]; omega
  have HR : Hid (∀ w, Calls Try.prog 34 #[.int .u32 x, .int .i64 (-8 * (turn % 4))] w fun e w' => e = .returned (.int .u32 (trN x turn : Nat)) ∧ w' = w) := fun w => by
    have := grot_any x (-8 * (turn % 4)) w hx
    rwa [tr_rot x turn hx] at this
  have tlt := trN_lt x turn hx
  generalize trN x turn = t at *
  generalize hTT : turn % 4 = TT at *
  generalize hT8 : -8 * TT = T8 at *
  clear hTT
  have HZ : Hid (∀ w, Calls Try.prog 40 #[.int .u32 x] w fun e w' => e = .returned (.int .i64 (lzN x : Nat)) ∧ w' = w) := fun w => glz_any x w hx
  have l0 := lz_le x
  have l1 : IntKind.u32.wrap ((lzN x : Nat) : Int) = (lzN x : Nat) := by rw [IntKind.wrap_u32']; omega
  generalize lzN x = L at *
  go_enter Try.func24, Try.ntmps24
  go_wp2_with (first | (go_at_call 34; refine (HR.out _).mono ?_; rintro e w' ⟨rfl, rfl⟩) | (go_at_call 40; refine (HZ.out _).mono ?_; rintro e w' ⟨rfl, rfl⟩))
  exact bodyPost_ret (v := .tuple #[.int .u32 (L : Int), .bool true]) (by simp [results, Try.results24, go_sem]) rfl ⟨rfl, rfl⟩
set_option maxRecDepth 100000 in
set_option maxHeartbeats 1000000 in
theorem gsmall_26 (x : Nat) (turn : Int) (w : World) (hx : x < 4294967296) :
    Calls Try.prog 24 #[.int .i64 26, .int .u32 x, .int .i64 turn] w fun e w' => e = .returned (.tuple #[.int .u32 ((x : Int) % 256 * 16777216 + (x : Int) / 256 % 256 * 65536 + (x : Int) / 65536 % 256 * 256 + (x : Int) / 16777216), .bool true]) ∧ w' = w := by
  have h3 := i64_and3 turn
  have w1 : IntKind.i64.wrap (-8 * (turn % 4)) = -8 * (turn % 4) := by rw [IntKind.wrap_i64]; omega
  have HR : Hid (∀ w, Calls Try.prog 34 #[.int .u32 x, .int .i64 (-8 * (turn % 4))] w fun e w' => e = .returned (.int .u32 (trN x turn : Nat)) ∧ w' = w) := fun w => by
    have := grot_any x (-8 * (turn % 4)) w hx
    rwa [tr_rot x turn hx] at this
  have tlt := trN_lt x turn hx
  generalize trN x turn = t at *
  generalize hTT : turn % 4 = TT at *
  generalize hT8 : -8 * TT = T8 at *
  clear hTT
  have HZ : Hid (∀ w, Calls Try.prog 41 #[.int .u32 x] w fun e w' => e = .returned (.int .u32 ((x : Int) % 256 * 16777216 + (x : Int) / 256 % 256 * 65536 + (x : Int) / 65536 % 256 * 256 + (x : Int) / 16777216)) ∧ w' = w) := fun w => grev_any x w hx
  generalize (x : Int) % 256 * 16777216 + (x : Int) / 256 % 256 * 65536 + (x : Int) / 65536 % 256 * 256 + (x : Int) / 16777216 = R at *
  go_enter Try.func24, Try.ntmps24
  go_wp2_with (first | (go_at_call 34; refine (HR.out _).mono ?_; rintro e w' ⟨rfl, rfl⟩) | (go_at_call 41; refine (HZ.out _).mono ?_; rintro e w' ⟨rfl, rfl⟩))
  exact bodyPost_ret (v := .tuple #[.int .u32 R, .bool true]) (by simp [results, Try.results24, go_sem]) rfl ⟨rfl, rfl⟩
set_option maxRecDepth 100000 in
set_option maxHeartbeats 1000000 in
theorem gsmall_27 (x : Nat) (turn : Int) (w : World) (hx : x < 4294967296) :
    Calls Try.prog 24 #[.int .i64 27, .int .u32 x, .int .i64 turn] w fun e w' => e = .returned (.tuple #[.int .u32 ((trN x turn : Int) % 256), .bool true]) ∧ w' = w := by
  have h3 := i64_and3 turn
  have w1 : IntKind.i64.wrap (-8 * (turn % 4)) = -8 * (turn % 4) := by rw [IntKind.wrap_i64]; omega
  have HR : Hid (∀ w, Calls Try.prog 34 #[.int .u32 x, .int .i64 (-8 * (turn % 4))] w fun e w' => e = .returned (.int .u32 (trN x turn : Nat)) ∧ w' = w) := fun w => by
    have := grot_any x (-8 * (turn % 4)) w hx
    rwa [tr_rot x turn hx] at this
  have tlt := trN_lt x turn hx
  generalize trN x turn = t at *
  generalize hTT : turn % 4 = TT at *
  generalize hT8 : -8 * TT = T8 at *
  clear hTT
  have v1 : IntKind.u8.wrap (t : Int) = (t : Int) % 256 := by rw [IntKind.wrap_u8]
  have v2 : IntKind.u32.wrap ((t : Int) % 256) = (t : Int) % 256 := by rw [IntKind.wrap_u32']; omega
  have v3 : (t : Int) % 256 % 4294967296 = (t : Int) % 256 := by omega
  go_enter Try.func24, Try.ntmps24
  go_wp2_with (go_at_call 34; refine (HR.out _).mono ?_; rintro e w' ⟨rfl, rfl⟩)
  exact bodyPost_ret (v := .tuple #[.int .u32 ((t : Int) % 256), .bool true]) (by simp [results, Try.results24, go_sem]) rfl ⟨rfl, rfl⟩
set_option maxRecDepth 100000 in
set_option maxHeartbeats 1000000 in
theorem gsmall_28 (x : Nat) (turn : Int) (w : World) (hx : x < 4294967296) :
    Calls Try.prog 24 #[.int .i64 28, .int .u32 x, .int .i64 turn] w fun e w' => e = .returned (.tuple #[.int .u32 ((trN x turn : Int) % 65536), .bool true]) ∧ w' = w := by
  have h3 := i64_and3 turn
  have w1 : IntKind.i64.wrap (-8 * (turn % 4)) = -8 * (turn % 4) := by rw [IntKind.wrap_i64]; omega
  have HR : Hid (∀ w, Calls Try.prog 34 #[.int .u32 x, .int .i64 (-8 * (turn % 4))] w fun e w' => e = .returned (.int .u32 (trN x turn : Nat)) ∧ w' = w) := fun w => by
    have := grot_any x (-8 * (turn % 4)) w hx
    rwa [tr_rot x turn hx] at this
  have tlt := trN_lt x turn hx
  generalize trN x turn = t at *
  generalize hTT : turn % 4 = TT at *
  generalize hT8 : -8 * TT = T8 at *
  clear hTT
  have v1 : IntKind.u16.wrap (t : Int) = (t : Int) % 65536 := by rw [IntKind.wrap_u16]
  have v2 : IntKind.u32.wrap ((t : Int) % 65536) = (t : Int) % 65536 := by rw [IntKind.wrap_u32']; omega
  have v3 : (t : Int) % 65536 % 4294967296 = (t : Int) % 65536 := by omega
  go_enter Try.func24, Try.ntmps24
  go_wp2_with (go_at_call 34; refine (HR.out _).mono ?_; rintro e w' ⟨rfl, rfl⟩)
  exact bodyPost_ret (v := .tuple #[.int .u32 ((t : Int) % 65536), .bool true]) (by simp [results, Try.results24, go_sem]) rfl ⟨rfl, rfl⟩
set_option maxRecDepth 100000 in
set_option maxHeartbeats 1000000 in
theorem gsmall_29n (x : Nat) (turn : Int) (w : World) (hx : x < 4294967296) (hn : (trN x turn : Int) % 256 < 128) :
    Calls Try.prog 24 #[.int .i64 29, .int .u32 x, .int .i64 turn] w fun e w' => e = .returned (.tuple #[.int .u32 ((trN x turn : Int) % 256), .bool true]) ∧ w' = w := by
  have h3 := i64_and3 turn
  have w1 : IntKind.i64.wrap (-8 * (turn % 4)) = -8 * (turn % 4) := by rw [IntKind.wrap_i64]; omega
  have HR : Hid (∀ w, Calls Try.prog 34 #[.int .u32 x, .int .i64 (-8 * (turn % 4))] w fun e w' => e = .returned (.int .u32 (trN x turn : Nat)) ∧ w' = w) := fun w => by
    have := grot_any x (-8 * (turn % 4)) w hx
    rwa [tr_rot x turn hx] at this
  have tlt := trN_lt x turn hx
  generalize trN x turn = t at *
  generalize hTT : turn % 4 = TT at *
  generalize hT8 : -8 * TT = T8 at *
  clear hTT
  have v1 : IntKind.i8.wrap (t : Int) = ((t : Int) % 256) := by simp only [IntKind.wrap, IntKind.bits, IntKind.signed]; simp; omega
  have v2 : IntKind.u32.wrap ((t : Int) % 256) = ((t : Int) % 256) := by rw [IntKind.wrap_u32']; omega
  have v4 : IntKind.u32.wrap (IntKind.i8.wrap (t : Int)) = ((t : Int) % 256) := by rw [v1, v2]
  have v5 : IntKind.i8.wrap (t : Int) % 4294967296 = ((t : Int) % 256) := by rw [← v4, IntKind.wrap_u32']
  have v5 : Hid _ := v5
  clear v4 v1
  generalize (t : Int) % 256 = VV at *
  clear v2
  go_enter Try.func24, Try.ntmps24
  go_wp2_with (go_at_call 34; refine (HR.out _).mono ?_; rintro e w' ⟨rfl, rfl⟩)
  exact bodyPost_ret (v := .tuple #[.int .u32 VV, .bool true]) (by simp [results, Try.results24, go_sem, v5.out]) rfl ⟨rfl, rfl⟩
set_option maxRecDepth 100000 in
set_option maxHeartbeats 1000000 in
theorem gsmall_29y (x : Nat) (turn : Int) (w : World) (hx : x < 4294967296) (hn : 128 ≤ (trN x turn : Int) % 256) :
    Calls Try.prog 24 #[.int .i64 29, .int .u32 x, .int .i64 turn] w fun e w' => e = .returned (.tuple #[.int .u32 ((trN x turn : Int) % 256 + 4294967040), .bool true]) ∧ w' = w := by
  have h3 := i64_and3 turn
  have w1 : IntKind.i64.wrap (-8 * (turn % 4)) = -8 * (turn % 4) := by rw [IntKind.wrap_i64]; omega
  have HR : Hid (∀ w, Calls Try.prog 34 #[.int .u32 x, .int .i64 (-8 * (turn % 4))] w fun e w' => e = .returned (.int .u32 (trN x turn : Nat)) ∧ w' = w) := fun w => by
    have := grot_any x (-8 * (turn % 4)) w hx
    rwa [tr_rot x turn hx] at this
  have tlt := trN_lt x turn hx
  generalize trN x turn = t at *
  generalize hTT : turn % 4 = TT at *
  generalize hT8 : -8 * TT = T8 at *
  clear hTT
  have v1 : IntKind.i8.wrap (t : Int) = ((t : Int) % 256 - 256) := by simp only [IntKind.wrap, IntKind.bits, IntKind.signed]; simp; omega
  have v2 : IntKind.u32.wrap ((t : Int) % 256 - 256) = ((t : Int) % 256 + 4294967040) := by rw [IntKind.wrap_u32']; omega
  have v4 : IntKind.u32.wrap (IntKind.i8.wrap (t : Int)) = ((t : Int) % 256 + 4294967040) := by rw [v1, v2]
  have v5 : IntKind.i8.wrap (t : Int) % 4294967296 = ((t : Int) % 256 + 4294967040) := by rw [← v4, IntKind.wrap_u32']
  have v5 : Hid _ := v5
  clear v4 v1
  generalize (t : Int) % 256 + 4294967040 = VV at *
  clear v2
  go_enter Try.func24, Try.ntmps24
  go_wp2_with (go_at_call 34; refine (HR.out _).mono ?_; rintro e w' ⟨rfl, rfl⟩)
  exact bodyPost_ret (v := .tuple #[.int .u32 VV, .bool true]) (by simp [results, Try.results24, go_sem, v5.out]) rfl ⟨rfl, rfl⟩
set_option maxRecDepth 100000 in
set_option maxHeartbeats 1000000 in
theorem gsmall_30n (x : Nat) (turn : Int) (w : World) (hx : x < 4294967296) (hn : (trN x turn : Int) % 65536 < 32768) :
    Calls Try.prog 24 #[.int .i64 30, .int .u32 x, .int .i64 turn] w fun e w' => e = .returned (.tuple #[.int .u32 ((trN x turn : Int) % 65536), .bool true]) ∧ w' = w := by
  have h3 := i64_and3 turn
  have w1 : IntKind.i64.wrap (-8 * (turn % 4)) = -8 * (turn % 4) := by rw [IntKind.wrap_i64]; omega
  have HR : Hid (∀ w, Calls Try.prog 34 #[.int .u32 x, .int .i64 (-8 * (turn % 4))] w fun e w' => e = .returned (.int .u32 (trN x turn : Nat)) ∧ w' = w) := fun w => by
    have := grot_any x (-8 * (turn % 4)) w hx
    rwa [tr_rot x turn hx] at this
  have tlt := trN_lt x turn hx
  generalize trN x turn = t at *
  generalize hTT : turn % 4 = TT at *
  generalize hT8 : -8 * TT = T8 at *
  clear hTT
  have v1 : IntKind.i16.wrap (t : Int) = ((t : Int) % 65536) := by simp only [IntKind.wrap, IntKind.bits, IntKind.signed]; simp; omega
  have v2 : IntKind.u32.wrap ((t : Int) % 65536) = ((t : Int) % 65536) := by rw [IntKind.wrap_u32']; omega
  have v4 : IntKind.u32.wrap (IntKind.i16.wrap (t : Int)) = ((t : Int) % 65536) := by rw [v1, v2]
  have v5 : IntKind.i16.wrap (t : Int) % 4294967296 = ((t : Int) % 65536) := by rw [← v4, IntKind.wrap_u32']
  have v5 : Hid _ := v5
  clear v4 v1
  generalize (t : Int) % 65536 = VV at *
  clear v2
  go_enter Try.func24, Try.ntmps24
  go_wp2_with (go_at_call 34; refine (HR.out _).mono ?_; rintro e w' ⟨rfl, rfl⟩)
  exact bodyPost_ret (v := .tuple #[.int .u32 VV, .bool true]) (by simp [results, Try.results24, go_sem, v5.out]) rfl ⟨rfl, rfl⟩
set_option maxRecDepth 100000 in
set_option maxHeartbeats 1000000 in
theorem gsmall_30y (x : Nat) (turn : Int) (w : World) (hx : x < 4294967296) (hn : 32768 ≤ (trN x turn : Int) % 65536) :
    Calls Try.prog 24 #[.int .i64 30, .int .u32 x, .int .i64 turn] w fun e w' => e = .returned (.tuple #[.int .u32 ((trN x turn : Int) % 65536 + 4294901760), .bool true]) ∧ w' = w := by
  have h3 := i64_and3 turn
  have w1 : IntKind.i64.wrap (-8 * (turn % 4)) = -8 * (turn % 4) := by rw [IntKind.wrap_i64]; omega
  have HR : Hid (∀ w, Calls Try.prog 34 #[.int .u32 x, .int .i64 (-8 * (turn % 4))] w fun e w' => e = .returned (.int .u32 (trN x turn : Nat)) ∧ w' = w) := fun w => by
    have := grot_any x (-8 * (turn % 4)) w hx
    rwa [tr_rot x turn hx] at this
  have tlt := trN_lt x turn hx
  generalize trN x turn = t at *
  generalize hTT : turn % 4 = TT at *
  generalize hT8 : -8 * TT = T8 at *
  clear hTT
  have v1 : IntKind.i16.wrap (t : Int) = ((t : Int) % 65536 - 65536) := by simp only [IntKind.wrap, IntKind.bits, IntKind.signed]; simp; omega
  have v2 : IntKind.u32.wrap ((t : Int) % 65536 - 65536) = ((t : Int) % 65536 + 4294901760) := by rw [IntKind.wrap_u32']; omega
  have v4 : IntKind.u32.wrap (IntKind.i16.wrap (t : Int)) = ((t : Int) % 65536 + 4294901760) := by rw [v1, v2]
  have v5 : IntKind.i16.wrap (t : Int) % 4294967296 = ((t : Int) % 65536 + 4294901760) := by rw [← v4, IntKind.wrap_u32']
  have v5 : Hid _ := v5
  clear v4 v1
  generalize (t : Int) % 65536 + 4294901760 = VV at *
  clear v2
  go_enter Try.func24, Try.ntmps24
  go_wp2_with (go_at_call 34; refine (HR.out _).mono ?_; rintro e w' ⟨rfl, rfl⟩)
  exact bodyPost_ret (v := .tuple #[.int .u32 VV, .bool true]) (by simp [results, Try.results24, go_sem, v5.out]) rfl ⟨rfl, rfl⟩
set_option maxRecDepth 100000 in
set_option maxHeartbeats 1000000 in
theorem gsmall_no (op : Int) (x : Nat) (turn : Int) (w : World) (hx : x < 4294967296) (ho : ¬ (25 ≤ op ∧ op ≤ 30)) :
    Calls Try.prog 24 #[.int .i64 op, .int .u32 x, .int .i64 turn] w fun e w' => e = .returned (.tuple #[.int .u32 0, .bool false]) ∧ w' = w := by
  have h3 := i64_and3 turn
  have w1 : IntKind.i64.wrap (-8 * (turn % 4)) = -8 * (turn % 4) := by rw [IntKind.wrap_i64]; omega
  have HR : Hid (∀ w, Calls Try.prog 34 #[.int .u32 x, .int .i64 (-8 * (turn % 4))] w fun e w' => e = .returned (.int .u32 (trN x turn : Nat)) ∧ w' = w) := fun w => by
    have := grot_any x (-8 * (turn % 4)) w hx
    rwa [tr_rot x turn hx] at this
  have tlt := trN_lt x turn hx
  generalize trN x turn = t at *
  generalize hTT : turn % 4 = TT at *
  generalize hT8 : -8 * TT = T8 at *
  clear hTT
  have z25 : (op == 25) = false := by simp; omega
  have z26 : (op == 26) = false := by simp; omega
  have z27 : (op == 27) = false := by simp; omega
  have z28 : (op == 28) = false := by simp; omega
  have z29 : (op == 29) = false := by simp; omega
  have z30 : (op == 30) = false := by simp; omega
  clear ho
  go_enter Try.func24, Try.ntmps24
  go_wp2_with (go_at_call 34; refine (HR.out _).mono ?_; rintro e w' ⟨rfl, rfl⟩)
  exact bodyPost_ret (v := .tuple #[.int .u32 0, .bool false]) (by simp [results, Try.results24, go_sem]) rfl ⟨rfl, rfl⟩
theorem gsmall_all (op : Int) (x : Nat) (turn : Int) (w : World) (hx : x < 4294967296) :
    Calls Try.prog 24 #[.int .i64 op, .int .u32 x, .int .i64 turn] w fun e w' => e = .returned (.tuple #[.int .u32 (smW op x turn), .bool (smO op)]) ∧ w' = w := by
  by_cases ho : 25 ≤ op ∧ op ≤ 30
  · rcases (show op = 25 ∨ op = 26 ∨ op = 27 ∨ op = 28 ∨ op = 29 ∨ op = 30 by omega) with rfl | rfl | rfl | rfl | rfl | rfl
    · exact gsmall_25 x turn w hx
    · exact gsmall_26 x turn w hx
    · exact gsmall_27 x turn w hx
    · exact gsmall_28 x turn w hx
    · by_cases hn : (trN x turn : Int) % 256 < 128
      · have := gsmall_29n x turn w hx hn
        rwa [show smW 29 x turn = (trN x turn : Int) % 256 by simp [smW, hn]]
      · have := gsmall_29y x turn w hx (by omega)
        rwa [show smW 29 x turn = (trN x turn : Int) % 256 + 4294967040 by simp [smW, hn]]
    · by_cases hn : (trN x turn : Int) % 65536 < 32768
      · have := gsmall_30n x turn w hx hn
        rwa [show smW 30 x turn = (trN x turn : Int) % 65536 by simp [smW, hn]]
      · have := gsmall_30y x turn w hx (by omega)
        rwa [show smW 30 x turn = (trN x turn : Int) % 65536 + 4294901760 by simp [smW, hn]]
  · have := gsmall_no op x turn w hx ho
    rwa [show smW op x turn = 0 by unfold smW; (repeat rw [if_neg (by omega)]), show smO op = false from decide_eq_false ho]
theorem gsmall_any (op : Int) (x : Nat) (turn : Int) (w : World) (hx : x < 4294967296) :
    Calls Try.prog 24 #[.int .i64 op, .int .u32 x, .int .i64 turn] w fun e w' => e = .returned (.tuple #[.int .u32 (smW op x turn), .bool (smO op)]) ∧ Below w.heap.size w w' := by
  refine (gsmall_all op x turn w hx).mono ?_
  rintro e w' ⟨rfl, rfl⟩
  exact ⟨rfl, Below.refl _ _⟩
end Go.Proofs.Ytdelcknpaldngab
