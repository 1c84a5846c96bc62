import Derived.Test.YtfgfjodajjfbaaaDoorProg
import Derived.Test.YtfgfjodajjfbaaaDoorPlD
import Derived.WalkKit
import Derived.ProofKit
import Derived.Outline
import Derived.Deep.QuietTactic
import Derived.BigQuiet
namespace Go.Proofs.YtfgfjodajjfbaaaDoor
open Go.RowKit
set_option linter.unusedVariables false

theorem ret_bool {a b : Bool} (h : a = b) : Ending.returned (.bool a) = .returned (.bool b) := by rw [h]
theorem ret_int {k : IntKind} {a b : Int} (h : a = b) : Ending.returned (.int k a) = .returned (.int k b) := by rw [h]
theorem ret_ints {k l : IntKind} {a b c d : Int} (h : a = b) (g : c = d) : Ending.returned (.tuple #[.int k a, .int l c]) = .returned (.tuple #[.int k b, .int l d]) := by rw [h, g]

set_option maxRecDepth 100000 in
set_option maxHeartbeats 400000 in
theorem tail_any (s : ByteArray) (i : Int) (w : World) (h0 : 0 ≤ i) (hs : s.size ≤ 4611686018427387904) (hi : i ≤ 4611686018427387999) :
    Calls Tryd.prog 48 #[.string s, .int .i64 i] w fun e w' => e = .returned (.bool (tl s i.toNat)) ∧ w' = w := by
  obtain ⟨n, rfl⟩ := Int.eq_ofNat_of_zero_le h0
  rw [Int.toNat_natCast]
  by_cases h : n < s.size
  · have hb := bt_get s n h
    go_enter Tryd.func48, Tryd.ntmps48
    go_wp2
    all_goals
      go_ret
      exact ⟨ret_bool (by rw [Bool.eq_iff_iff]; simp [tl, h]; omega), rfl⟩
  · have hd : decide ((n : Int) < (s.size : Int)) = false := by simp; omega
    go_enter Tryd.func48, Tryd.ntmps48
    go_wp2
    go_ret
    exact ⟨ret_bool (by simp [tl, h]), rfl⟩

def RuneSaid (s : ByteArray) (n : Nat) (w : World) : Prop :=
  Calls Tryd.prog 31 #[.string s, .int .i64 n] w fun e w' => e = .returned (.tuple #[.int .i64 (rr s n), .int .i64 (rl s n)]) ∧ ∃ q, w' = w.drewN q

set_option maxRecDepth 100000 in
set_option maxHeartbeats 400000 in
theorem rune_1 (s : ByteArray) (n : Nat) (w : World) (h : n < s.size) (hs : s.size ≤ 4611686018427387904) (hc : bt s n < 128) : RuneSaid s n w := by
  unfold RuneSaid
  have hb := bt_get s n h
  have hr := rune1 hc
  rw [hr.1, hr.2]
  clear hr
  go_enter Tryd.func31, Tryd.ntmps31
  go_wp2
  go_ret2
  exact ⟨rfl, 0, rfl⟩

set_option maxRecDepth 100000 in
set_option maxHeartbeats 400000 in
theorem rune_2 (s : ByteArray) (n : Nat) (w : World) (h : n < s.size) (hs : s.size ≤ 4611686018427387904) (h1 : 194 ≤ bt s n) (h2 : bt s n ≤ 223) : RuneSaid s n w := by
  unfold RuneSaid
  have hb := bt_get s n h
  cases ht : tl s (n + 1)
  · have hr := rune2n h1 h2 ht
    rw [hr.1, hr.2]
    clear hr
    have HT : Hid (_ = _) := ht
    clear ht
    go_enter Tryd.func31, Tryd.ntmps31
    go_wp2_with (go_at_call 48; refine (tail_any _ _ _ (by omega) hs (by omega)).mono ?_; rintro e w' ⟨rfl, rfl⟩; rw [show ((n : Int) + 1).toNat = n + 1 from by omega, HT.out])
    go_ret2
    exact ⟨rfl, 0, rfl⟩
  · have hr := rune2 h1 h2 ht
    rw [hr.1, hr.2]
    clear hr
    have hin := (tl_bd ht).2.2
    have hb1 := bt_get s (n + 1) hin
    have hl1 := bt_lt s (n + 1)
    have HT : Hid (_ = _) := ht
    clear ht
    go_enter Tryd.func31, Tryd.ntmps31
    go_wp2_with (go_at_call 48; refine (tail_any _ _ _ (by omega) hs (by omega)).mono ?_; rintro e w' ⟨rfl, rfl⟩; rw [show ((n : Int) + 1).toNat = n + 1 from by omega, HT.out])
    go_ret2
    exact ⟨rfl, 0, rfl⟩

set_option maxRecDepth 100000 in
set_option maxHeartbeats 400000 in
theorem rune_N (s : ByteArray) (n : Nat) (w : World) (h : n < s.size) (hs : s.size ≤ 4611686018427387904) (h1 : 128 ≤ bt s n) (h2 : bt s n < 194 ∨ 244 < bt s n) : RuneSaid s n w := by
  unfold RuneSaid
  have hb := bt_get s n h
  have hl := bt_lt s n
  have hr := runeN h1 h2
  rw [hr.1, hr.2]
  clear hr
  rcases h2 with h2 | h2
  all_goals
    go_enter Tryd.func31, Tryd.ntmps31
    go_wp2
    go_ret2
    exact ⟨rfl, 0, rfl⟩

set_option maxRecDepth 100000 in
set_option maxHeartbeats 400000 in
theorem rune_3f (s : ByteArray) (n : Nat) (w : World) (h : n < s.size) (hs : s.size ≤ 4611686018427387904) (h1 : 224 ≤ bt s n) (h2 : bt s n ≤ 239) (ht : tl s (n + 1) = false ∨ tl s (n + 2) = false) : RuneSaid s n w := by
  unfold RuneSaid
  have hb := bt_get s n h
  have hr := rune3n h1 h2 (by rcases ht with h | h; exact .inl h; exact .inr (.inl h))
  rw [hr.1, hr.2]
  clear hr
  cases ht1 : tl s (n + 1)
  · have HT : Hid (_ = _) := ht1
    clear ht ht1
    go_enter Tryd.func31, Tryd.ntmps31
    go_wp2_with (go_at_call 48; refine (tail_any _ _ _ (by omega) hs (by omega)).mono ?_; rintro e w' ⟨rfl, rfl⟩; rw [show ((n : Int) + 1).toNat = n + 1 from by omega, HT.out])
    go_ret2
    exact ⟨rfl, 0, rfl⟩
  · have ht2 : tl s (n + 2) = false := by simpa [ht1] using ht
    have HT1 : Hid (_ = _) := ht1
    have HT2 : Hid (_ = _) := ht2
    clear ht ht1 ht2
    go_enter Tryd.func31, Tryd.ntmps31
    go_wp2_with fail
    refine (tail_any _ _ _ (by omega) hs (by omega)).mono ?_
    rintro e w' ⟨rfl, rfl⟩
    rw [show ((n : Int) + 1).toNat = n + 1 from by omega, HT1.out]
    go_wp2_with fail
    refine (tail_any _ _ _ (by omega) hs (by omega)).mono ?_
    rintro e w' ⟨rfl, rfl⟩
    rw [show ((n : Int) + 2).toNat = n + 2 from by omega, HT2.out]
    go_wp2_with fail
    go_ret2
    exact ⟨rfl, 0, rfl⟩

set_option maxRecDepth 100000 in
set_option maxHeartbeats 400000 in
theorem rune_3t (s : ByteArray) (n : Nat) (w : World) (h : n < s.size) (hs : s.size ≤ 4611686018427387904) (h1 : 224 ≤ bt s n) (h2 : bt s n ≤ 239) (ht1 : tl s (n + 1) = true) (ht2 : tl s (n + 2) = true) : RuneSaid s n w := by
  unfold RuneSaid
  have hb := bt_get s n h
  obtain ⟨a1, c1, i1⟩ := tl_bd ht1
  obtain ⟨a2, c2, i2⟩ := tl_bd ht2
  have hb1 := bt_get s (n + 1) i1
  have hb2 := bt_get s (n + 2) i2
  have j1 : (n : Int) + 1 < (s.size : Int) := by omega
  have j2 : (n : Int) + 2 < (s.size : Int) := by omega
  have k1 : (0 : Int) ≤ (n : Int) + 1 := by omega
  have k2 : (0 : Int) ≤ (n : Int) + 2 := by omega
  have HQ : Hid (∀ r : Int, r = ((bt s n : Int) - 224) * 4096 + ((bt s (n + 1) : Int) - 128) * 64 + (bt s (n + 2) : Int) - 128 → ((2048 ≤ r ∧ (r < 55296 ∨ 57343 < r)) ∧ rr s n = r ∧ rl s n = 3) ∨ (¬ (2048 ≤ r ∧ (r < 55296 ∨ 57343 < r)) ∧ rr s n = -1 ∧ rl s n = 1)) := by
    rintro r rfl
    by_cases hc : 2048 ≤ ((bt s n : Int) - 224) * 4096 + ((bt s (n + 1) : Int) - 128) * 64 + (bt s (n + 2) : Int) - 128 ∧ (((bt s n : Int) - 224) * 4096 + ((bt s (n + 1) : Int) - 128) * 64 + (bt s (n + 2) : Int) - 128 < 55296 ∨ 57343 < ((bt s n : Int) - 224) * 4096 + ((bt s (n + 1) : Int) - 128) * 64 + (bt s (n + 2) : Int) - 128)
    · exact .inl ⟨hc, rune3 h1 h2 ht1 ht2 _ rfl hc⟩
    · exact .inr ⟨hc, rune3n h1 h2 (.inr (.inr hc))⟩
  have HT1 : Hid (_ = _) := ht1
  have HT2 : Hid (_ = _) := ht2
  clear ht1 ht2
  go_enter Tryd.func31, Tryd.ntmps31
  go_wp2_with fail
  refine (tail_any _ _ _ (by omega) hs (by omega)).mono ?_
  rintro e w' ⟨rfl, rfl⟩
  rw [show ((n : Int) + 1).toNat = n + 1 from by omega, HT1.out]
  go_wp2_with fail
  refine (tail_any _ _ _ (by omega) hs (by omega)).mono ?_
  rintro e w' ⟨rfl, rfl⟩
  rw [show ((n : Int) + 2).toNat = n + 2 from by omega, HT2.out]
  go_wp2_with fail
  go_quiet (fail)
  go_wp2
  all_goals
    go_ret2
    rcases HQ.out _ rfl with ⟨hc, e1, e2⟩ | ⟨hc, e1, e2⟩
    all_goals
      rw [e1, e2]
      clear e1 e2
      first
        | (exfalso; omega)
        | exact ⟨ret_ints rfl rfl, _, rfl⟩

set_option maxRecDepth 100000 in
set_option maxHeartbeats 400000 in
theorem rune_4a (s : ByteArray) (n : Nat) (w : World) (h : n < s.size) (hs : s.size ≤ 4611686018427387904) (h1 : 240 ≤ bt s n) (h2 : bt s n ≤ 244) (ht1 : tl s (n + 1) = false) : RuneSaid s n w := by
  unfold RuneSaid
  have hb := bt_get s n h
  have hr := rune4n h1 h2 (.inl ht1)
  rw [hr.1, hr.2]
  have HT1 : Hid (_ = _) := ht1
  clear hr ht1
  go_enter Tryd.func31, Tryd.ntmps31
  go_wp2_with fail
  refine (tail_any _ _ _ (by omega) hs (by omega)).mono ?_
  rintro e w' ⟨rfl, rfl⟩
  rw [show ((n : Int) + 1).toNat = n + 1 from by omega, HT1.out]
  go_wp2_with fail
  go_ret2
  exact ⟨rfl, 0, rfl⟩

set_option maxRecDepth 100000 in
set_option maxHeartbeats 400000 in
theorem rune_4b (s : ByteArray) (n : Nat) (w : World) (h : n < s.size) (hs : s.size ≤ 4611686018427387904) (h1 : 240 ≤ bt s n) (h2 : bt s n ≤ 244) (ht1 : tl s (n + 1) = true) (ht2 : tl s (n + 2) = false) : RuneSaid s n w := by
  unfold RuneSaid
  have hb := bt_get s n h
  have hr := rune4n h1 h2 (.inr (.inl ht2))
  rw [hr.1, hr.2]
  have HT1 : Hid (_ = _) := ht1
  have HT2 : Hid (_ = _) := ht2
  clear hr ht1 ht2
  go_enter Tryd.func31, Tryd.ntmps31
  go_wp2_with fail
  refine (tail_any _ _ _ (by omega) hs (by omega)).mono ?_
  rintro e w' ⟨rfl, rfl⟩
  rw [show ((n : Int) + 1).toNat = n + 1 from by omega, HT1.out]
  go_wp2_with fail
  refine (tail_any _ _ _ (by omega) hs (by omega)).mono ?_
  rintro e w' ⟨rfl, rfl⟩
  rw [show ((n : Int) + 2).toNat = n + 2 from by omega, HT2.out]
  go_wp2_with fail
  go_ret2
  exact ⟨rfl, 0, rfl⟩

set_option maxRecDepth 100000 in
set_option maxHeartbeats 400000 in
theorem rune_4c (s : ByteArray) (n : Nat) (w : World) (h : n < s.size) (hs : s.size ≤ 4611686018427387904) (h1 : 240 ≤ bt s n) (h2 : bt s n ≤ 244) (ht1 : tl s (n + 1) = true) (ht2 : tl s (n + 2) = true) (ht3 : tl s (n + 3) = false) : RuneSaid s n w := by
  unfold RuneSaid
  have hb := bt_get s n h
  have hr := rune4n h1 h2 (.inr (.inr (.inl ht3)))
  rw [hr.1, hr.2]
  have HT1 : Hid (_ = _) := ht1
  have HT2 : Hid (_ = _) := ht2
  have HT3 : Hid (_ = _) := ht3
  clear hr ht1 ht2 ht3
  go_enter Tryd.func31, Tryd.ntmps31
  go_wp2_with fail
  refine (tail_any _ _ _ (by omega) hs (by omega)).mono ?_
  rintro e w' ⟨rfl, rfl⟩
  rw [show ((n : Int) + 1).toNat = n + 1 from by omega, HT1.out]
  go_wp2_with fail
  refine (tail_any _ _ _ (by omega) hs (by omega)).mono ?_
  rintro e w' ⟨rfl, rfl⟩
  rw [show ((n : Int) + 2).toNat = n + 2 from by omega, HT2.out]
  go_wp2_with fail
  refine (tail_any _ _ _ (by omega) hs (by omega)).mono ?_
  rintro e w' ⟨rfl, rfl⟩
  rw [show ((n : Int) + 3).toNat = n + 3 from by omega, HT3.out]
  go_wp2_with fail
  go_ret2
  exact ⟨rfl, 0, rfl⟩

set_option maxRecDepth 100000 in
set_option maxHeartbeats 400000 in
theorem rune_4t (s : ByteArray) (n : Nat) (w : World) (h : n < s.size) (hs : s.size ≤ 4611686018427387904) (h1 : 240 ≤ bt s n) (h2 : bt s n ≤ 244) (ht1 : tl s (n + 1) = true) (ht2 : tl s (n + 2) = true) (ht3 : tl s (n + 3) = true) : RuneSaid s n w := by
  unfold RuneSaid
  have hb := bt_get s n h
  obtain ⟨a1, c1, i1⟩ := tl_bd ht1
  obtain ⟨a2, c2, i2⟩ := tl_bd ht2
  obtain ⟨a3, c3, i3⟩ := tl_bd ht3
  have hb1 := bt_get s (n + 1) i1
  have hb2 := bt_get s (n + 2) i2
  have hb3 := bt_get s (n + 3) i3
  have j1 : (n : Int) + 1 < (s.size : Int) := by omega
  have j2 : (n : Int) + 2 < (s.size : Int) := by omega
  have j3 : (n : Int) + 3 < (s.size : Int) := by omega
  have k1 : (0 : Int) ≤ (n : Int) + 1 := by omega
  have k2 : (0 : Int) ≤ (n : Int) + 2 := by omega
  have k3 : (0 : Int) ≤ (n : Int) + 3 := by omega
  have HQ : Hid (∀ r : Int, r = ((bt s n : Int) - 240) * 262144 + ((bt s (n + 1) : Int) - 128) * 4096 + ((bt s (n + 2) : Int) - 128) * 64 + (bt s (n + 3) : Int) - 128 → ((65536 ≤ r ∧ r ≤ 1114111) ∧ rr s n = r ∧ rl s n = 4) ∨ (¬ (65536 ≤ r ∧ r ≤ 1114111) ∧ rr s n = -1 ∧ rl s n = 1)) := by
    rintro r rfl
    by_cases hc : 65536 ≤ ((bt s n : Int) - 240) * 262144 + ((bt s (n + 1) : Int) - 128) * 4096 + ((bt s (n + 2) : Int) - 128) * 64 + (bt s (n + 3) : Int) - 128 ∧ ((bt s n : Int) - 240) * 262144 + ((bt s (n + 1) : Int) - 128) * 4096 + ((bt s (n + 2) : Int) - 128) * 64 + (bt s (n + 3) : Int) - 128 ≤ 1114111
    · exact .inl ⟨hc, rune4 h1 h2 ht1 ht2 ht3 _ rfl hc⟩
    · exact .inr ⟨hc, rune4n h1 h2 (.inr (.inr (.inr hc)))⟩
  have HT1 : Hid (_ = _) := ht1
  have HT2 : Hid (_ = _) := ht2
  have HT3 : Hid (_ = _) := ht3
  clear ht1 ht2 ht3
  go_enter Tryd.func31, Tryd.ntmps31
  go_wp2_with fail
  refine (tail_any _ _ _ (by omega) hs (by omega)).mono ?_
  rintro e w' ⟨rfl, rfl⟩
  rw [show ((n : Int) + 1).toNat = n + 1 from by omega, HT1.out]
  go_wp2_with fail
  refine (tail_any _ _ _ (by omega) hs (by omega)).mono ?_
  rintro e w' ⟨rfl, rfl⟩
  rw [show ((n : Int) + 2).toNat = n + 2 from by omega, HT2.out]
  go_wp2_with fail
  refine (tail_any _ _ _ (by omega) hs (by omega)).mono ?_
  rintro e w' ⟨rfl, rfl⟩
  rw [show ((n : Int) + 3).toNat = n + 3 from by omega, HT3.out]
  go_wp2_with fail
  go_quiet (fail)
  go_wp2
  all_goals
    go_ret2
    rcases HQ.out _ rfl with ⟨hc, e1, e2⟩ | ⟨hc, e1, e2⟩
    all_goals
      rw [e1, e2]
      clear e1 e2
      first
        | (exfalso; omega)
        | exact ⟨ret_ints rfl rfl, _, rfl⟩

/-- atlasref01.Rune: the rune that begins at a place, and its length. -/
theorem rune_any (s : ByteArray) (n : Nat) (w : World) (h : n < s.size) (hs : s.size ≤ 4611686018427387904) : RuneSaid s n w := by
  by_cases a1 : bt s n < 128
  · exact rune_1 s n w h hs a1
  by_cases a2 : bt s n < 194
  · exact rune_N s n w h hs (by omega) (.inl a2)
  by_cases a3 : bt s n ≤ 223
  · exact rune_2 s n w h hs (by omega) a3
  by_cases a4 : bt s n ≤ 239
  · cases t1 : tl s (n + 1)
    · exact rune_3f s n w h hs (by omega) a4 (.inl t1)
    cases t2 : tl s (n + 2)
    · exact rune_3f s n w h hs (by omega) a4 (.inr t2)
    exact rune_3t s n w h hs (by omega) a4 t1 t2
  by_cases a5 : bt s n ≤ 244
  · cases t1 : tl s (n + 1)
    · exact rune_4a s n w h hs (by omega) a5 t1
    cases t2 : tl s (n + 2)
    · exact rune_4b s n w h hs (by omega) a5 t1 t2
    cases t3 : tl s (n + 3)
    · exact rune_4c s n w h hs (by omega) a5 t1 t2 t3
    exact rune_4t s n w h hs (by omega) a5 t1 t2 t3
  · exact rune_N s n w h hs (by omega) (.inr (by omega))

end Go.Proofs.YtfgfjodajjfbaaaDoor
