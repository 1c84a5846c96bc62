import Derived.Test.YtcpcmjmgiagnoaaDoorFl
namespace Go.Proofs.YtcpcmjmgiagnoaaDoor
open Go.RowKit
set_option linter.unusedVariables false
set_option linter.unusedSimpArgs false
theorem flT (x : Int) (k : Nat) (hk : k < 32) (hx : 0 ≤ x ∧ x < 4294967296) (h4 : x % 4 = 1) : m1v x = m1v (fl x k) ↔ 4294966763 / 2 ^ k % 2 = 0 := by
  rcases split32 hk with rfl | rfl | rfl | rfl | rfl | rfl | rfl | rfl | rfl | rfl | rfl | rfl | rfl | rfl | rfl | rfl | rfl | rfl | rfl | rfl | rfl | rfl | rfl | rfl | rfl | rfl | rfl | rfl | rfl | rfl | rfl | rfl
  · rw [show (4294966763 : Nat) / 2 ^ 0 % 2 = 1 from rfl]
    rcases (show x / 1 % 2 = 0 ∨ x / 1 % 2 = 1 by omega) with hb | hb
    · rw [show fl x 0 = x + 1 from (if_neg (by show ¬ (x / 1 % 2 = 1); omega))]
      exact ⟨fun e => absurd e (m1_ne x _ (.inl h4) (by omega)), fun e => by omega⟩
    · rw [show fl x 0 = x - 1 from (if_pos hb)]
      exact ⟨fun e => absurd e (m1_ne x _ (.inl h4) (by omega)), fun e => by omega⟩
  · rw [show (4294966763 : Nat) / 2 ^ 1 % 2 = 1 from rfl]
    rcases (show x / 2 % 2 = 0 ∨ x / 2 % 2 = 1 by omega) with hb | hb
    · rw [show fl x 1 = x + 2 from (if_neg (by show ¬ (x / 2 % 2 = 1); omega))]
      exact ⟨fun e => absurd e (m1_ne x _ (.inl h4) (by omega)), fun e => by omega⟩
    · rw [show fl x 1 = x - 2 from (if_pos hb)]
      exact ⟨fun e => absurd e (m1_ne x _ (.inl h4) (by omega)), fun e => by omega⟩
  · rw [show (4294966763 : Nat) / 2 ^ 2 % 2 = 0 from rfl]
    rcases (show x / 4 % 2 = 0 ∨ x / 4 % 2 = 1 by omega) with hb | hb
    · rw [show fl x 2 = x + 4 from (if_neg (by show ¬ (x / 4 % 2 = 1); omega))]
      rw [m1T x h4, m1T (x + 4) (by omega)]
      omega
    · rw [show fl x 2 = x - 4 from (if_pos hb)]
      rw [m1T x h4, m1T (x - 4) (by omega)]
      omega
  · rw [show (4294966763 : Nat) / 2 ^ 3 % 2 = 1 from rfl]
    rcases (show x / 8 % 2 = 0 ∨ x / 8 % 2 = 1 by omega) with hb | hb
    · rw [show fl x 3 = x + 8 from (if_neg (by show ¬ (x / 8 % 2 = 1); omega))]
      rw [m1T x h4, m1T (x + 8) (by omega)]
      omega
    · rw [show fl x 3 = x - 8 from (if_pos hb)]
      rw [m1T x h4, m1T (x - 8) (by omega)]
      omega
  · rw [show (4294966763 : Nat) / 2 ^ 4 % 2 = 0 from rfl]
    rcases (show x / 16 % 2 = 0 ∨ x / 16 % 2 = 1 by omega) with hb | hb
    · rw [show fl x 4 = x + 16 from (if_neg (by show ¬ (x / 16 % 2 = 1); omega))]
      rw [m1T x h4, m1T (x + 16) (by omega)]
      omega
    · rw [show fl x 4 = x - 16 from (if_pos hb)]
      rw [m1T x h4, m1T (x - 16) (by omega)]
      omega
  · rw [show (4294966763 : Nat) / 2 ^ 5 % 2 = 1 from rfl]
    rcases (show x / 32 % 2 = 0 ∨ x / 32 % 2 = 1 by omega) with hb | hb
    · rw [show fl x 5 = x + 32 from (if_neg (by show ¬ (x / 32 % 2 = 1); omega))]
      rw [m1T x h4, m1T (x + 32) (by omega)]
      omega
    · rw [show fl x 5 = x - 32 from (if_pos hb)]
      rw [m1T x h4, m1T (x - 32) (by omega)]
      omega
  · rw [show (4294966763 : Nat) / 2 ^ 6 % 2 = 1 from rfl]
    rcases (show x / 64 % 2 = 0 ∨ x / 64 % 2 = 1 by omega) with hb | hb
    · rw [show fl x 6 = x + 64 from (if_neg (by show ¬ (x / 64 % 2 = 1); omega))]
      rw [m1T x h4, m1T (x + 64) (by omega)]
      omega
    · rw [show fl x 6 = x - 64 from (if_pos hb)]
      rw [m1T x h4, m1T (x - 64) (by omega)]
      omega
  · rw [show (4294966763 : Nat) / 2 ^ 7 % 2 = 1 from rfl]
    rcases (show x / 128 % 2 = 0 ∨ x / 128 % 2 = 1 by omega) with hb | hb
    · rw [show fl x 7 = x + 128 from (if_neg (by show ¬ (x / 128 % 2 = 1); omega))]
      rw [m1T x h4, m1T (x + 128) (by omega)]
      omega
    · rw [show fl x 7 = x - 128 from (if_pos hb)]
      rw [m1T x h4, m1T (x - 128) (by omega)]
      omega
  · rw [show (4294966763 : Nat) / 2 ^ 8 % 2 = 1 from rfl]
    rcases (show x / 256 % 2 = 0 ∨ x / 256 % 2 = 1 by omega) with hb | hb
    · rw [show fl x 8 = x + 256 from (if_neg (by show ¬ (x / 256 % 2 = 1); omega))]
      rw [m1T x h4, m1T (x + 256) (by omega)]
      omega
    · rw [show fl x 8 = x - 256 from (if_pos hb)]
      rw [m1T x h4, m1T (x - 256) (by omega)]
      omega
  · rw [show (4294966763 : Nat) / 2 ^ 9 % 2 = 0 from rfl]
    rcases (show x / 512 % 2 = 0 ∨ x / 512 % 2 = 1 by omega) with hb | hb
    · rw [show fl x 9 = x + 512 from (if_neg (by show ¬ (x / 512 % 2 = 1); omega))]
      rw [m1T x h4, m1T (x + 512) (by omega)]
      omega
    · rw [show fl x 9 = x - 512 from (if_pos hb)]
      rw [m1T x h4, m1T (x - 512) (by omega)]
      omega
  · rw [show (4294966763 : Nat) / 2 ^ 10 % 2 = 1 from rfl]
    rcases (show x / 1024 % 2 = 0 ∨ x / 1024 % 2 = 1 by omega) with hb | hb
    · rw [show fl x 10 = x + 1024 from (if_neg (by show ¬ (x / 1024 % 2 = 1); omega))]
      rw [m1T x h4, m1T (x + 1024) (by omega)]
      omega
    · rw [show fl x 10 = x - 1024 from (if_pos hb)]
      rw [m1T x h4, m1T (x - 1024) (by omega)]
      omega
  · rw [show (4294966763 : Nat) / 2 ^ 11 % 2 = 1 from rfl]
    rcases (show x / 2048 % 2 = 0 ∨ x / 2048 % 2 = 1 by omega) with hb | hb
    · rw [show fl x 11 = x + 2048 from (if_neg (by show ¬ (x / 2048 % 2 = 1); omega))]
      rw [m1T x h4, m1T (x + 2048) (by omega)]
      omega
    · rw [show fl x 11 = x - 2048 from (if_pos hb)]
      rw [m1T x h4, m1T (x - 2048) (by omega)]
      omega
  · rw [show (4294966763 : Nat) / 2 ^ 12 % 2 = 1 from rfl]
    rcases (show x / 4096 % 2 = 0 ∨ x / 4096 % 2 = 1 by omega) with hb | hb
    · rw [show fl x 12 = x + 4096 from (if_neg (by show ¬ (x / 4096 % 2 = 1); omega))]
      rw [m1T x h4, m1T (x + 4096) (by omega)]
      omega
    · rw [show fl x 12 = x - 4096 from (if_pos hb)]
      rw [m1T x h4, m1T (x - 4096) (by omega)]
      omega
  · rw [show (4294966763 : Nat) / 2 ^ 13 % 2 = 1 from rfl]
    rcases (show x / 8192 % 2 = 0 ∨ x / 8192 % 2 = 1 by omega) with hb | hb
    · rw [show fl x 13 = x + 8192 from (if_neg (by show ¬ (x / 8192 % 2 = 1); omega))]
      rw [m1T x h4, m1T (x + 8192) (by omega)]
      omega
    · rw [show fl x 13 = x - 8192 from (if_pos hb)]
      rw [m1T x h4, m1T (x - 8192) (by omega)]
      omega
  · rw [show (4294966763 : Nat) / 2 ^ 14 % 2 = 1 from rfl]
    rcases (show x / 16384 % 2 = 0 ∨ x / 16384 % 2 = 1 by omega) with hb | hb
    · rw [show fl x 14 = x + 16384 from (if_neg (by show ¬ (x / 16384 % 2 = 1); omega))]
      rw [m1T x h4, m1T (x + 16384) (by omega)]
      omega
    · rw [show fl x 14 = x - 16384 from (if_pos hb)]
      rw [m1T x h4, m1T (x - 16384) (by omega)]
      omega
  · rw [show (4294966763 : Nat) / 2 ^ 15 % 2 = 1 from rfl]
    rcases (show x / 32768 % 2 = 0 ∨ x / 32768 % 2 = 1 by omega) with hb | hb
    · rw [show fl x 15 = x + 32768 from (if_neg (by show ¬ (x / 32768 % 2 = 1); omega))]
      rw [m1T x h4, m1T (x + 32768) (by omega)]
      omega
    · rw [show fl x 15 = x - 32768 from (if_pos hb)]
      rw [m1T x h4, m1T (x - 32768) (by omega)]
      omega
  · rw [show (4294966763 : Nat) / 2 ^ 16 % 2 = 1 from rfl]
    rcases (show x / 65536 % 2 = 0 ∨ x / 65536 % 2 = 1 by omega) with hb | hb
    · rw [show fl x 16 = x + 65536 from (if_neg (by show ¬ (x / 65536 % 2 = 1); omega))]
      rw [m1T x h4, m1T (x + 65536) (by omega)]
      omega
    · rw [show fl x 16 = x - 65536 from (if_pos hb)]
      rw [m1T x h4, m1T (x - 65536) (by omega)]
      omega
  · rw [show (4294966763 : Nat) / 2 ^ 17 % 2 = 1 from rfl]
    rcases (show x / 131072 % 2 = 0 ∨ x / 131072 % 2 = 1 by omega) with hb | hb
    · rw [show fl x 17 = x + 131072 from (if_neg (by show ¬ (x / 131072 % 2 = 1); omega))]
      rw [m1T x h4, m1T (x + 131072) (by omega)]
      omega
    · rw [show fl x 17 = x - 131072 from (if_pos hb)]
      rw [m1T x h4, m1T (x - 131072) (by omega)]
      omega
  · rw [show (4294966763 : Nat) / 2 ^ 18 % 2 = 1 from rfl]
    rcases (show x / 262144 % 2 = 0 ∨ x / 262144 % 2 = 1 by omega) with hb | hb
    · rw [show fl x 18 = x + 262144 from (if_neg (by show ¬ (x / 262144 % 2 = 1); omega))]
      rw [m1T x h4, m1T (x + 262144) (by omega)]
      omega
    · rw [show fl x 18 = x - 262144 from (if_pos hb)]
      rw [m1T x h4, m1T (x - 262144) (by omega)]
      omega
  · rw [show (4294966763 : Nat) / 2 ^ 19 % 2 = 1 from rfl]
    rcases (show x / 524288 % 2 = 0 ∨ x / 524288 % 2 = 1 by omega) with hb | hb
    · rw [show fl x 19 = x + 524288 from (if_neg (by show ¬ (x / 524288 % 2 = 1); omega))]
      rw [m1T x h4, m1T (x + 524288) (by omega)]
      omega
    · rw [show fl x 19 = x - 524288 from (if_pos hb)]
      rw [m1T x h4, m1T (x - 524288) (by omega)]
      omega
  · rw [show (4294966763 : Nat) / 2 ^ 20 % 2 = 1 from rfl]
    rcases (show x / 1048576 % 2 = 0 ∨ x / 1048576 % 2 = 1 by omega) with hb | hb
    · rw [show fl x 20 = x + 1048576 from (if_neg (by show ¬ (x / 1048576 % 2 = 1); omega))]
      rw [m1T x h4, m1T (x + 1048576) (by omega)]
      omega
    · rw [show fl x 20 = x - 1048576 from (if_pos hb)]
      rw [m1T x h4, m1T (x - 1048576) (by omega)]
      omega
  · rw [show (4294966763 : Nat) / 2 ^ 21 % 2 = 1 from rfl]
    rcases (show x / 2097152 % 2 = 0 ∨ x / 2097152 % 2 = 1 by omega) with hb | hb
    · rw [show fl x 21 = x + 2097152 from (if_neg (by show ¬ (x / 2097152 % 2 = 1); omega))]
      rw [m1T x h4, m1T (x + 2097152) (by omega)]
      omega
    · rw [show fl x 21 = x - 2097152 from (if_pos hb)]
      rw [m1T x h4, m1T (x - 2097152) (by omega)]
      omega
  · rw [show (4294966763 : Nat) / 2 ^ 22 % 2 = 1 from rfl]
    rcases (show x / 4194304 % 2 = 0 ∨ x / 4194304 % 2 = 1 by omega) with hb | hb
    · rw [show fl x 22 = x + 4194304 from (if_neg (by show ¬ (x / 4194304 % 2 = 1); omega))]
      rw [m1T x h4, m1T (x + 4194304) (by omega)]
      omega
    · rw [show fl x 22 = x - 4194304 from (if_pos hb)]
      rw [m1T x h4, m1T (x - 4194304) (by omega)]
      omega
  · rw [show (4294966763 : Nat) / 2 ^ 23 % 2 = 1 from rfl]
    rcases (show x / 8388608 % 2 = 0 ∨ x / 8388608 % 2 = 1 by omega) with hb | hb
    · rw [show fl x 23 = x + 8388608 from (if_neg (by show ¬ (x / 8388608 % 2 = 1); omega))]
      rw [m1T x h4, m1T (x + 8388608) (by omega)]
      omega
    · rw [show fl x 23 = x - 8388608 from (if_pos hb)]
      rw [m1T x h4, m1T (x - 8388608) (by omega)]
      omega
  · rw [show (4294966763 : Nat) / 2 ^ 24 % 2 = 1 from rfl]
    rcases (show x / 16777216 % 2 = 0 ∨ x / 16777216 % 2 = 1 by omega) with hb | hb
    · rw [show fl x 24 = x + 16777216 from (if_neg (by show ¬ (x / 16777216 % 2 = 1); omega))]
      rw [m1T x h4, m1T (x + 16777216) (by omega)]
      omega
    · rw [show fl x 24 = x - 16777216 from (if_pos hb)]
      rw [m1T x h4, m1T (x - 16777216) (by omega)]
      omega
  · rw [show (4294966763 : Nat) / 2 ^ 25 % 2 = 1 from rfl]
    rcases (show x / 33554432 % 2 = 0 ∨ x / 33554432 % 2 = 1 by omega) with hb | hb
    · rw [show fl x 25 = x + 33554432 from (if_neg (by show ¬ (x / 33554432 % 2 = 1); omega))]
      rw [m1T x h4, m1T (x + 33554432) (by omega)]
      omega
    · rw [show fl x 25 = x - 33554432 from (if_pos hb)]
      rw [m1T x h4, m1T (x - 33554432) (by omega)]
      omega
  · rw [show (4294966763 : Nat) / 2 ^ 26 % 2 = 1 from rfl]
    rcases (show x / 67108864 % 2 = 0 ∨ x / 67108864 % 2 = 1 by omega) with hb | hb
    · rw [show fl x 26 = x + 67108864 from (if_neg (by show ¬ (x / 67108864 % 2 = 1); omega))]
      rw [m1T x h4, m1T (x + 67108864) (by omega)]
      omega
    · rw [show fl x 26 = x - 67108864 from (if_pos hb)]
      rw [m1T x h4, m1T (x - 67108864) (by omega)]
      omega
  · rw [show (4294966763 : Nat) / 2 ^ 27 % 2 = 1 from rfl]
    rcases (show x / 134217728 % 2 = 0 ∨ x / 134217728 % 2 = 1 by omega) with hb | hb
    · rw [show fl x 27 = x + 134217728 from (if_neg (by show ¬ (x / 134217728 % 2 = 1); omega))]
      rw [m1T x h4, m1T (x + 134217728) (by omega)]
      omega
    · rw [show fl x 27 = x - 134217728 from (if_pos hb)]
      rw [m1T x h4, m1T (x - 134217728) (by omega)]
      omega
  · rw [show (4294966763 : Nat) / 2 ^ 28 % 2 = 1 from rfl]
    rcases (show x / 268435456 % 2 = 0 ∨ x / 268435456 % 2 = 1 by omega) with hb | hb
    · rw [show fl x 28 = x + 268435456 from (if_neg (by show ¬ (x / 268435456 % 2 = 1); omega))]
      rw [m1T x h4, m1T (x + 268435456) (by omega)]
      omega
    · rw [show fl x 28 = x - 268435456 from (if_pos hb)]
      rw [m1T x h4, m1T (x - 268435456) (by omega)]
      omega
  · rw [show (4294966763 : Nat) / 2 ^ 29 % 2 = 1 from rfl]
    rcases (show x / 536870912 % 2 = 0 ∨ x / 536870912 % 2 = 1 by omega) with hb | hb
    · rw [show fl x 29 = x + 536870912 from (if_neg (by show ¬ (x / 536870912 % 2 = 1); omega))]
      rw [m1T x h4, m1T (x + 536870912) (by omega)]
      omega
    · rw [show fl x 29 = x - 536870912 from (if_pos hb)]
      rw [m1T x h4, m1T (x - 536870912) (by omega)]
      omega
  · rw [show (4294966763 : Nat) / 2 ^ 30 % 2 = 1 from rfl]
    rcases (show x / 1073741824 % 2 = 0 ∨ x / 1073741824 % 2 = 1 by omega) with hb | hb
    · rw [show fl x 30 = x + 1073741824 from (if_neg (by show ¬ (x / 1073741824 % 2 = 1); omega))]
      rw [m1T x h4, m1T (x + 1073741824) (by omega)]
      omega
    · rw [show fl x 30 = x - 1073741824 from (if_pos hb)]
      rw [m1T x h4, m1T (x - 1073741824) (by omega)]
      omega
  · rw [show (4294966763 : Nat) / 2 ^ 31 % 2 = 1 from rfl]
    rcases (show x / 2147483648 % 2 = 0 ∨ x / 2147483648 % 2 = 1 by omega) with hb | hb
    · rw [show fl x 31 = x + 2147483648 from (if_neg (by show ¬ (x / 2147483648 % 2 = 1); omega))]
      rw [m1T x h4, m1T (x + 2147483648) (by omega)]
      omega
    · rw [show fl x 31 = x - 2147483648 from (if_pos hb)]
      rw [m1T x h4, m1T (x - 2147483648) (by omega)]
      omega
end Go.Proofs.YtcpcmjmgiagnoaaDoor
