import Derived.Test.YtlfgnbjioofplabPs
import Derived.Laws.BitsAllLaws
namespace Go.Proofs.Ytlfgnbjioofplab
open Go.RowKit
set_option linter.unusedVariables false

def valV (N : Nat) (m : Nat → Int) (pa w : Nat) : Int := if errV N pa w = 0 then num m pa w else 0

theorem or_nat (v b k : Nat) (hv : v < 2 ^ k) (hs : v + b * 2 ^ k < 4294967296) : bits BinOp.or IntKind.u32 (v : Int) ((b * 2 ^ k : Nat) : Int) = ((v + b * 2 ^ k : Nat) : Int) := by
  have h3 := Nat.shiftLeft_add_eq_or_of_lt hv b
  rw [Nat.shiftLeft_eq] at h3
  generalize b * 2 ^ k = t at *
  rw [u32_or_nat _ _ (by omega) (by omega), Nat.or_comm, ← h3, Nat.add_comm]
theorem or_sum (v b : Int) (k : Nat) (hv0 : 0 ≤ v) (hv : v < 2 ^ k) (hb : 0 ≤ b) (hs : v + b * 2 ^ k < 4294967296) : bits BinOp.or IntKind.u32 v (b * 2 ^ k) = v + b * 2 ^ k := by
  obtain ⟨v', rfl⟩ := Int.eq_ofNat_of_zero_le hv0
  obtain ⟨b', rfl⟩ := Int.eq_ofNat_of_zero_le hb
  have e2 : ((2 : Int) ^ k) = ((2 ^ k : Nat) : Int) := (Int.natCast_pow 2 k).symm
  rw [e2, ← Int.natCast_mul] at hs ⊢
  rw [e2] at hv
  rw [← Int.natCast_add] at hs ⊢
  exact or_nat v' b' k (Int.ofNat_lt.1 hv) (Int.ofNat_lt.1 hs)
theorem num_snoc (m : Nat → Int) (a k : Nat) : num m a (k + 1) = num m a k + m (a + k) * 256 ^ k := by
  induction k generalizing a with
  | zero => simp [num]
  | succ k ih =>
    rw [num, ih (a + 1), num, show a + 1 + k = a + (k + 1) by omega, Int.pow_succ]
    rw [Int.mul_add, Int.add_assoc]
    congr 1
    congr 1
    rw [Int.mul_comm (256 ^ k) 256, ← Int.mul_assoc, ← Int.mul_assoc, Int.mul_comm (m (a + (k + 1))) 256]

set_option maxHeartbeats 4000000 in
set_option maxRecDepth 100000 in
theorem value_some (W : World) (S : Nat → Prop) (p N : Nat) (m : Nat → Int) (pa w : Nat) (mb : Nat) (D : DataW Unit) (g : Nat → Option Nat) (h : PMx W S p N m mb D g) (hw : w = 1 ∨ w = 2 ∨ w = 4) (hp : pa < 18446744073709551616) (he : errV N pa w = 0) (fb : Nat) (hg : g (pa / 4096) = some fb) :
    Calls Try.prog 47 #[.pointer (some ⟨p, 0, none⟩), .int .u64 pa, .int .i64 w] W fun e W' => e = .returned (.tuple #[.int .u32 (num m pa w), .int .i64 0]) ∧ W = W' := by
  have hc0 := h.cell0
  have hc1 := h.cell1
  have hN := h.n2
  have hck := check_any W p N w pa hc0 hN hw hp
  rw [he] at hck
  obtain ⟨ha, hb⟩ := errV_ok hw he
  obtain ⟨f1, f2, f3⟩ := h.frm _ fb hg
  have hsp := split_any W pa hp
  have hnk : pa / 4096 ≤ 9223372036854775807 := by omega
  have hat : pa % 4096 + w ≤ 4096 := by rcases hw with rfl | rfl | rfl <;> omega
  have hcell : ∀ k, k < w → W.cell? ⟨fb, pa % 4096 + k, none⟩ = some (.int .u8 (m (pa + k))) := fun k hk => by
    rw [f1.cell, encF_eq]
    refine encC_at _ _ ?_
    rw [fr_at _ _ (by omega)]
    congr 2
    omega
  generalize hq : pa / 4096 = q at *
  generalize hr : pa % 4096 = r at *
  clear hq hr ha hb he
  have hwl : 1 ≤ w ∧ w ≤ 4 := by omega
  obtain ⟨hw1, hw2⟩ := hwl
  have HC : Hid (∀ k, k < w → W.cell? ⟨fb, r + k, none⟩ = some (.int .u8 (m (pa + k)))) := hcell
  clear hcell
  have hsl : (Instr.sliceAt 72 (Value.pointer (some ⟨fb, 0, none⟩)) (some (Value.int .i64 (r : Int))) (some (Value.int .i64 ((r : Int) + (w : Int)))) none).run Try.prog W = .ok (.slice (some ⟨fb, r, none⟩) w (4096 - r)) W := by
    have := sliceF W fb r ((r : Int) + (w : Int)) (by omega) (by omega) (by omega)
    rwa [show ((r : Int) + (w : Int)).toNat - r = w by omega] at this
  go_enter Try.func47, Try.ntmps47
  go_wp2_with (first
    | (at_lookup; refine wpl_look_some _ rfl _ _ rfl mb N D g q fb rfl h.own h.view hg hnk rfl ?_)
    | (go_at_call 62; refine hck.mono ?_; rintro e w1 ⟨rfl, rfl⟩)
    | (go_at_call 27; refine hsp.mono ?_; rintro e w1 ⟨rfl, rfl⟩)
    | go_in)
  go_loop [13, 48] (fun v i => ∃ k : Nat, k ≤ w ∧ i = .int .i64 k ∧ v = .int .u32 (num m pa k)) (fun _ i => w - (intOf i).toNat)
  case atStart => exact ⟨0, Nat.zero_le _, rfl, rfl⟩
  case round =>
    obtain ⟨k, hk, rfl, rfl⟩ := hrel
    by_cases hlt : k < w
    · have hc := HC.out k hlt
      have hbb := h.byts (pa + k)
      have hnb := num_bd h.byts k pa
      have HS : Hid (num m pa (k + 1) = num m pa k + m (pa + k) * 256 ^ k) := num_snoc m pa k
      generalize m (pa + k) = b at *
      generalize num m pa k = v at *
      have hk4 : k = 0 ∨ k = 1 ∨ k = 2 ∨ k = 3 := by omega
      rcases hk4 with rfl | rfl | rfl | rfl
      · simp only [Nat.add_zero] at hc
        go_wp2
        go_round
        case rel => exact ⟨1, by omega, by go_num, by rw [HS.out]; have := or_sum v b 0 (by omega) (by simpa using hnb.2) (by omega) (by simp; omega); simp at this; simp; exact this⟩
        case measure => simp [intOf]; omega
      · go_wp2
        go_round
        case rel => exact ⟨2, by omega, by go_num, by rw [HS.out]; have := or_sum v b 8 (by omega) (by simpa using hnb.2) (by omega) (by simp at hnb ⊢; omega); exact congrArg (Value.int .u32) this⟩
        case measure => simp [intOf]; omega
      · go_wp2
        go_round
        case rel => exact ⟨3, by omega, by go_num, by rw [HS.out]; have := or_sum v b 16 (by omega) (by simpa using hnb.2) (by omega) (by simp at hnb ⊢; omega); exact congrArg (Value.int .u32) this⟩
        case measure => simp [intOf]; omega
      · go_wp2
        go_round
        case rel => exact ⟨4, by omega, by go_num, by rw [HS.out]; have := or_sum v b 24 (by omega) (by simpa using hnb.2) (by omega) (by simp at hnb ⊢; omega); exact congrArg (Value.int .u32) this⟩
        case measure => simp [intOf]; omega
    · go_wp2
      go_ret2
      exact ⟨ret_ii (by rw [show k = w by omega]) rfl, rfl⟩

set_option maxHeartbeats 4000000 in
set_option maxRecDepth 100000 in
theorem value_none (W : World) (S : Nat → Prop) (p N : Nat) (m : Nat → Int) (pa w : Nat) (mb : Nat) (D : DataW Unit) (g : Nat → Option Nat) (h : PMx W S p N m mb D g) (hw : w = 1 ∨ w = 2 ∨ w = 4) (hp : pa < 18446744073709551616) (he : errV N pa w = 0) (hg : g (pa / 4096) = none) :
    Calls Try.prog 47 #[.pointer (some ⟨p, 0, none⟩), .int .u64 pa, .int .i64 w] W fun e W' => e = .returned (.tuple #[.int .u32 (num m pa w), .int .i64 0]) ∧ W = W' := by
  have hc0 := h.cell0
  have hc1 := h.cell1
  have hN := h.n2
  have hck := check_any W p N w pa hc0 hN hw hp
  rw [he] at hck
  obtain ⟨ha, hb⟩ := errV_ok hw he
  have hz := cnt_fr_zero.1 (h.out (pa / 4096) (by omega) hg)
  have hnum : num m pa w = 0 := by
    have hm : ∀ k, k < w → m (pa + k) = 0 := fun k hk => by
      have := hz (pa % 4096 + k) (by rcases hw with rfl | rfl | rfl <;> omega)
      rwa [show pa / 4096 * 4096 + (pa % 4096 + k) = pa + k by omega] at this
    have h0 := hm 0 (by omega)
    simp only [Nat.add_zero] at h0
    rcases hw with rfl | rfl | rfl
    · rw [num1, h0]
    · rw [num2, h0, hm 1 (by omega)]; rfl
    · rw [num4, h0, hm 1 (by omega), hm 2 (by omega), hm 3 (by omega)]; rfl
  rw [hnum]
  have hsp := split_any W pa hp
  have hnk : pa / 4096 ≤ 9223372036854775807 := by omega
  have hown := h.own
  have hview := h.view
  generalize hq : pa / 4096 = q at *
  generalize hr : pa % 4096 = r at *
  clear hq hr ha hb he hz
  go_enter Try.func47, Try.ntmps47
  go_wp2_with (first
    | (at_lookup; refine wpl_look_none _ rfl _ _ rfl mb N D g q rfl hown hview hg hnk rfl ?_)
    | (go_at_call 62; refine hck.mono ?_; rintro e w1 ⟨rfl, rfl⟩)
    | (go_at_call 27; refine hsp.mono ?_; rintro e w1 ⟨rfl, rfl⟩)
    | go_in)
  go_ret2
  exact ⟨rfl, rfl⟩

set_option maxHeartbeats 4000000 in
theorem value_err (W : World) (p N : Nat) (pa w : Nat) (hc0 : W.cell? ⟨p, 0, none⟩ = some (.int .i64 N)) (hN : N ≤ 65536) (hw : w = 1 ∨ w = 2 ∨ w = 4) (hp : pa < 18446744073709551616) (he : errV N pa w ≠ 0) :
    Calls Try.prog 47 #[.pointer (some ⟨p, 0, none⟩), .int .u64 pa, .int .i64 w] W fun e W' => e = .returned (.tuple #[.int .u32 0, .int .i64 (errV N pa w)]) ∧ W = W' := by
  have hck := check_any W p N w pa hc0 hN hw hp
  generalize errV N pa w = er at *
  go_enter Try.func47, Try.ntmps47
  go_wp2_with (first
    | (go_at_call 62; refine hck.mono ?_; rintro e w1 ⟨rfl, rfl⟩)
    | go_in)
  go_ret2
  exact ⟨rfl, rfl⟩

theorem value_any (W : World) (S : Nat → Prop) (p N : Nat) (m : Nat → Int) (pa w : Nat) (h : PM W S p N m) (hw : w = 1 ∨ w = 2 ∨ w = 4) (hp : pa < 18446744073709551616) :
    Calls Try.prog 47 #[.pointer (some ⟨p, 0, none⟩), .int .u64 pa, .int .i64 w] W fun e W' => e = .returned (.tuple #[.int .u32 (valV N m pa w), .int .i64 (errV N pa w)]) ∧ W = W' := by
  obtain ⟨mb, D, g, h⟩ := h
  unfold valV
  by_cases he : errV N pa w = 0
  · rw [if_pos he, he]
    cases hg : g (pa / 4096) with
    | some fb => exact value_some W S p N m pa w mb D g h hw hp he fb hg
    | none => exact value_none W S p N m pa w mb D g h hw hp he hg
  · rw [if_neg he]
    exact value_err W p N pa w h.cell0 h.n2 hw hp he

theorem valV_bd {N : Nat} {m : Nat → Int} (h : Byts m) (pa w : Nat) : 0 ≤ valV N m pa w ∧ valV N m pa w < 256 ^ w := by
  unfold valV
  split
  · exact num_bd h w pa
  · have : (0 : Int) < 256 ^ w := Int.pow_pos (by omega)
    omega

set_option maxHeartbeats 4000000 in
theorem byte_any (W : World) (S : Nat → Prop) (p N : Nat) (m : Nat → Int) (pa : Nat) (h : PM W S p N m) (hp : pa < 18446744073709551616) :
    Calls Try.prog 32 #[.pointer (some ⟨p, 0, none⟩), .int .u64 pa] W fun e W' => e = .returned (.tuple #[.int .u8 (valV N m pa 1), .int .i64 (errV N pa 1)]) ∧ W = W' := by
  have hv : Calls Try.prog 47 #[.pointer (some ⟨p, 0, none⟩), .int .u64 pa, .int .i64 1] W fun e W' => e = .returned (.tuple #[.int .u32 (valV N m pa 1), .int .i64 (errV N pa 1)]) ∧ W = W' := value_any W S p N m pa 1 h (by omega) hp
  obtain ⟨mb, D, g, h⟩ := h
  have hb := valV_bd (N := N) h.byts pa 1
  simp only [Int.reducePow] at hb
  obtain ⟨hb0, hb1⟩ := hb
  generalize valV N m pa 1 = x at *
  generalize errV N pa 1 = er at *
  clear h
  go_enter Try.func32, Try.ntmps32
  go_wp2_with (first
    | (go_at_call 47; refine hv.mono ?_; rintro e w1 ⟨rfl, rfl⟩)
    | go_in)
  go_ret2
  exact ⟨rfl, rfl⟩
set_option maxHeartbeats 4000000 in
theorem half_any (W : World) (S : Nat → Prop) (p N : Nat) (m : Nat → Int) (pa : Nat) (h : PM W S p N m) (hp : pa < 18446744073709551616) :
    Calls Try.prog 34 #[.pointer (some ⟨p, 0, none⟩), .int .u64 pa] W fun e W' => e = .returned (.tuple #[.int .u16 (valV N m pa 2), .int .i64 (errV N pa 2)]) ∧ W = W' := by
  have hv : Calls Try.prog 47 #[.pointer (some ⟨p, 0, none⟩), .int .u64 pa, .int .i64 2] W fun e W' => e = .returned (.tuple #[.int .u32 (valV N m pa 2), .int .i64 (errV N pa 2)]) ∧ W = W' := value_any W S p N m pa 2 h (by omega) hp
  obtain ⟨mb, D, g, h⟩ := h
  have hb := valV_bd (N := N) h.byts pa 2
  simp only [Int.reducePow] at hb
  obtain ⟨hb0, hb1⟩ := hb
  generalize valV N m pa 2 = x at *
  generalize errV N pa 2 = er at *
  clear h
  go_enter Try.func34, Try.ntmps34
  go_wp2_with (first
    | (go_at_call 47; refine hv.mono ?_; rintro e w1 ⟨rfl, rfl⟩)
    | go_in)
  go_ret2
  exact ⟨rfl, rfl⟩
set_option maxHeartbeats 4000000 in
theorem word_any (W : World) (S : Nat → Prop) (p N : Nat) (m : Nat → Int) (pa : Nat) (h : PM W S p N m) (hp : pa < 18446744073709551616) :
    Calls Try.prog 35 #[.pointer (some ⟨p, 0, none⟩), .int .u64 pa] W fun e W' => e = .returned (.tuple #[.int .u32 (valV N m pa 4), .int .i64 (errV N pa 4)]) ∧ W = W' := by
  have hv : Calls Try.prog 47 #[.pointer (some ⟨p, 0, none⟩), .int .u64 pa, .int .i64 4] W fun e W' => e = .returned (.tuple #[.int .u32 (valV N m pa 4), .int .i64 (errV N pa 4)]) ∧ W = W' := value_any W S p N m pa 4 h (by omega) hp
  generalize valV N m pa 4 = x at *
  generalize errV N pa 4 = er at *
  clear h
  go_enter Try.func35, Try.ntmps35
  go_wp2_with (first
    | (go_at_call 47; refine hv.mono ?_; rintro e w1 ⟨rfl, rfl⟩)
    | go_in)
  go_ret2
  exact ⟨rfl, rfl⟩
end Go.Proofs.Ytlfgnbjioofplab
