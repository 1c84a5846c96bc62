import Derived.Test.YtlfgnbjioofplaaLa
namespace Go.Proofs.Ytlfgnbjioofplaa
open Go.RowKit
set_option linter.unusedVariables false

/-! ### RamMakes -/
theorem touch_none {N : Nat} {L : List Int} (h : Touch N (fun _ => 0) L) : L = [] := by
  cases L with
  | nil => rfl
  | cons a r =>
    obtain ⟨n, _, _, hc⟩ := (h.2 a).1 (by simp)
    exact absurd (cnt_none n) hc
theorem num_none (a k : Nat) : num (fun _ => 0) a k = 0 := by
  induction k generalizing a with
  | zero => rfl
  | succ k ih => rw [num, ih]; rfl
theorem valV_none (N a k : Nat) : valV N (fun _ => 0) a k = 0 := by
  unfold valV
  split
  · exact num_none a k
  · rfl
set_option maxHeartbeats 8000000 in
set_option maxRecDepth 100000 in
theorem law_makes (W : World) (f : Int) (h1 : -9223372036854775808 ≤ f) (h2 : f ≤ 9223372036854775807) :
    Calls Try.prog 3 #[.int .i64 f] W fun e W' => e = .returned (.bool true) ∧ Below W.heap.size W W' := by
  by_cases hf : f < 1 ∨ 65536 < f
  · have hp := pnew_bad W f hf
    have hr := rnew_bad W f hf
    clear hf
    go_enter Try.func3, Try.ntmps3
    go_wp2_with (first
      | (go_at_call 9; refine hp.mono ?_; rintro e w1 ⟨rfl, rfl⟩)
      | (go_at_call 10; refine hr.mono ?_; rintro e w1 ⟨rfl, rfl⟩)
      | go_in)
    go_ret
    exact ⟨rfl, Below.refl _ _⟩
  · obtain ⟨N, rfl⟩ := Int.eq_ofNat_of_zero_le (show 0 ≤ f by omega)
    have n1 : 1 ≤ N := by omega
    have n2 : N ≤ 65536 := by omega
    have hp := pnew_any W N n1 n2
    clear hf
    have a1 : 1 ≤ (N : Int) := by omega
    have a2 : (N : Int) ≤ 65536 := by omega
    go_enter Try.func3, Try.ntmps3
    go_wp2_with (first
      | (go_at_call 9; refine hp.mono ?_; rintro e w1 ⟨rfl, hm1, ht1⟩; have hr := rnew_any w1 N n1 n2)
      | (go_at_call 10; refine hr.mono ?_; rintro e w2 ⟨rfl, hm2, ht2⟩; have hm3 := hm1.keep ht2 (fun _ _ h => h);
         have hb1 : Calls Try.prog 11 #[.pointer (some ⟨W.heap.size + 1, 0, none⟩), .int .u64 ((N : Int) * 4096 - 1)] w2 fun e W' => e = .returned (.tuple #[.int .u8 0, .int .i64 0]) ∧ w2 = W' := (by
           have := byte_any w2 _ _ N _ (N * 4096 - 1) hm3 (by omega)
           rwa [valV_none, errV_fine (Nat.mod_one _) (by omega), show ((N * 4096 - 1 : Nat) : Int) = (N : Int) * 4096 - 1 by omega] at this);
         have hb2 : Calls Try.prog 11 #[.pointer (some ⟨W.heap.size + 1, 0, none⟩), .int .u64 ((N : Int) * 4096)] w2 fun e W' => e = .returned (.tuple #[.int .u8 0, .int .i64 30]) ∧ w2 = W' := (by
           have := byte_any w2 _ _ N _ (N * 4096) hm3 (by omega)
           rwa [valV_none, errV_bus (Nat.mod_one _) (Nat.le_refl _), show ((N * 4096 : Nat) : Int) = (N : Int) * 4096 by omega] at this);
         have hfr := pframes_any w2 _ _ N _ hm3;
         have hto := touched_any w2 _ _ N _ hm3)
      | (go_at_call 11; refine hb1.mono ?_; clear hb1; rintro e w3 ⟨rfl, rfl⟩)
      | (go_at_call 11; refine hb2.mono ?_; rintro e w3 ⟨rfl, rfl⟩)
      | (go_at_call 12; refine hfr.mono ?_; rintro e w3 ⟨rfl, rfl⟩)
      | (go_at_call 13; refine hto.mono ?_; rintro e w3 ⟨v, L, rfl, hL, ⟨cap, cur, rfl, hrest⟩, ht3⟩; have hL0 := touch_none hL; subst hL0; have HT : Hid (Below W.heap.size W w3) := ((ht1.trans ht2 (fun _ h => h.elim)).trans ht3 (fun _ h => h.elim)).to (fun _ h => h.elim) (Nat.le_refl _))
      | go_in)
    go_ret
    exact ⟨rfl, HT.out⟩
end Go.Proofs.Ytlfgnbjioofplaa
