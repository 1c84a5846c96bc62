import Derived.Test.YtliiblaodhcjhabAsked
namespace Go.Proofs.Ytliiblaodhcjhab
open Go.RowKit
set_option linter.unusedVariables false

set_option maxHeartbeats 4000000 in
set_option maxRecDepth 100000 in
theorem law_plays (W : World) (a : Option Addr) (cap : Nat) (ops : List Op4) (S : Script W a ops) (hs : ops.length ≤ 1048576) :
    Calls Try.prog 4 #[.slice a ops.length cap] W fun e W' => e = .returned (.bool true) ∧ Below W.heap.size W W' := by
  have hC : Calls Try.prog 7 #[.slice none 0 0] W _ := made_any W none 0 [] ⟨fun i o ho => by simp at ho, fun o ho => by cases ho⟩ (by simp)
  have HS : Hid (Script W a ops) := S
  clear S
  generalize hn : ops.length = n at *
  have HN : Hid (ops.length = n) := hn
  clear hn
  go_enter Try.func4, Try.ntmps4
  go_wp2_with (fail)
  refine hC.mono ?_
  rintro e w1 ⟨rfl, ⟨v, u, hM, hR, hBo, hl, hd⟩, hB⟩
  clear hC hl hd
  go_wp2_with (fail)
  refine (live_any _).mono ?_
  rintro e w2 ⟨rfl, hb2⟩
  have hM2 := hM.keep hb2
  have hR2 := hR.keep hb2
  have hB2 := below_go hB hb2
  clear hM hR hB hb2
  go_wp2_with (fail)
  go_loopw [5] (fun i wr => ∃ (k : Nat), k ≤ n ∧ i = .int .i64 k ∧ Hid (∃ v u L D, MapAt wr W.heap.size W.heap.size v L ∧ RefAt wr W.heap.size (W.heap.size + 1) u D ∧ Both L D ∧ L.length ≤ 2 * k ∧ D.length ≤ k) ∧ Hid (Below W.heap.size W wr)) (fun i _ => n - (intOf i).toNat)
  case atStart => exact ⟨0, Nat.zero_le _, rfl, ⟨_, _, _, _, hM2, hR2, hBo, Nat.le_refl _, Nat.le_refl _⟩, hB2⟩
  case round =>
    obtain ⟨k, hk, rfl, HL, HB⟩ := hrel
    clear hM2 hR2 hB2 hBo
    by_cases hlt : k < n
    · obtain ⟨o, ho⟩ : ∃ o, ops[k]? = some o := ⟨_, List.getElem?_eq_getElem (by rw [HN.out]; exact hlt)⟩
      obtain ⟨b, off, rfl, hbl, e0, e1, e2, e3⟩ := HS.out.lies k o ho
      obtain ⟨⟨r1, r2⟩, ⟨r3, r4⟩, ⟨r5, r6⟩, ⟨r7, r8⟩⟩ := HS.out.rng o (List.mem_of_getElem? ho)
      obtain ⟨hcc, _⟩ := bcell HB.out
      rw [← hcc b _ hbl] at e0 e1 e2 e3
      clear hcc ho
      obtain ⟨v, u, L, D, hM, hR, hBo, hLl, hDl⟩ := HL.out
      clear HL
      have hltz : (k : Int) < (n : Int) := by omega
      have hk0 : (0 : Int) ≤ (k : Int) := by omega
      have hC := asked_any W wr HB.out W.heap.size W.heap.size (W.heap.size + 1) v u L D o hM hR hBo (Nat.le_refl _) (by omega) (by omega) r1 r2 r4
      have HB2 : Hid (Both (layS L o) (didS D o)) := both_lay hBo hM.good r1 r4
      have hl2 := layS_len hM.good r1 r4
      have hd2 := didS_len (D := D) (o := o)
      clear hM hR hBo HB
      go_wp2_with (fail)
      refine hC.mono ?_
      rintro e w3 ⟨rfl, ⟨v1, u1, hM1, hR1⟩, hB1⟩
      go_wp2
      go_roundw
      case rel => exact ⟨k + 1, by omega, by go_num, ⟨v1, u1, _, _, hM1, hR1, HB2, by omega, by omega⟩, hB1⟩
      case measure => simp [intOf]; omega
    · obtain rfl : k = n := by omega
      obtain ⟨v, u, L, D, hM, hR, hBo, hLl, hDl⟩ := HL.out
      have hB := HB.out
      have h6 : ∀ w v u, MapAt w W.heap.size W.heap.size v L → RefAt w W.heap.size (W.heap.size + 1) u D → Below W.heap.size W w → Calls Try.prog 11 #[.pointer (some ⟨W.heap.size, 0, none⟩), .pointer (some ⟨W.heap.size + 1, 0, none⟩), .agg #[.int .i64 6, .int .u64 0, .int .u64 0, .int .i64 0]] w fun e W' => e = .returned (.bool true) ∧ (∃ v' u', MapAt W' W.heap.size W.heap.size v' L ∧ RefAt W' W.heap.size (W.heap.size + 1) u' D) ∧ Below W.heap.size W W' := fun w v u hM hR hB => asked_any W w hB W.heap.size W.heap.size (W.heap.size + 1) v u L D ⟨6, 0, 0, 0⟩ hM hR hBo (Nat.le_refl _) (by omega) (by omega) (by decide) (by decide) (by decide)
      have h4 : ∀ w v u, MapAt w W.heap.size W.heap.size v L → RefAt w W.heap.size (W.heap.size + 1) u D → Below W.heap.size W w → Calls Try.prog 11 #[.pointer (some ⟨W.heap.size, 0, none⟩), .pointer (some ⟨W.heap.size + 1, 0, none⟩), .agg #[.int .i64 4, .int .u64 0, .int .u64 0, .int .i64 0]] w fun e W' => e = .returned (.bool true) ∧ (∃ v' u', MapAt W' W.heap.size W.heap.size v' L ∧ RefAt W' W.heap.size (W.heap.size + 1) u' D) ∧ Below W.heap.size W W' := fun w v u hM hR hB => asked_any W w hB W.heap.size W.heap.size (W.heap.size + 1) v u L D ⟨4, 0, 0, 0⟩ hM hR hBo (Nat.le_refl _) (by omega) (by omega) (by decide) (by decide) (by decide)
      have h5 : ∀ w v u, MapAt w W.heap.size W.heap.size v L → RefAt w W.heap.size (W.heap.size + 1) u D → Below W.heap.size W w → Calls Try.prog 11 #[.pointer (some ⟨W.heap.size, 0, none⟩), .pointer (some ⟨W.heap.size + 1, 0, none⟩), .agg #[.int .i64 5, .int .u64 18446744073709551615, .int .u64 0, .int .i64 0]] w fun e W' => e = .returned (.bool true) ∧ (∃ v' u', MapAt W' W.heap.size W.heap.size v' L ∧ RefAt W' W.heap.size (W.heap.size + 1) u' D) ∧ Below W.heap.size W W' := fun w v u hM hR hB => asked_any W w hB W.heap.size W.heap.size (W.heap.size + 1) v u L D ⟨5, 18446744073709551615, 0, 0⟩ hM hR hBo (Nat.le_refl _) (by omega) (by omega) (by decide) (by decide) (by decide)
      clear HL HB hBo hLl hDl
      go_wp2_with (fail)
      refine (h6 _ _ _ hM hR hB).mono ?_
      rintro e w3 ⟨rfl, ⟨v1, u1, hM1, hR1⟩, hB1⟩
      clear h6 hM hR hB
      go_wp2_with (fail)
      refine (h4 _ _ _ hM1 hR1 hB1).mono ?_
      rintro e w4 ⟨rfl, ⟨v2, u2, hM2, hR2⟩, hB2⟩
      clear h4 hM1 hR1 hB1
      go_wp2_with (fail)
      refine (h5 _ _ _ hM2 hR2 hB2).mono ?_
      rintro e w5 ⟨rfl, ⟨v3, u3, hM3, hR3⟩, hB3⟩
      clear h5 hM2 hR2 hB2
      go_wp2
      go_ret
      exact ⟨rfl, hB3⟩
end Go.Proofs.Ytliiblaodhcjhab
