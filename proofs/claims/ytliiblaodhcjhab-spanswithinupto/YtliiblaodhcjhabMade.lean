import Derived.Test.YtliiblaodhcjhabDone
namespace Go.Proofs.Ytliiblaodhcjhab
open Go.RowKit
set_option linter.unusedVariables false

def layL (ops : List Op4) : List (Sp Int) := ops.foldl layS []
def didL (ops : List Op4) : List Dn := ops.foldl didS []

theorem take_succ_foldl {β : Type} (f : β → Op4 → β) (z : β) (ops : List Op4) (k : Nat) (o : Op4) (h : ops[k]? = some o) : (ops.take (k + 1)).foldl f z = f ((ops.take k).foldl f z) o := by
  have hk : k < ops.length := (List.getElem?_eq_some_iff.1 h).1
  have ho : ops[k] = o := (List.getElem?_eq_some_iff.1 h).2
  rw [List.take_succ_eq_append_getElem hk, List.foldl_append, ho]
  rfl

theorem layS_len {L : List (Sp Int)} (hg : Good 0 none L) {o : Op4} (ha : 0 ≤ o.lo) (hb : o.hi ≤ 18446744073709551615) : (layS L o).length ≤ L.length + 2 := by
  rw [layS]
  split
  · exact setR_len hg ha hb _
  · split
    · exact clearR_len hg
    · omega
theorem didS_len {D : List Dn} {o : Op4} : (didS D o).length ≤ D.length + 1 := by
  rw [didS]
  split
  · rw [didR]; split <;> simp
  · split
    · rw [didR]; split <;> simp
    · omega

set_option maxHeartbeats 4000000 in
set_option maxRecDepth 100000 in
theorem made_any (W : World) (a : Option Addr) (cap : Nat) (ops : List Op4) (S : Script W a ops) (hs : ops.length ≤ 1048576) :
    Calls Try.prog 7 #[.slice a ops.length cap] W fun e W' => e = .returned (.tuple #[.pointer (some ⟨W.heap.size, 0, none⟩), .pointer (some ⟨W.heap.size + 1, 0, none⟩)]) ∧ (∃ v u, MapAt W' W.heap.size W.heap.size v (layL ops) ∧ RefAt W' W.heap.size (W.heap.size + 1) u (didL ops) ∧ Both (layL ops) (didL ops) ∧ (layL ops).length ≤ 2 * ops.length ∧ (didL ops).length ≤ ops.length) ∧ Below W.heap.size W W' := by
  have hM0 := (MapAt.new W W.heap.size (Nat.le_refl _)).keep (below_alloc (Below.refl _ _) (.cells #[.slice none 0 0] 55))
  have hR0 := RefAt.new (W.alloc (.cells #[.slice none 0 0] 76)) W.heap.size (by rw [World.size_alloc]; exact Nat.le_succ _)
  rw [World.size_alloc] at hR0
  have hB0 := below_alloc (below_alloc (Below.refl W.heap.size W) (.cells #[.slice none 0 0] 76)) (.cells #[.slice none 0 0] 55)
  have HS : Hid (Script W a ops) := S
  clear S
  generalize hn : ops.length = n at *
  have HN : Hid (ops.length = n) := hn
  clear hn
  go_enter Try.func7, Try.ntmps7
  go_wp2_with (go_at_call 27; refine (new_any _).mono ?_; rintro e w' ⟨rfl, rfl⟩)
  go_loopw [6] (fun i wr => ∃ (k : Nat), k ≤ n ∧ i = .int .i64 k ∧ Hid (∃ v u, MapAt wr W.heap.size W.heap.size v (layL (ops.take k)) ∧ RefAt wr W.heap.size (W.heap.size + 1) u (didL (ops.take k)) ∧ Both (layL (ops.take k)) (didL (ops.take k)) ∧ (layL (ops.take k)).length ≤ 2 * k ∧ (didL (ops.take k)).length ≤ k) ∧ Hid (Below W.heap.size W wr)) (fun i _ => n - (intOf i).toNat)
  case atStart => exact ⟨0, Nat.zero_le _, rfl, ⟨_, _, hM0, hR0, fun _ _ _ => rfl, Nat.zero_le _, Nat.zero_le _⟩, hB0⟩
  case round =>
    obtain ⟨k, hk, rfl, HL, HB⟩ := hrel
    clear hM0 hB0 hR0
    by_cases hlt : k < n
    · obtain ⟨o, ho⟩ : ∃ o, ops[k]? = some o := ⟨_, List.getElem?_eq_getElem (by rw [HN.out]; exact hlt)⟩
      obtain ⟨b, off, rfl, hbl, e0, e1, e2, e3⟩ := HS.out.lies k o ho
      obtain ⟨⟨r1, r2⟩, ⟨r3, r4⟩, ⟨r5, r6⟩, ⟨r7, r8⟩⟩ := HS.out.rng o (List.mem_of_getElem? ho)
      obtain ⟨hcc, _⟩ := bcell HB.out
      rw [← hcc b _ hbl] at e0 e1 e2 e3
      have HT : Hid (layL (ops.take (k + 1)) = layS (layL (ops.take k)) o) := take_succ_foldl _ _ ops k o ho
      have HU : Hid (didL (ops.take (k + 1)) = didS (didL (ops.take k)) o) := take_succ_foldl _ _ ops k o ho
      clear hcc ho
      obtain ⟨v, u, hM, hR, hBo, hLl, hDl⟩ := HL.out
      clear HL
      generalize layL (ops.take k) = L at *
      generalize didL (ops.take k) = D at *
      have hltz : (k : Int) < (n : Int) := by omega
      have hk0 : (0 : Int) ≤ (k : Int) := by omega
      have hszL : (L.length + 4) * 24 ≤ 140737488355328 := by omega
      have hC := done_any W wr HB.out W.heap.size W.heap.size (W.heap.size + 1) v u L D o hM hR (Nat.le_refl _) hszL (by omega) r1 r4
      have HB2 : Hid (Both (layS L o) (didS D o)) := both_lay hBo hM.good r1 r4
      have hl2 := layS_len hM.good r1 r4
      have hd2 := didS_len (D := D) (o := o)
      clear hM hR hBo HB
      go_wp2_with (fail)
      refine hC.mono ?_
      rintro e w1 ⟨rfl, ⟨v1, u1, hM1, hR1⟩, hB1⟩
      go_wp2
      go_roundw
      case rel => exact ⟨k + 1, by omega, by go_num, ⟨v1, u1, by rw [HT.out]; exact hM1, by rw [HU.out]; exact hR1, by rw [HT.out, HU.out]; exact HB2, by rw [HT.out]; omega, by rw [HU.out]; omega⟩, hB1⟩
      case measure => simp [intOf]; omega
    · obtain rfl : k = n := by omega
      have HE : Hid (ops.take k = ops) := by show _ = _; rw [← HN.out]; exact List.take_length
      go_wp2
      go_ret2
      have h1 := HL.out
      rw [HE.out] at h1
      exact ⟨rfl, h1, HB.out⟩
end Go.Proofs.Ytliiblaodhcjhab
