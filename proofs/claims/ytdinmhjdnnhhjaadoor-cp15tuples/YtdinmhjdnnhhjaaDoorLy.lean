import Derived.Test.YtdinmhjdnnhhjaaDoorLu
import Derived.Test.YtdinmhjdnnhhjaaDoorLd
import Derived.Test.YtdinmhjdnnhhjaaDoorLj
namespace Go.Proofs.YtdinmhjdnnhhjaaDoor
open Go.RowKit
set_option linter.unusedVariables false
set_option linter.unusedSimpArgs false
/-- Both files, of one's own. -/
structure Px (W wr : World) (p q : Nat) (F : List Nat) : Prop where
  bel : Below W.heap.size W wr
  bx : Bx wr p q F
  np : W.heap.size ≤ p
  nq : W.heap.size ≤ q
theorem Px.step {W wr wr' : World} {p q : Nat} {F : List Nat} (h : Px W wr p q F) (hb : Below wr.heap.size wr wr') : Px W wr' p q F := ⟨Below.step h.bel hb, h.bx.step hb, h.np, h.nq⟩
theorem Px.turn {W wr wr' : World} {p q : Nat} {F G : List Nat} (h : Px W wr p q F) (hB : Bx wr' p q G) (ht : Turn (PQ p q) wr wr') : Px W wr' p q G := by
  refine ⟨?_, hB, h.np, h.nq⟩
  have h1 := h.np
  have h2 := h.nq
  exact ((Turn.below (S := PQ p q) h.bel).then ht).to (fun x hx => by rcases hx with rfl | rfl <;> assumption) (Nat.le_refl _)
theorem Px.start {W w1 w2 : World} {n : Nat} (hT : TR w1) (hn : W.heap.size ≤ n) (h1 : Fi 63 w1 n fZ) (b1 : Below W.heap.size W w1) (h2 : Fi 77 w2 w1.heap.size fZ) (b2 : Below w1.heap.size w1 w2) : Px W w2 n w1.heap.size fZ :=
  ⟨Below.step b1 b2, ⟨h1.below b2, h2, hT.below b2⟩, hn, b1.size⟩
set_option maxRecDepth 100000 in
set_option maxHeartbeats 8000000 in
theorem law_plays (W : World) (sa : Option Addr) (cap : Nat) (ops : List Opr) (hS : Scr W sa ops) (hT : TR W) (hl : ops.length ≤ maxLen) :
    Calls Tryd.prog 6 #[.slice sa ops.length cap] W fun e W' => e = .returned (.bool true) ∧ Below W.heap.size W W' := by
  unfold maxLen at hl
  have HT : Hid (TR W) := hT
  have HS0 : Hid (Scr W sa ops) := hS
  have HAl : Hid (∀ p q F w, Bx w p q F → Calls Tryd.prog 21 #[.pointer (some ⟨p, 0, none⟩), .pointer (some ⟨q, 0, none⟩)] w fun e w' => e = .returned (.bool true) ∧ Below w.heap.size w w') := fun p q F w h => alike_any p q F w h.f h.g
  generalize hn : ops.length = m at *
  have HN : Hid (ops.length = m) := hn
  clear hT hS hn
  go_enter Tryd.func6, Tryd.ntmps6
  go_wp2_with (fail)
  go_at_call 8
  refine (new_any W HT.out).mono ?_
  rintro e w1 ⟨rfl, hf1, hb1⟩
  have H1 : Hid (Fi 63 w1 W.heap.size fZ ∧ Below W.heap.size W w1 ∧ TR w1) := ⟨hf1, hb1, HT.out.below hb1⟩
  clear hf1 hb1 HT
  go_wp2_with (fail)
  go_at_call 20
  refine (rnew_any w1).mono ?_
  rintro e w2 ⟨rfl, hf1, hb1⟩
  have HS2 : Hid (Px W w2 W.heap.size w1.heap.size fZ) := Px.start H1.out.2.2 (Nat.le_refl _) H1.out.1 H1.out.2.1 hf1 hb1
  clear hf1 hb1 H1
  go_wp2_with (fail)
  go_at_call 9
  refine (live_any w2 HS2.out.bx.tr).mono ?_
  rintro e w3 ⟨rfl, hb⟩
  have HS3 : Hid (Px W w3 W.heap.size w1.heap.size fZ) := HS2.out.step hb
  clear hb HS2
  go_wp2_with (fail)
  go_at_call 21
  refine (HAl.out _ _ _ _ HS3.out.bx).mono ?_
  rintro e w4 ⟨rfl, hb⟩
  have HS4 : Hid (Px W w4 W.heap.size w1.heap.size fZ) := HS3.out.step hb
  clear hb HS3
  generalize w1.heap.size = q at *
  go_wp2
  go_loopw [5] (fun s5 wr => ∃ (k : Nat) (F : List Nat), k ≤ m ∧ s5 = .int .i64 k ∧ Px W wr W.heap.size q F) (fun s5 _ => m - (intOf s5).toNat)
  case atStart => exact ⟨0, fZ, Nat.zero_le _, rfl, HS4.out⟩
  case round =>
    obtain ⟨k, F, hk, rfl, hX⟩ := hrel
    clear HS4
    have HS : Hid (Px W wr W.heap.size q F) := hX
    clear hX
    by_cases hlt : k < m
    · obtain ⟨o, b, off, rfl, hbl, ho, e0, e1, e2, e3, e4, e5, e6, e7⟩ := HS0.out.at HS.out.bel (k := k) (by rw [HN.out]; exact hlt)
      have hi : (k : Int) < (m : Int) := by omega
      have hd := asked_any W.heap.size q o F wr HS.out.bx ho
      have hw : IntKind.i64.wrap ((k : Int) + 1) = ((k + 1 : Nat) : Int) := by rw [IntKind.wrap_i64]; omega
      go_wp2_with (fail)
      go_at_call 22
      refine hd.mono ?_
      rintro e w5 ⟨rfl, hB, ht⟩
      have HS5 : Hid (Px W w5 W.heap.size q (asF F o)) := HS.out.turn hB ht
      clear hB ht hd e0 e1 e2 e3 e4 e5 e6 e7
      go_wp2_with (fail)
      go_at_call 21
      refine (HAl.out _ _ _ _ HS5.out.bx).mono ?_
      rintro e w6 ⟨rfl, hb⟩
      have HS6 : Hid (Px W w6 W.heap.size q (asF F o)) := HS5.out.step hb
      clear hb HS5
      go_wp2
      go_roundw
      case rel => exact ⟨k + 1, _, by omega, by go_num, HS6.out⟩
      case measure => simp [intOf]; omega
    · have hge : ¬ (k : Int) < (m : Int) := by omega
      go_wp2
      go_ret
      exact ⟨rfl, HS.out.bel⟩
end Go.Proofs.YtdinmhjdnnhhjaaDoor
