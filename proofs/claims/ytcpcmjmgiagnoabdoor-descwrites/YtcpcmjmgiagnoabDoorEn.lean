import Derived.Test.YtcpcmjmgiagnoabDoorDe
import Derived.Test.YtcpcmjmgiagnoabDoorN1
import Derived.Test.YtcpcmjmgiagnoabDoorN2
import Derived.Test.YtcpcmjmgiagnoabDoorN3
import Derived.Test.YtcpcmjmgiagnoabDoorN4
import Derived.Test.YtcpcmjmgiagnoabDoorN5
import Derived.Test.YtcpcmjmgiagnoabDoorPm
namespace Go.Proofs.YtcpcmjmgiagnoabDoor
open Go.RowKit
set_option linter.unusedVariables false
set_option linter.unusedSimpArgs false

set_option maxRecDepth 100000 in
set_option maxHeartbeats 4000000 in
theorem encode_lo (k b d ap bt : Int) (s g x : Bool) (w : World) (h : k ≤ 0) :
    Calls Tryd.prog 21 #[.agg #[.int .i64 k, .int .u64 b, .int .i64 d, .bool s, .int .i64 ap, .int .u32 bt, .bool g, .bool x]] w fun e w' => e = .returned (.int .u32 0) ∧ Below w.heap.size w w' := by
  have h1 : decide (k ≤ 0) = true := decide_eq_true h
  go_enter Tryd.func21, Tryd.ntmps21
  go_wp2
  go_ret
  exact ⟨rfl, (by (repeat (first | apply below_drew | refine Below.alloc ?_ (by simp) _)); exact Below.refl _ _)⟩
set_option maxRecDepth 100000 in
set_option maxHeartbeats 4000000 in
theorem encode_hi (k b d ap bt : Int) (s g x : Bool) (w : World) (h : 6 ≤ k) :
    Calls Tryd.prog 21 #[.agg #[.int .i64 k, .int .u64 b, .int .i64 d, .bool s, .int .i64 ap, .int .u32 bt, .bool g, .bool x]] w fun e w' => e = .returned (.int .u32 0) ∧ Below w.heap.size w w' := by
  have h1 : decide (k ≤ 0) = false := decide_eq_false (by omega)
  have h2 : decide (6 ≤ k) = true := decide_eq_true h
  go_enter Tryd.func21, Tryd.ntmps21
  go_wp2
  go_ret
  exact ⟨rfl, (by (repeat (first | apply below_drew | refine Below.alloc ?_ (by simp) _)); exact Below.refl _ _)⟩
theorem encode_any (e : Ent) (w : World) (ht : TE w) (hO : Ok e) : Calls Tryd.prog 21 #[.agg #[.int .i64 e.kind, .int .u64 e.base, .int .i64 e.dom, .bool e.ns, .int .i64 e.ap, .int .u32 e.bits, .bool e.ng, .bool e.xn]] w fun r w' => r = .returned (.int .u32 (E e)) ∧ Below w.heap.size w w' := by
  obtain ⟨hb, hbt⟩ := hO
  obtain ⟨k, b, d, s, ap, bt, g, x⟩ := e
  simp only at hb hbt
  by_cases h0 : k ≤ 0
  · rw [E0 _ (by simp only; omega)]
    exact encode_lo k b d ap bt s g x w h0
  by_cases h6 : 6 ≤ k
  · rw [E0 _ (by simp only; omega)]
    exact encode_hi k b d ap bt s g x w h6
  rcases (show k = 1 ∨ k = 2 ∨ k = 3 ∨ k = 4 ∨ k = 5 by omega) with rfl | rfl | rfl | rfl | rfl
  · exact encode_1 b d ap bt s g x w ht hb hbt
  · exact encode_2 b d ap bt s g x w ht hb hbt
  · exact encode_3 b d ap bt s g x w ht hb hbt
  · exact encode_4 b d ap bt s g x w ht hb hbt
  · exact encode_5 b d ap bt s g x w ht hb hbt

theorem Below.step {w w1 w2 : World} (h1 : Below w.heap.size w w1) (h2 : Below w1.heap.size w1 w2) : Below w.heap.size w w2 := h1.trans (h2.mono h1.size)

set_option maxRecDepth 100000 in
set_option maxHeartbeats 4000000 in
theorem Encode1_any (e : Ent) (w : World) (ht : TE w) (hO : Ok e) : Calls Tryd.prog 8 #[.agg #[.int .i64 e.kind, .int .u64 e.base, .int .i64 e.dom, .bool e.ns, .int .i64 e.ap, .int .u32 e.bits, .bool e.ng, .bool e.xn]] w fun r w' => r = .returned (if (D1 (E e)).same e then .tuple #[.int .u32 (E e), .int .i64 0] else .tuple #[.int .u32 0, .int .i64 50]) ∧ Below w.heap.size w w' := by
  have hN := BX.new w 28 [.int .i64 e.kind, .int .u64 e.base, .int .i64 e.dom, .bool e.ns, .int .i64 e.ap, .int .u32 e.bits, .bool e.ng, .bool e.xn]
  have HE : ∀ ww, TE ww → Calls Tryd.prog 21 #[.agg #[.int .i64 e.kind, .int .u64 e.base, .int .i64 e.dom, .bool e.ns, .int .i64 e.ap, .int .u32 e.bits, .bool e.ng, .bool e.xn]] ww fun r w' => r = .returned (.int .u32 (E e)) ∧ Below ww.heap.size ww w' := fun ww hh => encode_any e ww hh hO
  have HD : ∀ ww, TE ww → Calls Tryd.prog 7 #[.int .u32 (E e)] ww fun r w' => r = .returned (.agg #[.int .i64 (D1 (E e)).kind, .int .u64 (D1 (E e)).base, .int .i64 (D1 (E e)).dom, .bool (D1 (E e)).ns, .int .i64 (D1 (E e)).ap, .int .u32 (D1 (E e)).bits, .bool (D1 (E e)).ng, .bool (D1 (E e)).xn]) ∧ Below ww.heap.size ww w' := fun ww hh => Decode1_any (E e) ww hh.toTD (E_rng e hO)
  have heq := eqE (D1 (E e)) e
  generalize (D1 (E e)).same e = S at *
  generalize D1 (E e) = d at *
  generalize E e = v at *
  obtain ⟨k1, k2, k3, k4, k5, k6, k7, k8⟩ := e
  simp only at *
  have HT : Hid (TE w) := ht
  clear ht hO
  go_enter Tryd.func8, Tryd.ntmps8
  go_wp2_with (first
    | (go_at_call 21; refine (HE _ (HT.out.below ((Below.refl _ _).alloc (Nat.le_refl _) _))).mono ?_; rintro e w1 ⟨rfl, hb1⟩)
    | go_in)
  have hx1 := (hN.below hb1).drew
  have HTB : Hid (TE w1.drew) := HT.out.below (below_drew (Below.one hb1))
  have HF : Hid (∀ w2, Below w1.drew.heap.size w1.drew w2 → Below w.heap.size w w2) := fun w2 h => Below.step (below_drew (Below.one hb1)) h
  clear hN hb1
  generalize hbb : w.heap.size = b at *
  have HBB : Hid (w.heap.size = b) := hbb
  clear hbb
  have c0 := hx1 0 _ rfl
  have c1 := hx1 1 _ rfl
  have c2 := hx1 2 _ rfl
  have c3 := hx1 3 _ rfl
  have c4 := hx1 4 _ rfl
  have c5 := hx1 5 _ rfl
  have c6 := hx1 6 _ rfl
  have c7 := hx1 7 _ rfl
  go_region_held3 (fun w' => w'.cell? ⟨b, 0, none⟩ = some (.int .i64 k1) ∧ w'.cell? ⟨b, 1, none⟩ = some (.int .u64 k2) ∧ w'.cell? ⟨b, 2, none⟩ = some (.int .i64 k3) ∧ w'.cell? ⟨b, 3, none⟩ = some (.bool k4) ∧ w'.cell? ⟨b, 4, none⟩ = some (.int .i64 k5) ∧ w'.cell? ⟨b, 5, none⟩ = some (.int .u32 k6) ∧ w'.cell? ⟨b, 6, none⟩ = some (.bool k7) ∧ w'.cell? ⟨b, 7, none⟩ = some (.bool k8)) (first | go_keep | exact ⟨hx2 0 _ rfl, hx2 1 _ rfl, hx2 2 _ rfl, hx2 3 _ rfl, hx2 4 _ rfl, hx2 5 _ rfl, hx2 6 _ rfl, hx2 7 _ rfl⟩)
   ((first
    | (go_at_call 7; refine (HD _ ?_).mono ?_; exact HTB.out; rintro e w2 ⟨rfl, hb2⟩; have hx2 := hx1.below hb2; have HB2 : Hid (Below w1.drew.heap.size w1.drew w2) := hb2)))
  cases S
  · go_wp2
    go_ret2
    exact ⟨rfl, by have := HF.out _ HB2.out; rw [← HBB.out] at this; exact this⟩
  · go_wp2
    go_ret2
    exact ⟨rfl, by have := HF.out _ HB2.out; rw [← HBB.out] at this; exact this⟩


set_option maxRecDepth 100000 in
set_option maxHeartbeats 4000000 in
theorem Encode2_any (e : Ent) (w : World) (ht : TE w) (hO : Ok e) : Calls Tryd.prog 10 #[.agg #[.int .i64 e.kind, .int .u64 e.base, .int .i64 e.dom, .bool e.ns, .int .i64 e.ap, .int .u32 e.bits, .bool e.ng, .bool e.xn]] w fun r w' => r = .returned (if (D2 (E e)).same e then .tuple #[.int .u32 (E e), .int .i64 0] else .tuple #[.int .u32 0, .int .i64 50]) ∧ Below w.heap.size w w' := by
  have hN := BX.new w 28 [.int .i64 e.kind, .int .u64 e.base, .int .i64 e.dom, .bool e.ns, .int .i64 e.ap, .int .u32 e.bits, .bool e.ng, .bool e.xn]
  have HE : ∀ ww, TE ww → Calls Tryd.prog 21 #[.agg #[.int .i64 e.kind, .int .u64 e.base, .int .i64 e.dom, .bool e.ns, .int .i64 e.ap, .int .u32 e.bits, .bool e.ng, .bool e.xn]] ww fun r w' => r = .returned (.int .u32 (E e)) ∧ Below ww.heap.size ww w' := fun ww hh => encode_any e ww hh hO
  have HD : ∀ ww, TE ww → Calls Tryd.prog 9 #[.int .u32 (E e)] ww fun r w' => r = .returned (.agg #[.int .i64 (D2 (E e)).kind, .int .u64 (D2 (E e)).base, .int .i64 (D2 (E e)).dom, .bool (D2 (E e)).ns, .int .i64 (D2 (E e)).ap, .int .u32 (D2 (E e)).bits, .bool (D2 (E e)).ng, .bool (D2 (E e)).xn]) ∧ Below ww.heap.size ww w' := fun ww hh => Decode2_any (E e) ww hh.toTD (E_rng e hO)
  have heq := eqE (D2 (E e)) e
  generalize (D2 (E e)).same e = S at *
  generalize D2 (E e) = d at *
  generalize E e = v at *
  obtain ⟨k1, k2, k3, k4, k5, k6, k7, k8⟩ := e
  simp only at *
  have HT : Hid (TE w) := ht
  clear ht hO
  go_enter Tryd.func10, Tryd.ntmps10
  go_wp2_with (first
    | (go_at_call 21; refine (HE _ (HT.out.below ((Below.refl _ _).alloc (Nat.le_refl _) _))).mono ?_; rintro e w1 ⟨rfl, hb1⟩)
    | go_in)
  have hx1 := (hN.below hb1).drew
  have HTB : Hid (TE w1.drew) := HT.out.below (below_drew (Below.one hb1))
  have HF : Hid (∀ w2, Below w1.drew.heap.size w1.drew w2 → Below w.heap.size w w2) := fun w2 h => Below.step (below_drew (Below.one hb1)) h
  clear hN hb1
  generalize hbb : w.heap.size = b at *
  have HBB : Hid (w.heap.size = b) := hbb
  clear hbb
  have c0 := hx1 0 _ rfl
  have c1 := hx1 1 _ rfl
  have c2 := hx1 2 _ rfl
  have c3 := hx1 3 _ rfl
  have c4 := hx1 4 _ rfl
  have c5 := hx1 5 _ rfl
  have c6 := hx1 6 _ rfl
  have c7 := hx1 7 _ rfl
  go_region_held3 (fun w' => w'.cell? ⟨b, 0, none⟩ = some (.int .i64 k1) ∧ w'.cell? ⟨b, 1, none⟩ = some (.int .u64 k2) ∧ w'.cell? ⟨b, 2, none⟩ = some (.int .i64 k3) ∧ w'.cell? ⟨b, 3, none⟩ = some (.bool k4) ∧ w'.cell? ⟨b, 4, none⟩ = some (.int .i64 k5) ∧ w'.cell? ⟨b, 5, none⟩ = some (.int .u32 k6) ∧ w'.cell? ⟨b, 6, none⟩ = some (.bool k7) ∧ w'.cell? ⟨b, 7, none⟩ = some (.bool k8)) (first | go_keep | exact ⟨hx2 0 _ rfl, hx2 1 _ rfl, hx2 2 _ rfl, hx2 3 _ rfl, hx2 4 _ rfl, hx2 5 _ rfl, hx2 6 _ rfl, hx2 7 _ rfl⟩)
   ((first
    | (go_at_call 9; refine (HD _ ?_).mono ?_; exact HTB.out; rintro e w2 ⟨rfl, hb2⟩; have hx2 := hx1.below hb2; have HB2 : Hid (Below w1.drew.heap.size w1.drew w2) := hb2)))
  cases S
  · go_wp2
    go_ret2
    exact ⟨rfl, by have := HF.out _ HB2.out; rw [← HBB.out] at this; exact this⟩
  · go_wp2
    go_ret2
    exact ⟨rfl, by have := HF.out _ HB2.out; rw [← HBB.out] at this; exact this⟩

end Go.Proofs.YtcpcmjmgiagnoabDoor
