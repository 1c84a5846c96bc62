import Derived.Test.YtbbnodhpafiplaaDoorLb
namespace Go.Proofs.YtbbnodhpafiplaaDoor
open Go.RowKit
set_option linter.unusedVariables false
set_option linter.unusedSimpArgs false
/-- Both, all their own. -/
structure T2 (W wr : World) (A B : Ad) (X : Hi) : Prop where
  bel : Below W.heap.size W wr
  pa : PH 73 95 [] wr A X
  pb : PH 93 89 [.pointer none] wr B X
  dis : ∀ x, A.S x → ¬ B.S x
  na : ∀ x, A.S x → W.heap.size ≤ x
  nb : ∀ x, B.S x → W.heap.size ≤ x
section
variable {W wr w' : World} {A B : Ad} {X Y : Hi}
theorem T2.step (h : T2 W wr A B X) (hb : Below wr.heap.size wr w') : T2 W w' A B X := ⟨Below.step h.bel hb, h.pa.below hb, h.pb.below hb, h.dis, h.na, h.nb⟩
theorem T2.drew (h : T2 W wr A B X) : T2 W wr.drew A B X := h.step (below_drew (Below.refl _ _))
theorem T2.turn (h : T2 W wr A B X) (h1 : PH 73 95 [] w' A Y) (h2 : PH 93 89 [.pointer none] w' B Y) (hT : Turn (fun x => A.S x ∨ B.S x) wr w') : T2 W w' A B Y := by
  refine ⟨((Turn.below (S := fun x => A.S x ∨ B.S x) h.bel).then hT).to (fun x hx => ?_) (Nat.le_refl _), h1, h2, h.dis, h.na, h.nb⟩
  rcases hx with hx | hx
  · exact h.na x hx
  · exact h.nb x hx
end
set_option maxRecDepth 100000 in
set_option maxHeartbeats 4000000 in
theorem both_no (i d m : Int) (W : World) (h : ¬ (Okn i ∧ Okn d ∧ Okn m)) : Calls Tryd.prog 20 #[.int .i64 i, .int .i64 d, .int .i64 m] W fun e w' => e = .returned (.tuple #[.pointer none, .pointer none, .bool true]) ∧ Below W.heap.size W w' := by
  have H1 := fun w => hidW (hnew_no i d m w h)
  have H2 := fun w => hidW (vnew_no i d m w h)
  clear h
  go_enter Tryd.func20, Tryd.ntmps20
  go_wp2_with (fail)
  go_at_call 8
  refine (H1 _).out.mono ?_
  rintro e w1 ⟨rfl, hb⟩
  have HB := hidW hb
  clear hb
  go_wp2_with (fail)
  go_at_call 40
  refine (H2 _).out.mono ?_
  rintro e w2 ⟨rfl, hb⟩
  replace HB := hidW (Below.step HB.out hb)
  clear hb
  go_wp2
  exact bodyPost_ret (v := .tuple #[.pointer none, .pointer none, .bool true]) (by simp [results, Tryd.results20, go_sem]) rfl ⟨rfl, HB.out⟩
set_option maxRecDepth 100000 in
set_option maxHeartbeats 4000000 in
theorem both_yes (i d m : Int) (W : World) (h : Okn i ∧ Okn d ∧ Okn m) : Calls Tryd.prog 20 #[.int .i64 i, .int .i64 d, .int .i64 m] W fun e w' => ∃ A B : Ad, e = .returned (.tuple #[.pointer (some ⟨A.h, 0, none⟩), .pointer (some ⟨B.h, 0, none⟩), .bool true]) ∧ T2 W w' A B (zH i d m) := by
  have H1 := fun w => hidW (hnew_yes i d m w h)
  have H2 := fun w => hidW (vnew_yes i d m w h)
  clear h
  go_enter Tryd.func20, Tryd.ntmps20
  go_wp2_with (fail)
  go_at_call 8
  refine (H1 _).out.mono ?_
  rintro e w1 ⟨A, rfl, hp, hb, hn⟩
  have HA : Hid (PH 73 95 [] w1 A (zH i d m) ∧ Below W.heap.size W w1 ∧ ∀ x, A.S x → W.heap.size ≤ x) := hidW ⟨hp, hb, hn⟩
  clear hp hb hn
  go_wp2_with (fail)
  go_at_call 40
  refine (H2 _).out.mono ?_
  rintro e w2 ⟨B, rfl, hp, hb, hn⟩
  have HX : Hid (T2 W w2 A B (zH i d m)) := hidW ⟨Below.step HA.out.2.1 hb, HA.out.1.below hb, hp, fun x hx hy => by have h1 := HA.out.1.lt x hx; have h2 := hn x hy; omega, HA.out.2.2, fun x hx => Nat.le_trans HA.out.2.1.size (hn x hx)⟩
  clear hp hb hn HA
  go_wp2
  refine bodyPost_ret (v := .tuple #[.pointer (some ⟨A.h, 0, none⟩), .pointer (some ⟨B.h, 0, none⟩), .bool true]) (by simp [results, Tryd.results20, go_sem]) rfl ?_
  exact ⟨A, B, rfl, HX.out⟩
end Go.Proofs.YtbbnodhpafiplaaDoor
