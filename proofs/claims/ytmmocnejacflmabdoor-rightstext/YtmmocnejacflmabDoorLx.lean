import Derived.Test.YtmmocnejacflmabDoorTw
import Derived.Lib.Strings
namespace Go.Proofs.YtmmocnejacflmabDoor
open Go.RowKit
set_option linter.unusedVariables false
set_option linter.unusedSimpArgs false
theorem hidX {p : Prop} (h : p) : Hid p := h
/-- The boxes of two faults in a world behind. -/
structure FG (w wr : World) (f g : Fa) : Prop where
  bel : Below w.heap.size w wr
  a : Bl wr w.heap.size 39 [.int .i64 f.k, .int .i64 f.l, .int .i64 f.d]
  b : Bl wr (w.heap.size + 1) 39 [.int .i64 g.k, .int .i64 g.l, .int .i64 g.d]
theorem FG.new (w : World) (f g : Fa) : FG w ((w.alloc (.cells #[.int .i64 f.k, .int .i64 f.l, .int .i64 f.d] 39)).alloc (.cells #[.int .i64 g.k, .int .i64 g.l, .int .i64 g.d] 39)) f g := by
  have h := Bl.new (w.alloc (.cells #[.int .i64 f.k, .int .i64 f.l, .int .i64 f.d] 39)) 39 [.int .i64 g.k, .int .i64 g.l, .int .i64 g.d]
  rw [show (w.alloc (.cells #[.int .i64 f.k, .int .i64 f.l, .int .i64 f.d] 39)).heap.size = w.heap.size + 1 by simp] at h
  exact ⟨Below.step (below_new _ _) (below_new _ _), (Bl.new _ _ _).below (below_new _ _), h⟩
theorem FG.step {w wr wn : World} {f g : Fa} (h : FG w wr f g) (hb : Below wr.heap.size wr wn) : FG w wn f g := ⟨Below.step h.bel hb, h.a.below hb, h.b.below hb⟩
theorem eq_of_list {a b : ByteArray} (h : a.toList = b.toList) : a = b := by
  rw [Lib.toList_data, Lib.toList_data] at h
  exact ByteArray.ext (Array.ext' h)
theorem sNe {a b : ByteArray} (h : ¬ a = b) : (a.toList == b.toList) = false := by
  rw [beq_eq_false_iff_ne]
  exact fun e => h (eq_of_list e)
set_option maxRecDepth 100000 in
set_option maxHeartbeats 2000000 in
theorem law_text_core (f g : Fa) (A B : ByteArray) (S : Bool) (w : World) (hT : TX w)
    (H1 : ∀ w, TX w → Calls Tryd.prog 15 #[.agg #[.int .i64 f.k, .int .i64 f.l, .int .i64 f.d]] w fun e w' => e = .returned (.string A) ∧ Below w.heap.size w w')
    (H2 : ∀ w, TX w → Calls Tryd.prog 15 #[.agg #[.int .i64 g.k, .int .i64 g.l, .int .i64 g.d]] w fun e w' => e = .returned (.string B) ∧ Below w.heap.size w w')
    (H3 : ∀ w, Calls Tryd.prog 16 #[.agg #[.int .i64 f.k, .int .i64 f.l, .int .i64 f.d]] w fun e w' => e = .returned (.string A) ∧ Below w.heap.size w w')
    (H4 : ∀ w, Calls Tryd.prog 16 #[.agg #[.int .i64 g.k, .int .i64 g.l, .int .i64 g.d]] w fun e w' => e = .returned (.string B) ∧ Below w.heap.size w w')
    (hS : f.same g = S) (hh : A.toList.isEmpty = true ∨ B.toList.isEmpty = true ∨ (A.toList == B.toList) = S) :
    Calls Tryd.prog 6 #[.agg #[.int .i64 f.k, .int .i64 f.l, .int .i64 f.d], .agg #[.int .i64 g.k, .int .i64 g.l, .int .i64 g.d]] w fun e w' => e = .returned (.bool true) ∧ Below w.heap.size w w' := by
  have G1 := hidX H1
  have G2 := hidX H2
  have G3 := hidX H3
  have G4 := hidX H4
  have eS := eqF f g
  rw [hS] at eS
  have HT := hidX hT
  have HX0 := hidX (FG.new w f g)
  have HH := hidX hh
  clear hT H1 H2 H3 H4 hS hh
  go_enter Tryd.func6, Tryd.ntmps6
  go_wp2_with (fail)
  go_at_call 15
  refine (G1.out _ (HT.out.below HX0.out.bel)).mono ?_
  rintro e w1 ⟨rfl, hb⟩
  have HX1 := hidX (HX0.out.step hb)
  clear hb HX0
  have c0 := HX1.out.b.cell
  go_wp2_with (fail)
  go_at_call 15
  refine (G2.out _ (HT.out.below HX1.out.bel)).mono ?_
  rintro e w2 ⟨rfl, hb⟩
  have HX2 := hidX (HX1.out.step hb)
  clear hb HX1 c0
  have c0 := HX2.out.a.cell
  go_wp2_with (fail)
  go_at_call 16
  refine (G3.out _).mono ?_
  rintro e w3 ⟨rfl, hb⟩
  have HX3 := hidX (HX2.out.step hb)
  clear hb HX2 c0
  have c0 := HX3.out.b.cell
  go_wp2_with (fail)
  go_at_call 16
  refine (G4.out _).mono ?_
  rintro e w4 ⟨rfl, hb⟩
  have HX4 := hidX (HX3.out.step hb)
  clear hb HX3 c0
  have c0 := HX4.out.a.cell
  have c1 := HX4.out.b.cell
  go_wp2
  all_goals
    go_ret
    refine ⟨?_, HX4.out.bel⟩
    first
    | rfl
    | (have hh := HH.out
       rcases hh with h | h | h <;> simp_all)
theorem law_text (f g : Fa) (w : World) (hT : TX w) :
    Calls Tryd.prog 6 #[.agg #[.int .i64 f.k, .int .i64 f.l, .int .i64 f.d], .agg #[.int .i64 g.k, .int .i64 g.l, .int .i64 g.d]] w fun e w' => e = .returned (.bool true) ∧ Below w.heap.size w w' := by
  refine law_text_core f g (txF f) (txF g) (f.same g) w hT (fun w hw => text_any f w hw) (fun w hw => text_any g w hw) (fun w => rtext_any f w) (fun w => rtext_any g w) rfl ?_
  have hE : (ByteArray.toList ⟨#[]⟩).isEmpty = true := by rw [Lib.toList_data]; rfl
  cases hf : told f with
  | false =>
    left
    rw [not_told hf]
    exact hE
  | true =>
    cases hg : told g with
    | false =>
      right
      left
      rw [not_told hg]
      exact hE
    | true =>
      right
      right
      cases hs : f.same g with
      | true =>
        rw [(Fa.same_iff _ _).1 hs]
        simp
      | false =>
        apply sNe
        intro h
        have := (tx_same hf hg).1 h
        rw [this, Fa.same_self] at hs
        cases hs
end Go.Proofs.YtmmocnejacflmabDoor
