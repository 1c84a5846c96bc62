import Derived.Test.YtbbnodhpafiplaaDoorHe1
namespace Go.Proofs.YtbbnodhpafiplaaDoor
open Go.RowKit
set_option linter.unusedVariables false
set_option linter.unusedSimpArgs false
set_option maxRecDepth 100000 in
set_option maxHeartbeats 4000000 in
theorem hevict_1 (W : World) (A : Ad) (X : Hi) (i : Int) (h : PH 73 95 [] W A X) :
    Calls Tryd.prog 16 #[.pointer (some ⟨A.h, 0, none⟩), .int .i64 1, .int .i64 i] W fun e w' => e = .returned (.bool (evF X.i i).1) ∧ PH 73 95 [] w' A ⟨(evF X.i i).2, X.d, X.m⟩ ∧ Turn A.S W w' := by
  have c0 := h.box.cell 0
  dsimp only [List.nil_append] at c0
  have HC : Hid (Calls Tryd.prog 36 #[.pointer (some ⟨A.pi, 0, none⟩), .int .i64 i] W fun e w' => e = .returned (.bool (evF X.i i).1) ∧ PH 73 95 [] w' A ⟨(evF X.i i).2, X.d, X.m⟩ ∧ Turn A.S W w') := (evict_any W _ _ X.i i h.ti).mono fun e w' q => ⟨q.1, h.setI q.2.1 q.2.2, (Turn.refl A.S W).trans q.2.2 (fun x hx => .inl (.inl hx))⟩
  clear h
  go_enter Tryd.func16, Tryd.ntmps16
  go_wp2_with (fail)
  go_at_call 36
  refine HC.out.mono ?_
  rintro e w1 ⟨rfl, hp, hT⟩
  have HP := hidW hp
  have HU := hidW hT
  clear hp hT HC c0
  go_wp2
  go_ret
  exact ⟨rfl, HP.out, HU.out⟩
set_option maxRecDepth 100000 in
set_option maxHeartbeats 4000000 in
theorem hplaces_1 (W : World) (A : Ad) (X : Hi) (h : PH 73 95 [] W A X) :
    Calls Tryd.prog 19 #[.pointer (some ⟨A.h, 0, none⟩), .int .i64 1] W fun e w' => e = .returned (.slice (some ⟨W.heap.size, 0, none⟩) X.i.length X.i.length) ∧ Bl w' W.heap.size 57 (rowS X.i) ∧ Below W.heap.size W w' := by
  have c0 := h.box.cell 0
  dsimp only [List.nil_append] at c0
  have HC := hidW (places_any W _ _ X.i h.ti)
  clear h
  go_enter Tryd.func19, Tryd.ntmps19
  go_wp2_with (fail)
  go_at_call 39
  refine HC.out.mono ?_
  rintro e w1 ⟨rfl, hp, hT⟩
  have HP := hidW hp
  have HU := hidW hT
  clear hp hT HC c0
  go_wp2
  go_ret
  exact ⟨rfl, HP.out, HU.out⟩
set_option maxRecDepth 100000 in
set_option maxHeartbeats 4000000 in
theorem hevict_2 (W : World) (A : Ad) (X : Hi) (i : Int) (h : PH 73 95 [] W A X) :
    Calls Tryd.prog 16 #[.pointer (some ⟨A.h, 0, none⟩), .int .i64 2, .int .i64 i] W fun e w' => e = .returned (.bool (evF X.d i).1) ∧ PH 73 95 [] w' A ⟨X.i, (evF X.d i).2, X.m⟩ ∧ Turn A.S W w' := by
  have c0 := h.box.cell 1
  dsimp only [List.nil_append] at c0
  have HC : Hid (Calls Tryd.prog 36 #[.pointer (some ⟨A.pd, 0, none⟩), .int .i64 i] W fun e w' => e = .returned (.bool (evF X.d i).1) ∧ PH 73 95 [] w' A ⟨X.i, (evF X.d i).2, X.m⟩ ∧ Turn A.S W w') := (evict_any W _ _ X.d i h.td).mono fun e w' q => ⟨q.1, h.setD q.2.1 q.2.2, (Turn.refl A.S W).trans q.2.2 (fun x hx => .inl (.inr (.inl hx)))⟩
  clear h
  go_enter Tryd.func16, Tryd.ntmps16
  go_wp2_with (fail)
  go_at_call 36
  refine HC.out.mono ?_
  rintro e w1 ⟨rfl, hp, hT⟩
  have HP := hidW hp
  have HU := hidW hT
  clear hp hT HC c0
  go_wp2
  go_ret
  exact ⟨rfl, HP.out, HU.out⟩
set_option maxRecDepth 100000 in
set_option maxHeartbeats 4000000 in
theorem hplaces_2 (W : World) (A : Ad) (X : Hi) (h : PH 73 95 [] W A X) :
    Calls Tryd.prog 19 #[.pointer (some ⟨A.h, 0, none⟩), .int .i64 2] W fun e w' => e = .returned (.slice (some ⟨W.heap.size, 0, none⟩) X.d.length X.d.length) ∧ Bl w' W.heap.size 57 (rowS X.d) ∧ Below W.heap.size W w' := by
  have c0 := h.box.cell 1
  dsimp only [List.nil_append] at c0
  have HC := hidW (places_any W _ _ X.d h.td)
  clear h
  go_enter Tryd.func19, Tryd.ntmps19
  go_wp2_with (fail)
  go_at_call 39
  refine HC.out.mono ?_
  rintro e w1 ⟨rfl, hp, hT⟩
  have HP := hidW hp
  have HU := hidW hT
  clear hp hT HC c0
  go_wp2
  go_ret
  exact ⟨rfl, HP.out, HU.out⟩
set_option maxRecDepth 100000 in
set_option maxHeartbeats 4000000 in
theorem hevict_3 (W : World) (A : Ad) (X : Hi) (i : Int) (h : PH 73 95 [] W A X) :
    Calls Tryd.prog 16 #[.pointer (some ⟨A.h, 0, none⟩), .int .i64 3, .int .i64 i] W fun e w' => e = .returned (.bool (evF X.m i).1) ∧ PH 73 95 [] w' A ⟨X.i, X.d, (evF X.m i).2⟩ ∧ Turn A.S W w' := by
  have c0 := h.box.cell 2
  dsimp only [List.nil_append] at c0
  have HC : Hid (Calls Tryd.prog 36 #[.pointer (some ⟨A.pm, 0, none⟩), .int .i64 i] W fun e w' => e = .returned (.bool (evF X.m i).1) ∧ PH 73 95 [] w' A ⟨X.i, X.d, (evF X.m i).2⟩ ∧ Turn A.S W w') := (evict_any W _ _ X.m i h.tm).mono fun e w' q => ⟨q.1, h.setM q.2.1 q.2.2, (Turn.refl A.S W).trans q.2.2 (fun x hx => .inl (.inr (.inr hx)))⟩
  clear h
  go_enter Tryd.func16, Tryd.ntmps16
  go_wp2_with (fail)
  go_at_call 36
  refine HC.out.mono ?_
  rintro e w1 ⟨rfl, hp, hT⟩
  have HP := hidW hp
  have HU := hidW hT
  clear hp hT HC c0
  go_wp2
  go_ret
  exact ⟨rfl, HP.out, HU.out⟩
set_option maxRecDepth 100000 in
set_option maxHeartbeats 4000000 in
theorem hplaces_3 (W : World) (A : Ad) (X : Hi) (h : PH 73 95 [] W A X) :
    Calls Tryd.prog 19 #[.pointer (some ⟨A.h, 0, none⟩), .int .i64 3] W fun e w' => e = .returned (.slice (some ⟨W.heap.size, 0, none⟩) X.m.length X.m.length) ∧ Bl w' W.heap.size 57 (rowS X.m) ∧ Below W.heap.size W w' := by
  have c0 := h.box.cell 2
  dsimp only [List.nil_append] at c0
  have HC := hidW (places_any W _ _ X.m h.tm)
  clear h
  go_enter Tryd.func19, Tryd.ntmps19
  go_wp2_with (fail)
  go_at_call 39
  refine HC.out.mono ?_
  rintro e w1 ⟨rfl, hp, hT⟩
  have HP := hidW hp
  have HU := hidW hT
  clear hp hT HC c0
  go_wp2
  go_ret
  exact ⟨rfl, HP.out, HU.out⟩
set_option maxRecDepth 100000 in
set_option maxHeartbeats 4000000 in
theorem hevict_no (W : World) (p : Option Addr) (which i : Int) (k1 : ¬ which = 1) (k2 : ¬ which = 2) (k3 : ¬ which = 3) :
    Calls Tryd.prog 16 #[.pointer p, .int .i64 which, .int .i64 i] W fun e w' => e = .returned (.bool false) ∧ W = w' := by
  go_enter Tryd.func16, Tryd.ntmps16
  go_wp2
  go_ret
  exact ⟨rfl, rfl⟩
set_option maxRecDepth 100000 in
set_option maxHeartbeats 4000000 in
theorem hplaces_no (W : World) (p : Option Addr) (which : Int) (k1 : ¬ which = 1) (k2 : ¬ which = 2) (k3 : ¬ which = 3) :
    Calls Tryd.prog 19 #[.pointer p, .int .i64 which] W fun e w' => e = .returned (.slice none 0 0) ∧ W = w' := by
  go_enter Tryd.func19, Tryd.ntmps19
  go_wp2
  go_ret
  exact ⟨rfl, rfl⟩
theorem hevict_any (W : World) (A : Ad) (X : Hi) (which i : Int) (h : PH 73 95 [] W A X) :
    Calls Tryd.prog 16 #[.pointer (some ⟨A.h, 0, none⟩), .int .i64 which, .int .i64 i] W fun e w' => e = .returned (.bool (evH X which i).1) ∧ PH 73 95 [] w' A (evH X which i).2 ∧ Turn A.S W w' := by
  unfold evH
  by_cases k1 : which = 1
  · subst k1; exact hevict_1 W A X i h
  by_cases k2 : which = 2
  · subst k2; exact hevict_2 W A X i h
  by_cases k3 : which = 3
  · subst k3; exact hevict_3 W A X i h
  rw [if_neg k1, if_neg k2, if_neg k3]
  refine (hevict_no W _ which i k1 k2 k3).mono ?_
  rintro e w' ⟨h1, rfl⟩
  exact ⟨h1, h, Turn.refl _ _⟩
/-- A slice of places. -/
def Sv (w : World) (a : Option Addr) (L : List Slo) : Prop := L = [] ∨ ∃ g, a = some ⟨g, 0, none⟩ ∧ Bl w g 57 (rowS L)
theorem hplaces_any (W : World) (A : Ad) (X : Hi) (which : Int) (h : PH 73 95 [] W A X) :
    Calls Tryd.prog 19 #[.pointer (some ⟨A.h, 0, none⟩), .int .i64 which] W fun e w' => ∃ a, e = .returned (.slice a (plH X which).length (plH X which).length) ∧ Sv w' a (plH X which) ∧ Below W.heap.size W w' := by
  unfold plH
  by_cases k1 : which = 1
  · subst k1; exact (hplaces_1 W A X h).mono fun e w' q => ⟨_, q.1, .inr ⟨_, rfl, q.2.1⟩, q.2.2⟩
  by_cases k2 : which = 2
  · subst k2; exact (hplaces_2 W A X h).mono fun e w' q => ⟨_, q.1, .inr ⟨_, rfl, q.2.1⟩, q.2.2⟩
  by_cases k3 : which = 3
  · subst k3; exact (hplaces_3 W A X h).mono fun e w' q => ⟨_, q.1, .inr ⟨_, rfl, q.2.1⟩, q.2.2⟩
  rw [if_neg k1, if_neg k2, if_neg k3]
  refine (hplaces_no W _ which k1 k2 k3).mono ?_
  rintro e w' ⟨h1, rfl⟩
  exact ⟨_, h1, .inl rfl, Below.refl _ _⟩
end Go.Proofs.YtbbnodhpafiplaaDoor
