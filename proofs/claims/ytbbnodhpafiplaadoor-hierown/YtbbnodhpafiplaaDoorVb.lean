import Derived.Test.YtbbnodhpafiplaaDoorHe3
import Derived.Test.YtbbnodhpafiplaaDoorHf
import Derived.Test.YtbbnodhpafiplaaDoorAp
namespace Go.Proofs.YtbbnodhpafiplaaDoor
open Go.RowKit
set_option linter.unusedVariables false
set_option linter.unusedSimpArgs false
set_option maxRecDepth 100000 in
set_option maxHeartbeats 4000000 in
theorem vevict_1 (W : World) (A : Ad) (X : Hi) (i : Int) (h : PH 93 89 [.pointer none] W A X) :
    Calls Tryd.prog 43 #[.pointer (some ⟨A.h, 0, none⟩), .int .i64 1, .int .i64 i] W fun e w' => e = .returned (.bool (evF X.i i).1) ∧ PH 93 89 [.pointer none] w' A ⟨(evF X.i i).2, X.d, X.m⟩ ∧ Turn A.S W w' := by
  have c0 := h.box.cell 1
  have HC : Hid (Calls Tryd.prog 57 #[.pointer (some ⟨A.pi, 0, none⟩), .int .i64 i] W fun e w' => e = .returned (.bool (evF X.i i).1) ∧ PH 93 89 [.pointer none] w' A ⟨(evF X.i i).2, X.d, X.m⟩ ∧ Turn A.S W w') := (uevict_any W _ _ X.i i h.ti).mono fun e w' q => ⟨q.1, h.setI q.2.1 q.2.2, (Turn.refl A.S W).trans q.2.2 (fun x hx => .inl (.inl hx))⟩
  clear h
  go_enter Tryd.func43, Tryd.ntmps43
  go_wp2_with (fail)
  go_at_call 57
  refine HC.out.mono ?_
  rintro e w1 ⟨rfl, hp, hT⟩
  have HP := hidW hp
  have HU := hidW hT
  clear hp hT HC c0
  go_wp2
  go_ret
  exact ⟨rfl, HP.out, HU.out⟩
set_option maxRecDepth 100000 in
set_option maxHeartbeats 4000000 in
theorem vplaces_1 (W : World) (A : Ad) (X : Hi) (h : PH 93 89 [.pointer none] W A X) :
    Calls Tryd.prog 23 #[.pointer (some ⟨A.h, 0, none⟩), .int .i64 1] W fun e w' => ∃ g cap rest, e = .returned (.slice (some ⟨g, 0, none⟩) X.i.length cap) ∧ Bl w' g 57 (rowS X.i ++ rest) ∧ Below W.heap.size W w' := by
  have c0 := h.box.cell 1
  have c1 := h.ti.cell
  obtain ⟨w2, cap, rest, hr, hrow, hcap, hb⟩ := app_nil W A.gi X.i X.i.length h.ti.row rfl h.ti.lo h.ti.hi
  have HR := hidW hr
  have HP := hidW hrow
  have HB := hidW hb
  clear h hrow hcap hb hr
  generalize X.i.length = n at *
  go_enter Tryd.func23, Tryd.ntmps23
  go_wp2_with (first | (at_builtin; refine wpList_append_eq rfl (.tmp 12) (.tmp 21) 54 rfl _ _ rfl rfl (HR.out _) ?_; clear HR))
  go_ret
  exact ⟨_, _, _, rfl, HP.out, HB.out⟩
set_option maxRecDepth 100000 in
set_option maxHeartbeats 4000000 in
theorem vevict_2 (W : World) (A : Ad) (X : Hi) (i : Int) (h : PH 93 89 [.pointer none] W A X) :
    Calls Tryd.prog 43 #[.pointer (some ⟨A.h, 0, none⟩), .int .i64 2, .int .i64 i] W fun e w' => e = .returned (.bool (evF X.d i).1) ∧ PH 93 89 [.pointer none] w' A ⟨X.i, (evF X.d i).2, X.m⟩ ∧ Turn A.S W w' := by
  have c0 := h.box.cell 2
  have HC : Hid (Calls Tryd.prog 57 #[.pointer (some ⟨A.pd, 0, none⟩), .int .i64 i] W fun e w' => e = .returned (.bool (evF X.d i).1) ∧ PH 93 89 [.pointer none] w' A ⟨X.i, (evF X.d i).2, X.m⟩ ∧ Turn A.S W w') := (uevict_any W _ _ X.d i h.td).mono fun e w' q => ⟨q.1, h.setD q.2.1 q.2.2, (Turn.refl A.S W).trans q.2.2 (fun x hx => .inl (.inr (.inl hx)))⟩
  clear h
  go_enter Tryd.func43, Tryd.ntmps43
  go_wp2_with (fail)
  go_at_call 57
  refine HC.out.mono ?_
  rintro e w1 ⟨rfl, hp, hT⟩
  have HP := hidW hp
  have HU := hidW hT
  clear hp hT HC c0
  go_wp2
  go_ret
  exact ⟨rfl, HP.out, HU.out⟩
set_option maxRecDepth 100000 in
set_option maxHeartbeats 4000000 in
theorem vplaces_2 (W : World) (A : Ad) (X : Hi) (h : PH 93 89 [.pointer none] W A X) :
    Calls Tryd.prog 23 #[.pointer (some ⟨A.h, 0, none⟩), .int .i64 2] W fun e w' => ∃ g cap rest, e = .returned (.slice (some ⟨g, 0, none⟩) X.d.length cap) ∧ Bl w' g 57 (rowS X.d ++ rest) ∧ Below W.heap.size W w' := by
  have c0 := h.box.cell 2
  have c1 := h.td.cell
  obtain ⟨w2, cap, rest, hr, hrow, hcap, hb⟩ := app_nil W A.gd X.d X.d.length h.td.row rfl h.td.lo h.td.hi
  have HR := hidW hr
  have HP := hidW hrow
  have HB := hidW hb
  clear h hrow hcap hb hr
  generalize X.d.length = n at *
  go_enter Tryd.func23, Tryd.ntmps23
  go_wp2_with (first | (at_builtin; refine wpList_append_eq rfl (.tmp 12) (.tmp 21) 54 rfl _ _ rfl rfl (HR.out _) ?_; clear HR))
  go_ret
  exact ⟨_, _, _, rfl, HP.out, HB.out⟩
set_option maxRecDepth 100000 in
set_option maxHeartbeats 4000000 in
theorem vevict_3 (W : World) (A : Ad) (X : Hi) (i : Int) (h : PH 93 89 [.pointer none] W A X) :
    Calls Tryd.prog 43 #[.pointer (some ⟨A.h, 0, none⟩), .int .i64 3, .int .i64 i] W fun e w' => e = .returned (.bool (evF X.m i).1) ∧ PH 93 89 [.pointer none] w' A ⟨X.i, X.d, (evF X.m i).2⟩ ∧ Turn A.S W w' := by
  have c0 := h.box.cell 3
  have HC : Hid (Calls Tryd.prog 57 #[.pointer (some ⟨A.pm, 0, none⟩), .int .i64 i] W fun e w' => e = .returned (.bool (evF X.m i).1) ∧ PH 93 89 [.pointer none] w' A ⟨X.i, X.d, (evF X.m i).2⟩ ∧ Turn A.S W w') := (uevict_any W _ _ X.m i h.tm).mono fun e w' q => ⟨q.1, h.setM q.2.1 q.2.2, (Turn.refl A.S W).trans q.2.2 (fun x hx => .inl (.inr (.inr hx)))⟩
  clear h
  go_enter Tryd.func43, Tryd.ntmps43
  go_wp2_with (fail)
  go_at_call 57
  refine HC.out.mono ?_
  rintro e w1 ⟨rfl, hp, hT⟩
  have HP := hidW hp
  have HU := hidW hT
  clear hp hT HC c0
  go_wp2
  go_ret
  exact ⟨rfl, HP.out, HU.out⟩
set_option maxRecDepth 100000 in
set_option maxHeartbeats 4000000 in
theorem vplaces_3 (W : World) (A : Ad) (X : Hi) (h : PH 93 89 [.pointer none] W A X) :
    Calls Tryd.prog 23 #[.pointer (some ⟨A.h, 0, none⟩), .int .i64 3] W fun e w' => ∃ g cap rest, e = .returned (.slice (some ⟨g, 0, none⟩) X.m.length cap) ∧ Bl w' g 57 (rowS X.m ++ rest) ∧ Below W.heap.size W w' := by
  have c0 := h.box.cell 3
  have c1 := h.tm.cell
  obtain ⟨w2, cap, rest, hr, hrow, hcap, hb⟩ := app_nil W A.gm X.m X.m.length h.tm.row rfl h.tm.lo h.tm.hi
  have HR := hidW hr
  have HP := hidW hrow
  have HB := hidW hb
  clear h hrow hcap hb hr
  generalize X.m.length = n at *
  go_enter Tryd.func23, Tryd.ntmps23
  go_wp2_with (first | (at_builtin; refine wpList_append_eq rfl (.tmp 12) (.tmp 21) 54 rfl _ _ rfl rfl (HR.out _) ?_; clear HR))
  go_ret
  exact ⟨_, _, _, rfl, HP.out, HB.out⟩
set_option maxRecDepth 100000 in
set_option maxHeartbeats 4000000 in
theorem vevict_no (W : World) (p : Option Addr) (which i : Int) (h : which < 1 ∨ 3 < which) :
    Calls Tryd.prog 43 #[.pointer p, .int .i64 which, .int .i64 i] W fun e w' => e = .returned (.bool false) ∧ W = w' := by
  by_cases h1 : which < 1
  · go_enter Tryd.func43, Tryd.ntmps43
    go_wp2
    go_ret
    exact ⟨rfl, rfl⟩
  · have h2 : 3 < which := by omega
    go_enter Tryd.func43, Tryd.ntmps43
    go_wp2
    go_ret
    exact ⟨rfl, rfl⟩
set_option maxRecDepth 100000 in
set_option maxHeartbeats 4000000 in
theorem vplaces_no (W : World) (p : Option Addr) (which : Int) (h : which < 1 ∨ 3 < which) :
    Calls Tryd.prog 23 #[.pointer p, .int .i64 which] W fun e w' => e = .returned (.slice none 0 0) ∧ W = w' := by
  by_cases h1 : which < 1
  · go_enter Tryd.func23, Tryd.ntmps23
    go_wp2
    go_ret
    exact ⟨rfl, rfl⟩
  · have h2 : 3 < which := by omega
    go_enter Tryd.func23, Tryd.ntmps23
    go_wp2
    go_ret
    exact ⟨rfl, rfl⟩
theorem vevict_any (W : World) (A : Ad) (X : Hi) (which i : Int) (h : PH 93 89 [.pointer none] W A X) :
    Calls Tryd.prog 43 #[.pointer (some ⟨A.h, 0, none⟩), .int .i64 which, .int .i64 i] W fun e w' => e = .returned (.bool (evH X which i).1) ∧ PH 93 89 [.pointer none] w' A (evH X which i).2 ∧ Turn A.S W w' := by
  unfold evH
  by_cases k1 : which = 1
  · subst k1; exact vevict_1 W A X i h
  by_cases k2 : which = 2
  · subst k2; exact vevict_2 W A X i h
  by_cases k3 : which = 3
  · subst k3; exact vevict_3 W A X i h
  rw [if_neg k1, if_neg k2, if_neg k3]
  refine (vevict_no W _ which i (by omega)).mono ?_
  rintro e w' ⟨h1, rfl⟩
  exact ⟨h1, h, Turn.refl _ _⟩
/-- A slice of places with room behind it. -/
def Sw (w : World) (a : Option Addr) (L : List Slo) : Prop := L = [] ∨ ∃ g rest, a = some ⟨g, 0, none⟩ ∧ Bl w g 57 (rowS L ++ rest)
theorem vplaces_any (W : World) (A : Ad) (X : Hi) (which : Int) (h : PH 93 89 [.pointer none] W A X) :
    Calls Tryd.prog 23 #[.pointer (some ⟨A.h, 0, none⟩), .int .i64 which] W fun e w' => ∃ a cap, e = .returned (.slice a (plH X which).length cap) ∧ Sw w' a (plH X which) ∧ Below W.heap.size W w' := by
  unfold plH
  by_cases k1 : which = 1
  · subst k1; exact (vplaces_1 W A X h).mono fun e w' ⟨g, cap, rest, q1, q2, q3⟩ => ⟨_, _, q1, .inr ⟨g, rest, rfl, q2⟩, q3⟩
  by_cases k2 : which = 2
  · subst k2; exact (vplaces_2 W A X h).mono fun e w' ⟨g, cap, rest, q1, q2, q3⟩ => ⟨_, _, q1, .inr ⟨g, rest, rfl, q2⟩, q3⟩
  by_cases k3 : which = 3
  · subst k3; exact (vplaces_3 W A X h).mono fun e w' ⟨g, cap, rest, q1, q2, q3⟩ => ⟨_, _, q1, .inr ⟨g, rest, rfl, q2⟩, q3⟩
  rw [if_neg k1, if_neg k2, if_neg k3]
  refine (vplaces_no W _ which (by omega)).mono ?_
  rintro e w' ⟨h1, rfl⟩
  exact ⟨_, _, h1, .inl rfl, Below.refl _ _⟩
end Go.Proofs.YtbbnodhpafiplaaDoor
