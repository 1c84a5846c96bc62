import Derived.Test.YtfdjfhhjfgdbaaaGreatDoorHa
namespace Go.Proofs.YtfdjfhhjfgdbaaaGreatDoor
open Go.RowKit
set_option linter.unusedVariables false
set_option linter.unusedSimpArgs false
/-- A number of places. -/
abbrev Okn (n : Int) : Prop := 1 ≤ n ∧ n ≤ 64
theorem tnew_any (n : Int) (W : World) : Calls Tryz.prog 52 #[.int .i64 n] W fun e w' => ∃ p en, e = .returned (.tuple #[.pointer p, .int .i64 en]) ∧ Below W.heap.size W w' := by
  by_cases h : n < 1 ∨ 64 < n
  · refine (new_no n W h).mono ?_
    rintro e w' ⟨rfl, rfl⟩
    exact ⟨_, _, rfl, Below.refl _ _⟩
  · obtain ⟨k, rfl⟩ := Int.eq_ofNat_of_zero_le (show 0 ≤ n by omega)
    refine (new_yes k W (by omega) (by omega)).mono ?_
    rintro e w' ⟨rfl, _, hb⟩
    exact ⟨_, _, rfl, hb⟩
theorem tnew_no (n : Int) (W : World) (h : ¬ Okn n) : Calls Tryz.prog 52 #[.int .i64 n] W fun e w' => e = .returned (.tuple #[.pointer none, .int .i64 100]) ∧ Below W.heap.size W w' := by
  refine (new_no n W (by unfold Okn at h; omega)).mono ?_
  rintro e w' ⟨rfl, rfl⟩
  exact ⟨rfl, Below.refl _ _⟩
theorem tnew_yes (n : Int) (W : World) (h : Okn n) : Calls Tryz.prog 52 #[.int .i64 n] W fun e w' => e = .returned (.tuple #[.pointer (some ⟨W.heap.size + 1, 0, none⟩), .int .i64 0]) ∧ PT 184 w' (W.heap.size + 1) W.heap.size (List.replicate n.toNat sZ) ∧ Below W.heap.size W w' := by
  unfold Okn at h
  obtain ⟨k, rfl⟩ := Int.eq_ofNat_of_zero_le (show 0 ≤ n by omega)
  exact new_yes k W (by omega) (by omega)
set_option maxRecDepth 100000 in
set_option maxHeartbeats 4000000 in
theorem hnew_no (i d m : Int) (W : World) (h : ¬ (Okn i ∧ Okn d ∧ Okn m)) : Calls Tryz.prog 32 #[.int .i64 i, .int .i64 d, .int .i64 m] W fun e w' => e = .returned (.tuple #[.pointer none, .int .i64 100]) ∧ Below W.heap.size W w' := by
  by_cases h1 : Okn i
  · by_cases h2 : Okn d
    · have h3 : ¬ Okn m := fun h3 => h ⟨h1, h2, h3⟩
      have H1 := fun w => hidW (tnew_yes i w h1)
      have H2 := fun w => hidW (tnew_yes d w h2)
      have H3 := fun w => hidW (tnew_no m w h3)
      clear h h1 h2 h3
      go_enter Tryz.func32, Tryz.ntmps32
      go_wp2_with (fail)
      go_at_call 52
      refine (H1 _).out.mono ?_
      rintro e w1 ⟨rfl, _, hb⟩
      have HB := hidW hb
      clear hb
      go_wp2_with (fail)
      go_at_call 52
      refine (H2 _).out.mono ?_
      rintro e w2 ⟨rfl, _, hb⟩
      replace HB := hidW (Below.step HB.out hb)
      clear hb
      go_wp2_with (fail)
      go_at_call 52
      refine (H3 _).out.mono ?_
      rintro e w3 ⟨rfl, hb⟩
      replace HB := hidW (Below.step HB.out hb)
      clear hb
      go_wp2
      go_ret2
      exact ⟨rfl, HB.out⟩
    · have H1 := fun w => hidW (tnew_yes i w h1)
      have H2 := fun w => hidW (tnew_no d w h2)
      have H3 := fun w => hidW (tnew_any m w)
      clear h h1 h2
      go_enter Tryz.func32, Tryz.ntmps32
      go_wp2_with (fail)
      go_at_call 52
      refine (H1 _).out.mono ?_
      rintro e w1 ⟨rfl, _, hb⟩
      have HB := hidW hb
      clear hb
      go_wp2_with (fail)
      go_at_call 52
      refine (H2 _).out.mono ?_
      rintro e w2 ⟨rfl, hb⟩
      replace HB := hidW (Below.step HB.out hb)
      clear hb
      go_wp2_with (fail)
      go_at_call 52
      refine (H3 _).out.mono ?_
      rintro e w3 ⟨p3, e3, rfl, hb⟩
      replace HB := hidW (Below.step HB.out hb)
      clear hb
      go_wp2
      go_ret2
      exact ⟨rfl, HB.out⟩
  · have H1 := fun w => hidW (tnew_no i w h1)
    have H2 := fun w => hidW (tnew_any d w)
    have H3 := fun w => hidW (tnew_any m w)
    clear h h1
    go_enter Tryz.func32, Tryz.ntmps32
    go_wp2_with (fail)
    go_at_call 52
    refine (H1 _).out.mono ?_
    rintro e w1 ⟨rfl, hb⟩
    have HB := hidW hb
    clear hb
    go_wp2_with (fail)
    go_at_call 52
    refine (H2 _).out.mono ?_
    rintro e w2 ⟨p2, e2, rfl, hb⟩
    replace HB := hidW (Below.step HB.out hb)
    clear hb
    go_wp2_with (fail)
    go_at_call 52
    refine (H3 _).out.mono ?_
    rintro e w3 ⟨p3, e3, rfl, hb⟩
    replace HB := hidW (Below.step HB.out hb)
    clear hb
    go_wp2
    go_ret2
    exact ⟨rfl, HB.out⟩
/-- All places empty. -/
def zH (i d m : Int) : Hi := ⟨List.replicate i.toNat sZ, List.replicate d.toNat sZ, List.replicate m.toNat sZ⟩
/-- Three new ones. -/
theorem PH.made {TH T : TypeId} {W w1 w2 w3 : World} {z : List Value} {L1 L2 L3 : List Slo} (h1 : PT T w1 (W.heap.size + 1) W.heap.size L1) (b1 : Below W.heap.size W w1) (h2 : PT T w2 (w1.heap.size + 1) w1.heap.size L2) (b2 : Below w1.heap.size w1 w2) (h3 : PT T w3 (w2.heap.size + 1) w2.heap.size L3) (b3 : Below w2.heap.size w2 w3) (hn : TH ≠ 116) :
    PH TH T z (w3.alloc (.cells (z ++ [Value.pointer (some ⟨W.heap.size + 1, 0, none⟩), Value.pointer (some ⟨w1.heap.size + 1, 0, none⟩), Value.pointer (some ⟨w2.heap.size + 1, 0, none⟩)]).toArray TH)) ⟨w3.heap.size, W.heap.size + 1, W.heap.size, w1.heap.size + 1, w1.heap.size, w2.heap.size + 1, w2.heap.size⟩ ⟨L1, L2, L3⟩ := by
  have b4 := below_new w3 (.cells (z ++ [Value.pointer (some ⟨W.heap.size + 1, 0, none⟩), Value.pointer (some ⟨w1.heap.size + 1, 0, none⟩), Value.pointer (some ⟨w2.heap.size + 1, 0, none⟩)]).toArray TH)
  have l1 := h1.row.lt
  have l2 := h2.row.lt
  have s2 := b2.size
  exact ⟨Bl.new _ _ _, ((h1.below b2).below b3).below b4, (h2.below b3).below b4, h3.below b4, by show W.heap.size ≠ w1.heap.size; omega, by show W.heap.size ≠ w2.heap.size; omega, by show w1.heap.size ≠ w2.heap.size; omega, hn⟩
set_option maxRecDepth 100000 in
set_option maxHeartbeats 4000000 in
theorem hnew_yes (i d m : Int) (W : World) (h : Okn i ∧ Okn d ∧ Okn m) : Calls Tryz.prog 32 #[.int .i64 i, .int .i64 d, .int .i64 m] W fun e w' => ∃ A : Ad, e = .returned (.tuple #[.pointer (some ⟨A.h, 0, none⟩), .int .i64 0]) ∧ PH 145 184 [] w' A (zH i d m) ∧ Below W.heap.size W w' ∧ (∀ x, A.S x → W.heap.size ≤ x) := by
  have H1 := fun w => hidW (tnew_yes i w h.1)
  have H2 := fun w => hidW (tnew_yes d w h.2.1)
  have H3 := fun w => hidW (tnew_yes m w h.2.2)
  clear h
  unfold zH
  generalize List.replicate i.toNat sZ = L1 at *
  generalize List.replicate d.toNat sZ = L2 at *
  generalize List.replicate m.toNat sZ = L3 at *
  go_enter Tryz.func32, Tryz.ntmps32
  go_wp2_with (fail)
  go_at_call 52
  refine (H1 _).out.mono ?_
  rintro e w1 ⟨rfl, hp1, hb1⟩
  have K1 := hidW (And.intro hp1 hb1)
  clear hp1 hb1
  go_wp2_with (fail)
  go_at_call 52
  refine (H2 _).out.mono ?_
  rintro e w2 ⟨rfl, hp2, hb2⟩
  have K2 := hidW (And.intro hp2 hb2)
  clear hp2 hb2
  go_wp2_with (fail)
  go_at_call 52
  refine (H3 _).out.mono ?_
  rintro e w3 ⟨rfl, hp3, hb3⟩
  have K3 := hidW (And.intro hp3 hb3)
  clear hp3 hb3
  have HP := hidW (PH.made (TH := 145) (z := []) K1.out.1 K1.out.2 K2.out.1 K2.out.2 K3.out.1 K3.out.2 (by decide))
  have HL : Hid (W.heap.size ≤ w1.heap.size ∧ W.heap.size ≤ w2.heap.size) := hidW ⟨K1.out.2.size, Nat.le_trans K1.out.2.size K2.out.2.size⟩
  have HB := hidW (Below.step (Below.step K1.out.2 K2.out.2) K3.out.2)
  clear K1 K2 K3 H1 H2 H3
  go_wp2
  go_ret2
  refine ⟨⟨w3.heap.size, W.heap.size + 1, W.heap.size, w1.heap.size + 1, w1.heap.size, w2.heap.size + 1, w2.heap.size⟩, rfl, HP.out, Below.step HB.out (below_new _ _), ?_⟩
  rintro x (hx | hx | hx)
  · rw [hx]; exact Nat.le_refl _
  · rw [hx]; exact HL.out.1
  · rw [hx]; exact HL.out.2
set_option maxRecDepth 100000 in
set_option maxHeartbeats 4000000 in
theorem hplaces_1 (W : World) (A : Ad) (X : Hi) (h : PH 145 184 [] W A X) :
    Calls Tryz.prog 44 #[.pointer (some ⟨A.h, 0, none⟩), .int .i64 1] W fun e w' => e = .returned (.slice (some ⟨W.heap.size, 0, none⟩) X.i.length X.i.length) ∧ Bl w' W.heap.size 116 (rowS X.i) ∧ Below W.heap.size W w' := by
  have c0 := h.box.cell 0
  dsimp only [List.nil_append] at c0
  have HC := hidW (places_any W _ _ X.i h.ti)
  clear h
  go_enter Tryz.func44, Tryz.ntmps44
  go_wp2_with (fail)
  go_at_call 59
  refine HC.out.mono ?_
  rintro e w1 ⟨rfl, hp, hT⟩
  have HP := hidW hp
  have HU := hidW hT
  clear hp hT HC c0
  go_wp2
  go_ret
  exact ⟨rfl, HP.out, HU.out⟩
set_option maxRecDepth 100000 in
set_option maxHeartbeats 4000000 in
theorem hplaces_2 (W : World) (A : Ad) (X : Hi) (h : PH 145 184 [] W A X) :
    Calls Tryz.prog 44 #[.pointer (some ⟨A.h, 0, none⟩), .int .i64 2] W fun e w' => e = .returned (.slice (some ⟨W.heap.size, 0, none⟩) X.d.length X.d.length) ∧ Bl w' W.heap.size 116 (rowS X.d) ∧ Below W.heap.size W w' := by
  have c0 := h.box.cell 1
  dsimp only [List.nil_append] at c0
  have HC := hidW (places_any W _ _ X.d h.td)
  clear h
  go_enter Tryz.func44, Tryz.ntmps44
  go_wp2_with (fail)
  go_at_call 59
  refine HC.out.mono ?_
  rintro e w1 ⟨rfl, hp, hT⟩
  have HP := hidW hp
  have HU := hidW hT
  clear hp hT HC c0
  go_wp2
  go_ret
  exact ⟨rfl, HP.out, HU.out⟩
set_option maxRecDepth 100000 in
set_option maxHeartbeats 4000000 in
theorem hplaces_3 (W : World) (A : Ad) (X : Hi) (h : PH 145 184 [] W A X) :
    Calls Tryz.prog 44 #[.pointer (some ⟨A.h, 0, none⟩), .int .i64 3] W fun e w' => e = .returned (.slice (some ⟨W.heap.size, 0, none⟩) X.m.length X.m.length) ∧ Bl w' W.heap.size 116 (rowS X.m) ∧ Below W.heap.size W w' := by
  have c0 := h.box.cell 2
  dsimp only [List.nil_append] at c0
  have HC := hidW (places_any W _ _ X.m h.tm)
  clear h
  go_enter Tryz.func44, Tryz.ntmps44
  go_wp2_with (fail)
  go_at_call 59
  refine HC.out.mono ?_
  rintro e w1 ⟨rfl, hp, hT⟩
  have HP := hidW hp
  have HU := hidW hT
  clear hp hT HC c0
  go_wp2
  go_ret
  exact ⟨rfl, HP.out, HU.out⟩
set_option maxRecDepth 100000 in
set_option maxHeartbeats 4000000 in
theorem hplaces_no (W : World) (p : Option Addr) (which : Int) (k1 : ¬ which = 1) (k2 : ¬ which = 2) (k3 : ¬ which = 3) :
    Calls Tryz.prog 44 #[.pointer p, .int .i64 which] W fun e w' => e = .returned (.slice none 0 0) ∧ W = w' := by
  go_enter Tryz.func44, Tryz.ntmps44
  go_wp2
  go_ret
  exact ⟨rfl, rfl⟩
/-- A slice of places. -/
def Sv (w : World) (a : Option Addr) (L : List Slo) : Prop := L = [] ∨ ∃ g, a = some ⟨g, 0, none⟩ ∧ Bl w g 116 (rowS L)
theorem hplaces_any (W : World) (A : Ad) (X : Hi) (which : Int) (h : PH 145 184 [] W A X) :
    Calls Tryz.prog 44 #[.pointer (some ⟨A.h, 0, none⟩), .int .i64 which] W fun e w' => ∃ a, e = .returned (.slice a (plH X which).length (plH X which).length) ∧ Sv w' a (plH X which) ∧ Below W.heap.size W w' := by
  unfold plH
  by_cases k1 : which = 1
  · subst k1; exact (hplaces_1 W A X h).mono fun e w' q => ⟨_, q.1, .inr ⟨_, rfl, q.2.1⟩, q.2.2⟩
  by_cases k2 : which = 2
  · subst k2; exact (hplaces_2 W A X h).mono fun e w' q => ⟨_, q.1, .inr ⟨_, rfl, q.2.1⟩, q.2.2⟩
  by_cases k3 : which = 3
  · subst k3; exact (hplaces_3 W A X h).mono fun e w' q => ⟨_, q.1, .inr ⟨_, rfl, q.2.1⟩, q.2.2⟩
  rw [if_neg k1, if_neg k2, if_neg k3]
  refine (hplaces_no W _ which k1 k2 k3).mono ?_
  rintro e w' ⟨h1, rfl⟩
  exact ⟨_, h1, .inl rfl, Below.refl _ _⟩
end Go.Proofs.YtfdjfhhjfgdbaaaGreatDoor
