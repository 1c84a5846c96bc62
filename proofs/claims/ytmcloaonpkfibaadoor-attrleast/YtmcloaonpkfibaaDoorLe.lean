import Derived.Test.YtmcloaonpkfibaaDoorLv
namespace Go.Proofs.YtmcloaonpkfibaaDoor
open Go.RowKit
set_option linter.unusedVariables false
set_option linter.unusedSimpArgs false
theorem fS_spec (h : Nat → Bool) : ∀ (k b : Nat), (∃ x : Nat, fS h k b = ((x : Int), 0) ∧ b ≤ x ∧ x < b + k ∧ h x = true ∧ ∀ c, b ≤ c → c < x → h c = false) ∨ (fS h k b = (0, 63) ∧ ∀ c, b ≤ c → c < b + k → h c = false)
  | 0, b => .inr ⟨rfl, fun c h1 h2 => by omega⟩
  | k + 1, b => by
    unfold fS
    cases hb : h b with
    | true => exact .inl ⟨b, by simp, by omega, by omega, hb, fun c h1 h2 => by omega⟩
    | false =>
      rw [if_neg (by simp)]
      rcases fS_spec h k (b + 1) with ⟨x, h1, h2, h3, h4, h5⟩ | ⟨h1, h2⟩
      · refine .inl ⟨x, h1, by omega, by omega, h4, fun c a1 a2 => ?_⟩
        by_cases hc : c = b
        · rw [hc]; exact hb
        · exact h5 c (by omega) a2
      · refine .inr ⟨h1, fun c a1 a2 => ?_⟩
        by_cases hc : c = b
        · rw [hc]; exact hb
        · exact h2 c (by omega) (by omega)
set_option maxRecDepth 100000 in
set_option maxHeartbeats 1000000 in
theorem least_no (tre : Bool) (p q : Int) (m : Mem) (w : World) (hT : TA w) (H1 : ∀ w, TA w → Calls Tryd.prog 9 #[.agg #[.int .i64 m.t, .int .i64 m.i, .int .i64 m.o, .int .i64 m.s]] w fun e w' => e = .returned (.tuple #[.string ⟨#[]⟩, .int .i64 62]) ∧ Below w.heap.size w w') (H2 : ∀ w, TA w → Calls Tryd.prog 10 #[.bool tre, .int .u32 p, .int .u32 q, .agg #[.int .i64 m.t, .int .i64 m.i, .int .i64 m.o, .int .i64 m.s]] w fun e w' => e = .returned (.tuple #[.int .u32 0, .int .i64 62]) ∧ Below w.heap.size w w') :
    Calls Tryd.prog 3 #[.bool tre, .int .u32 p, .int .u32 q, .agg #[.int .i64 m.t, .int .i64 m.i, .int .i64 m.o, .int .i64 m.s]] w fun e w' => e = .returned (.bool true) ∧ Below w.heap.size w w' := by
  have G1 : Hid _ := H1
  have G2 : Hid _ := H2
  have HX0 : Hid (GX w (w.alloc (.cells #[.int .i64 m.t, .int .i64 m.i, .int .i64 m.o, .int .i64 m.s] 24)) m) := GX.new w m hT
  clear hT H1 H2
  go_enter Tryd.func3, Tryd.ntmps3
  go_wp2_with (fail)
  go_at_call 9
  refine (G1.out _ HX0.out.tab).mono ?_
  rintro e w1 ⟨rfl, hb⟩
  have HX1 : Hid (GX w w1 m) := HX0.out.step hb
  clear hb HX0
  have c0 := HX1.out.box.cell
  go_wp2_with (fail)
  go_at_call 10
  refine (G2.out _ HX1.out.tab).mono ?_
  rintro e w2 ⟨rfl, hb⟩
  have HX2 : Hid (GX w w2 m) := HX1.out.step hb
  clear hb HX1 c0
  go_wp2_with (fail)
  go_at_call 11
  refine (live_any _ HX2.out.tab).mono ?_
  rintro e w3 ⟨rfl, hb⟩
  have HX3 : Hid (GX w w3 m) := HX2.out.step hb
  clear hb HX2 G1 G2
  go_wp2_with (first | (go_at_call 12; refine (no_any _ _).mono ?_; rintro e wn ⟨rfl, rfl⟩) | go_in)
  go_ret
  exact ⟨rfl, HX3.out.bel⟩
set_option maxRecDepth 100000 in
set_option maxHeartbeats 1000000 in
theorem least_at (tre : Bool) (p q : Int) (m : Mem) (w : World) (hT : TA w) (T : ByteArray) (H1 : ∀ w, TA w → Calls Tryd.prog 9 #[.agg #[.int .i64 m.t, .int .i64 m.i, .int .i64 m.o, .int .i64 m.s]] w fun e w' => e = .returned (.tuple #[.string T, .int .i64 0]) ∧ Below w.heap.size w w') (B : Nat) (H2 : ∀ w, TA w → Calls Tryd.prog 10 #[.bool tre, .int .u32 p, .int .u32 q, .agg #[.int .i64 m.t, .int .i64 m.i, .int .i64 m.o, .int .i64 m.s]] w fun e w' => e = .returned (.tuple #[.int .u32 B, .int .i64 0]) ∧ Below w.heap.size w w') (H3 : ∀ (b : Nat) w, TA w → Calls Tryd.prog 13 #[.bool tre, .int .u32 p, .int .u32 q, .int .u32 b] w fun e w' => e = .returned (.tuple #[.agg #[.int .i64 ((oF tre p q b).2).t, .int .i64 ((oF tre p q b).2).i, .int .i64 ((oF tre p q b).2).o, .int .i64 ((oF tre p q b).2).s], .int .i64 (oF tre p q b).1]) ∧ Below w.heap.size w w') (hB : B < 64) (h1 : hit tre p q m B = true) (h2 : ∀ c, c < B → hit tre p q m c = false) :
    Calls Tryd.prog 3 #[.bool tre, .int .u32 p, .int .u32 q, .agg #[.int .i64 m.t, .int .i64 m.i, .int .i64 m.o, .int .i64 m.s]] w fun e w' => e = .returned (.bool true) ∧ Below w.heap.size w w' := by
  have G3 : Hid _ := H3
  have K1 : Hid _ := h1
  have K2 : Hid _ := h2
  clear H3 h1 h2
  have heq := fun a => eqM a m
  have G1 : Hid _ := H1
  have G2 : Hid _ := H2
  have HX0 : Hid (GX w (w.alloc (.cells #[.int .i64 m.t, .int .i64 m.i, .int .i64 m.o, .int .i64 m.s] 24)) m) := GX.new w m hT
  clear hT H1 H2
  go_enter Tryd.func3, Tryd.ntmps3
  go_wp2_with (fail)
  go_at_call 9
  refine (G1.out _ HX0.out.tab).mono ?_
  rintro e w1 ⟨rfl, hb⟩
  have HX1 : Hid (GX w w1 m) := HX0.out.step hb
  clear hb HX0
  have c0 := HX1.out.box.cell
  go_wp2_with (fail)
  go_at_call 10
  refine (G2.out _ HX1.out.tab).mono ?_
  rintro e w2 ⟨rfl, hb⟩
  have HX2 : Hid (GX w w2 m) := HX1.out.step hb
  clear hb HX1 c0
  go_wp2_with (fail)
  go_at_call 11
  refine (live_any _ HX2.out.tab).mono ?_
  rintro e w3 ⟨rfl, hb⟩
  have HX3 : Hid (GX w w3 m) := HX2.out.step hb
  clear hb HX2 G1 G2
  go_wp2_with (first | (go_at_call 12; refine (no_any _ _).mono ?_; rintro e wn ⟨rfl, rfl⟩))
  go_loopw [13] (fun i wr => ∃ k : Nat, k ≤ B ∧ i = .int .u32 k ∧ GX w wr m) (fun i _ => 64 - (intOf i).toNat)
  case atStart => exact ⟨0, by omega, rfl, HX3.out⟩
  case round =>
    obtain ⟨k, hk, rfl, hF⟩ := hrel
    have HF : Hid (GX w _ m) := hF
    clear HX3 hF
    by_cases h : k < B
    · have hh := K2.out k h
      have hc : ((k : Int) == (B : Int)) = false := by simp; omega
      clear K1 K2
      have hi : (k : Int) < 64 := by omega
      have hw : IntKind.u32.wrap ((k : Int) + 1) = ((k + 1 : Nat) : Int) := by rw [IntKind.wrap_u32]; omega
      generalize hE : (oF tre p q k).1 = E at *
      generalize hM : (oF tre p q k).2 = M at *
      have HO1 : Hid (∀ w, TA w → Calls Tryd.prog 13 #[.bool tre, .int .u32 p, .int .u32 q, .int .u32 (k : Nat)] w fun e w' => e = .returned (.tuple #[.agg #[.int .i64 M.t, .int .i64 M.i, .int .i64 M.o, .int .i64 M.s], .int .i64 E]) ∧ Below w.heap.size w w') := fun w hw => by
        rw [← hE, ← hM]
        exact G3.out k w hw
      have he := heq M
      unfold hit at hh
      rw [hE, hM] at hh
      clear heq G3 hE hM
      by_cases h0 : E = 0
      · subst h0
        have h2 : M.same m = false := by simpa using hh
        rw [h2] at he
        clear hh h2
        go_wp2_with (first | (go_at_call 13; refine (HO1.out _ HF.out.tab).mono ?_; rintro e w4 ⟨rfl, hb2⟩; have HF2 : Hid (GX w w4 m) := HF.out.step hb2; have c0 := HF2.out.box.cell 0; have c1 := HF2.out.box.cell 1; have c2 := HF2.out.box.cell 2; have c3 := HF2.out.box.cell 3; have hl := HF2.out.lt; have hne : ¬ (w.heap.size = w4.heap.size) := (by omega); clear hb2) | (go_at_call 12; refine (no_any _ _).mono ?_; rintro e wn ⟨rfl, rfl⟩) | go_in)
        go_roundw
        case rel => exact ⟨k + 1, by omega, congrArg _ (by omega), HF2.out.step (by (repeat (with_reducible refine Below.setCell ?_ (by simp) _)); exact below_new _ _)⟩
        case measure => simp [intOf]; omega
      · have q0 : (E == 0) = false := by simp [h0]
        clear hh h0 he
        go_wp2_with (first | (go_at_call 13; refine (HO1.out _ HF.out.tab).mono ?_; rintro e w4 ⟨rfl, hb2⟩; have HF2 : Hid (GX w w4 m) := HF.out.step hb2; have c0 := HF2.out.box.cell 0; have c1 := HF2.out.box.cell 1; have c2 := HF2.out.box.cell 2; have c3 := HF2.out.box.cell 3; have hl := HF2.out.lt; have hne : ¬ (w.heap.size = w4.heap.size) := (by omega); clear hb2) | (go_at_call 12; refine (no_any _ _).mono ?_; rintro e wn ⟨rfl, rfl⟩) | go_in)
        go_roundw
        case rel => exact ⟨k + 1, by omega, congrArg _ (by omega), HF2.out.step (by (repeat (with_reducible refine Below.setCell ?_ (by simp) _)); exact below_new _ _)⟩
        case measure => simp [intOf]; omega
    · obtain rfl : k = B := by omega
      have hh := K1.out
      clear K1 K2
      have hi : (k : Int) < 64 := by omega
      generalize hE : (oF tre p q k).1 = E at *
      generalize hM : (oF tre p q k).2 = M at *
      have HO1 : Hid (∀ w, TA w → Calls Tryd.prog 13 #[.bool tre, .int .u32 p, .int .u32 q, .int .u32 (k : Nat)] w fun e w' => e = .returned (.tuple #[.agg #[.int .i64 M.t, .int .i64 M.i, .int .i64 M.o, .int .i64 M.s], .int .i64 E]) ∧ Below w.heap.size w w') := fun w hw => by
        rw [← hE, ← hM]
        exact G3.out k w hw
      have he := heq M
      unfold hit at hh
      rw [hE, hM] at hh
      clear heq G3 hE hM
      obtain ⟨g1, g2⟩ := Bool.and_eq_true_iff.1 hh
      rw [g2] at he
      obtain rfl : E = 0 := by simpa using g1
      clear hh g1 g2
      go_wp2_with (first | (go_at_call 13; refine (HO1.out _ HF.out.tab).mono ?_; rintro e w4 ⟨rfl, hb2⟩; have HF2 : Hid (GX w w4 m) := HF.out.step hb2; have c0 := HF2.out.box.cell 0; have c1 := HF2.out.box.cell 1; have c2 := HF2.out.box.cell 2; have c3 := HF2.out.box.cell 3; have hl := HF2.out.lt; have hne : ¬ (w.heap.size = w4.heap.size) := (by omega); clear hb2) | (go_at_call 12; refine (no_any _ _).mono ?_; rintro e wn ⟨rfl, rfl⟩) | go_in)
      go_ret
      exact ⟨rfl, Below.step HF2.out.bel (by (repeat (with_reducible refine Below.setCell ?_ (by simp) _)); exact below_new _ _)⟩
set_option maxRecDepth 100000 in
set_option maxHeartbeats 1000000 in
theorem least_none (tre : Bool) (p q : Int) (m : Mem) (w : World) (hT : TA w) (T : ByteArray) (H1 : ∀ w, TA w → Calls Tryd.prog 9 #[.agg #[.int .i64 m.t, .int .i64 m.i, .int .i64 m.o, .int .i64 m.s]] w fun e w' => e = .returned (.tuple #[.string T, .int .i64 0]) ∧ Below w.heap.size w w') (H2 : ∀ w, TA w → Calls Tryd.prog 10 #[.bool tre, .int .u32 p, .int .u32 q, .agg #[.int .i64 m.t, .int .i64 m.i, .int .i64 m.o, .int .i64 m.s]] w fun e w' => e = .returned (.tuple #[.int .u32 0, .int .i64 63]) ∧ Below w.heap.size w w') (H3 : ∀ (b : Nat) w, TA w → Calls Tryd.prog 13 #[.bool tre, .int .u32 p, .int .u32 q, .int .u32 b] w fun e w' => e = .returned (.tuple #[.agg #[.int .i64 ((oF tre p q b).2).t, .int .i64 ((oF tre p q b).2).i, .int .i64 ((oF tre p q b).2).o, .int .i64 ((oF tre p q b).2).s], .int .i64 (oF tre p q b).1]) ∧ Below w.heap.size w w') (h2 : ∀ c, c < 64 → hit tre p q m c = false) :
    Calls Tryd.prog 3 #[.bool tre, .int .u32 p, .int .u32 q, .agg #[.int .i64 m.t, .int .i64 m.i, .int .i64 m.o, .int .i64 m.s]] w fun e w' => e = .returned (.bool true) ∧ Below w.heap.size w w' := by
  have G3 : Hid _ := H3
  have K2 : Hid _ := h2
  clear H3 h2
  have heq := fun a => eqM a m
  have G1 : Hid _ := H1
  have G2 : Hid _ := H2
  have HX0 : Hid (GX w (w.alloc (.cells #[.int .i64 m.t, .int .i64 m.i, .int .i64 m.o, .int .i64 m.s] 24)) m) := GX.new w m hT
  clear hT H1 H2
  go_enter Tryd.func3, Tryd.ntmps3
  go_wp2_with (fail)
  go_at_call 9
  refine (G1.out _ HX0.out.tab).mono ?_
  rintro e w1 ⟨rfl, hb⟩
  have HX1 : Hid (GX w w1 m) := HX0.out.step hb
  clear hb HX0
  have c0 := HX1.out.box.cell
  go_wp2_with (fail)
  go_at_call 10
  refine (G2.out _ HX1.out.tab).mono ?_
  rintro e w2 ⟨rfl, hb⟩
  have HX2 : Hid (GX w w2 m) := HX1.out.step hb
  clear hb HX1 c0
  go_wp2_with (fail)
  go_at_call 11
  refine (live_any _ HX2.out.tab).mono ?_
  rintro e w3 ⟨rfl, hb⟩
  have HX3 : Hid (GX w w3 m) := HX2.out.step hb
  clear hb HX2 G1 G2
  go_wp2_with (first | (go_at_call 12; refine (no_any _ _).mono ?_; rintro e wn ⟨rfl, rfl⟩))
  go_loopw [13] (fun i wr => ∃ k : Nat, k ≤ 64 ∧ i = .int .u32 k ∧ GX w wr m) (fun i _ => 64 - (intOf i).toNat)
  case atStart => exact ⟨0, by omega, rfl, HX3.out⟩
  case round =>
    obtain ⟨k, hk, rfl, hF⟩ := hrel
    have HF : Hid (GX w _ m) := hF
    clear HX3 hF
    by_cases h : k < 64
    · have hh := K2.out k h
      clear K2
      have hi : (k : Int) < 64 := by omega
      have hw : IntKind.u32.wrap ((k : Int) + 1) = ((k + 1 : Nat) : Int) := by rw [IntKind.wrap_u32]; omega
      generalize hE : (oF tre p q k).1 = E at *
      generalize hM : (oF tre p q k).2 = M at *
      have HO1 : Hid (∀ w, TA w → Calls Tryd.prog 13 #[.bool tre, .int .u32 p, .int .u32 q, .int .u32 (k : Nat)] w fun e w' => e = .returned (.tuple #[.agg #[.int .i64 M.t, .int .i64 M.i, .int .i64 M.o, .int .i64 M.s], .int .i64 E]) ∧ Below w.heap.size w w') := fun w hw => by
        rw [← hE, ← hM]
        exact G3.out k w hw
      have he := heq M
      unfold hit at hh
      rw [hE, hM] at hh
      clear heq G3 hE hM
      by_cases h0 : E = 0
      · subst h0
        have h2 : M.same m = false := by simpa using hh
        rw [h2] at he
        clear hh h2
        go_wp2_with (first | (go_at_call 13; refine (HO1.out _ HF.out.tab).mono ?_; rintro e w4 ⟨rfl, hb2⟩; have HF2 : Hid (GX w w4 m) := HF.out.step hb2; have c0 := HF2.out.box.cell 0; have c1 := HF2.out.box.cell 1; have c2 := HF2.out.box.cell 2; have c3 := HF2.out.box.cell 3; have hl := HF2.out.lt; have hne : ¬ (w.heap.size = w4.heap.size) := (by omega); clear hb2) | (go_at_call 12; refine (no_any _ _).mono ?_; rintro e wn ⟨rfl, rfl⟩) | go_in)
        go_roundw
        case rel => exact ⟨k + 1, by omega, congrArg _ (by omega), HF2.out.step (by (repeat (with_reducible refine Below.setCell ?_ (by simp) _)); exact below_new _ _)⟩
        case measure => simp [intOf]; omega
      · have q0 : (E == 0) = false := by simp [h0]
        clear hh h0 he
        go_wp2_with (first | (go_at_call 13; refine (HO1.out _ HF.out.tab).mono ?_; rintro e w4 ⟨rfl, hb2⟩; have HF2 : Hid (GX w w4 m) := HF.out.step hb2; have c0 := HF2.out.box.cell 0; have c1 := HF2.out.box.cell 1; have c2 := HF2.out.box.cell 2; have c3 := HF2.out.box.cell 3; have hl := HF2.out.lt; have hne : ¬ (w.heap.size = w4.heap.size) := (by omega); clear hb2) | (go_at_call 12; refine (no_any _ _).mono ?_; rintro e wn ⟨rfl, rfl⟩) | go_in)
        go_roundw
        case rel => exact ⟨k + 1, by omega, congrArg _ (by omega), HF2.out.step (by (repeat (with_reducible refine Below.setCell ?_ (by simp) _)); exact below_new _ _)⟩
        case measure => simp [intOf]; omega
    · obtain rfl : k = 64 := by omega
      clear heq G3 K2
      go_wp2_with (first | (go_at_call 12; refine (no_any _ _).mono ?_; rintro e wn ⟨rfl, rfl⟩) | go_in)
      go_ret
      exact ⟨rfl, HF.out.bel⟩
theorem law_least (tre : Bool) (p q : Int) (m : Mem) (w : World) (hT : TA w) (hp : 0 ≤ p ∧ p < 4294967296) (hq : 0 ≤ q ∧ q < 4294967296) :
    Calls Tryd.prog 3 #[.bool tre, .int .u32 p, .int .u32 q, .agg #[.int .i64 m.t, .int .i64 m.i, .int .i64 m.o, .int .i64 m.s]] w fun e w' => e = .returned (.bool true) ∧ Below w.heap.size w w' := by
  have S := fun w hw => show_any m w hw
  have F := fun w (hw : TA w) => find_any tre p q m w hp hq hw.plain
  have O := fun (b : Nat) w (hw : TA w) => of_any tre p q b w hp hq hw.plain
  unfold fI at F
  by_cases h : K m
  · simp only [if_pos h] at S F
    rcases fS_spec (hit tre p q m) 64 0 with ⟨x, h1, h2, h3, h4, h5⟩ | ⟨h1, h2⟩
    · rw [h1] at F
      exact least_at tre p q m w hT _ S x F O (by omega) h4 (fun c hc => h5 c (by omega) hc)
    · rw [h1] at F
      exact least_none tre p q m w hT _ S F O (fun c hc => h2 c (by omega) (by omega))
  · simp only [if_neg h] at S F
    exact least_no tre p q m w hT S F
end Go.Proofs.YtmcloaonpkfibaaDoor
