import Derived.Test.YtmcloaonpkfibaaDoorRm
namespace Go.Proofs.YtmcloaonpkfibaaDoor
open Go.RowKit
set_option linter.unusedVariables false
set_option linter.unusedSimpArgs false
/-- These bits mean it. -/
def hit (tre : Bool) (p q : Int) (m : Mem) (b : Nat) : Bool := (oF tre p q b).1 == 0 && (oF tre p q b).2.same m
def fS (h : Nat → Bool) : Nat → Nat → Int × Int
  | 0, _ => (0, 63)
  | k + 1, b => if h b then ((b : Int), 0) else fS h k (b + 1)
theorem fS_hit {h : Nat → Bool} {b : Nat} (hb : b < 64) (hh : h b = true) : fS h (64 - b) b = ((b : Int), 0) := by
  obtain ⟨k, hk⟩ : ∃ k, 64 - b = k + 1 := ⟨63 - b, by omega⟩
  rw [hk, fS, if_pos hh]
theorem fS_miss {h : Nat → Bool} {b : Nat} (hb : b < 64) (hh : h b = false) : fS h (64 - b) b = fS h (64 - (b + 1)) (b + 1) := by
  obtain ⟨k, hk⟩ : ∃ k, 64 - b = k + 1 := ⟨63 - b, by omega⟩
  rw [hk, fS, if_neg (by simp [hh]), show 64 - (b + 1) = k by omega]
theorem fS_end (h : Nat → Bool) : fS h (64 - 64) 64 = (0, 63) := rfl
/-- What Find answers: the bits and the error. -/
def fI (tre : Bool) (p q : Int) (m : Mem) : Int × Int := if K m then fS (hit tre p q m) 64 0 else (0, 62)
theorem Below.step {w w1 w2 : World} (h : Below w.heap.size w w1) (h2 : Below w1.heap.size w1 w2) : Below w.heap.size w w2 := h.trans (h2.mono h.size)
/-- A box of a kind, in a world behind. -/
structure FX (w wr : World) (m : Mem) : Prop where
  bel : Below w.heap.size w wr
  box : Bl wr w.heap.size 24 [.int .i64 m.t, .int .i64 m.i, .int .i64 m.o, .int .i64 m.s]
  tab : TP wr
theorem FX.new (w : World) (m : Mem) (h : TP w) : FX w (w.alloc (.cells #[.int .i64 m.t, .int .i64 m.i, .int .i64 m.o, .int .i64 m.s] 24)) m := ⟨below_new _ _, Bl.new w _ _, h.below (below_new _ _)⟩
theorem FX.step {w wr wn : World} {m : Mem} (h : FX w wr m) (hb : Below wr.heap.size wr wn) : FX w wn m := ⟨Below.step h.bel hb, h.box.below hb, h.tab.below hb⟩
theorem FX.alloc {w wr : World} {m : Mem} (h : FX w wr m) (o : Obj) : FX w (wr.alloc o) m := h.step (below_new _ _)
theorem FX.lt {w wr : World} {m : Mem} (h : FX w wr m) : w.heap.size < wr.heap.size := h.box.lt
theorem below_set {w w' : World} (h : Below w.heap.size w w') {a : Addr} {v : Value} (ha : w.heap.size ≤ a.block) : Below w.heap.size w (w'.setCell a v) := Below.setCell h ha v
set_option maxRecDepth 100000 in
set_option maxHeartbeats 4000000 in
theorem find_no (tre : Bool) (p q : Int) (m : Mem) (w : World) (hm : ¬ K m) :
    Calls Tryd.prog 10 #[.bool tre, .int .u32 p, .int .u32 q, .agg #[.int .i64 m.t, .int .i64 m.i, .int .i64 m.o, .int .i64 m.s]] w fun e w' => e = .returned (.tuple #[.int .u32 0, .int .i64 62]) ∧ Below w.heap.size w w' := by
  have HK : Hid (∀ w, Calls Tryd.prog 17 #[.agg #[.int .i64 m.t, .int .i64 m.i, .int .i64 m.o, .int .i64 m.s]] w fun e w' => e = .returned (.bool false) ∧ Below w.heap.size w w') := fun w => by
    have := isKind_any m w
    rw [decide_eq_false hm] at this
    exact this
  clear hm
  obtain ⟨t, i, o, s⟩ := m
  simp only at *
  go_enter Tryd.func10, Tryd.ntmps10
  go_wp2_with (first | (go_at_call 17; refine (HK.out _).mono ?_; rintro e w1 ⟨rfl, hb⟩) | go_in)
  go_ret2
  exact ⟨rfl, Below.one hb⟩
set_option maxRecDepth 100000 in
set_option maxHeartbeats 4000000 in
theorem find_yes (tre : Bool) (p q : Int) (m : Mem) (w : World) (hm : K m) (hp : 0 ≤ p ∧ p < 4294967296) (hq : 0 ≤ q ∧ q < 4294967296) (hT : TP w) :
    Calls Tryd.prog 10 #[.bool tre, .int .u32 p, .int .u32 q, .agg #[.int .i64 m.t, .int .i64 m.i, .int .i64 m.o, .int .i64 m.s]] w fun e w' => e = .returned (.tuple #[.int .u32 (fS (hit tre p q m) 64 0).1, .int .i64 (fS (hit tre p q m) 64 0).2]) ∧ Below w.heap.size w w' := by
  have HK : Hid (∀ w, Calls Tryd.prog 17 #[.agg #[.int .i64 m.t, .int .i64 m.i, .int .i64 m.o, .int .i64 m.s]] w fun e w' => e = .returned (.bool true) ∧ Below w.heap.size w w') := fun w => by
    have := isKind_any m w
    rw [decide_eq_true hm] at this
    exact this
  have HO : Hid (∀ b w, TP w → Calls Tryd.prog 13 #[.bool tre, .int .u32 p, .int .u32 q, .int .u32 (b : Nat)] w fun e w' => e = .returned (.tuple #[.agg #[.int .i64 ((oF tre p q b).2).t, .int .i64 ((oF tre p q b).2).i, .int .i64 ((oF tre p q b).2).o, .int .i64 ((oF tre p q b).2).s], .int .i64 (oF tre p q b).1]) ∧ Below w.heap.size w w') := fun b w hw => of_any tre p q b w hp hq hw
  have HX : Hid (FX w (w.alloc (.cells #[.int .i64 m.t, .int .i64 m.i, .int .i64 m.o, .int .i64 m.s] 24)) m) := FX.new w m hT
  clear hm hT hp hq
  have heq := fun a => eqM a m
  go_enter Tryd.func10, Tryd.ntmps10
  go_wp2_with (first | (go_at_call 17; refine (HK.out _).mono ?_; rintro e w1 ⟨rfl, hb⟩; have HX1 : Hid (FX w w1 m) := HX.out.step hb; clear hb) | go_in)
  go_loopw [10] (fun i wr => ∃ b : Nat, b ≤ 64 ∧ i = .int .u32 b ∧ fS (hit tre p q m) 64 0 = fS (hit tre p q m) (64 - b) b ∧ FX w wr m) (fun i _ => 64 - (intOf i).toNat)
  case atStart => exact ⟨0, by omega, rfl, rfl, HX1.out⟩
  case round =>
    obtain ⟨b, hb, rfl, hS, hF⟩ := hrel
    have HF : Hid (FX w _ m) := hF
    clear HX HX1 HK
    by_cases h : b < 64
    · have hi : (b : Int) < 64 := by omega
      have hw : IntKind.u32.wrap ((b : Int) + 1) = ((b + 1 : Nat) : Int) := by rw [IntKind.wrap_u32]; omega
      generalize hE : (oF tre p q b).1 = E at *
      generalize hM : (oF tre p q b).2 = M at *
      have HO1 : Hid (∀ w, TP w → Calls Tryd.prog 13 #[.bool tre, .int .u32 p, .int .u32 q, .int .u32 (b : Nat)] w fun e w' => e = .returned (.tuple #[.agg #[.int .i64 M.t, .int .i64 M.i, .int .i64 M.o, .int .i64 M.s], .int .i64 E]) ∧ Below w.heap.size w w') := fun w hw => by
        rw [← hE, ← hM]
        exact HO.out b w hw
      have hfin : ∀ {w2 w3 : World}, FX w w2 m → Below w2.heap.size w2 w3 → Below w.heap.size w w3 := fun h1 h2 => Below.step h1.bel h2
      have HFin : Hid (∀ {w2 w3 : World}, FX w w2 m → Below w2.heap.size w2 w3 → Below w.heap.size w w3) := hfin
      have HS : Hid (fS (hit tre p q m) 64 0 = fS (hit tre p q m) (64 - b) b) := hS
      have he := heq M
      clear heq hfin hF hS HO
      cases hh : hit tre p q m b with
      | true =>
        have HR : Hid (fS (hit tre p q m) 64 0 = ((b : Int), 0)) := HS.out.trans (fS_hit h hh)
        unfold hit at hh
        rw [hE, hM] at hh
        obtain ⟨h1, h2⟩ := Bool.and_eq_true_iff.1 hh
        rw [h2] at he
        obtain rfl : E = 0 := by simpa using h1
        clear hh h1 h2 h hb hE hM
        go_wp2_with (first | (go_at_call 13; refine (HO1.out _ HF.out.tab).mono ?_; rintro e w2 ⟨rfl, hb2⟩; have HF2 : Hid (FX w w2 m) := HF.out.step hb2; have c0 := HF2.out.box.cell 0; have c1 := HF2.out.box.cell 1; have c2 := HF2.out.box.cell 2; have c3 := HF2.out.box.cell 3; have hl := HF2.out.lt; have hne : ¬ (w.heap.size = w2.heap.size) := (by omega); clear hb2) | go_in)
        go_ret2
        exact ⟨by rw [HR.out]; rfl, HFin.out HF2.out (by (repeat (with_reducible refine Below.setCell ?_ (by simp) _)); exact below_new _ _)⟩
      | false =>
        have HR : Hid (fS (hit tre p q m) 64 0 = fS (hit tre p q m) (64 - (b + 1)) (b + 1)) := HS.out.trans (fS_miss h hh)
        unfold hit at hh
        rw [hE, hM] at hh
        by_cases h0 : E = 0
        · subst h0
          have h2 : M.same m = false := by simpa using hh
          rw [h2] at he
          clear hh h2 hb hE hM
          go_wp2_with (first | (go_at_call 13; refine (HO1.out _ HF.out.tab).mono ?_; rintro e w2 ⟨rfl, hb2⟩; have HF2 : Hid (FX w w2 m) := HF.out.step hb2; have c0 := HF2.out.box.cell 0; have c1 := HF2.out.box.cell 1; have c2 := HF2.out.box.cell 2; have c3 := HF2.out.box.cell 3; have hl := HF2.out.lt; have hne : ¬ (w.heap.size = w2.heap.size) := (by omega); clear hb2) | go_in)
          go_roundw
          case rel => exact ⟨b + 1, by omega, congrArg _ (by omega), HR.out, HF2.out.step (by (repeat (with_reducible refine Below.setCell ?_ (by simp) _)); exact below_new _ _)⟩
          case measure => simp [intOf]; omega
        · have q0 : (E == 0) = false := by simp [h0]
          clear hh hb hE hM h0 he
          go_wp2_with (first | (go_at_call 13; refine (HO1.out _ HF.out.tab).mono ?_; rintro e w2 ⟨rfl, hb2⟩; have HF2 : Hid (FX w w2 m) := HF.out.step hb2; have c0 := HF2.out.box.cell 0; have c1 := HF2.out.box.cell 1; have c2 := HF2.out.box.cell 2; have c3 := HF2.out.box.cell 3; have hl := HF2.out.lt; have hne : ¬ (w.heap.size = w2.heap.size) := (by omega); clear hb2) | go_in)
          go_roundw
          case rel => exact ⟨b + 1, by omega, congrArg _ (by omega), HR.out, HF2.out.step (by (repeat (with_reducible refine Below.setCell ?_ (by simp) _)); exact below_new _ _)⟩
          case measure => simp [intOf]; omega
    · obtain rfl : b = 64 := by omega
      rw [fS_end] at hS
      have HB : Hid (Below w.heap.size w _) := hF.bel
      clear hF
      go_wp2
      go_ret2
      exact ⟨by rw [hS]; rfl, HB.out⟩
theorem find_any (tre : Bool) (p q : Int) (m : Mem) (w : World) (hp : 0 ≤ p ∧ p < 4294967296) (hq : 0 ≤ q ∧ q < 4294967296) (hT : TP w) :
    Calls Tryd.prog 10 #[.bool tre, .int .u32 p, .int .u32 q, .agg #[.int .i64 m.t, .int .i64 m.i, .int .i64 m.o, .int .i64 m.s]] w fun e w' => e = .returned (.tuple #[.int .u32 (fI tre p q m).1, .int .i64 (fI tre p q m).2]) ∧ Below w.heap.size w w' := by
  unfold fI
  by_cases h : K m
  · rw [if_pos h]
    exact find_yes tre p q m w h hp hq hT
  · rw [if_neg h]
    exact find_no tre p q m w h
end Go.Proofs.YtmcloaonpkfibaaDoor
