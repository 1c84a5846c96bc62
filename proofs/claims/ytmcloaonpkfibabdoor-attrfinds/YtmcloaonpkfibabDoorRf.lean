import Derived.Test.YtmcloaonpkfibabDoorFd
import Derived.Test.YtmcloaonpkfibabDoorRo
import Derived.Test.YtmcloaonpkfibabDoorRi
namespace Go.Proofs.YtmcloaonpkfibabDoor
open Go.RowKit
set_option linter.unusedVariables false
set_option linter.unusedSimpArgs false
set_option maxRecDepth 100000 in
set_option maxHeartbeats 4000000 in
theorem rfind_no (tre : Bool) (p q : Int) (m : Mem) (w : World) (hm : ¬ K m) :
    Calls Tryd.prog 11 #[.bool tre, .int .u32 p, .int .u32 q, .agg #[.int .i64 m.t, .int .i64 m.i, .int .i64 m.o, .int .i64 m.s]] w fun e w' => e = .returned (.tuple #[.int .u32 0, .int .i64 62]) ∧ Below w.heap.size w w' := by
  have HK : Hid (∀ w, Calls Tryd.prog 19 #[.agg #[.int .i64 m.t, .int .i64 m.i, .int .i64 m.o, .int .i64 m.s]] w fun e w' => e = .returned (.bool false) ∧ Below w.heap.size w w') := fun w => by
    have := isMem_any m w
    rw [decide_eq_false hm] at this
    exact this
  clear hm
  obtain ⟨t, i, o, s⟩ := m
  simp only at *
  go_enter Tryd.func11, Tryd.ntmps11
  go_wp2_with (first | (go_at_call 19; refine (HK.out _).mono ?_; rintro e w1 ⟨rfl, hb⟩) | go_in)
  go_ret2
  exact ⟨rfl, Below.one hb⟩
set_option maxRecDepth 100000 in
set_option maxHeartbeats 4000000 in
theorem rfind_yes (tre : Bool) (p q : Int) (m : Mem) (w : World) (hm : K m) (hp : 0 ≤ p ∧ p < 4294967296) (hq : 0 ≤ q ∧ q < 4294967296) (hT : TP w) :
    Calls Tryd.prog 11 #[.bool tre, .int .u32 p, .int .u32 q, .agg #[.int .i64 m.t, .int .i64 m.i, .int .i64 m.o, .int .i64 m.s]] w fun e w' => e = .returned (.tuple #[.int .u32 (fS (hit tre p q m) 64 0).1, .int .i64 (fS (hit tre p q m) 64 0).2]) ∧ Below w.heap.size w w' := by
  have HK : Hid (∀ w, Calls Tryd.prog 19 #[.agg #[.int .i64 m.t, .int .i64 m.i, .int .i64 m.o, .int .i64 m.s]] w fun e w' => e = .returned (.bool true) ∧ Below w.heap.size w w') := fun w => by
    have := isMem_any m w
    rw [decide_eq_true hm] at this
    exact this
  have HO : Hid (∀ b w, TP w → Calls Tryd.prog 7 #[.bool tre, .int .u32 p, .int .u32 q, .int .u32 (b : Nat)] w fun e w' => e = .returned (.tuple #[.agg #[.int .i64 ((oF tre p q b).2).t, .int .i64 ((oF tre p q b).2).i, .int .i64 ((oF tre p q b).2).o, .int .i64 ((oF tre p q b).2).s], .int .i64 (oF tre p q b).1]) ∧ Below w.heap.size w w') := fun b w hw => rof_any tre p q b w hp hq
  have HX : Hid (FX w (w.alloc (.cells #[.int .i64 m.t, .int .i64 m.i, .int .i64 m.o, .int .i64 m.s] 24)) m) := FX.new w m hT
  clear hm hT hp hq
  have heq := fun a => eqM a m
  go_enter Tryd.func11, Tryd.ntmps11
  go_wp2_with (first | (go_at_call 19; refine (HK.out _).mono ?_; rintro e w1 ⟨rfl, hb⟩; have HX1 : Hid (FX w w1 m) := HX.out.step hb; clear hb) | go_in)
  go_loopw [10] (fun i wr => ∃ b : Nat, b ≤ 64 ∧ i = .int .u32 b ∧ fS (hit tre p q m) 64 0 = fS (hit tre p q m) (64 - b) b ∧ FX w wr m) (fun i _ => 64 - (intOf i).toNat)
  case atStart => exact ⟨0, by omega, rfl, rfl, HX1.out⟩
  case round =>
    obtain ⟨b, hb, rfl, hS, hF⟩ := hrel
    have HF : Hid (FX w _ m) := hF
    clear HX HX1 HK
    by_cases h : b < 64
    · have hi : (b : Int) < 64 := by omega
      have hw : IntKind.u32.wrap ((b : Int) + 1) = ((b + 1 : Nat) : Int) := by rw [IntKind.wrap_u32]; omega
      generalize hE : (oF tre p q b).1 = E at *
      generalize hM : (oF tre p q b).2 = M at *
      have HO1 : Hid (∀ w, TP w → Calls Tryd.prog 7 #[.bool tre, .int .u32 p, .int .u32 q, .int .u32 (b : Nat)] w fun e w' => e = .returned (.tuple #[.agg #[.int .i64 M.t, .int .i64 M.i, .int .i64 M.o, .int .i64 M.s], .int .i64 E]) ∧ Below w.heap.size w w') := fun w hw => by
        rw [← hE, ← hM]
        exact HO.out b w hw
      have hfin : ∀ {w2 w3 : World}, FX w w2 m → Below w2.heap.size w2 w3 → Below w.heap.size w w3 := fun h1 h2 => Below.step h1.bel h2
      have HFin : Hid (∀ {w2 w3 : World}, FX w w2 m → Below w2.heap.size w2 w3 → Below w.heap.size w w3) := hfin
      have HS : Hid (fS (hit tre p q m) 64 0 = fS (hit tre p q m) (64 - b) b) := hS
      have he := heq M
      clear heq hfin hF hS HO
      cases hh : hit tre p q m b with
      | true =>
        have HR : Hid (fS (hit tre p q m) 64 0 = ((b : Int), 0)) := HS.out.trans (fS_hit h hh)
        unfold hit at hh
        rw [hE, hM] at hh
        obtain ⟨h1, h2⟩ := Bool.and_eq_true_iff.1 hh
        rw [h2] at he
        obtain rfl : E = 0 := by simpa using h1
        clear hh h1 h2 h hb hE hM
        go_wp2_with (first | (go_at_call 7; refine (HO1.out _ HF.out.tab).mono ?_; rintro e w2 ⟨rfl, hb2⟩; have HF2 : Hid (FX w w2 m) := HF.out.step hb2; have c0 := HF2.out.box.cell 0; have c1 := HF2.out.box.cell 1; have c2 := HF2.out.box.cell 2; have c3 := HF2.out.box.cell 3; have hl := HF2.out.lt; have hne : ¬ (w.heap.size = w2.heap.size) := (by omega); clear hb2) | go_in)
        go_ret2
        exact ⟨by rw [HR.out]; rfl, HFin.out HF2.out (by (repeat (with_reducible refine Below.setCell ?_ (by simp) _)); exact below_new _ _)⟩
      | false =>
        have HR : Hid (fS (hit tre p q m) 64 0 = fS (hit tre p q m) (64 - (b + 1)) (b + 1)) := HS.out.trans (fS_miss h hh)
        unfold hit at hh
        rw [hE, hM] at hh
        by_cases h0 : E = 0
        · subst h0
          have h2 : M.same m = false := by simpa using hh
          rw [h2] at he
          clear hh h2 hb hE hM
          go_wp2_with (first | (go_at_call 7; refine (HO1.out _ HF.out.tab).mono ?_; rintro e w2 ⟨rfl, hb2⟩; have HF2 : Hid (FX w w2 m) := HF.out.step hb2; have c0 := HF2.out.box.cell 0; have c1 := HF2.out.box.cell 1; have c2 := HF2.out.box.cell 2; have c3 := HF2.out.box.cell 3; have hl := HF2.out.lt; have hne : ¬ (w.heap.size = w2.heap.size) := (by omega); clear hb2) | go_in)
          go_roundw
          case rel => exact ⟨b + 1, by omega, congrArg _ (by omega), HR.out, HF2.out.step (by (repeat (with_reducible refine Below.setCell ?_ (by simp) _)); exact below_new _ _)⟩
          case measure => simp [intOf]; omega
        · have q0 : (E == 0) = false := by simp [h0]
          clear hh hb hE hM h0 he
          go_wp2_with (first | (go_at_call 7; refine (HO1.out _ HF.out.tab).mono ?_; rintro e w2 ⟨rfl, hb2⟩; have HF2 : Hid (FX w w2 m) := HF.out.step hb2; have c0 := HF2.out.box.cell 0; have c1 := HF2.out.box.cell 1; have c2 := HF2.out.box.cell 2; have c3 := HF2.out.box.cell 3; have hl := HF2.out.lt; have hne : ¬ (w.heap.size = w2.heap.size) := (by omega); clear hb2) | go_in)
          go_roundw
          case rel => exact ⟨b + 1, by omega, congrArg _ (by omega), HR.out, HF2.out.step (by (repeat (with_reducible refine Below.setCell ?_ (by simp) _)); exact below_new _ _)⟩
          case measure => simp [intOf]; omega
    · obtain rfl : b = 64 := by omega
      rw [fS_end] at hS
      have HB : Hid (Below w.heap.size w _) := hF.bel
      clear hF
      go_wp2
      go_ret2
      exact ⟨by rw [hS]; rfl, HB.out⟩
theorem rfind_any (tre : Bool) (p q : Int) (m : Mem) (w : World) (hp : 0 ≤ p ∧ p < 4294967296) (hq : 0 ≤ q ∧ q < 4294967296) (hT : TP w) :
    Calls Tryd.prog 11 #[.bool tre, .int .u32 p, .int .u32 q, .agg #[.int .i64 m.t, .int .i64 m.i, .int .i64 m.o, .int .i64 m.s]] w fun e w' => e = .returned (.tuple #[.int .u32 (fI tre p q m).1, .int .i64 (fI tre p q m).2]) ∧ Below w.heap.size w w' := by
  unfold fI
  by_cases h : K m
  · rw [if_pos h]
    exact rfind_yes tre p q m w h hp hq hT
  · rw [if_neg h]
    exact rfind_no tre p q m w h
end Go.Proofs.YtmcloaonpkfibabDoor
