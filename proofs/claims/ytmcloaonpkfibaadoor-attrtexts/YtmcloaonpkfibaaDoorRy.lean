import Derived.Test.YtmcloaonpkfibaaDoorRv
namespace Go.Proofs.YtmcloaonpkfibaaDoor
open Go.RowKit
set_option linter.unusedVariables false
set_option linter.unusedSimpArgs false
/-- The result's block in a world behind. -/
structure ZX (w wr : World) : Prop where
  bel : Below w.heap.size w wr
  box : Bl wr w.heap.size 24 [.int .i64 0, .int .i64 0, .int .i64 0, .int .i64 0]
theorem ZX.new (w : World) : ZX w (w.alloc (.cells #[.int .i64 0, .int .i64 0, .int .i64 0, .int .i64 0] 24)) := ⟨below_new _ _, Bl.new w _ _⟩
theorem ZX.step {w wr wn : World} (h : ZX w wr) (hb : Below wr.heap.size wr wn) : ZX w wn := ⟨Below.step h.bel hb, h.box.below hb⟩
theorem rd_none {x : ByteArray} (h : ∀ m, K m → tx m ≠ x) : rd x = (62, mZ) := by
  rcases rd_err x with h1 | h1
  · obtain ⟨a, b⟩ := rd_ok (s := x) (m := (rd x).2) (by rw [← h1])
    exact absurd b (h _ a)
  · exact h1
set_option maxRecDepth 100000 in
set_option maxHeartbeats 1000000 in
theorem rread_any (x : ByteArray) (w : World) : Calls Tryd.prog 16 #[.string x] w fun e w' => e = .returned (.tuple #[.agg #[.int .i64 ((rd x).2).t, .int .i64 ((rd x).2).i, .int .i64 ((rd x).2).o, .int .i64 ((rd x).2).s], .int .i64 (rd x).1]) ∧ Below w.heap.size w w' := by
  have HX0 : Hid (ZX w (w.alloc (.cells #[.int .i64 0, .int .i64 0, .int .i64 0, .int .i64 0] 24))) := ZX.new w
  have HY : Hid (∀ m, K m → tx m = x → rd x = (0, m)) := fun m hm he => by rw [← he]; exact rd_tx hm
  have HZ : Hid ((∀ m, K m → tx m ≠ x) → rd x = (62, mZ)) := rd_none
  generalize rd x = R at *
  go_enter Tryd.func16, Tryd.ntmps16
  go_wp2
  go_loopw [4] (fun v wr => ∃ (t : Nat), t ≤ 3 ∧ v = .int .i64 t ∧ No x t 0 0 0 ∧ ZX w wr) (fun v _ => 3 - (intOf v).toNat)
  case atStart => exact ⟨0, by omega, rfl, No.zero x, HX0.out⟩
  case round =>
    obtain ⟨t, ht, rfl, hN, hF⟩ := hrel
    have HN1 : Hid (No x t 0 0 0) := hN
    have HF1 : Hid (ZX w _) := hF
    clear HX0 hN hF
    by_cases h1 : t < 3
    · have g1 : (t : Int) < 3 := by omega
      have wt : IntKind.i64.wrap ((t : Int) + 1) = ((t + 1 : Nat) : Int) := by rw [IntKind.wrap_i64]; omega
      go_wp2
      go_loopw [5] (fun v wr => ∃ (i : Nat), i ≤ 4 ∧ v = .int .i64 i ∧ No x t i 0 0 ∧ ZX w wr) (fun v _ => 4 - (intOf v).toNat)
      case atStart => exact ⟨0, by omega, rfl, HN1.out, HF1.out⟩
      case round =>
        obtain ⟨i, hi, rfl, hN, hF⟩ := hrel
        have HN2 : Hid (No x t i 0 0) := hN
        have HF2 : Hid (ZX w _) := hF
        clear HN1 HF1 hN hF
        by_cases h2 : i < 4
        · have g2 : (i : Int) < 4 := by omega
          have wi : IntKind.i64.wrap ((i : Int) + 1) = ((i + 1 : Nat) : Int) := by rw [IntKind.wrap_i64]; omega
          go_wp2
          go_loopw [6] (fun v wr => ∃ (o : Nat), o ≤ 4 ∧ v = .int .i64 o ∧ No x t i o 0 ∧ ZX w wr) (fun v _ => 4 - (intOf v).toNat)
          case atStart => exact ⟨0, by omega, rfl, HN2.out, HF2.out⟩
          case round =>
            obtain ⟨o, ho, rfl, hN, hF⟩ := hrel
            have HN3 : Hid (No x t i o 0) := hN
            have HF3 : Hid (ZX w _) := hF
            clear HN2 HF2 hN hF
            by_cases h3 : o < 4
            · have g3 : (o : Int) < 4 := by omega
              have wo : IntKind.i64.wrap ((o : Int) + 1) = ((o + 1 : Nat) : Int) := by rw [IntKind.wrap_i64]; omega
              go_wp2
              go_loopw [7] (fun v wr => ∃ (s : Nat), s ≤ 3 ∧ v = .int .i64 s ∧ No x t i o s ∧ ZX w wr) (fun v _ => 3 - (intOf v).toNat)
              case atStart => exact ⟨0, by omega, rfl, HN3.out, HF3.out⟩
              case round =>
                obtain ⟨s, hs, rfl, hN, hF⟩ := hrel
                have HN4 : Hid (No x t i o s) := hN
                have HF4 : Hid (ZX w _) := hF
                clear HN3 HF3 hN hF
                by_cases h4 : s < 3
                · have g4 : (s : Int) < 3 := by omega
                  have ws : IntKind.i64.wrap ((s : Int) + 1) = ((s + 1 : Nat) : Int) := by rw [IntKind.wrap_i64]; omega
                  by_cases hK : K ⟨t, i, o, s⟩
                  · have HS : Hid (∀ w, Calls Tryd.prog 15 #[.agg #[.int .i64 t, .int .i64 i, .int .i64 o, .int .i64 s]] w fun e w' => e = .returned (.tuple #[.string (tx ⟨t, i, o, s⟩), .int .i64 0]) ∧ Below w.heap.size w w') := fun w => rshow_yes ⟨t, i, o, s⟩ w hK
                    by_cases hx : tx ⟨t, i, o, s⟩ = x
                    · have HR : Hid (R = (0, ⟨t, i, o, s⟩)) := HY.out _ hK hx
                      have q : ((tx ⟨t, i, o, s⟩).toList == x.toList) = true := by rw [hx]; simp
                      clear hx hK HY HZ HN4
                      generalize tx ⟨t, i, o, s⟩ = X at *
                      go_wp2_with (fail)
                      go_at_call 15
                      refine (HS.out _).mono ?_
                      rintro e w2 ⟨rfl, hb⟩
                      have HF5 : Hid (ZX w w2) := (HF4.out.step (below_new _ _)).step hb
                      have HB2 : Hid (Below w.heap.size w w2) := HF5.out.bel
                      have c0 := HF5.out.box.cell
                      have f0 := HF5.out.box.frozen
                      have l0 := HF5.out.box.lt
                      have c1 := ((Bl.new _ 24 [.int .i64 t, .int .i64 i, .int .i64 o, .int .i64 s]).below hb).cell
                      have l1 := ((Bl.new _ 24 [.int .i64 t, .int .i64 i, .int .i64 o, .int .i64 s]).below hb).lt
                      clear hb HF4 HS
                      go_wp2_with (fail)
                      refine bodyPost_ret (v := .tuple #[.agg #[.int .i64 t, .int .i64 i, .int .i64 o, .int .i64 s], .int .i64 0]) (by simp [results, Tryd.results16, go_sem, c0, f0]) rfl ⟨by rw [HR.out], (by (repeat (with_reducible refine Below.setCell ?_ (by simp) _)); exact HB2.out)⟩
                    · have HR : Hid (No x t i o (s + 1)) := HN4.out.s (fun _ => hx)
                      have q : ((tx ⟨t, i, o, s⟩).toList == x.toList) = false := sNe hx
                      clear hx hK HN4
                      generalize tx ⟨t, i, o, s⟩ = X at *
                      go_wp2_with (fail)
                      go_at_call 15
                      refine (HS.out _).mono ?_
                      rintro e w2 ⟨rfl, hb⟩
                      have HF5 : Hid (ZX w w2) := (HF4.out.step (below_new _ _)).step hb
                      have HB2 : Hid (Below w.heap.size w w2) := HF5.out.bel
                      have c0 := HF5.out.box.cell
                      have f0 := HF5.out.box.frozen
                      have l0 := HF5.out.box.lt
                      have c1 := ((Bl.new _ 24 [.int .i64 t, .int .i64 i, .int .i64 o, .int .i64 s]).below hb).cell
                      have l1 := ((Bl.new _ 24 [.int .i64 t, .int .i64 i, .int .i64 o, .int .i64 s]).below hb).lt
                      clear hb HF4 HS
                      go_wp2_with (fail)
                      go_roundw
                      case rel => exact ⟨s + 1, by omega, congrArg _ (by omega), HR.out, HF5.out⟩
                      case measure => simp [intOf]; omega
                  · have HS : Hid (∀ w, Calls Tryd.prog 15 #[.agg #[.int .i64 t, .int .i64 i, .int .i64 o, .int .i64 s]] w fun e w' => e = .returned (.tuple #[.string ⟨#[]⟩, .int .i64 62]) ∧ Below w.heap.size w w') := fun w => rshow_no ⟨t, i, o, s⟩ w hK
                    have HR : Hid (No x t i o (s + 1)) := HN4.out.s (fun h => absurd h hK)
                    clear hK HN4
                    go_wp2_with (fail)
                    go_at_call 15
                    refine (HS.out _).mono ?_
                    rintro e w2 ⟨rfl, hb⟩
                    have HF5 : Hid (ZX w w2) := (HF4.out.step (below_new _ _)).step hb
                    have HB2 : Hid (Below w.heap.size w w2) := HF5.out.bel
                    have c0 := HF5.out.box.cell
                    have f0 := HF5.out.box.frozen
                    have l0 := HF5.out.box.lt
                    have c1 := ((Bl.new _ 24 [.int .i64 t, .int .i64 i, .int .i64 o, .int .i64 s]).below hb).cell
                    have l1 := ((Bl.new _ 24 [.int .i64 t, .int .i64 i, .int .i64 o, .int .i64 s]).below hb).lt
                    clear hb HF4 HS
                    go_wp2_with (fail)
                    go_roundw
                    case rel => exact ⟨s + 1, by omega, congrArg _ (by omega), HR.out, HF5.out⟩
                    case measure => simp [intOf]; omega
                · obtain rfl : s = 3 := by omega
                  go_wp2
                  go_roundw
                  case rel => exact ⟨o + 1, by omega, congrArg _ (by omega), HN4.out.o, HF4.out⟩
                  case measure => simp [intOf]; omega
            · obtain rfl : o = 4 := by omega
              go_wp2
              go_roundw
              case rel => exact ⟨i + 1, by omega, congrArg _ (by omega), HN3.out.i, HF3.out⟩
              case measure => simp [intOf]; omega
        · obtain rfl : i = 4 := by omega
          go_wp2
          go_roundw
          case rel => exact ⟨t + 1, by omega, congrArg _ (by omega), HN2.out.t, HF2.out⟩
          case measure => simp [intOf]; omega
    · obtain rfl : t = 3 := by omega
      have HR : Hid (R = (62, mZ)) := HZ.out HN1.out.all
      clear HY HZ HN1
      have c0 := HF1.out.box.cell
      have f0 := HF1.out.box.frozen
      have l0 := HF1.out.box.lt
      go_wp2
      refine bodyPost_ret (v := .tuple #[.agg #[.int .i64 0, .int .i64 0, .int .i64 0, .int .i64 0], .int .i64 62]) (by simp [results, Tryd.results16, go_sem, c0, f0]) rfl ⟨by rw [HR.out]; rfl, (by (repeat (with_reducible refine Below.setCell ?_ (by simp) _)); exact HF1.out.bel)⟩
end Go.Proofs.YtmcloaonpkfibaaDoor
