import Derived.Test.YtdinmhjdnnhhjaaDoorLe
namespace Go.Proofs.YtdinmhjdnnhhjaaDoor
open Go.RowKit
set_option linter.unusedVariables false
set_option linter.unusedSimpArgs false
set_option maxRecDepth 100000 in
set_option maxHeartbeats 8000000 in
theorem lnamed_any (r : Nat) (w : World) (hT : TR w) (hr : r < 13) :
    Calls Tryd.prog 16 #[.int .i64 (r : Int)] w fun e w' => e = .returned (.tuple #[.agg #[.int .i64 ((rg r).t).a, .int .i64 ((rg r).t).b, .int .i64 ((rg r).t).c, .int .i64 ((rg r).t).d], .int .i64 1]) ∧ Below w.heap.size w w' := by
  obtain ⟨A, B, C, D, hTu, hA, hB, hC, hD⟩ := rg_small r hr
  have HQl : Hid (posT A B C D < 16384) := by show _ < _; unfold posT; omega
  have HHit : Hid (∀ a b c d : Nat, a < 16 → b < 8 → c < 16 → d < 8 → (posT A B C D = posT a b c d → regOf ⟨a, b, c, d⟩ = some r ∧ A = a ∧ B = b ∧ C = c ∧ D = d) ∧ (posT A B C D ≠ posT a b c d → regOf ⟨a, b, c, d⟩ ≠ some r)) := fun a b c d ha hb hc hd => by
    refine ⟨fun h => ?_, fun h => ?_⟩
    · have e1 : A = a ∧ B = b ∧ C = c ∧ D = d := by unfold posT at h; omega
      refine ⟨reg_hit (Q := 0) hr hTu ?_, e1⟩
      obtain ⟨rfl, rfl, rfl, rfl⟩ := e1
      rfl
    · refine reg_miss hTu (fun e => h ?_)
      injection e with e1 e2 e3 e4
      have f1 : A = a := by omega
      have f2 : B = b := by omega
      have f3 : C = c := by omega
      have f4 : D = d := by omega
      rw [f1, f2, f3, f4]
  rw [hTu]
  have HX0 : Hid _ := Nx.start w ⟨A, B, C, D⟩ (posT A B C D) hT
  have HR : Hid (∀ (t : Tu) (w : World), TR w → Calls Tryd.prog 12 #[.agg #[.int .i64 t.a, .int .i64 t.b, .int .i64 t.c, .int .i64 t.d]] w fun e w' => e = .returned (.tuple #[.int .i64 ((regOf t).getD 0 : Nat), .bool (regOf t).isSome]) ∧ Below w.heap.size w w') := fun t w h => register_any t w h
  clear hT hTu hA hB hC hD
  generalize posT A B C D = Q at *
  have hnew : w.heap.size < w.heap.size + 1 := by omega
  have HNew : Hid (w.heap.size < w.heap.size + 1) := hnew
  clear hnew
  go_enter Tryd.func16, Tryd.ntmps16
  go_wp2
  generalize w.heap.size + 1 = g at *
  go_loopw [5, 6] (fun s5 s6 wr => ∃ a : Nat, a ≤ 16 ∧ s6 = .int .i64 a ∧ s5 = .int .i64 (fnd Q (a * 1024) : Nat) ∧ Nx w wr g ⟨A, B, C, D⟩ Q (a * 1024)) (fun _ s6 _ => 16 - (intOf s6).toNat)
  case atStart => exact ⟨0, by omega, rfl, rfl, HX0.out⟩
  case round =>
    obtain ⟨a, ha, rfl, rfl, hX⟩ := hrel
    have HX : Hid _ := hX
    clear hX HX0
    by_cases h1 : a < 16
    · have hi : (a : Int) < 16 := by omega
      go_wp2
      go_loopw [5, 7] (fun s5 s7 wr => ∃ b : Nat, b ≤ 8 ∧ s7 = .int .i64 b ∧ s5 = .int .i64 (fnd Q (a * 1024 + b * 128) : Nat) ∧ Nx w wr g ⟨A, B, C, D⟩ Q (a * 1024 + b * 128)) (fun _ s7 _ => 8 - (intOf s7).toNat)
      case atStart => exact ⟨0, by omega, rfl, rfl, HX.out⟩
      case round =>
        obtain ⟨b, hb, rfl, rfl, hX⟩ := hrel
        clear HX
        have HX : Hid _ := hX
        clear hX
        by_cases h2 : b < 8
        · have hi2 : (b : Int) < 8 := by omega
          go_wp2
          go_loopw [5, 8] (fun s5 s8 wr => ∃ c : Nat, c ≤ 16 ∧ s8 = .int .i64 c ∧ s5 = .int .i64 (fnd Q (a * 1024 + b * 128 + c * 8) : Nat) ∧ Nx w wr g ⟨A, B, C, D⟩ Q (a * 1024 + b * 128 + c * 8)) (fun _ s8 _ => 16 - (intOf s8).toNat)
          case atStart => exact ⟨0, by omega, rfl, rfl, HX.out⟩
          case round =>
            obtain ⟨c, hc, rfl, rfl, hX⟩ := hrel
            clear HX
            have HX : Hid _ := hX
            clear hX
            by_cases h3 : c < 16
            · have hi3 : (c : Int) < 16 := by omega
              go_wp2
              go_loopw [5, 9] (fun s5 s9 wr => ∃ d : Nat, d ≤ 8 ∧ s9 = .int .i64 d ∧ s5 = .int .i64 (fnd Q (a * 1024 + b * 128 + c * 8 + d) : Nat) ∧ Nx w wr g ⟨A, B, C, D⟩ Q (a * 1024 + b * 128 + c * 8 + d)) (fun _ s9 _ => 8 - (intOf s9).toNat)
              case atStart => exact ⟨0, by omega, rfl, rfl, HX.out⟩
              case round =>
                obtain ⟨d, hd, rfl, rfl, hX⟩ := hrel
                clear HX
                have HX : Hid _ := hX
                clear hX
                by_cases h4 : d < 8
                · have hi4 : (d : Int) < 8 := by omega
                  have hq := HHit.out a b c d h1 h2 h3 h4
                  rw [show posT a b c d = a * 1024 + b * 128 + c * 8 + d by unfold posT; omega] at hq
                  have w1 : IntKind.i64.wrap ((d : Int) + 1) = ((d + 1 : Nat) : Int) := by rw [IntKind.wrap_i64]; omega
                  have HXa : Hid (Nx w (wr.alloc (.cells #[.int .i64 a, .int .i64 b, .int .i64 c, .int .i64 d] 27)) g ⟨A, B, C, D⟩ Q (a * 1024 + b * 128 + c * 8 + d)) := HX.out.step (below_new _ _)
                  have HXb : Hid (Bl (wr.alloc (.cells #[.int .i64 a, .int .i64 b, .int .i64 c, .int .i64 d] 27)) wr.heap.size 27 [.int .i64 a, .int .i64 b, .int .i64 c, .int .i64 d]) := Bl.new _ _ _
                  have hreg := HR.out ⟨a, b, c, d⟩ _ HXa.out.tr
                  have hgl : ¬ g = wr.heap.size := by have := HX.out.loc.lt; omega
                  clear HX HHit HR
                  by_cases hQ : Q = a * 1024 + b * 128 + c * 8 + d
                  · obtain ⟨hs, rfl, rfl, rfl, rfl⟩ := hq.1 hQ
                    rw [hs] at hreg
                    have HF : Hid (Q = A * 1024 + B * 128 + C * 8 + D) := hQ
                    have HF2 : Hid (fnd Q (A * 1024 + B * 128 + C * 8 + (D + 1)) = 1) := by show _ = _; rw [← Nat.add_assoc, ← hQ]; exact (fnd_hit Q).2
                    have hF3 : fnd Q (A * 1024 + B * 128 + C * 8 + D) = 0 := by rw [← hQ]; exact (fnd_hit Q).1
                    rw [hF3]
                    clear hq hs hQ hF3
                    go_wp2_with (fail)
                    go_at_call 12
                    refine hreg.mono ?_
                    rintro e w2 ⟨rfl, hb2⟩
                    have HXc : Hid _ := HXa.out.step hb2
                    have hx := HXb.out.below hb2
                    have x0 := hx.cell
                    have l0 := HXc.out.loc.cell
                    have l1 := HXc.out.loc.frozen
                    have l2 := HXc.out.loc.lt
                    have HHit : Hid (∀ v : World, v = (((w2.setCell ⟨g, 0, none⟩ (.int .i64 A)).setCell ⟨g, 1, none⟩ (.int .i64 B)).setCell ⟨g, 2, none⟩ (.int .i64 C)).setCell ⟨g, 3, none⟩ (.int .i64 D) → Nx w v g ⟨A, B, C, D⟩ Q (A * 1024 + B * 128 + C * 8 + (D + 1))) := fun v hv => by
                      have := HXc.out
                      rw [← HF.out] at this
                      have := Nx.hit (T := ⟨A, B, C, D⟩) (q := 0) this HNew.out hv
                      rw [show A * 1024 + B * 128 + C * 8 + (D + 1) = Q + 1 by have := HF.out; omega]
                      exact this
                    clear hb2 hx hreg HXa HXb HXc
                    go_wp2
                    go_roundw
                    case rel => exact ⟨D + 1, by omega, by go_num, by rw [HF2.out]; rfl, HHit.out _ rfl⟩
                    case measure => simp [intOf]; omega
                  · have hs := hq.2 hQ
                    have HF2 : Hid (fnd Q (a * 1024 + b * 128 + c * 8 + (d + 1)) = fnd Q (a * 1024 + b * 128 + c * 8 + d)) := by show _ = _; rw [← Nat.add_assoc]; exact fnd_miss Q _ hQ
                    have HF3 : Hid (∀ v, Nx w v g ⟨A, B, C, D⟩ Q (a * 1024 + b * 128 + c * 8 + d) → Nx w v g ⟨A, B, C, D⟩ Q (a * 1024 + b * 128 + c * 8 + (d + 1))) := fun v hv => by
                      refine ⟨hv.bel, hv.res, ?_, hv.tr, hv.new⟩
                      rw [← Nat.add_assoc, ftu_miss _ _ _ hQ]
                      exact hv.loc
                    clear hq hQ
                    generalize fnd Q (a * 1024 + b * 128 + c * 8 + d) = N at *
                    cases ho : regOf ⟨a, b, c, d⟩ with
                    | none =>
                      rw [ho] at hreg
                      clear hs ho
                      go_wp2_with (fail)
                      go_at_call 12
                      refine hreg.mono ?_
                      rintro e w2 ⟨rfl, hb2⟩
                      have HXc : Hid _ := HXa.out.step hb2
                      clear hb2 hreg HXa HXb
                      go_wp2
                      go_roundw
                      case rel => exact ⟨d + 1, by omega, by go_num, by rw [HF2.out], HF3.out _ HXc.out⟩
                      case measure => simp [intOf]; omega
                    | some r' =>
                      rw [ho] at hreg hs
                      have hne : ((r' : Int) == (r : Int)) = false := by
                        have : r' ≠ r := fun e => hs (by rw [e])
                        simp; omega
                      clear hs ho
                      go_wp2_with (fail)
                      go_at_call 12
                      refine hreg.mono ?_
                      rintro e w2 ⟨rfl, hb2⟩
                      have HXc : Hid _ := HXa.out.step hb2
                      clear hb2 hreg HXa HXb
                      go_wp2
                      go_roundw
                      case rel => exact ⟨d + 1, by omega, by go_num, by rw [HF2.out], HF3.out _ HXc.out⟩
                      case measure => simp [intOf]; omega
                · obtain rfl : d = 8 := by omega
                  go_wp2
                  go_roundw
                  case rel => exact ⟨c + 1, by omega, by go_num, by rw [show a * 1024 + b * 128 + (c + 1) * 8 = a * 1024 + b * 128 + c * 8 + 8 by omega], by rw [show a * 1024 + b * 128 + (c + 1) * 8 = a * 1024 + b * 128 + c * 8 + 8 by omega]; exact HX.out⟩
                  case measure => simp [intOf]; omega
            · obtain rfl : c = 16 := by omega
              go_wp2
              go_roundw
              case rel => exact ⟨b + 1, by omega, by go_num, by rw [show a * 1024 + (b + 1) * 128 = a * 1024 + b * 128 + 16 * 8 by omega], by rw [show a * 1024 + (b + 1) * 128 = a * 1024 + b * 128 + 16 * 8 by omega]; exact HX.out⟩
              case measure => simp [intOf]; omega
        · obtain rfl : b = 8 := by omega
          go_wp2
          go_roundw
          case rel => exact ⟨a + 1, by omega, by go_num, by rw [show (a + 1) * 1024 = a * 1024 + 8 * 128 by omega], by rw [show (a + 1) * 1024 = a * 1024 + 8 * 128 by omega]; exact HX.out⟩
          case measure => simp [intOf]; omega
    · obtain rfl : a = 16 := by omega
      have hX := HX.out.loc
      rw [show ftu ⟨A, B, C, D⟩ Q (16 * 1024) = ⟨A, B, C, D⟩ by have := HQl.out; unfold ftu; rw [if_pos (by omega)]] at hX
      rw [show fnd Q (16 * 1024) = 1 by have := HQl.out; unfold fnd; rw [if_pos (by omega)]]
      have c0 := hX.cell
      have r0 := HX.out.res.cell
      have r1 := HX.out.res.frozen
      have r2 := HX.out.res.lt
      clear hX h1 ha HHit HR
      go_wp2
      refine bodyPost_ret (v := .tuple #[.agg #[.int .i64 A, .int .i64 B, .int .i64 C, .int .i64 D], .int .i64 1]) (by simp [results, Tryd.results16, go_sem, r0, r1, r2]) rfl ⟨rfl, ?_⟩
      (repeat (with_reducible refine Below.setCell ?_ (by simp) _)); with_reducible exact HX.out.bel
end Go.Proofs.YtdinmhjdnnhhjaaDoor
