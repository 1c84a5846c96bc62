import Derived.Test.YtfdjfhhjfgdbaaaGreatDoorMv
namespace Go.Proofs.YtfdjfhhjfgdbaaaGreatDoor
open Go.RowKit
set_option linter.unusedVariables false
set_option linter.unusedSimpArgs false
attribute [local go_sem] Oper.semAt_some
/-- A look of the kinds 7 to 10. -/
theorem looks_any (W : World) (P : Pl) (n : Int) (X : Hi) (h : MS W P n X) (hn : 1 ≤ n ∧ n ≤ 65536) (a : Int) (h1 : -9223372036854775808 ≤ a) (h2 : a ≤ 9223372036854775807) (k : Nat) (hk : 7 ≤ k ∧ k ≤ 10) :
    Calls Tryz.prog 5 #[.pointer (some ⟨P.m, 0, none⟩), .pointer (some ⟨P.r, 0, none⟩), .agg #[.int .i64 (k : Int), .int .i64 a, .int .i64 0, .int .i64 0, .int .i64 0, .int .u32 0, .int .i64 0, .int .u32 0, .bool false, .int .u64 0, .int .u32 0, .int .i64 0, .int .i64 0, .int .i64 0, .int .i64 0, .bool false, .slice none 0 0]] W fun e w' => e = .returned (.bool true) ∧ Below W.heap.size W w' := by
  rcases (show k = 7 ∨ k = 8 ∨ k = 9 ∨ k = 10 by omega) with rfl | rfl | rfl | rfl
  · exact looks_7 W P n X h hn a
  · exact looks_8 W P n X h a h1 h2
  · exact looks_9 W P n X h a h1 h2
  · exact looks_10 W P n X h a h1 h2
set_option maxRecDepth 100000 in
set_option maxHeartbeats 8000000 in
theorem law_makes (W : World) (hT : TR W) (f i d m z n reg : Int) (hf : -9223372036854775808 ≤ f ∧ f ≤ 9223372036854775807) (hr : -9223372036854775808 ≤ reg ∧ reg ≤ 9223372036854775807) :
    Calls Tryz.prog 3 #[.agg #[.int .i64 f, .int .i64 i, .int .i64 d, .int .i64 m, .int .i64 z, .int .i64 n], .int .i64 reg] W fun e w' => e = .returned (.bool true) ∧ Below W.heap.size W w' := by
  have hb0 := below_new W (.cells #[.int .i64 f, .int .i64 i, .int .i64 d, .int .i64 m, .int .i64 z, .int .i64 n] 23)
  have hx : Bl (W.alloc (.cells #[.int .i64 f, .int .i64 i, .int .i64 d, .int .i64 m, .int .i64 z, .int .i64 n] 23)) W.heap.size 23 (cfL f i d m z n) := Bl.new _ _ _
  have HB0 := hidW hb0
  have hc := hx.cell
  have HT := hidW (TR.below hT hb0)
  clear hb0 hx hT
  by_cases hO : Okc f i d m
  · have HO := hidW hO
    have hn : 1 ≤ f ∧ f ≤ 65536 := by obtain ⟨⟨a, b, c⟩, _⟩ := hO; omega
    clear hO
    go_enter Tryz.func3, Tryz.ntmps3
    go_wp2_with fail
    generalize W.alloc (.cells #[.int .i64 f, .int .i64 i, .int .i64 d, .int .i64 m, .int .i64 z, .int .i64 n] 23) = w0 at *
    go_at_call 4
    refine (both_yes w0 HT.out f i d m z n HO.out hf).mono ?_
    rintro e w1 ⟨P, rfl, g1, g2, g3, g4⟩
    have HM := hidW g1
    have HP := hidW (And.intro g2 g3)
    have HB1 := hidW g4
    have HS := hidW (And.intro HB0.out.size HB1.out.size)
    clear g1 g2 g3 g4 hc HT
    go_wp2_with fail
    go_loopw [8] (fun i wr => ∃ k : Nat, 7 ≤ k ∧ k ≤ 12 ∧ i = .int .i64 k ∧ Hid ((k ≤ 11 → Below w1.heap.size w1 wr) ∧ Below W.heap.size W wr)) (fun i _ => 12 - (intOf i).toNat)
    case atStart => exact ⟨7, by omega, by omega, rfl, hidW ⟨fun _ => Below.refl _ _, Below.step HB0.out HB1.out⟩⟩
    case round =>
      obtain ⟨k, hk1, hk2, rfl, HK⟩ := hrel
      by_cases h11 : k ≤ 11
      · have hz : (k : Int) ≤ 11 := by omega
        have wk7 : IntKind.i64.wrap ((k : Int) - 7) = (k : Int) - 7 := by rw [IntKind.wrap_i64]; omega
        have hbw := HK.out.1 h11
        by_cases h10 : k ≤ 10
        · have HL := hidW (fun ww (hb : Below w1.heap.size w1 ww) (a : Int) (q : -9223372036854775808 ≤ a ∧ a ≤ 9223372036854775807) => looks_any ww P f (zH i d m) (HM.out.below hb) hn a q.1 q.2 k ⟨hk1, h10⟩)
          have HBw := hidW hbw
          have hr7 : -9223372036854775808 ≤ (k : Int) - 7 ∧ (k : Int) - 7 ≤ 9223372036854775807 := by omega
          clear hbw
          go_wp2_with fail
          go_at_call 5
          refine (HL.out _ HBw.out reg hr).mono ?_
          rintro e w3 ⟨rfl, g3⟩
          have HB3 := hidW (Below.step HBw.out g3)
          have HW3 := hidW (Below.step HK.out.2 g3)
          clear g3
          go_wp2_with fail
          go_at_call 5
          refine (HL.out _ HB3.out _ hr7).mono ?_
          rintro e w4 ⟨rfl, g3⟩
          have HB4 := hidW (Below.step HB3.out g3)
          have HW4 := hidW (Below.step HW3.out g3)
          clear g3
          go_wp2
          go_roundw
          case rel => exact ⟨k + 1, by omega, by omega, by go_num, hidW ⟨fun _ => HB4.out, HW4.out⟩⟩
          case measure => simp [intOf]; omega
        · obtain rfl : k = 11 := by omega
          have HM1 := hidW (HM.out.below hbw)
          clear hbw
          go_wp2_with fail
          go_at_call 5
          refine (looks_11 wr P HM1.out.mb HM1.out.rb reg).mono ?_
          rintro e w3 ⟨rfl, g3, g4, g5⟩
          have HX3 := hidW (And.intro g3 g4)
          have HW3 : Hid (Below W.heap.size W w3) := HK.out.2.trans (g5.to (fun x hx => by have := HP.out; have := HS.out; rcases hx with rfl | rfl <;> omega) HK.out.2.size)
          clear g3 g4 g5
          go_wp2_with fail
          go_at_call 5
          refine (looks_11 w3 P HX3.out.1 HX3.out.2 _).mono ?_
          rintro e w4 ⟨rfl, g3, g4, g5⟩
          have HW4 : Hid (Below W.heap.size W w4) := HW3.out.trans (g5.to (fun x hx => by have := HP.out; have := HS.out; rcases hx with rfl | rfl <;> omega) HW3.out.size)
          clear g3 g4 g5
          go_wp2
          go_roundw
          case rel => exact ⟨12, by omega, by omega, by go_num, hidW ⟨fun h => by omega, HW4.out⟩⟩
          case measure => simp [intOf]
      · obtain rfl : k = 12 := by omega
        go_wp2
        go_ret
        exact ⟨rfl, HK.out.2⟩
  · go_enter Tryz.func3, Tryz.ntmps3
    go_wp2_with fail
    generalize W.alloc (.cells #[.int .i64 f, .int .i64 i, .int .i64 d, .int .i64 m, .int .i64 z, .int .i64 n] 23) = w0 at *
    go_at_call 4
    refine (both_no w0 f i d m z n hO).mono ?_
    rintro e w1 ⟨rfl, g1⟩
    have HB1 := hidW (Below.step HB0.out g1)
    clear g1 hc
    go_wp2
    go_ret
    exact ⟨rfl, HB1.out⟩
end Go.Proofs.YtfdjfhhjfgdbaaaGreatDoor
