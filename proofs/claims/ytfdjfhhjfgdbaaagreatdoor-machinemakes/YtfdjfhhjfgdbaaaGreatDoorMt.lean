import Derived.Test.YtfdjfhhjfgdbaaaGreatDoorMs
namespace Go.Proofs.YtfdjfhhjfgdbaaaGreatDoor
open Go.RowKit
set_option linter.unusedVariables false
set_option linter.unusedSimpArgs false
attribute [local go_sem] Oper.semAt_some
set_option maxRecDepth 1000000 in
theorem zz : zT.toArray = Tryz.zeroCells83 := by kernel_rfl
structure MJ (w : World) (P : Pl) (n : Int) (X : Hi) : Prop where
  rb : Bl w P.r 54 (rL P)
  rram : RM w P.rr n
  rfil : Fi 107 w P.rf fZ
  rhi : PH 122 118 [.pointer none] w P.B X
  rtk : TY w P.rk
set_option maxRecDepth 100000 in
set_option maxHeartbeats 4000000 in
theorem jnew_yes (W : World) (f i d m z n : Int) (h : Okc f i d m) :
    Calls Tryz.prog 7 #[.agg #[.int .i64 f, .int .i64 i, .int .i64 d, .int .i64 m, .int .i64 z, .int .i64 n]] W fun e w' => ∃ P : Pl, e = .returned (.tuple #[.pointer (some ⟨P.r, 0, none⟩), .int .i64 0]) ∧ (∀ Q : Pl, Q.r = P.r → Q.rr = P.rr → Q.rf = P.rf → Q.rk = P.rk → Q.B = P.B → MJ w' Q f (zH i d m)) ∧ W.heap.size ≤ P.r ∧ Below W.heap.size W w' := by
  obtain ⟨⟨a1, a2, a3⟩, hO⟩ := h
  have g1 : ¬ f < 256 := by omega
  have d1 : decide (f < 256) = false := decide_eq_false g1
  have g3 : ¬ 65536 < f := by omega
  have d3 : decide (65536 < f) = false := decide_eq_false g3
  have g2 : f.tmod 256 = 0 := by rw [tmod_256 (by omega)]; exact a3
  have hb0 := below_new W (.cells #[.int .i64 f, .int .i64 i, .int .i64 d, .int .i64 m, .int .i64 z, .int .i64 n] 23)
  have hx : Bl (W.alloc (.cells #[.int .i64 f, .int .i64 i, .int .i64 d, .int .i64 m, .int .i64 z, .int .i64 n] 23)) W.heap.size 23 (cfL f i d m z n) := Bl.new _ _ _
  have HX := hidW hx
  have HB0 := hidW hb0
  have c0 : (W.alloc (.cells #[.int .i64 f, .int .i64 i, .int .i64 d, .int .i64 m, .int .i64 z, .int .i64 n] 23)).cell? ⟨W.heap.size, 0, none⟩ = some (.int .i64 f) := hx.cell 0
  have e1 : (W.alloc (.cells #[.int .i64 f, .int .i64 i, .int .i64 d, .int .i64 m, .int .i64 z, .int .i64 n] 23)).cell? ⟨W.heap.size, 1, none⟩ = some (.int .i64 i) := hx.cell 1
  have e2 : (W.alloc (.cells #[.int .i64 f, .int .i64 i, .int .i64 d, .int .i64 m, .int .i64 z, .int .i64 n] 23)).cell? ⟨W.heap.size, 2, none⟩ = some (.int .i64 d) := hx.cell 2
  have e3 : (W.alloc (.cells #[.int .i64 f, .int .i64 i, .int .i64 d, .int .i64 m, .int .i64 z, .int .i64 n] 23)).cell? ⟨W.heap.size, 3, none⟩ = some (.int .i64 m) := hx.cell 3
  have HO := hidW hO
  have ha : 1 ≤ f ∧ f ≤ 65536 := by omega
  have HZl : Hid (∀ w : World, Bl (w.alloc (.cells Tryz.zeroCells83 83)) w.heap.size 83 zT) := fun w => (by rw [← zz]; exact Bl.new _ _ _)
  clear hb0 hx hO a1 a2 a3
  go_enter Tryz.func7, Tryz.ntmps7
  go_wp2_with fail
  generalize W.alloc (.cells #[.int .i64 f, .int .i64 i, .int .i64 d, .int .i64 m, .int .i64 z, .int .i64 n] 23) = w0 at *
  go_at_call 35
  refine (vnew_yes i d m w0 HO.out).mono ?_
  rintro e w1 ⟨B, rfl, g4, g5⟩
  have HH := hidW g4
  have HB1 := hidW g5.1
  clear g4 g5 c0 e1 e2 e3
  go_wp2_with fail
  go_at_call 36
  refine (enew_any w1).mono ?_
  rintro e w2 ⟨rfl, g4, g5⟩
  have HF := hidW g4
  have HB2 := hidW g5
  clear g4 g5
  have HTy : Hid (TY (w2.alloc (.cells Tryz.zeroCells83 83)) w2.heap.size) := HZl.out w2
  have c0 : (w2.alloc (.cells Tryz.zeroCells83 83)).cell? ⟨W.heap.size, 0, none⟩ = some (.int .i64 f) := (((HX.out.below HB1.out).below HB2.out).below (below_new _ _)).cell 0
  have HBt := hidW (below_new w2 (.cells Tryz.zeroCells83 83))
  have hsz : (w2.alloc (.cells Tryz.zeroCells83 83)).heap.size = w2.heap.size + 1 := by simp
  have HM4 : Hid (Bl ((w2.alloc (.cells Tryz.zeroCells83 83)).alloc (.cells #[.pointer none, .pointer (some ⟨w1.heap.size, 0, none⟩), .pointer (some ⟨B.h, 0, none⟩), .pointer (some ⟨w2.heap.size, 0, none⟩), .slice none 0 0, .slice none 0 0, .int .i64 0, .int .i64 0, .int .i64 0, .int .u32 0, .bool false, .int .i64 0, .bool false] 54)) (w2.heap.size + 1) 54 [.pointer none, .pointer (some ⟨w1.heap.size, 0, none⟩), .pointer (some ⟨B.h, 0, none⟩), .pointer (some ⟨w2.heap.size, 0, none⟩), .slice none 0 0, .slice none 0 0, .int .i64 0, .int .i64 0, .int .i64 0, .int .u32 0, .bool false, .int .i64 0, .bool false]) := by
    have h := Bl.new (w2.alloc (.cells Tryz.zeroCells83 83)) 54 [.pointer none, .pointer (some ⟨w1.heap.size, 0, none⟩), .pointer (some ⟨B.h, 0, none⟩), .pointer (some ⟨w2.heap.size, 0, none⟩), .slice none 0 0, .slice none 0 0, .int .i64 0, .int .i64 0, .int .i64 0, .int .u32 0, .bool false, .int .i64 0, .bool false]
    rw [show (w2.alloc (.cells Tryz.zeroCells83 83)).heap.size = w2.heap.size + 1 by simp] at h
    exact h
  have HB4 := hidW (below_new (w2.alloc (.cells Tryz.zeroCells83 83)) (.cells #[.pointer none, .pointer (some ⟨w1.heap.size, 0, none⟩), .pointer (some ⟨B.h, 0, none⟩), .pointer (some ⟨w2.heap.size, 0, none⟩), .slice none 0 0, .slice none 0 0, .int .i64 0, .int .i64 0, .int .i64 0, .int .u32 0, .bool false, .int .i64 0, .bool false] 54))
  have c4 : ((w2.alloc (.cells Tryz.zeroCells83 83)).alloc (.cells #[.pointer none, .pointer (some ⟨w1.heap.size, 0, none⟩), .pointer (some ⟨B.h, 0, none⟩), .pointer (some ⟨w2.heap.size, 0, none⟩), .slice none 0 0, .slice none 0 0, .int .i64 0, .int .i64 0, .int .i64 0, .int .u32 0, .bool false, .int .i64 0, .bool false] 54)).cell? ⟨W.heap.size, 0, none⟩ = some (.int .i64 f) := ((((HX.out.below HB1.out).below HB2.out).below (below_new _ _)).below (below_new _ _)).cell 0
  go_wp2_with fail
  generalize hw4 : (w2.alloc (.cells Tryz.zeroCells83 83)).alloc (.cells #[.pointer none, .pointer (some ⟨w1.heap.size, 0, none⟩), .pointer (some ⟨B.h, 0, none⟩), .pointer (some ⟨w2.heap.size, 0, none⟩), .slice none 0 0, .slice none 0 0, .int .i64 0, .int .i64 0, .int .i64 0, .int .u32 0, .bool false, .int .i64 0, .bool false] 54) = w4 at *
  clear c0
  go_at_call 37
  refine (mnew_yes f w4 ha).mono ?_
  rintro e w5 ⟨rfl, g4, g5⟩
  have HRm := hidW g4
  have HB5 := hidW g5
  have hM5 := HM4.out.below g5
  have k0 : w5.cell? ⟨w2.heap.size + 1, 0, none⟩ = some (.pointer none) := hM5.cell 0
  have kf := hM5.frozen 0
  have kl := hM5.lt
  have HM5 := hidW hM5
  clear g4 g5 hM5
  go_wp2
  go_ret2
  have hne : w4.heap.size ≠ w2.heap.size + 1 := by have := HM4.out.lt; omega
  have h14 := Below.step HB2.out (Below.step HBt.out HB4.out)
  have hT : Turn (fun x => x = w2.heap.size + 1) w5 (w5.setCell ⟨w2.heap.size + 1, 0, none⟩ (.pointer (some ⟨w4.heap.size, 0, none⟩))) := (Turn.refl (fun x => x = w2.heap.size + 1) w5).setCell (p := ⟨w2.heap.size + 1, 0, none⟩) (.inl rfl) _
  have b25 := Below.step HBt.out (Below.step HB4.out HB5.out)
  have hBl : Below W.heap.size W (w5.setCell ⟨w2.heap.size + 1, 0, none⟩ (.pointer (some ⟨w4.heap.size, 0, none⟩))) := Below.setCell (Below.step HB0.out (Below.step HB1.out (Below.step HB2.out b25))) (by have := (Below.step HB0.out (Below.step HB1.out HB2.out)).size; dsimp only; omega) _
  refine ⟨⟨0, w2.heap.size + 1, 0, 0, 0, 0, 0, 0, w4.heap.size, w1.heap.size, w2.heap.size, B, B⟩, rfl, ?_, ?_, hBl⟩
  · intro Q q1 q2 q3 q4 q5
    dsimp only at q1 q2 q3 q4 q5
    refine ⟨?_, ?_, ?_, ?_, ?_⟩
    · simp only [rL, q1, q2, q3, q4, q5]; exact HM5.out.set 0 _
    · rw [q2]; exact Bl.turn HRm.out hT hne
    · rw [q3]; exact (HF.out.below b25).turn hT (by have := HF.out.lt; omega)
    · rw [q5]
      have hb := HH.out.below (Below.step HB2.out b25)
      have hsz := HB2.out.size
      have y0 := HH.out.box.lt
      have y1 := HH.out.ti.box.lt
      have y2 := HH.out.ti.row.lt
      have y3 := HH.out.td.box.lt
      have y4 := HH.out.td.row.lt
      have y5 := HH.out.tm.box.lt
      have y6 := HH.out.tm.row.lt
      exact ⟨hb.box.turn hT (by omega), hb.ti.turn hT (by omega) (by omega), hb.td.turn hT (by omega) (by omega), hb.tm.turn hT (by omega) (by omega), hb.n1, hb.n2, hb.n3, hb.ne⟩
    · rw [q4]; exact Bl.turn (Bl.below HTy.out (Below.step HB4.out HB5.out)) hT (by omega)
  · have := (Below.step HB0.out (Below.step HB1.out HB2.out)).size
    dsimp only
    omega
end Go.Proofs.YtfdjfhhjfgdbaaaGreatDoor
