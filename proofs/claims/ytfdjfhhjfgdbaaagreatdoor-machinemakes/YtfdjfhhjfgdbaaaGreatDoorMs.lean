import Derived.Test.YtfdjfhhjfgdbaaaGreatDoorMp
import Derived.Test.YtfdjfhhjfgdbaaaGreatDoorMq
namespace Go.Proofs.YtfdjfhhjfgdbaaaGreatDoor
open Go.RowKit
set_option linter.unusedVariables false
set_option linter.unusedSimpArgs false
attribute [local go_sem] Oper.semAt_some
/-- What a configuration must be. -/
def Okc (f i d m : Int) : Prop := (256 ≤ f ∧ f ≤ 65536 ∧ f % 256 = 0) ∧ (Okn i ∧ Okn d ∧ Okn m)
abbrev cfL (f i d m z n : Int) : List Value := [.int .i64 f, .int .i64 i, .int .i64 d, .int .i64 m, .int .i64 z, .int .i64 n]
/-- The program's machine alone. -/
structure MP (w : World) (P : Pl) (n : Int) (X : Hi) : Prop where
  mb : Bl w P.m 97 (mL P)
  ram : RP w P.pr P.pg n
  fil : Fi 147 w P.pf fZ
  hi : PH 145 184 [] w P.A X
  tk : TK w P.pk P.kb P.jb
theorem tmod_256 {f : Int} (h : 0 ≤ f) : f.tmod 256 = f % 256 := Int.tmod_eq_emod_of_nonneg h
set_option maxRecDepth 100000 in
set_option maxHeartbeats 4000000 in
theorem gnew_yes (W : World) (hT : TR W) (f i d m z n : Int) (h : Okc f i d m) (hf : -9223372036854775808 ≤ f ∧ f ≤ 9223372036854775807) :
    Calls Tryz.prog 6 #[.agg #[.int .i64 f, .int .i64 i, .int .i64 d, .int .i64 m, .int .i64 z, .int .i64 n]] W fun e w' => ∃ P : Pl, e = .returned (.tuple #[.pointer (some ⟨P.m, 0, none⟩), .int .i64 0]) ∧ (∀ Q : Pl, Q.m = P.m → Q.pr = P.pr → Q.pg = P.pg → Q.pf = P.pf → Q.pk = P.pk → Q.kb = P.kb → Q.jb = P.jb → Q.A = P.A → MP w' Q f (zH i d m)) ∧ W.heap.size ≤ P.m ∧ Below W.heap.size W w' := by
  obtain ⟨⟨a1, a2, a3⟩, hO⟩ := h
  have g1 : ¬ f < 256 := by omega
  have d1 : decide (f < 256) = false := decide_eq_false g1
  have g2 : f.tmod 256 = 0 := by rw [tmod_256 (by omega)]; exact a3
  have hb0 := below_new W (.cells #[.int .i64 f, .int .i64 i, .int .i64 d, .int .i64 m, .int .i64 z, .int .i64 n] 23)
  have hx : Bl (W.alloc (.cells #[.int .i64 f, .int .i64 i, .int .i64 d, .int .i64 m, .int .i64 z, .int .i64 n] 23)) W.heap.size 23 (cfL f i d m z n) := Bl.new _ _ _
  have HX := hidW hx
  have HB0 := hidW hb0
  have HT := hidW (TR.below hT hb0)
  have c0 : (W.alloc (.cells #[.int .i64 f, .int .i64 i, .int .i64 d, .int .i64 m, .int .i64 z, .int .i64 n] 23)).cell? ⟨W.heap.size, 0, none⟩ = some (.int .i64 f) := hx.cell 0
  have HO := hidW hO
  have ha : 1 ≤ f ∧ f ≤ 65536 := by omega
  clear hb0 hx hT hO a1 a2 a3
  go_enter Tryz.func6, Tryz.ntmps6
  go_wp2_with fail
  generalize W.alloc (.cells #[.int .i64 f, .int .i64 i, .int .i64 d, .int .i64 m, .int .i64 z, .int .i64 n] 23) = w0 at *
  go_at_call 31
  refine (pnew_yes f w0 ha).mono ?_
  rintro e w1 ⟨rfl, g3, g4⟩
  have HR := hidW g3
  have HB1 := hidW g4
  have hX1 := HX.out.below g4
  have e1 : w1.cell? ⟨W.heap.size, 1, none⟩ = some (.int .i64 i) := hX1.cell 1
  have e2 : w1.cell? ⟨W.heap.size, 2, none⟩ = some (.int .i64 d) := hX1.cell 2
  have e3 : w1.cell? ⟨W.heap.size, 3, none⟩ = some (.int .i64 m) := hX1.cell 3
  clear g3 g4 c0 hX1
  go_wp2_with fail
  go_at_call 32
  refine (hnew_yes i d m w1 HO.out).mono ?_
  rintro e w2 ⟨A, rfl, g3, g4⟩
  have HH := hidW g3
  have HB2 := hidW g4.1
  clear g3 g4 e1 e2 e3
  go_wp2_with fail
  go_at_call 33
  refine (cnew_any w2 (TR.below (TR.below HT.out HB1.out) HB2.out)).mono ?_
  rintro e w3 ⟨rfl, g3, g4⟩
  have HF := hidW g3
  have HB3 := hidW g4
  clear g3 g4
  go_wp2_with fail
  go_at_call 34
  refine (knew_any w3).mono ?_
  rintro e w4 ⟨rfl, g3, g4⟩
  have HK := hidW g3
  have HB4 := hidW g4
  clear g3 g4
  go_wp2
  go_ret2
  have hb := below_new w4 (.cells #[.pointer (some ⟨w0.heap.size + 1, 0, none⟩), .pointer (some ⟨w2.heap.size, 0, none⟩), .pointer (some ⟨A.h, 0, none⟩), .pointer (some ⟨w3.heap.size + 2, 0, none⟩), .int .i64 0, .slice none 0 0, .slice none 0 0] 97)
  have hB := Below.step HB0.out (Below.step HB1.out (Below.step HB2.out (Below.step HB3.out (Below.step HB4.out hb))))
  refine ⟨⟨w4.heap.size, 0, w0.heap.size + 1, w0.heap.size, w2.heap.size, w3.heap.size + 2, w3.heap.size, w3.heap.size + 1, 0, 0, 0, A, A⟩, rfl, ?_, ?_, hB⟩
  · intro Q q1 q2 q3 q4 q5 q6 q7 q8
    dsimp only at q1 q2 q3 q4 q5 q6 q7 q8
    have b34 := Below.step HB4.out hb
    have b234 := Below.step HB3.out b34
    refine ⟨?_, ?_, ?_, ?_, ?_⟩
    · simp only [mL, q1, q2, q4, q5, q8]; exact Bl.new _ _ _
    · rw [q2, q3]; exact HR.out.below (Below.step HB2.out b234)
    · rw [q4]; exact HF.out.below b34
    · rw [q8]; exact HH.out.below b234
    · rw [q5, q6, q7]; exact HK.out.below hb
  · have := (Below.step HB0.out (Below.step HB1.out (Below.step HB2.out (Below.step HB3.out HB4.out)))).size
    exact this
end Go.Proofs.YtfdjfhhjfgdbaaaGreatDoor
