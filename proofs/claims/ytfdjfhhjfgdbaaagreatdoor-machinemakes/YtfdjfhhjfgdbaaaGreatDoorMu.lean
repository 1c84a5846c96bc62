import Derived.Test.YtfdjfhhjfgdbaaaGreatDoorMt
import Derived.Test.YtfdjfhhjfgdbaaaGreatDoorMr
namespace Go.Proofs.YtfdjfhhjfgdbaaaGreatDoor
open Go.RowKit
set_option linter.unusedVariables false
set_option linter.unusedSimpArgs false
attribute [local go_sem] Oper.semAt_some
set_option maxRecDepth 100000 in
set_option maxHeartbeats 4000000 in
theorem both_yes (W : World) (hT : TR W) (f i d m z n : Int) (h : Okc f i d m) (hf : -9223372036854775808 ≤ f ∧ f ≤ 9223372036854775807) :
    Calls Tryz.prog 4 #[.agg #[.int .i64 f, .int .i64 i, .int .i64 d, .int .i64 m, .int .i64 z, .int .i64 n]] W fun e w' => ∃ P : Pl, e = .returned (.tuple #[.pointer (some ⟨P.m, 0, none⟩), .pointer (some ⟨P.r, 0, none⟩), .bool true]) ∧ MS w' P f (zH i d m) ∧ W.heap.size ≤ P.m ∧ W.heap.size ≤ P.r ∧ Below W.heap.size W w' := by
  have hb0 := below_new W (.cells #[.int .i64 f, .int .i64 i, .int .i64 d, .int .i64 m, .int .i64 z, .int .i64 n] 23)
  have hx : Bl (W.alloc (.cells #[.int .i64 f, .int .i64 i, .int .i64 d, .int .i64 m, .int .i64 z, .int .i64 n] 23)) W.heap.size 23 (cfL f i d m z n) := Bl.new _ _ _
  have HX := hidW hx
  have HB0 := hidW hb0
  have HG := hidW (gnew_yes _ (TR.below hT hb0) f i d m z n h hf)
  have HO := hidW h
  have hc := hx.cell
  clear hb0 hx hT h
  go_enter Tryz.func4, Tryz.ntmps4
  go_wp2_with fail
  generalize W.alloc (.cells #[.int .i64 f, .int .i64 i, .int .i64 d, .int .i64 m, .int .i64 z, .int .i64 n] 23) = w0 at *
  go_at_call 6
  refine HG.out.mono ?_
  rintro e w1 ⟨P, rfl, g1, g2, g3⟩
  have H1 := hidW g1
  have HL := hidW g2
  have HB1 := hidW g3
  have hc1 := (HX.out.below g3).cell
  clear g1 g2 g3 hc HG
  go_wp2_with fail
  go_at_call 7
  refine (jnew_yes w1 f i d m z n HO.out).mono ?_
  rintro e w2 ⟨R, rfl, g1, g2, g3⟩
  have H2 := hidW g1
  have HR := hidW g2
  have HB2 := hidW g3
  clear g1 g2 g3 hc1
  go_wp2
  go_ret3
  have hs0 := HB0.out.size
  have hs1 := HB1.out.size
  refine ⟨⟨P.m, R.r, P.pr, P.pg, P.pf, P.pk, P.kb, P.jb, R.rr, R.rf, R.rk, P.A, R.B⟩, rfl, ?_, ?_, ?_, Below.step HB0.out (Below.step HB1.out HB2.out)⟩
  · have a := H1.out ⟨P.m, R.r, P.pr, P.pg, P.pf, P.pk, P.kb, P.jb, R.rr, R.rf, R.rk, P.A, R.B⟩ rfl rfl rfl rfl rfl rfl rfl rfl
    have b := H2.out ⟨P.m, R.r, P.pr, P.pg, P.pf, P.pk, P.kb, P.jb, R.rr, R.rf, R.rk, P.A, R.B⟩ rfl rfl rfl rfl rfl
    exact ⟨a.mb.below HB2.out, b.rb, a.ram.below HB2.out, a.fil.below HB2.out, a.hi.below HB2.out, a.tk.below HB2.out, b.rram, b.rfil, b.rhi, b.rtk⟩
  · have := HL.out; dsimp only; omega
  · have := HR.out; dsimp only; omega
end Go.Proofs.YtfdjfhhjfgdbaaaGreatDoor
