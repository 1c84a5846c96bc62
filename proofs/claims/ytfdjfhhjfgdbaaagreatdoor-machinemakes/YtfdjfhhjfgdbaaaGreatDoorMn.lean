import Derived.Test.YtfdjfhhjfgdbaaaGreatDoorMl
import Derived.Test.YtfdjfhhjfgdbaaaGreatDoorMh
namespace Go.Proofs.YtfdjfhhjfgdbaaaGreatDoor
open Go.RowKit
set_option linter.unusedVariables false
set_option linter.unusedSimpArgs false
attribute [local go_sem] Oper.semAt_some
/-- Where all stands. -/
structure Pl where
  m : Nat
  r : Nat
  pr : Nat
  pg : Nat
  pf : Nat
  pk : Nat
  kb : Nat
  jb : Nat
  rr : Nat
  rf : Nat
  rk : Nat
  A : Ad
  B : Ad
abbrev mL (P : Pl) : List Value := [.pointer (some ⟨P.pr, 0, none⟩), .pointer (some ⟨P.pf, 0, none⟩), .pointer (some ⟨P.A.h, 0, none⟩), .pointer (some ⟨P.pk, 0, none⟩), .int .i64 0, .slice none 0 0, .slice none 0 0]
abbrev rL (P : Pl) : List Value := [.pointer (some ⟨P.rr, 0, none⟩), .pointer (some ⟨P.rf, 0, none⟩), .pointer (some ⟨P.B.h, 0, none⟩), .pointer (some ⟨P.rk, 0, none⟩), .slice none 0 0, .slice none 0 0, .int .i64 0, .int .i64 0, .int .i64 0, .int .u32 0, .bool false, .int .i64 0, .bool false]
/-- Both machines, as behind a reset. -/
structure MS (w : World) (P : Pl) (n : Int) (X : Hi) : Prop where
  mb : Bl w P.m 97 (mL P)
  rb : Bl w P.r 54 (rL P)
  ram : RP w P.pr P.pg n
  fil : Fi 147 w P.pf fZ
  hi : PH 145 184 [] w P.A X
  tk : TK w P.pk P.kb P.jb
  rram : RM w P.rr n
  rfil : Fi 107 w P.rf fZ
  rhi : PH 122 118 [.pointer none] w P.B X
  rtk : TY w P.rk
section
variable {W w w' : World} {P : Pl} {n : Int} {X : Hi}
theorem MS.below (h : MS w P n X) (hb : Below w.heap.size w w') : MS w' P n X :=
  ⟨h.mb.below hb, h.rb.below hb, h.ram.below hb, h.fil.below hb, h.hi.below hb, h.tk.below hb, Bl.below h.rram hb, h.rfil.below hb, h.rhi.below hb, h.rtk.below hb⟩
theorem MS.m0 (h : MS w P n X) : w.cell? ⟨P.m, 0, none⟩ = some (.pointer (some ⟨P.pr, 0, none⟩)) := h.mb.cell 0
theorem MS.m1 (h : MS w P n X) : w.cell? ⟨P.m, 1, none⟩ = some (.pointer (some ⟨P.pf, 0, none⟩)) := h.mb.cell 1
theorem MS.m2 (h : MS w P n X) : w.cell? ⟨P.m, 2, none⟩ = some (.pointer (some ⟨P.A.h, 0, none⟩)) := h.mb.cell 2
theorem MS.m3 (h : MS w P n X) : w.cell? ⟨P.m, 3, none⟩ = some (.pointer (some ⟨P.pk, 0, none⟩)) := h.mb.cell 3
theorem MS.m5 (h : MS w P n X) : w.cell? ⟨P.m, 5, none⟩ = some (.slice none 0 0) := h.mb.cell 5
theorem MS.r0 (h : MS w P n X) : w.cell? ⟨P.r, 0, none⟩ = some (.pointer (some ⟨P.rr, 0, none⟩)) := h.rb.cell 0
theorem MS.r1 (h : MS w P n X) : w.cell? ⟨P.r, 1, none⟩ = some (.pointer (some ⟨P.rf, 0, none⟩)) := h.rb.cell 1
theorem MS.r2 (h : MS w P n X) : w.cell? ⟨P.r, 2, none⟩ = some (.pointer (some ⟨P.B.h, 0, none⟩)) := h.rb.cell 2
theorem MS.r3 (h : MS w P n X) : w.cell? ⟨P.r, 3, none⟩ = some (.pointer (some ⟨P.rk, 0, none⟩)) := h.rb.cell 3
theorem MS.r4 (h : MS w P n X) : w.cell? ⟨P.r, 4, none⟩ = some (.slice none 0 0) := h.rb.cell 4
theorem MS.rn (h : MS w P n X) : w.cell? ⟨P.rr, 0, none⟩ = some (.int .i64 n) := Bl.cell h.rram 0
theorem MS.tk0 (h : MS w P n X) : w.cell? ⟨P.rk, 0, none⟩ = some (.slice none 0 0) := Bl.cell h.rtk 0
theorem gword_any (h : MS W P n X) (hn : 1 ≤ n ∧ n ≤ 65536) : Calls Tryz.prog 8 #[.pointer (some ⟨P.m, 0, none⟩), .int .u64 0] W fun e w' => e = .returned (.tuple #[.int .u32 0, .int .i64 0]) ∧ W = w' := by
  have H := hidW (pword_any W P.pr P.pg n h.ram hn)
  have c := h.m0
  clear h hn
  go_enter Tryz.func8, Tryz.ntmps8
  go_wp2_with (go_at_call 38; refine H.out.mono ?_; rintro e w1 ⟨rfl, rfl⟩)
  go_ret2
  exact ⟨rfl, rfl⟩
theorem greg_any (h : MS W P n X) (a : Int) : Calls Tryz.prog 11 #[.pointer (some ⟨P.m, 0, none⟩), .int .i64 a] W fun e w' => e = .returned (.int .u32 ((gtF fZ a).1 : Nat)) ∧ W = w' := by
  have H := hidW (get_any P.pf fZ a W h.fil)
  have c := h.m1
  clear h
  generalize gtF fZ a = q at *
  go_enter Tryz.func11, Tryz.ntmps11
  go_wp2_with (go_at_call 40; refine H.out.mono ?_; rintro e w1 ⟨rfl, rfl⟩)
  go_ret
  exact ⟨rfl, rfl⟩
theorem gleft_any (h : MS W P n X) : Calls Tryz.prog 12 #[.pointer (some ⟨P.m, 0, none⟩)] W fun e w' => e = .returned (.int .i64 0) ∧ W = w' := by
  have c := h.m5
  clear h
  go_enter Tryz.func12, Tryz.ntmps12
  go_wp2
  go_ret
  exact ⟨rfl, rfl⟩
theorem gframes_any (h : MS W P n X) : Calls Tryz.prog 13 #[.pointer (some ⟨P.m, 0, none⟩)] W fun e w' => e = .returned (.int .i64 n) ∧ W = w' := by
  have H := hidW (pframes_any W P.pr P.pg n h.ram)
  have c := h.m0
  clear h
  go_enter Tryz.func13, Tryz.ntmps13
  go_wp2_with (go_at_call 41; refine H.out.mono ?_; rintro e w1 ⟨rfl, rfl⟩)
  go_ret
  exact ⟨rfl, rfl⟩
/-- The context behind a reset. -/
abbrev cC : List Value := [.bool false, .bool false, .bool false, .int .i64 0, .bool false, .bool false, .int .u64 0, .int .u64 0, .int .u32 0, .int .u32 625316, .int .u32 1155549408, .int .i64 0]
abbrev zC : List Value := [.bool false, .bool false, .bool false, .int .i64 0, .bool false, .bool false, .int .u64 0, .int .u64 0, .int .u32 0, .int .u32 0, .int .u32 0, .int .i64 0]
set_option maxHeartbeats 1000000 in
theorem gcontext_any (h : MS W P n X) : Calls Tryz.prog 14 #[.pointer (some ⟨P.m, 0, none⟩)] W fun e w' => e = .returned (.agg cC.toArray) ∧ Below W.heap.size W w' := by
  have hb := below_new W (.cells zC.toArray 63)
  have HB0 : Hid (Bl (W.alloc (.cells zC.toArray 63)) W.heap.size 63 zC) := Bl.new _ _ _
  have H := hidW (context_any P.pf fZ (W.alloc (.cells zC.toArray 63)) (h.below hb).fil)
  have c := (h.below hb).m1
  have HB := hidW hb
  clear h hb
  simp only [zC] at H c HB HB0
  go_enter Tryz.func14, Tryz.ntmps14
  go_wp2_with fail
  go_at_call 42
  refine H.out.mono ?_
  rintro e w1 ⟨rfl, g1⟩
  have hB := HB0.out.below g1
  have r0 := hB.cell
  have r1 := hB.frozen
  have r2 := hB.lt
  have HB1 := hidW (Below.step HB.out g1)
  clear H HB HB0 g1 c
  go_wp2
  refine bodyPost_ret (v := .agg cC.toArray) (by simp [results, Tryz.results14, go_sem, r0, r1, r2]; decide) rfl ⟨rfl, ?_⟩
  (repeat (with_reducible refine Below.setCell ?_ (by simp) _))
  exact HB1.out
set_option maxHeartbeats 1000000 in
theorem jcontext_any (h : MS W P n X) : Calls Tryz.prog 15 #[.pointer (some ⟨P.r, 0, none⟩)] W fun e w' => e = .returned (.agg cC.toArray) ∧ Below W.heap.size W w' := by
  have hb := below_new W (.cells zC.toArray 63)
  have HB0 : Hid (Bl (W.alloc (.cells zC.toArray 63)) W.heap.size 63 zC) := Bl.new _ _ _
  have H := hidW (rcontext_any P.rf fZ (W.alloc (.cells zC.toArray 63)) (h.below hb).rfil)
  have c := (h.below hb).r1
  have HB := hidW hb
  clear h hb
  simp only [zC] at H c HB HB0
  go_enter Tryz.func15, Tryz.ntmps15
  go_wp2_with fail
  go_at_call 43
  refine H.out.mono ?_
  rintro e w1 ⟨rfl, g1⟩
  have hB := HB0.out.below g1
  have r0 := hB.cell
  have r1 := hB.frozen
  have r2 := hB.lt
  have HB1 := hidW (Below.step HB.out g1)
  clear H HB HB0 g1 c
  go_wp2
  refine bodyPost_ret (v := .agg cC.toArray) (by simp [results, Tryz.results15, go_sem, r0, r1, r2]; decide) rfl ⟨rfl, ?_⟩
  (repeat (with_reducible refine Below.setCell ?_ (by simp) _))
  exact HB1.out
end
end Go.Proofs.YtfdjfhhjfgdbaaaGreatDoor
