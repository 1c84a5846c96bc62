import Derived.Test.YtfdjfhhjfgdbaaaGreatDoorMi
namespace Go.Proofs.YtfdjfhhjfgdbaaaGreatDoor
open Go.RowKit
open Go.Maps (Keyed)
set_option linter.unusedVariables false
set_option linter.unusedSimpArgs false
theorem lawB : Keyed Tryz.prog 114 := Maps.Keyed.of_law (deep_law (m := 4) (by omega) (by kernel_rfl) (by kernel_rfl) (by kernel_rfl))
/-- A tracker that knows nothing. -/
structure TK (w : World) (p kb jb : Nat) : Prop where
  box : Bl w p 154 [.map (some kb), .map (some jb)]
  k : EM w kb
  j : EM w jb
theorem TK.below {w w' : World} {p kb jb : Nat} (h : TK w p kb jb) (hb : Below w.heap.size w w') : TK w' p kb jb := ⟨h.box.below hb, h.k.below hb, h.j.below hb⟩
theorem TK.c0 {w : World} {p kb jb : Nat} (h : TK w p kb jb) : w.cell? ⟨p, 0, none⟩ = some (.map (some kb)) := h.box.cell 0
theorem TK.c1 {w : World} {p kb jb : Nat} (h : TK w p kb jb) : w.cell? ⟨p, 1, none⟩ = some (.map (some jb)) := h.box.cell 1
set_option maxHeartbeats 1000000 in
theorem knew_any (w : World) : Calls Tryz.prog 34 #[] w fun e w' => e = .returned (.pointer (some ⟨w.heap.size + 2, 0, none⟩)) ∧ TK w' (w.heap.size + 2) w.heap.size (w.heap.size + 1) ∧ Below w.heap.size w w' := by
  have hmm := @run_makeMap Tryz.prog
  have H1 := hidW (EM.new w)
  have H2 : Hid (EM ((w.alloc (.map #[] 0)).alloc (.map #[] 0)) (w.heap.size + 1)) := by
    have h := EM.new (w.alloc (.map #[] 0))
    rw [show (w.alloc (.map #[] 0)).heap.size = w.heap.size + 1 by simp] at h
    exact h
  have H3 : Hid (Bl (((w.alloc (.map #[] 0)).alloc (.map #[] 0)).alloc (.cells #[.map (some w.heap.size), .map (some (w.heap.size + 1))] 154)) (w.heap.size + 2) 154 [.map (some w.heap.size), .map (some (w.heap.size + 1))]) := by
    have h := Bl.new ((w.alloc (.map #[] 0)).alloc (.map #[] 0)) 154 [.map (some w.heap.size), .map (some (w.heap.size + 1))]
    rw [show ((w.alloc (.map #[] 0)).alloc (.map #[] 0)).heap.size = w.heap.size + 2 by simp] at h
    exact h
  go_enter Tryz.func34, Tryz.ntmps34
  go_wp2
  go_ret
  exact ⟨rfl, ⟨H3.out, (H1.out.below (below_new _ _)).below (below_new _ _), H2.out.below (below_new _ _)⟩, Below.step (Below.step (below_new _ _) (below_new _ _)) (below_new _ _)⟩
/-- The zero context. -/
abbrev zCv : Value := .agg #[.bool false, .bool false, .bool false, .int .i64 0, .bool false, .bool false, .int .u64 0, .int .u64 0, .int .u32 0, .int .u32 0, .int .u32 0, .int .i64 0]
theorem zeroC (w : World) : (zeroValue 63).run Tryz.prog w = .ok zCv w := by kernel_rfl
theorem TK.look {w : World} {p kb jb : Nat} (h : TK w p kb jb) {a : Int} (h1 : -9223372036854775808 ≤ a) (h2 : a ≤ 9223372036854775807) : (Instr.lookup 152 (.map (some jb)) (.int .i64 a) true).run Tryz.prog w = .ok (.tuple #[zCv, .bool false]) w :=
  h.j.look Tryz.underlying152 (zeroC w) h1 h2
set_option maxHeartbeats 2000000 in
theorem kjudge_any (W : World) (p kb jb : Nat) (h : TK W p kb jb) (a : Int) (h1 : -9223372036854775808 ≤ a) (h2 : a ≤ 9223372036854775807) :
    Calls Tryz.prog 45 #[.pointer (some ⟨p, 0, none⟩), .int .i64 a] W fun e w' => e = .returned (.tuple #[zCv, .bool false]) ∧ Below W.heap.size W w' := by
  have hb := below_new W (.cells #[.bool false, .bool false, .bool false, .int .i64 0, .bool false, .bool false, .int .u64 0, .int .u64 0, .int .u32 0, .int .u32 0, .int .u32 0, .int .i64 0] 63)
  have c1 := (h.below hb).c1
  have hlk := (h.below hb).look h1 h2
  clear h hb
  go_enter Tryz.func45, Tryz.ntmps45
  go_wp2
  refine bodyPost_ret (by simp [results, Tryz.results45, go_sem]) rfl ⟨rfl, ?_⟩
  repeat (first | exact Below.refl _ _ | refine Below.setCell ?_ (by simp) _ | refine Below.alloc ?_ (by simp) _)
set_option maxHeartbeats 2000000 in
theorem kstale_any (W : World) (p kb jb : Nat) (h : TK W p kb jb) (m : Value) (a va : Int) (h1 : -9223372036854775808 ≤ a) (h2 : a ≤ 9223372036854775807) :
    Calls Tryz.prog 48 #[.pointer (some ⟨p, 0, none⟩), m, .int .i64 a, .int .u32 va] W fun e w' => e = .returned (.bool false) ∧ Below W.heap.size W w' := by
  have c1 := h.c1
  have hlk := h.look h1 h2
  clear h
  go_enter Tryz.func48, Tryz.ntmps48
  go_wp2
  go_ret
  refine ⟨rfl, ?_⟩
  repeat (first | exact Below.refl _ _ | refine Below.setCell ?_ (by simp) _ | refine Below.alloc ?_ (by simp) _)
theorem range_none {w : World} {g r n cnt : Nat} {D : DataW Value} {left : Lit → Bool} (h : w.ranges Tryz.prog 114 rH g r n D left cnt) (hl : ∀ l, left l = false) (ty : TypeId) : (Instr.next (.pointer (some ⟨r, 0, none⟩)) false ty).run Tryz.prog w = .ok (.tuple #[.bool false]) w := by
  rcases h.next lawB ty with ⟨_, _, hr⟩ | ⟨key, v, kl, y, w', cnt', hkey, hlk, _⟩
  · exact hr
  · rw [hl] at hlk; cases hlk
theorem EM.range {w : World} {g : Nat} (h : EM w g) : ∃ w', (Instr.range 151 (.map (some g))).run Tryz.prog w = .ok (.pointer (some ⟨w.heap.size, 0, none⟩)) w' ∧ (∀ ty, (Instr.next (.pointer (some ⟨w.heap.size, 0, none⟩)) false ty).run Tryz.prog w' = .ok (.tuple #[.bool false]) w') ∧ Below w.heap.size w w' := by
  obtain ⟨w', hr, g1, g2, g3⟩ := (h.owns 114).range lawB Tryz.underlying151
  exact ⟨w', hr, fun ty => range_none g1 (fun l => by simp [Maps.has]) ty, below_grown g2⟩
end Go.Proofs.YtfdjfhhjfgdbaaaGreatDoor
