import Derived.Test.YtfdjfhhjfgdbaaaGreatDoorMj
namespace Go.Proofs.YtfdjfhhjfgdbaaaGreatDoor
open Go.RowKit
set_option linter.unusedVariables false
set_option linter.unusedSimpArgs false
set_option maxRecDepth 100000 in
set_option maxHeartbeats 4000000 in
theorem kdirty_any (W : World) (p kb jb : Nat) (h : TK W p kb jb) (m : Value) :
    Calls Tryz.prog 50 #[.pointer (some ⟨p, 0, none⟩), m] W fun e w' => e = .returned (.slice none 0 0) ∧ Below W.heap.size W w' := by
  have c0 := h.c0
  obtain ⟨w2, hr, hn, hb⟩ := h.k.range
  have HB := hidW hb
  have HS := hidW (sortD_zero none 0 (.func (.func 69) #[] #[]) w2)
  clear h hb
  go_enter Tryz.func50, Tryz.ntmps50
  go_wp2
  clear hr c0
  go_loopw [5] (fun s wr => s = .slice none 0 0 ∧ Hid (w2 = wr)) (fun _ _ => 0)
  case atStart => exact ⟨rfl, rfl⟩
  case round =>
    obtain ⟨rfl, HK⟩ := hrel
    have e := HK.out
    subst e
    go_wp2_with (go_at_call 68; refine HS.out.mono ?_; rintro e w3 ⟨rfl, rfl⟩)
    go_ret
    exact ⟨rfl, HB.out⟩
theorem infoB : (Tryz.prog.info? 114).map (fun i => (i.zero, i.size, i.bytes)) = some (some (.agg #[.int .i64 0, .int .i64 0, .int .u32 0, .int .u64 0, .int .i64 0, .int .i64 0, .int .u32 0, .bool false, .bool false]), 9, 56) := by kernel_rfl
theorem makeB0 (W : World) : ∃ cur, (Instr.makeSlice 77 (.int .i64 0) (.int .i64 0)).run Tryz.prog W = .ok (.slice (some ⟨W.heap.size, 0, none⟩) 0 0) (W.alloc (.cells cur 114)) := by
  obtain ⟨i, hi, hz, h1, h2⟩ := info_parts infoB
  have h := run_make (P := Tryz.prog) W 77 114 i _ Tryz.underlying77 hi hz .i64 .i64 0 0 (by omega) (by omega) (by omega) (by omega)
  exact ⟨_, h⟩
theorem EM.len {w : World} {g : Nat} (h : EM w g) (ty : TypeId) : (Builtin.len_ #[151] ty #[.map (some g)]).run Tryz.prog w = .ok (.int .i64 0) w := by
  rw [(h.owns 114).len Tryz.underlying151 ty]
  rfl
set_option maxRecDepth 100000 in
set_option maxHeartbeats 4000000 in
theorem kknown_any (W : World) (p kb jb : Nat) (h : TK W p kb jb) :
    Calls Tryz.prog 51 #[.pointer (some ⟨p, 0, none⟩)] W fun e w' => ∃ a, e = .returned (.slice a 0 0) ∧ Below W.heap.size W w' := by
  have hlen := fun ty => h.k.len ty
  obtain ⟨cur, hmk⟩ := makeB0 W
  have c0 := h.c0
  have hb0 := below_new W (.cells cur 114)
  have d0 := (h.below hb0).c0
  obtain ⟨w2, hr, hn, hb⟩ := (h.below hb0).k.range
  have HB := hidW (Below.step hb0 hb)
  have HS := hidW (sortB_zero (some ⟨W.heap.size, 0, none⟩) 0 (.func (.func 71) #[] #[]) w2)
  clear h hb hb0
  generalize hrr : (W.alloc (.cells cur 114)).heap.size = r at *
  go_enter Tryz.func51, Tryz.ntmps51
  go_wp2
  clear hr c0 d0 hmk hlen hrr
  go_loopw [3] (fun s wr => s = .slice (some ⟨W.heap.size, 0, none⟩) 0 0 ∧ Hid (w2 = wr)) (fun _ _ => 0)
  case atStart => exact ⟨rfl, rfl⟩
  case round =>
    obtain ⟨rfl, HK⟩ := hrel
    have e := HK.out
    subst e
    go_wp2_with (go_at_call 70; refine HS.out.mono ?_; rintro e w3 ⟨rfl, rfl⟩)
    go_ret
    exact ⟨_, rfl, HB.out⟩
end Go.Proofs.YtfdjfhhjfgdbaaaGreatDoor
