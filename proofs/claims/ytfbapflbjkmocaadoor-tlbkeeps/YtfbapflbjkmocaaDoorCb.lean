import Derived.Test.YtfbapflbjkmocaaDoorCa
namespace Go.Proofs.YtfbapflbjkmocaaDoor
open Go.RowKit
set_option linter.unusedVariables false
set_option linter.unusedSimpArgs false
/-- What is new, and a TLB. -/
structure NX (T : TypeId) (W wr : World) (p g : Nat) (L : List Slo) : Prop where
  bel : Below W.heap.size W wr
  pt : PT T wr p g L
section
variable {T : TypeId} {W wr w' : World} {p g : Nat} {L : List Slo}
theorem NX.step (h : NX T W wr p g L) (hb : Below wr.heap.size wr w') : NX T W w' p g L := ⟨Below.step h.bel hb, h.pt.below hb⟩
theorem NX.alloc (h : NX T W wr p g L) (o : Obj) : NX T W (wr.alloc o) p g L := h.step (below_new _ _)
theorem NX.drewN (h : NX T W wr p g L) (q : Nat) : NX T W (wr.drewN q) p g L := ⟨below_drewN h.bel q, h.pt.drewN q⟩
theorem NX.start (h : PT T W p g L) : NX T W W p g L := ⟨Below.refl _ _, h⟩
end
set_option maxRecDepth 100000 in
set_option maxHeartbeats 4000000 in
theorem cap_any (W : World) (p g : Nat) (L : List Slo) (hP : PT 77 W p g L) : Calls Tryd.prog 29 #[.pointer (some ⟨p, 0, none⟩)] W fun e w' => e = .returned (.int .i64 (L.length : Nat)) ∧ W = w' := by
  have c0 := hP.cell
  clear hP
  go_enter Tryd.func29, Tryd.ntmps29
  go_wp2
  go_ret
  exact ⟨rfl, rfl⟩
set_option maxRecDepth 100000 in
set_option maxHeartbeats 4000000 in
theorem len_any (W : World) (p g : Nat) (L : List Slo) (hP : PT 77 W p g L) : Calls Tryd.prog 27 #[.pointer (some ⟨p, 0, none⟩)] W fun e w' => e = .returned (.int .i64 (leN L : Nat)) ∧ Below W.heap.size W w' := by
  have c0 := hP.cell
  have HX0 : Hid (NX 77 W W p g L) := NX.start hP
  have hn := hP.hi
  clear hP
  generalize hl : L.length = n at *
  have HN : Hid (L.length = n) := hl
  clear hl
  go_enter Tryd.func27, Tryd.ntmps27
  go_wp2
  go_loopw [3, 11] (fun c i wr => ∃ k : Nat, k ≤ n ∧ c = .int .i64 (((L.take k).countP (·.full) : Nat) : Int) ∧ i = .int .i64 k ∧ NX 77 W wr p g L) (fun _ i _ => n - (intOf i).toNat)
  case atStart => exact ⟨0, by omega, by simp, rfl, HX0.out⟩
  case round =>
    obtain ⟨k, hk, rfl, rfl, hX⟩ := hrel
    have HX : Hid (NX 77 W wr p g L) := hX
    clear hX HX0
    have hc : (L.take k).countP (·.full) ≤ k := by
      have h1 := List.countP_le_length (p := (·.full)) (l := L.take k)
      rw [List.length_take] at h1
      omega
    by_cases hlt : k < n
    · obtain ⟨s, hs, hok, e0, e1, e2, e3, e4, e5, e6, e7, e8, e9⟩ := HX.out.pt.at (k := k) (by rw [HN.out]; exact hlt)
      have HQ := hidW (countP_take (·.full) hs)
      have HA := fun o => hidW (HX.out.alloc o)
      clear HX hs hok
      generalize (L.take k).countP (·.full) = C at *
      obtain ⟨fu, aid, sz, v0, pa, dm, ap, bi, ng, xn⟩ := s
      dsimp only at *
      cases fu
      · go_wp2
        go_roundw
        case rel => exact ⟨k + 1, by omega, by rw [HQ.out]; simp, by go_num, (HA _).out⟩
        case measure => simp [intOf]; omega
      · go_wp2
        go_roundw
        case rel => exact ⟨k + 1, by omega, by rw [HQ.out]; simp, by go_num, (HA _).out⟩
        case measure => simp [intOf]; omega
    · obtain rfl : k = n := by omega
      go_wp2
      go_ret
      exact ⟨by rw [← HN.out, List.take_length]; rfl, HX.out.bel⟩
end Go.Proofs.YtfbapflbjkmocaaDoor
