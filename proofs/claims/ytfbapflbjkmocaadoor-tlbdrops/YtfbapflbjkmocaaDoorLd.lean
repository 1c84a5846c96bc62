import Derived.Test.YtfbapflbjkmocaaDoorLt
namespace Go.Proofs.YtfbapflbjkmocaaDoor
open Go.RowKit
set_option linter.unusedVariables false
set_option linter.unusedSimpArgs false
theorem tk1 (b : Blo) : tkF ⟨1, 0, 0⟩ b = bR b := by simp [tkF, pkF]
theorem tk4 (b : Blo) (va : Int) : tkF ⟨4, va, 0⟩ b = (bR b && liF b va) := by simp [tkF, pkF]
theorem tk2 (b : Blo) (va asid : Int) : tkF ⟨2, va, asid⟩ b = (bR b && (asF asid && maF b va asid)) := by
  cases h : asF asid <;> simp [tkF, pkF, h]
theorem tk3 (b : Blo) (asid : Int) : tkF ⟨3, 0, asid⟩ b = (bR b && (asF asid && b.asid == asid)) := by
  cases h : asF asid <;> simp [tkF, pkF, h]
theorem ov_own (b : Blo) (va : Int) : ovF b va b.asid = (bR b && liF b va) := by simp [ovF, maF, hoF]
set_option maxRecDepth 100000 in
set_option maxHeartbeats 8000000 in
theorem drops_no (W : World) (b : Blo) (va asid off : Int) (ht : TR W) (hO : BOk b) (hv : 0 ≤ va ∧ va < 4294967296) (hr : bR b = false) :
    Calls Tryd.prog 3 #[.agg #[.int .i64 b.asid, .int .i64 b.t.size, .int .u32 b.t.va, .int .u64 b.t.pa, .int .i64 b.t.dom, .int .i64 b.t.ap, .int .u32 b.t.bits, .bool b.t.ng, .bool b.t.xn], .int .u32 va, .int .i64 asid, .int .u32 off] W fun e w' => e = .returned (.bool true) ∧ Below W.heap.size W w' := by
  have HT : Hid (∀ w, Below W.heap.size W w → TR w) := fun w h => ht.below h
  have H2 : Hid (∀ w, Below W.heap.size W w → Calls Tryd.prog 10 #[.agg #[.int .i64 2, .int .u32 va, .int .i64 asid], .agg #[.int .i64 b.asid, .int .i64 b.t.size, .int .u32 b.t.va, .int .u64 b.t.pa, .int .i64 b.t.dom, .int .i64 b.t.ap, .int .u32 b.t.bits, .bool b.t.ng, .bool b.t.xn]] w fun e w' => e = .returned (.bool false) ∧ Below w.heap.size w w') := fun w h => by have := takes_any ⟨2, va, asid⟩ b w (ht.below h) hO hv; rw [tk2, hr] at this; exact this
  have H4 : Hid (∀ w, Below W.heap.size W w → Calls Tryd.prog 10 #[.agg #[.int .i64 4, .int .u32 va, .int .i64 0], .agg #[.int .i64 b.asid, .int .i64 b.t.size, .int .u32 b.t.va, .int .u64 b.t.pa, .int .i64 b.t.dom, .int .i64 b.t.ap, .int .u32 b.t.bits, .bool b.t.ng, .bool b.t.xn]] w fun e w' => e = .returned (.bool false) ∧ Below w.heap.size w w') := fun w h => by have := takes_any ⟨4, va, 0⟩ b w (ht.below h) hO hv; rw [tk4, hr] at this; exact this
  have H3 : Hid (∀ w, Below W.heap.size W w → Calls Tryd.prog 10 #[.agg #[.int .i64 3, .int .u32 0, .int .i64 asid], .agg #[.int .i64 b.asid, .int .i64 b.t.size, .int .u32 b.t.va, .int .u64 b.t.pa, .int .i64 b.t.dom, .int .i64 b.t.ap, .int .u32 b.t.bits, .bool b.t.ng, .bool b.t.xn]] w fun e w' => e = .returned (.bool false) ∧ Below w.heap.size w w') := fun w h => by have := takes_any ⟨3, 0, asid⟩ b w (ht.below h) hO ⟨by simp, by simp⟩; rw [tk3, hr] at this; exact this
  have H1 : Hid (∀ w, Below W.heap.size W w → Calls Tryd.prog 10 #[.agg #[.int .i64 1, .int .u32 0, .int .i64 0], .agg #[.int .i64 b.asid, .int .i64 b.t.size, .int .u32 b.t.va, .int .u64 b.t.pa, .int .i64 b.t.dom, .int .i64 b.t.ap, .int .u32 b.t.bits, .bool b.t.ng, .bool b.t.xn]] w fun e w' => e = .returned (.bool false) ∧ Below w.heap.size w w') := fun w h => by have := takes_any ⟨1, 0, 0⟩ b w (ht.below h) hO (by decide); rw [tk1, hr] at this; exact this
  have HR : Hid (∀ w, Below W.heap.size W w → Calls Tryd.prog 11 #[.agg #[.int .i64 b.asid, .int .i64 b.t.size, .int .u32 b.t.va, .int .u64 b.t.pa, .int .i64 b.t.dom, .int .i64 b.t.ap, .int .u32 b.t.bits, .bool b.t.ng, .bool b.t.xn]] w fun e w' => e = .returned (.bool false) ∧ Below w.heap.size w w') := fun w h => by have := tright_any b w (ht.below h) hO; rw [hr] at this; exact this
  have HX : Hid (BX1 W (W.alloc (.cells ([.int .i64 b.asid, .int .i64 b.t.size, .int .u32 b.t.va, .int .u64 b.t.pa, .int .i64 b.t.dom, .int .i64 b.t.ap, .int .u32 b.t.bits, .bool b.t.ng, .bool b.t.xn]).toArray 29)) b) := BX1.new W b
  clear ht hO hv hr
  have c0 := HX.out.box.cell
  go_enter Tryd.func3, Tryd.ntmps3
  go_wp2_with (fail)
  go_at_call 9
  refine (live_any _ (HT.out _ HX.out.bel)).mono ?_
  rintro e w1 ⟨rfl, hb⟩
  replace HX := hidW (HX.out.step hb)
  clear hb c0
  have c0 := HX.out.box.cell
  go_wp2_with (fail)
  go_at_call 10
  refine (H2.out _ HX.out.bel).mono ?_
  rintro e w1 ⟨rfl, hb⟩
  replace HX := hidW (HX.out.step hb)
  clear hb c0
  have c0 := HX.out.box.cell
  go_wp2_with (fail)
  go_at_call 10
  refine (H4.out _ HX.out.bel).mono ?_
  rintro e w1 ⟨rfl, hb⟩
  replace HX := hidW (HX.out.step hb)
  clear hb c0
  have c0 := HX.out.box.cell
  go_wp2_with (fail)
  go_at_call 10
  refine (H3.out _ HX.out.bel).mono ?_
  rintro e w1 ⟨rfl, hb⟩
  replace HX := hidW (HX.out.step hb)
  clear hb c0
  have c0 := HX.out.box.cell
  go_wp2_with (fail)
  go_at_call 10
  refine (H1.out _ HX.out.bel).mono ?_
  rintro e w1 ⟨rfl, hb⟩
  replace HX := hidW (HX.out.step hb)
  clear hb c0
  have c0 := HX.out.box.cell
  go_wp2_with (fail)
  go_at_call 11
  refine (HR.out _ HX.out.bel).mono ?_
  rintro e w1 ⟨rfl, hb⟩
  replace HX := hidW (HX.out.step hb)
  clear hb c0
  have c0 := HX.out.box.cell
  go_wp2
  go_ret
  exact ⟨by simp, HX.out.bel⟩
theorem drop_facts (b : Blo) (hO : BOk b) (hr : bR b = true) :
    ((2 : Int) ^ min (IntKind.u64.wrap (wrap64 (8 + wrap64 (4 * b.t.size)))).toNat 32 % 4294967296 = byN b.t.size) ∧ (4096 ≤ byN b.t.size ∧ byN b.t.size ≤ 16777216) ∧ (0 ≤ b.t.va ∧ b.t.va + byN b.t.size ≤ 4294967296) := by
  have h1 : riF b.t = true := by
    cases h : riF b.t
    · simp [bR, h] at hr
    · rfl
  have hs : 1 ≤ b.t.size ∧ b.t.size ≤ 4 := by
    have h2 := h1
    unfold riF at h2
    simp at h2
    exact h2.1
  have h3 := ((ri_iff b.t ⟨hO.pa, hO.bits⟩ hs).1 h1).1
  have hv := hO.va
  obtain ⟨aid, sz, v0, pa, dm, ap, bi, ng, xn⟩ := b
  dsimp only at *
  clear h1 hr hO
  rcases (show sz = 1 ∨ sz = 2 ∨ sz = 3 ∨ sz = 4 by omega) with rfl | rfl | rfl | rfl
  · rw [show byN 1 = 4096 from rfl] at *
    exact ⟨by kernel_rfl, by omega, by omega⟩
  · rw [show byN 2 = 65536 from rfl] at *
    exact ⟨by kernel_rfl, by omega, by omega⟩
  · rw [show byN 3 = 1048576 from rfl] at *
    exact ⟨by kernel_rfl, by omega, by omega⟩
  · rw [show byN 4 = 16777216 from rfl] at *
    exact ⟨by kernel_rfl, by omega, by omega⟩
theorem li_in (b : Blo) (R : Int) (h : 0 ≤ R ∧ R < byN b.t.size) : liF b (b.t.va + R) = true := by
  unfold liF
  rw [show b.t.va + R - b.t.va = R by omega]
  simp [h]
  omega
theorem li_out1 (b : Blo) (h1 : 4096 ≤ byN b.t.size ∧ byN b.t.size ≤ 16777216) (h2 : 0 ≤ b.t.va ∧ b.t.va + byN b.t.size ≤ 4294967296) : liF b ((b.t.va + byN b.t.size) % 4294967296) = false := by
  unfold liF
  generalize byN b.t.size = N at *
  generalize b.t.va = v at *
  by_cases h : v + N = 4294967296
  · rw [h]
    simp
    omega
  · rw [Int.emod_eq_of_lt (by omega) (by omega)]
    simp
    omega
theorem li_out2 (b : Blo) (h1 : 4096 ≤ byN b.t.size ∧ byN b.t.size ≤ 16777216) (h2 : 0 ≤ b.t.va ∧ b.t.va + byN b.t.size ≤ 4294967296) : liF b ((b.t.va - 1) % 4294967296) = false := by
  unfold liF
  generalize byN b.t.size = N at *
  generalize b.t.va = v at *
  by_cases h : v = 0
  · subst h
    simp
    omega
  · rw [Int.emod_eq_of_lt (by omega) (by omega)]
    simp
    omega
theorem as_of {b : Blo} (hr : bR b = true) : (b.asid = -1) ∨ (0 ≤ b.asid ∧ b.asid ≤ 255) := by
  unfold bR at hr
  split at hr
  · split at hr
    · simp [asF] at hr; exact .inr hr
    · simp at hr; exact .inl hr
  · cases hr
end Go.Proofs.YtfbapflbjkmocaaDoor
