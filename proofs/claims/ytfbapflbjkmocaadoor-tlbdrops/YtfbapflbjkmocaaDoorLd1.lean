import Derived.Test.YtfbapflbjkmocaaDoorLd
namespace Go.Proofs.YtfbapflbjkmocaaDoor
open Go.RowKit
set_option linter.unusedVariables false
set_option linter.unusedSimpArgs false
set_option maxRecDepth 100000 in
set_option maxHeartbeats 16000000 in
theorem drops_1a (W : World) (aid sz v0 pa dm ap bi : Int) (ng xn : Bool) (va asid off : Int) (ht : TR W) (hO : BOk ⟨aid, ⟨sz, v0, pa, dm, ap, bi, ng, xn⟩⟩) (hv : 0 ≤ va ∧ va < 4294967296) (ho : 0 ≤ off ∧ off < 4294967296) (hr : bR ⟨aid, ⟨sz, v0, pa, dm, ap, bi, ng, xn⟩⟩ = true) (hq : 0 ≤ aid ∧ aid ≤ 255)
    (hm2 : (asF asid && maF ⟨aid, ⟨sz, v0, pa, dm, ap, bi, ng, xn⟩⟩ va asid) = false) (hm4 : liF ⟨aid, ⟨sz, v0, pa, dm, ap, bi, ng, xn⟩⟩ va = false) (hm3 : (asF asid && (aid == asid)) = true) (h3 : aid = asid) :
    Calls Tryd.prog 3 #[.agg #[.int .i64 aid, .int .i64 sz, .int .u32 v0, .int .u64 pa, .int .i64 dm, .int .i64 ap, .int .u32 bi, .bool ng, .bool xn], .int .u32 va, .int .i64 asid, .int .u32 off] W fun e w' => e = .returned (.bool true) ∧ Below W.heap.size W w' := by
  subst h3
  have HT : Hid (∀ w, Below W.heap.size W w → TR w) := fun w h => ht.below h
  have H2 : Hid (∀ w, Below W.heap.size W w → Calls Tryd.prog 10 #[.agg #[.int .i64 2, .int .u32 va, .int .i64 aid], .agg #[.int .i64 aid, .int .i64 sz, .int .u32 v0, .int .u64 pa, .int .i64 dm, .int .i64 ap, .int .u32 bi, .bool ng, .bool xn]] w fun e w' => e = .returned (.bool false) ∧ Below w.heap.size w w') := fun w h => by
    have := takes_any ⟨2, va, aid⟩ ⟨aid, ⟨sz, v0, pa, dm, ap, bi, ng, xn⟩⟩ w (ht.below h) hO hv
    rw [tk2, hr, hm2] at this
    exact this
  have H4 : Hid (∀ w, Below W.heap.size W w → Calls Tryd.prog 10 #[.agg #[.int .i64 4, .int .u32 va, .int .i64 0], .agg #[.int .i64 aid, .int .i64 sz, .int .u32 v0, .int .u64 pa, .int .i64 dm, .int .i64 ap, .int .u32 bi, .bool ng, .bool xn]] w fun e w' => e = .returned (.bool false) ∧ Below w.heap.size w w') := fun w h => by
    have := takes_any ⟨4, va, 0⟩ ⟨aid, ⟨sz, v0, pa, dm, ap, bi, ng, xn⟩⟩ w (ht.below h) hO hv
    rw [tk4, hr, hm4] at this
    exact this
  have H3 : Hid (∀ w, Below W.heap.size W w → Calls Tryd.prog 10 #[.agg #[.int .i64 3, .int .u32 0, .int .i64 aid], .agg #[.int .i64 aid, .int .i64 sz, .int .u32 v0, .int .u64 pa, .int .i64 dm, .int .i64 ap, .int .u32 bi, .bool ng, .bool xn]] w fun e w' => e = .returned (.bool true) ∧ Below w.heap.size w w') := fun w h => by
    have := takes_any ⟨3, 0, aid⟩ ⟨aid, ⟨sz, v0, pa, dm, ap, bi, ng, xn⟩⟩ w (ht.below h) hO ⟨by simp, by simp⟩
    rw [show tkF ⟨3, 0, aid⟩ ⟨aid, ⟨sz, v0, pa, dm, ap, bi, ng, xn⟩⟩ = true by rw [tk3, hr]; exact hm3] at this
    exact this
  have H1 : Hid (∀ w, Below W.heap.size W w → Calls Tryd.prog 10 #[.agg #[.int .i64 1, .int .u32 0, .int .i64 0], .agg #[.int .i64 aid, .int .i64 sz, .int .u32 v0, .int .u64 pa, .int .i64 dm, .int .i64 ap, .int .u32 bi, .bool ng, .bool xn]] w fun e w' => e = .returned (.bool true) ∧ Below w.heap.size w w') := fun w h => by
    have := takes_any ⟨1, 0, 0⟩ ⟨aid, ⟨sz, v0, pa, dm, ap, bi, ng, xn⟩⟩ w (ht.below h) hO ⟨by simp, by simp⟩
    rw [tk1, hr] at this
    exact this
  have HR : Hid (∀ w, Below W.heap.size W w → Calls Tryd.prog 11 #[.agg #[.int .i64 aid, .int .i64 sz, .int .u32 v0, .int .u64 pa, .int .i64 dm, .int .i64 ap, .int .u32 bi, .bool ng, .bool xn]] w fun e w' => e = .returned (.bool true) ∧ Below w.heap.size w w') := fun w h => by
    have := tright_any ⟨aid, ⟨sz, v0, pa, dm, ap, bi, ng, xn⟩⟩ w (ht.below h) hO
    rw [hr] at this
    exact this
  have HV : Hid (∀ w, Below W.heap.size W w → Calls Tryd.prog 12 #[.agg #[.int .i64 aid, .int .i64 sz, .int .u32 v0, .int .u64 pa, .int .i64 dm, .int .i64 ap, .int .u32 bi, .bool ng, .bool xn], .int .u32 va, .int .i64 aid] w fun e w' => e = .returned (.bool false) ∧ Below w.heap.size w w') := fun w h => by
    have := over_any ⟨aid, ⟨sz, v0, pa, dm, ap, bi, ng, xn⟩⟩ va aid w (ht.below h) hO hv
    rw [show ovF ⟨aid, ⟨sz, v0, pa, dm, ap, bi, ng, xn⟩⟩ va aid = false by rw [show ovF ⟨aid, ⟨sz, v0, pa, dm, ap, bi, ng, xn⟩⟩ va aid = _ from ov_own ⟨aid, ⟨sz, v0, pa, dm, ap, bi, ng, xn⟩⟩ va, hr, hm4]; rfl] at this
    exact this
  obtain ⟨hby, hN, hv0⟩ := drop_facts ⟨aid, ⟨sz, v0, pa, dm, ap, bi, ng, xn⟩⟩ hO hr
  dsimp only at hby hN hv0
  have hR : off.tmod (byN sz) = off % byN sz := Int.tmod_eq_emod_of_nonneg ho.1
  have hR0 := Int.emod_nonneg off (show byN sz ≠ 0 by omega)
  have hR1 := Int.emod_lt_of_pos off (show 0 < byN sz by omega)
  have hNz : ¬ byN sz = 0 := by omega
  generalize hRR : off % byN sz = R at *
  have hX0 : 0 ≤ v0 + R ∧ v0 + R < 4294967296 := by omega
  have hli : liF ⟨aid, ⟨sz, v0, pa, dm, ap, bi, ng, xn⟩⟩ (v0 + R) = true := li_in ⟨aid, ⟨sz, v0, pa, dm, ap, bi, ng, xn⟩⟩ R ⟨hR0, hR1⟩
  have HI2 : Hid (∀ w, Below W.heap.size W w → Calls Tryd.prog 10 #[.agg #[.int .i64 2, .int .u32 (v0 + R), .int .i64 aid], .agg #[.int .i64 aid, .int .i64 sz, .int .u32 v0, .int .u64 pa, .int .i64 dm, .int .i64 ap, .int .u32 bi, .bool ng, .bool xn]] w fun e w' => e = .returned (.bool true) ∧ Below w.heap.size w w') := fun w h => by
    have := takes_any ⟨2, (v0 + R), aid⟩ ⟨aid, ⟨sz, v0, pa, dm, ap, bi, ng, xn⟩⟩ w (ht.below h) hO hX0
    rw [show tkF ⟨2, (v0 + R), aid⟩ ⟨aid, ⟨sz, v0, pa, dm, ap, bi, ng, xn⟩⟩ = true by rw [tk2, hr, maF, hli]; simp [hoF, asF, hq]] at this
    exact this
  have HI4 : Hid (∀ w, Below W.heap.size W w → Calls Tryd.prog 10 #[.agg #[.int .i64 4, .int .u32 (v0 + R), .int .i64 0], .agg #[.int .i64 aid, .int .i64 sz, .int .u32 v0, .int .u64 pa, .int .i64 dm, .int .i64 ap, .int .u32 bi, .bool ng, .bool xn]] w fun e w' => e = .returned (.bool true) ∧ Below w.heap.size w w') := fun w h => by
    have := takes_any ⟨4, (v0 + R), 0⟩ ⟨aid, ⟨sz, v0, pa, dm, ap, bi, ng, xn⟩⟩ w (ht.below h) hO hX0
    rw [tk4, hr, hli] at this
    exact this
  have HO1 : Hid (∀ w, Below W.heap.size W w → Calls Tryd.prog 10 #[.agg #[.int .i64 4, .int .u32 ((v0 + byN sz) % 4294967296), .int .i64 0], .agg #[.int .i64 aid, .int .i64 sz, .int .u32 v0, .int .u64 pa, .int .i64 dm, .int .i64 ap, .int .u32 bi, .bool ng, .bool xn]] w fun e w' => e = .returned (.bool false) ∧ Below w.heap.size w w') := fun w h => by
    have := takes_any ⟨4, ((v0 + byN sz) % 4294967296), 0⟩ ⟨aid, ⟨sz, v0, pa, dm, ap, bi, ng, xn⟩⟩ w (ht.below h) hO ⟨Int.emod_nonneg _ (by decide), Int.emod_lt_of_pos _ (by decide)⟩
    rw [show tkF ⟨4, ((v0 + byN sz) % 4294967296), 0⟩ ⟨aid, ⟨sz, v0, pa, dm, ap, bi, ng, xn⟩⟩ = false by rw [tk4, hr, show liF ⟨aid, ⟨sz, v0, pa, dm, ap, bi, ng, xn⟩⟩ ((v0 + byN sz) % 4294967296) = false from li_out1 ⟨aid, ⟨sz, v0, pa, dm, ap, bi, ng, xn⟩⟩ hN hv0]; rfl] at this
    exact this
  have HO2 : Hid (∀ w, Below W.heap.size W w → Calls Tryd.prog 10 #[.agg #[.int .i64 4, .int .u32 ((v0 - 1) % 4294967296), .int .i64 0], .agg #[.int .i64 aid, .int .i64 sz, .int .u32 v0, .int .u64 pa, .int .i64 dm, .int .i64 ap, .int .u32 bi, .bool ng, .bool xn]] w fun e w' => e = .returned (.bool false) ∧ Below w.heap.size w w') := fun w h => by
    have := takes_any ⟨4, ((v0 - 1) % 4294967296), 0⟩ ⟨aid, ⟨sz, v0, pa, dm, ap, bi, ng, xn⟩⟩ w (ht.below h) hO ⟨Int.emod_nonneg _ (by decide), Int.emod_lt_of_pos _ (by decide)⟩
    rw [show tkF ⟨4, ((v0 - 1) % 4294967296), 0⟩ ⟨aid, ⟨sz, v0, pa, dm, ap, bi, ng, xn⟩⟩ = false by rw [tk4, hr, show liF ⟨aid, ⟨sz, v0, pa, dm, ap, bi, ng, xn⟩⟩ ((v0 - 1) % 4294967296) = false from li_out2 ⟨aid, ⟨sz, v0, pa, dm, ap, bi, ng, xn⟩⟩ hN hv0]; rfl] at this
    exact this
  have hoo : hoF ⟨aid, ⟨sz, v0, pa, dm, ap, bi, ng, xn⟩⟩ ((aid + 1) % 256) = false := by simp [hoF]; omega
  have HOt : Hid (∀ w, Below W.heap.size W w → Calls Tryd.prog 10 #[.agg #[.int .i64 2, .int .u32 (v0 + R), .int .i64 ((aid + 1) % 256)], .agg #[.int .i64 aid, .int .i64 sz, .int .u32 v0, .int .u64 pa, .int .i64 dm, .int .i64 ap, .int .u32 bi, .bool ng, .bool xn]] w fun e w' => e = .returned (.bool false) ∧ Below w.heap.size w w') := fun w h => by
    have := takes_any ⟨2, (v0 + R), ((aid + 1) % 256)⟩ ⟨aid, ⟨sz, v0, pa, dm, ap, bi, ng, xn⟩⟩ w (ht.below h) hO hX0
    rw [show tkF ⟨2, (v0 + R), ((aid + 1) % 256)⟩ ⟨aid, ⟨sz, v0, pa, dm, ap, bi, ng, xn⟩⟩ = false by rw [tk2, hr, maF, hli, hoo]; simp] at this
    exact this
  have HX : Hid (BX1 W (W.alloc (.cells (#[.int .i64 aid, .int .i64 sz, .int .u32 v0, .int .u64 pa, .int .i64 dm, .int .i64 ap, .int .u32 bi, .bool ng, .bool xn]) 29)) ⟨aid, ⟨sz, v0, pa, dm, ap, bi, ng, xn⟩⟩) := BX1.new W ⟨aid, ⟨sz, v0, pa, dm, ap, bi, ng, xn⟩⟩
  clear ht hO hv hr hm2 hm4 hm3 hli hoo
  have c0 := HX.out.box.cell
  dsimp only at c0
  have hq1 : ¬ aid < 0 := by omega
  have hq2 : ¬ aid = -1 := by omega
  have hq3 : 0 ≤ aid := hq.1
  have hq4 : aid ≤ 255 := hq.2
  have HBY := hidW hby
  clear hby
  go_enter Tryd.func3, Tryd.ntmps3
  go_wp2_with (fail)
  go_at_call 9
  refine (live_any _ (HT.out _ HX.out.bel)).mono ?_
  rintro e w1 ⟨rfl, hb⟩
  replace HX := hidW (HX.out.step hb)
  clear hb c0
  have c0 := HX.out.box.cell
  dsimp only at c0
  go_wp2_with (fail)
  go_at_call 10
  refine (H2.out _ HX.out.bel).mono ?_
  rintro e w1 ⟨rfl, hb⟩
  replace HX := hidW (HX.out.step hb)
  clear hb c0 H2
  have c0 := HX.out.box.cell
  dsimp only at c0
  go_wp2_with (fail)
  go_at_call 10
  refine (H4.out _ HX.out.bel).mono ?_
  rintro e w1 ⟨rfl, hb⟩
  replace HX := hidW (HX.out.step hb)
  clear hb c0 H4
  have c0 := HX.out.box.cell
  dsimp only at c0
  go_wp2_with (fail)
  go_at_call 10
  refine (H3.out _ HX.out.bel).mono ?_
  rintro e w1 ⟨rfl, hb⟩
  replace HX := hidW (HX.out.step hb)
  clear hb c0 H3
  have c0 := HX.out.box.cell
  dsimp only at c0
  go_wp2_with (fail)
  go_at_call 10
  refine (H1.out _ HX.out.bel).mono ?_
  rintro e w1 ⟨rfl, hb⟩
  replace HX := hidW (HX.out.step hb)
  clear hb c0 H1
  have c0 := HX.out.box.cell
  dsimp only at c0
  go_wp2_with (fail)
  go_at_call 11
  refine (HR.out _ HX.out.bel).mono ?_
  rintro e w1 ⟨rfl, hb⟩
  replace HX := hidW (HX.out.step hb)
  clear hb c0 HR
  have c0 := HX.out.box.cell
  dsimp only at c0
  go_wp2_with (fail)
  go_at_call 12
  refine (HV.out _ HX.out.bel).mono ?_
  rintro e w1 ⟨rfl, hb⟩
  replace HX := hidW (HX.out.step hb)
  clear hb c0 HV
  have c0 := HX.out.box.cell
  dsimp only at c0
  go_wp2
  rw [HBY.out]
  generalize byN sz = N at *
  go_quiet (fail)
  replace HX := hidW (HX.out.drewN nq)
  generalize w1.drewN nq = wq at *
  clear c0
  have c0 := HX.out.box.cell
  dsimp only at c0
  go_wp2_with (fail)
  go_at_call 10
  refine (HI2.out _ HX.out.bel).mono ?_
  rintro e w1 ⟨rfl, hb⟩
  replace HX := hidW (HX.out.step hb)
  clear hb c0 HI2
  have c0 := HX.out.box.cell
  dsimp only at c0
  go_wp2_with (fail)
  go_at_call 10
  refine (HI4.out _ HX.out.bel).mono ?_
  rintro e w1 ⟨rfl, hb⟩
  replace HX := hidW (HX.out.step hb)
  clear hb c0 HI4
  have c0 := HX.out.box.cell
  dsimp only at c0
  go_wp2_with (fail)
  go_at_call 10
  refine (HO1.out _ HX.out.bel).mono ?_
  rintro e w1 ⟨rfl, hb⟩
  replace HX := hidW (HX.out.step hb)
  clear hb c0 HO1
  have c0 := HX.out.box.cell
  dsimp only at c0
  go_wp2_with (fail)
  go_at_call 10
  refine (HO2.out _ HX.out.bel).mono ?_
  rintro e w1 ⟨rfl, hb⟩
  replace HX := hidW (HX.out.step hb)
  clear hb c0 HO2
  have c0 := HX.out.box.cell
  dsimp only at c0
  go_wp2_with (fail)
  go_at_call 10
  refine (HOt.out _ HX.out.bel).mono ?_
  rintro e w1 ⟨rfl, hb⟩
  replace HX := hidW (HX.out.step hb)
  clear hb c0 HOt
  have c0 := HX.out.box.cell
  dsimp only at c0
  go_wp2
  go_ret
  exact ⟨by first | (simp; done) | (simp; exact hq2), HX.out.bel⟩
set_option maxRecDepth 100000 in
set_option maxHeartbeats 16000000 in
theorem drops_1b (W : World) (aid sz v0 pa dm ap bi : Int) (ng xn : Bool) (va asid off : Int) (ht : TR W) (hO : BOk ⟨aid, ⟨sz, v0, pa, dm, ap, bi, ng, xn⟩⟩) (hv : 0 ≤ va ∧ va < 4294967296) (ho : 0 ≤ off ∧ off < 4294967296) (hr : bR ⟨aid, ⟨sz, v0, pa, dm, ap, bi, ng, xn⟩⟩ = true) (hq : 0 ≤ aid ∧ aid ≤ 255)
    (hm2 : (asF asid && maF ⟨aid, ⟨sz, v0, pa, dm, ap, bi, ng, xn⟩⟩ va asid) = false) (hm4 : liF ⟨aid, ⟨sz, v0, pa, dm, ap, bi, ng, xn⟩⟩ va = false) (hm3 : (asF asid && (aid == asid)) = false) :
    Calls Tryd.prog 3 #[.agg #[.int .i64 aid, .int .i64 sz, .int .u32 v0, .int .u64 pa, .int .i64 dm, .int .i64 ap, .int .u32 bi, .bool ng, .bool xn], .int .u32 va, .int .i64 asid, .int .u32 off] W fun e w' => e = .returned (.bool true) ∧ Below W.heap.size W w' := by
  have HT : Hid (∀ w, Below W.heap.size W w → TR w) := fun w h => ht.below h
  have H2 : Hid (∀ w, Below W.heap.size W w → Calls Tryd.prog 10 #[.agg #[.int .i64 2, .int .u32 va, .int .i64 asid], .agg #[.int .i64 aid, .int .i64 sz, .int .u32 v0, .int .u64 pa, .int .i64 dm, .int .i64 ap, .int .u32 bi, .bool ng, .bool xn]] w fun e w' => e = .returned (.bool false) ∧ Below w.heap.size w w') := fun w h => by
    have := takes_any ⟨2, va, asid⟩ ⟨aid, ⟨sz, v0, pa, dm, ap, bi, ng, xn⟩⟩ w (ht.below h) hO hv
    rw [tk2, hr, hm2] at this
    exact this
  have H4 : Hid (∀ w, Below W.heap.size W w → Calls Tryd.prog 10 #[.agg #[.int .i64 4, .int .u32 va, .int .i64 0], .agg #[.int .i64 aid, .int .i64 sz, .int .u32 v0, .int .u64 pa, .int .i64 dm, .int .i64 ap, .int .u32 bi, .bool ng, .bool xn]] w fun e w' => e = .returned (.bool false) ∧ Below w.heap.size w w') := fun w h => by
    have := takes_any ⟨4, va, 0⟩ ⟨aid, ⟨sz, v0, pa, dm, ap, bi, ng, xn⟩⟩ w (ht.below h) hO hv
    rw [tk4, hr, hm4] at this
    exact this
  have H3 : Hid (∀ w, Below W.heap.size W w → Calls Tryd.prog 10 #[.agg #[.int .i64 3, .int .u32 0, .int .i64 asid], .agg #[.int .i64 aid, .int .i64 sz, .int .u32 v0, .int .u64 pa, .int .i64 dm, .int .i64 ap, .int .u32 bi, .bool ng, .bool xn]] w fun e w' => e = .returned (.bool false) ∧ Below w.heap.size w w') := fun w h => by
    have := takes_any ⟨3, 0, asid⟩ ⟨aid, ⟨sz, v0, pa, dm, ap, bi, ng, xn⟩⟩ w (ht.below h) hO ⟨by simp, by simp⟩
    rw [show tkF ⟨3, 0, asid⟩ ⟨aid, ⟨sz, v0, pa, dm, ap, bi, ng, xn⟩⟩ = false by rw [tk3, hr]; exact hm3] at this
    exact this
  have H1 : Hid (∀ w, Below W.heap.size W w → Calls Tryd.prog 10 #[.agg #[.int .i64 1, .int .u32 0, .int .i64 0], .agg #[.int .i64 aid, .int .i64 sz, .int .u32 v0, .int .u64 pa, .int .i64 dm, .int .i64 ap, .int .u32 bi, .bool ng, .bool xn]] w fun e w' => e = .returned (.bool true) ∧ Below w.heap.size w w') := fun w h => by
    have := takes_any ⟨1, 0, 0⟩ ⟨aid, ⟨sz, v0, pa, dm, ap, bi, ng, xn⟩⟩ w (ht.below h) hO ⟨by simp, by simp⟩
    rw [tk1, hr] at this
    exact this
  have HR : Hid (∀ w, Below W.heap.size W w → Calls Tryd.prog 11 #[.agg #[.int .i64 aid, .int .i64 sz, .int .u32 v0, .int .u64 pa, .int .i64 dm, .int .i64 ap, .int .u32 bi, .bool ng, .bool xn]] w fun e w' => e = .returned (.bool true) ∧ Below w.heap.size w w') := fun w h => by
    have := tright_any ⟨aid, ⟨sz, v0, pa, dm, ap, bi, ng, xn⟩⟩ w (ht.below h) hO
    rw [hr] at this
    exact this
  have HV : Hid (∀ w, Below W.heap.size W w → Calls Tryd.prog 12 #[.agg #[.int .i64 aid, .int .i64 sz, .int .u32 v0, .int .u64 pa, .int .i64 dm, .int .i64 ap, .int .u32 bi, .bool ng, .bool xn], .int .u32 va, .int .i64 aid] w fun e w' => e = .returned (.bool false) ∧ Below w.heap.size w w') := fun w h => by
    have := over_any ⟨aid, ⟨sz, v0, pa, dm, ap, bi, ng, xn⟩⟩ va aid w (ht.below h) hO hv
    rw [show ovF ⟨aid, ⟨sz, v0, pa, dm, ap, bi, ng, xn⟩⟩ va aid = false by rw [show ovF ⟨aid, ⟨sz, v0, pa, dm, ap, bi, ng, xn⟩⟩ va aid = _ from ov_own ⟨aid, ⟨sz, v0, pa, dm, ap, bi, ng, xn⟩⟩ va, hr, hm4]; rfl] at this
    exact this
  obtain ⟨hby, hN, hv0⟩ := drop_facts ⟨aid, ⟨sz, v0, pa, dm, ap, bi, ng, xn⟩⟩ hO hr
  dsimp only at hby hN hv0
  have hR : off.tmod (byN sz) = off % byN sz := Int.tmod_eq_emod_of_nonneg ho.1
  have hR0 := Int.emod_nonneg off (show byN sz ≠ 0 by omega)
  have hR1 := Int.emod_lt_of_pos off (show 0 < byN sz by omega)
  have hNz : ¬ byN sz = 0 := by omega
  generalize hRR : off % byN sz = R at *
  have hX0 : 0 ≤ v0 + R ∧ v0 + R < 4294967296 := by omega
  have hli : liF ⟨aid, ⟨sz, v0, pa, dm, ap, bi, ng, xn⟩⟩ (v0 + R) = true := li_in ⟨aid, ⟨sz, v0, pa, dm, ap, bi, ng, xn⟩⟩ R ⟨hR0, hR1⟩
  have HI2 : Hid (∀ w, Below W.heap.size W w → Calls Tryd.prog 10 #[.agg #[.int .i64 2, .int .u32 (v0 + R), .int .i64 aid], .agg #[.int .i64 aid, .int .i64 sz, .int .u32 v0, .int .u64 pa, .int .i64 dm, .int .i64 ap, .int .u32 bi, .bool ng, .bool xn]] w fun e w' => e = .returned (.bool true) ∧ Below w.heap.size w w') := fun w h => by
    have := takes_any ⟨2, (v0 + R), aid⟩ ⟨aid, ⟨sz, v0, pa, dm, ap, bi, ng, xn⟩⟩ w (ht.below h) hO hX0
    rw [show tkF ⟨2, (v0 + R), aid⟩ ⟨aid, ⟨sz, v0, pa, dm, ap, bi, ng, xn⟩⟩ = true by rw [tk2, hr, maF, hli]; simp [hoF, asF, hq]] at this
    exact this
  have HI4 : Hid (∀ w, Below W.heap.size W w → Calls Tryd.prog 10 #[.agg #[.int .i64 4, .int .u32 (v0 + R), .int .i64 0], .agg #[.int .i64 aid, .int .i64 sz, .int .u32 v0, .int .u64 pa, .int .i64 dm, .int .i64 ap, .int .u32 bi, .bool ng, .bool xn]] w fun e w' => e = .returned (.bool true) ∧ Below w.heap.size w w') := fun w h => by
    have := takes_any ⟨4, (v0 + R), 0⟩ ⟨aid, ⟨sz, v0, pa, dm, ap, bi, ng, xn⟩⟩ w (ht.below h) hO hX0
    rw [tk4, hr, hli] at this
    exact this
  have HO1 : Hid (∀ w, Below W.heap.size W w → Calls Tryd.prog 10 #[.agg #[.int .i64 4, .int .u32 ((v0 + byN sz) % 4294967296), .int .i64 0], .agg #[.int .i64 aid, .int .i64 sz, .int .u32 v0, .int .u64 pa, .int .i64 dm, .int .i64 ap, .int .u32 bi, .bool ng, .bool xn]] w fun e w' => e = .returned (.bool false) ∧ Below w.heap.size w w') := fun w h => by
    have := takes_any ⟨4, ((v0 + byN sz) % 4294967296), 0⟩ ⟨aid, ⟨sz, v0, pa, dm, ap, bi, ng, xn⟩⟩ w (ht.below h) hO ⟨Int.emod_nonneg _ (by decide), Int.emod_lt_of_pos _ (by decide)⟩
    rw [show tkF ⟨4, ((v0 + byN sz) % 4294967296), 0⟩ ⟨aid, ⟨sz, v0, pa, dm, ap, bi, ng, xn⟩⟩ = false by rw [tk4, hr, show liF ⟨aid, ⟨sz, v0, pa, dm, ap, bi, ng, xn⟩⟩ ((v0 + byN sz) % 4294967296) = false from li_out1 ⟨aid, ⟨sz, v0, pa, dm, ap, bi, ng, xn⟩⟩ hN hv0]; rfl] at this
    exact this
  have HO2 : Hid (∀ w, Below W.heap.size W w → Calls Tryd.prog 10 #[.agg #[.int .i64 4, .int .u32 ((v0 - 1) % 4294967296), .int .i64 0], .agg #[.int .i64 aid, .int .i64 sz, .int .u32 v0, .int .u64 pa, .int .i64 dm, .int .i64 ap, .int .u32 bi, .bool ng, .bool xn]] w fun e w' => e = .returned (.bool false) ∧ Below w.heap.size w w') := fun w h => by
    have := takes_any ⟨4, ((v0 - 1) % 4294967296), 0⟩ ⟨aid, ⟨sz, v0, pa, dm, ap, bi, ng, xn⟩⟩ w (ht.below h) hO ⟨Int.emod_nonneg _ (by decide), Int.emod_lt_of_pos _ (by decide)⟩
    rw [show tkF ⟨4, ((v0 - 1) % 4294967296), 0⟩ ⟨aid, ⟨sz, v0, pa, dm, ap, bi, ng, xn⟩⟩ = false by rw [tk4, hr, show liF ⟨aid, ⟨sz, v0, pa, dm, ap, bi, ng, xn⟩⟩ ((v0 - 1) % 4294967296) = false from li_out2 ⟨aid, ⟨sz, v0, pa, dm, ap, bi, ng, xn⟩⟩ hN hv0]; rfl] at this
    exact this
  have hoo : hoF ⟨aid, ⟨sz, v0, pa, dm, ap, bi, ng, xn⟩⟩ ((aid + 1) % 256) = false := by simp [hoF]; omega
  have HOt : Hid (∀ w, Below W.heap.size W w → Calls Tryd.prog 10 #[.agg #[.int .i64 2, .int .u32 (v0 + R), .int .i64 ((aid + 1) % 256)], .agg #[.int .i64 aid, .int .i64 sz, .int .u32 v0, .int .u64 pa, .int .i64 dm, .int .i64 ap, .int .u32 bi, .bool ng, .bool xn]] w fun e w' => e = .returned (.bool false) ∧ Below w.heap.size w w') := fun w h => by
    have := takes_any ⟨2, (v0 + R), ((aid + 1) % 256)⟩ ⟨aid, ⟨sz, v0, pa, dm, ap, bi, ng, xn⟩⟩ w (ht.below h) hO hX0
    rw [show tkF ⟨2, (v0 + R), ((aid + 1) % 256)⟩ ⟨aid, ⟨sz, v0, pa, dm, ap, bi, ng, xn⟩⟩ = false by rw [tk2, hr, maF, hli, hoo]; simp] at this
    exact this
  have HX : Hid (BX1 W (W.alloc (.cells (#[.int .i64 aid, .int .i64 sz, .int .u32 v0, .int .u64 pa, .int .i64 dm, .int .i64 ap, .int .u32 bi, .bool ng, .bool xn]) 29)) ⟨aid, ⟨sz, v0, pa, dm, ap, bi, ng, xn⟩⟩) := BX1.new W ⟨aid, ⟨sz, v0, pa, dm, ap, bi, ng, xn⟩⟩
  clear ht hO hv hr hm2 hm4 hm3 hli hoo
  have c0 := HX.out.box.cell
  dsimp only at c0
  have hq1 : ¬ aid < 0 := by omega
  have hq2 : ¬ aid = -1 := by omega
  have hq3 : 0 ≤ aid := hq.1
  have hq4 : aid ≤ 255 := hq.2
  have HBY := hidW hby
  clear hby
  go_enter Tryd.func3, Tryd.ntmps3
  go_wp2_with (fail)
  go_at_call 9
  refine (live_any _ (HT.out _ HX.out.bel)).mono ?_
  rintro e w1 ⟨rfl, hb⟩
  replace HX := hidW (HX.out.step hb)
  clear hb c0
  have c0 := HX.out.box.cell
  dsimp only at c0
  go_wp2_with (fail)
  go_at_call 10
  refine (H2.out _ HX.out.bel).mono ?_
  rintro e w1 ⟨rfl, hb⟩
  replace HX := hidW (HX.out.step hb)
  clear hb c0 H2
  have c0 := HX.out.box.cell
  dsimp only at c0
  go_wp2_with (fail)
  go_at_call 10
  refine (H4.out _ HX.out.bel).mono ?_
  rintro e w1 ⟨rfl, hb⟩
  replace HX := hidW (HX.out.step hb)
  clear hb c0 H4
  have c0 := HX.out.box.cell
  dsimp only at c0
  go_wp2_with (fail)
  go_at_call 10
  refine (H3.out _ HX.out.bel).mono ?_
  rintro e w1 ⟨rfl, hb⟩
  replace HX := hidW (HX.out.step hb)
  clear hb c0 H3
  have c0 := HX.out.box.cell
  dsimp only at c0
  go_wp2_with (fail)
  go_at_call 10
  refine (H1.out _ HX.out.bel).mono ?_
  rintro e w1 ⟨rfl, hb⟩
  replace HX := hidW (HX.out.step hb)
  clear hb c0 H1
  have c0 := HX.out.box.cell
  dsimp only at c0
  go_wp2_with (fail)
  go_at_call 11
  refine (HR.out _ HX.out.bel).mono ?_
  rintro e w1 ⟨rfl, hb⟩
  replace HX := hidW (HX.out.step hb)
  clear hb c0 HR
  have c0 := HX.out.box.cell
  dsimp only at c0
  go_wp2_with (fail)
  go_at_call 12
  refine (HV.out _ HX.out.bel).mono ?_
  rintro e w1 ⟨rfl, hb⟩
  replace HX := hidW (HX.out.step hb)
  clear hb c0 HV
  have c0 := HX.out.box.cell
  dsimp only at c0
  go_wp2
  rw [HBY.out]
  generalize byN sz = N at *
  go_quiet (fail)
  replace HX := hidW (HX.out.drewN nq)
  generalize w1.drewN nq = wq at *
  clear c0
  have c0 := HX.out.box.cell
  dsimp only at c0
  go_wp2_with (fail)
  go_at_call 10
  refine (HI2.out _ HX.out.bel).mono ?_
  rintro e w1 ⟨rfl, hb⟩
  replace HX := hidW (HX.out.step hb)
  clear hb c0 HI2
  have c0 := HX.out.box.cell
  dsimp only at c0
  go_wp2_with (fail)
  go_at_call 10
  refine (HI4.out _ HX.out.bel).mono ?_
  rintro e w1 ⟨rfl, hb⟩
  replace HX := hidW (HX.out.step hb)
  clear hb c0 HI4
  have c0 := HX.out.box.cell
  dsimp only at c0
  go_wp2_with (fail)
  go_at_call 10
  refine (HO1.out _ HX.out.bel).mono ?_
  rintro e w1 ⟨rfl, hb⟩
  replace HX := hidW (HX.out.step hb)
  clear hb c0 HO1
  have c0 := HX.out.box.cell
  dsimp only at c0
  go_wp2_with (fail)
  go_at_call 10
  refine (HO2.out _ HX.out.bel).mono ?_
  rintro e w1 ⟨rfl, hb⟩
  replace HX := hidW (HX.out.step hb)
  clear hb c0 HO2
  have c0 := HX.out.box.cell
  dsimp only at c0
  go_wp2_with (fail)
  go_at_call 10
  refine (HOt.out _ HX.out.bel).mono ?_
  rintro e w1 ⟨rfl, hb⟩
  replace HX := hidW (HX.out.step hb)
  clear hb c0 HOt
  have c0 := HX.out.box.cell
  dsimp only at c0
  go_wp2
  go_ret
  exact ⟨by first | (simp; done) | (simp; exact hq2), HX.out.bel⟩
set_option maxRecDepth 100000 in
set_option maxHeartbeats 16000000 in
theorem drops_1c (W : World) (sz v0 pa dm ap bi : Int) (ng xn : Bool) (va asid off : Int) (ht : TR W) (hO : BOk ⟨-1, ⟨sz, v0, pa, dm, ap, bi, ng, xn⟩⟩) (hv : 0 ≤ va ∧ va < 4294967296) (ho : 0 ≤ off ∧ off < 4294967296) (hr : bR ⟨-1, ⟨sz, v0, pa, dm, ap, bi, ng, xn⟩⟩ = true)
    (hm2 : (asF asid && maF ⟨-1, ⟨sz, v0, pa, dm, ap, bi, ng, xn⟩⟩ va asid) = false) (hm4 : liF ⟨-1, ⟨sz, v0, pa, dm, ap, bi, ng, xn⟩⟩ va = false) (hm3 : (asF asid && (-1 == asid)) = false) :
    Calls Tryd.prog 3 #[.agg #[.int .i64 (-1), .int .i64 sz, .int .u32 v0, .int .u64 pa, .int .i64 dm, .int .i64 ap, .int .u32 bi, .bool ng, .bool xn], .int .u32 va, .int .i64 asid, .int .u32 off] W fun e w' => e = .returned (.bool true) ∧ Below W.heap.size W w' := by
  have HT : Hid (∀ w, Below W.heap.size W w → TR w) := fun w h => ht.below h
  have H2 : Hid (∀ w, Below W.heap.size W w → Calls Tryd.prog 10 #[.agg #[.int .i64 2, .int .u32 va, .int .i64 asid], .agg #[.int .i64 (-1), .int .i64 sz, .int .u32 v0, .int .u64 pa, .int .i64 dm, .int .i64 ap, .int .u32 bi, .bool ng, .bool xn]] w fun e w' => e = .returned (.bool false) ∧ Below w.heap.size w w') := fun w h => by
    have := takes_any ⟨2, va, asid⟩ ⟨-1, ⟨sz, v0, pa, dm, ap, bi, ng, xn⟩⟩ w (ht.below h) hO hv
    rw [tk2, hr, hm2] at this
    exact this
  have H4 : Hid (∀ w, Below W.heap.size W w → Calls Tryd.prog 10 #[.agg #[.int .i64 4, .int .u32 va, .int .i64 0], .agg #[.int .i64 (-1), .int .i64 sz, .int .u32 v0, .int .u64 pa, .int .i64 dm, .int .i64 ap, .int .u32 bi, .bool ng, .bool xn]] w fun e w' => e = .returned (.bool false) ∧ Below w.heap.size w w') := fun w h => by
    have := takes_any ⟨4, va, 0⟩ ⟨-1, ⟨sz, v0, pa, dm, ap, bi, ng, xn⟩⟩ w (ht.below h) hO hv
    rw [tk4, hr, hm4] at this
    exact this
  have H3 : Hid (∀ w, Below W.heap.size W w → Calls Tryd.prog 10 #[.agg #[.int .i64 3, .int .u32 0, .int .i64 asid], .agg #[.int .i64 (-1), .int .i64 sz, .int .u32 v0, .int .u64 pa, .int .i64 dm, .int .i64 ap, .int .u32 bi, .bool ng, .bool xn]] w fun e w' => e = .returned (.bool false) ∧ Below w.heap.size w w') := fun w h => by
    have := takes_any ⟨3, 0, asid⟩ ⟨-1, ⟨sz, v0, pa, dm, ap, bi, ng, xn⟩⟩ w (ht.below h) hO ⟨by simp, by simp⟩
    rw [show tkF ⟨3, 0, asid⟩ ⟨-1, ⟨sz, v0, pa, dm, ap, bi, ng, xn⟩⟩ = false by rw [tk3, hr]; exact hm3] at this
    exact this
  have H1 : Hid (∀ w, Below W.heap.size W w → Calls Tryd.prog 10 #[.agg #[.int .i64 1, .int .u32 0, .int .i64 0], .agg #[.int .i64 (-1), .int .i64 sz, .int .u32 v0, .int .u64 pa, .int .i64 dm, .int .i64 ap, .int .u32 bi, .bool ng, .bool xn]] w fun e w' => e = .returned (.bool true) ∧ Below w.heap.size w w') := fun w h => by
    have := takes_any ⟨1, 0, 0⟩ ⟨-1, ⟨sz, v0, pa, dm, ap, bi, ng, xn⟩⟩ w (ht.below h) hO ⟨by simp, by simp⟩
    rw [tk1, hr] at this
    exact this
  have HR : Hid (∀ w, Below W.heap.size W w → Calls Tryd.prog 11 #[.agg #[.int .i64 (-1), .int .i64 sz, .int .u32 v0, .int .u64 pa, .int .i64 dm, .int .i64 ap, .int .u32 bi, .bool ng, .bool xn]] w fun e w' => e = .returned (.bool true) ∧ Below w.heap.size w w') := fun w h => by
    have := tright_any ⟨-1, ⟨sz, v0, pa, dm, ap, bi, ng, xn⟩⟩ w (ht.below h) hO
    rw [hr] at this
    exact this
  have HV : Hid (∀ w, Below W.heap.size W w → Calls Tryd.prog 12 #[.agg #[.int .i64 (-1), .int .i64 sz, .int .u32 v0, .int .u64 pa, .int .i64 dm, .int .i64 ap, .int .u32 bi, .bool ng, .bool xn], .int .u32 va, .int .i64 (-1)] w fun e w' => e = .returned (.bool false) ∧ Below w.heap.size w w') := fun w h => by
    have := over_any ⟨-1, ⟨sz, v0, pa, dm, ap, bi, ng, xn⟩⟩ va (-1) w (ht.below h) hO hv
    rw [show ovF ⟨-1, ⟨sz, v0, pa, dm, ap, bi, ng, xn⟩⟩ va (-1) = false by rw [show ovF ⟨-1, ⟨sz, v0, pa, dm, ap, bi, ng, xn⟩⟩ va (-1) = _ from ov_own ⟨-1, ⟨sz, v0, pa, dm, ap, bi, ng, xn⟩⟩ va, hr, hm4]; rfl] at this
    exact this
  obtain ⟨hby, hN, hv0⟩ := drop_facts ⟨-1, ⟨sz, v0, pa, dm, ap, bi, ng, xn⟩⟩ hO hr
  dsimp only at hby hN hv0
  have hR : off.tmod (byN sz) = off % byN sz := Int.tmod_eq_emod_of_nonneg ho.1
  have hR0 := Int.emod_nonneg off (show byN sz ≠ 0 by omega)
  have hR1 := Int.emod_lt_of_pos off (show 0 < byN sz by omega)
  have hNz : ¬ byN sz = 0 := by omega
  generalize hRR : off % byN sz = R at *
  have hX0 : 0 ≤ v0 + R ∧ v0 + R < 4294967296 := by omega
  have hli : liF ⟨-1, ⟨sz, v0, pa, dm, ap, bi, ng, xn⟩⟩ (v0 + R) = true := li_in ⟨-1, ⟨sz, v0, pa, dm, ap, bi, ng, xn⟩⟩ R ⟨hR0, hR1⟩
  have HI2 : Hid (∀ w, Below W.heap.size W w → Calls Tryd.prog 10 #[.agg #[.int .i64 2, .int .u32 (v0 + R), .int .i64 9], .agg #[.int .i64 (-1), .int .i64 sz, .int .u32 v0, .int .u64 pa, .int .i64 dm, .int .i64 ap, .int .u32 bi, .bool ng, .bool xn]] w fun e w' => e = .returned (.bool true) ∧ Below w.heap.size w w') := fun w h => by
    have := takes_any ⟨2, (v0 + R), 9⟩ ⟨-1, ⟨sz, v0, pa, dm, ap, bi, ng, xn⟩⟩ w (ht.below h) hO hX0
    rw [show tkF ⟨2, (v0 + R), 9⟩ ⟨-1, ⟨sz, v0, pa, dm, ap, bi, ng, xn⟩⟩ = true by rw [tk2, hr, maF, hli]; simp [hoF, asF]] at this
    exact this
  have HI4 : Hid (∀ w, Below W.heap.size W w → Calls Tryd.prog 10 #[.agg #[.int .i64 4, .int .u32 (v0 + R), .int .i64 0], .agg #[.int .i64 (-1), .int .i64 sz, .int .u32 v0, .int .u64 pa, .int .i64 dm, .int .i64 ap, .int .u32 bi, .bool ng, .bool xn]] w fun e w' => e = .returned (.bool true) ∧ Below w.heap.size w w') := fun w h => by
    have := takes_any ⟨4, (v0 + R), 0⟩ ⟨-1, ⟨sz, v0, pa, dm, ap, bi, ng, xn⟩⟩ w (ht.below h) hO hX0
    rw [tk4, hr, hli] at this
    exact this
  have HO1 : Hid (∀ w, Below W.heap.size W w → Calls Tryd.prog 10 #[.agg #[.int .i64 4, .int .u32 ((v0 + byN sz) % 4294967296), .int .i64 0], .agg #[.int .i64 (-1), .int .i64 sz, .int .u32 v0, .int .u64 pa, .int .i64 dm, .int .i64 ap, .int .u32 bi, .bool ng, .bool xn]] w fun e w' => e = .returned (.bool false) ∧ Below w.heap.size w w') := fun w h => by
    have := takes_any ⟨4, ((v0 + byN sz) % 4294967296), 0⟩ ⟨-1, ⟨sz, v0, pa, dm, ap, bi, ng, xn⟩⟩ w (ht.below h) hO ⟨Int.emod_nonneg _ (by decide), Int.emod_lt_of_pos _ (by decide)⟩
    rw [show tkF ⟨4, ((v0 + byN sz) % 4294967296), 0⟩ ⟨-1, ⟨sz, v0, pa, dm, ap, bi, ng, xn⟩⟩ = false by rw [tk4, hr, show liF ⟨-1, ⟨sz, v0, pa, dm, ap, bi, ng, xn⟩⟩ ((v0 + byN sz) % 4294967296) = false from li_out1 ⟨-1, ⟨sz, v0, pa, dm, ap, bi, ng, xn⟩⟩ hN hv0]; rfl] at this
    exact this
  have HO2 : Hid (∀ w, Below W.heap.size W w → Calls Tryd.prog 10 #[.agg #[.int .i64 4, .int .u32 ((v0 - 1) % 4294967296), .int .i64 0], .agg #[.int .i64 (-1), .int .i64 sz, .int .u32 v0, .int .u64 pa, .int .i64 dm, .int .i64 ap, .int .u32 bi, .bool ng, .bool xn]] w fun e w' => e = .returned (.bool false) ∧ Below w.heap.size w w') := fun w h => by
    have := takes_any ⟨4, ((v0 - 1) % 4294967296), 0⟩ ⟨-1, ⟨sz, v0, pa, dm, ap, bi, ng, xn⟩⟩ w (ht.below h) hO ⟨Int.emod_nonneg _ (by decide), Int.emod_lt_of_pos _ (by decide)⟩
    rw [show tkF ⟨4, ((v0 - 1) % 4294967296), 0⟩ ⟨-1, ⟨sz, v0, pa, dm, ap, bi, ng, xn⟩⟩ = false by rw [tk4, hr, show liF ⟨-1, ⟨sz, v0, pa, dm, ap, bi, ng, xn⟩⟩ ((v0 - 1) % 4294967296) = false from li_out2 ⟨-1, ⟨sz, v0, pa, dm, ap, bi, ng, xn⟩⟩ hN hv0]; rfl] at this
    exact this
  have HOt : Hid (∀ w, Below W.heap.size W w → Calls Tryd.prog 10 #[.agg #[.int .i64 2, .int .u32 (v0 + R), .int .i64 10], .agg #[.int .i64 (-1), .int .i64 sz, .int .u32 v0, .int .u64 pa, .int .i64 dm, .int .i64 ap, .int .u32 bi, .bool ng, .bool xn]] w fun e w' => e = .returned (.bool true) ∧ Below w.heap.size w w') := fun w h => by
    have := takes_any ⟨2, (v0 + R), 10⟩ ⟨-1, ⟨sz, v0, pa, dm, ap, bi, ng, xn⟩⟩ w (ht.below h) hO hX0
    rw [show tkF ⟨2, (v0 + R), 10⟩ ⟨-1, ⟨sz, v0, pa, dm, ap, bi, ng, xn⟩⟩ = true by rw [tk2, hr, maF, hli]; simp [hoF, asF]] at this
    exact this
  have HX : Hid (BX1 W (W.alloc (.cells (#[.int .i64 (-1), .int .i64 sz, .int .u32 v0, .int .u64 pa, .int .i64 dm, .int .i64 ap, .int .u32 bi, .bool ng, .bool xn]) 29)) ⟨-1, ⟨sz, v0, pa, dm, ap, bi, ng, xn⟩⟩) := BX1.new W ⟨-1, ⟨sz, v0, pa, dm, ap, bi, ng, xn⟩⟩
  clear ht hO hv hr hm2 hm4 hm3 hli
  have c0 := HX.out.box.cell
  dsimp only at c0
  have HBY := hidW hby
  clear hby
  go_enter Tryd.func3, Tryd.ntmps3
  go_wp2_with (fail)
  go_at_call 9
  refine (live_any _ (HT.out _ HX.out.bel)).mono ?_
  rintro e w1 ⟨rfl, hb⟩
  replace HX := hidW (HX.out.step hb)
  clear hb c0
  have c0 := HX.out.box.cell
  dsimp only at c0
  go_wp2_with (fail)
  go_at_call 10
  refine (H2.out _ HX.out.bel).mono ?_
  rintro e w1 ⟨rfl, hb⟩
  replace HX := hidW (HX.out.step hb)
  clear hb c0 H2
  have c0 := HX.out.box.cell
  dsimp only at c0
  go_wp2_with (fail)
  go_at_call 10
  refine (H4.out _ HX.out.bel).mono ?_
  rintro e w1 ⟨rfl, hb⟩
  replace HX := hidW (HX.out.step hb)
  clear hb c0 H4
  have c0 := HX.out.box.cell
  dsimp only at c0
  go_wp2_with (fail)
  go_at_call 10
  refine (H3.out _ HX.out.bel).mono ?_
  rintro e w1 ⟨rfl, hb⟩
  replace HX := hidW (HX.out.step hb)
  clear hb c0 H3
  have c0 := HX.out.box.cell
  dsimp only at c0
  go_wp2_with (fail)
  go_at_call 10
  refine (H1.out _ HX.out.bel).mono ?_
  rintro e w1 ⟨rfl, hb⟩
  replace HX := hidW (HX.out.step hb)
  clear hb c0 H1
  have c0 := HX.out.box.cell
  dsimp only at c0
  go_wp2_with (fail)
  go_at_call 11
  refine (HR.out _ HX.out.bel).mono ?_
  rintro e w1 ⟨rfl, hb⟩
  replace HX := hidW (HX.out.step hb)
  clear hb c0 HR
  have c0 := HX.out.box.cell
  dsimp only at c0
  go_wp2_with (fail)
  go_at_call 12
  refine (HV.out _ HX.out.bel).mono ?_
  rintro e w1 ⟨rfl, hb⟩
  replace HX := hidW (HX.out.step hb)
  clear hb c0 HV
  have c0 := HX.out.box.cell
  dsimp only at c0
  go_wp2
  rw [HBY.out]
  generalize byN sz = N at *
  go_quiet (fail)
  replace HX := hidW (HX.out.drewN nq)
  generalize w1.drewN nq = wq at *
  clear c0
  have c0 := HX.out.box.cell
  dsimp only at c0
  go_wp2_with (fail)
  go_at_call 10
  refine (HI2.out _ HX.out.bel).mono ?_
  rintro e w1 ⟨rfl, hb⟩
  replace HX := hidW (HX.out.step hb)
  clear hb c0 HI2
  have c0 := HX.out.box.cell
  dsimp only at c0
  go_wp2_with (fail)
  go_at_call 10
  refine (HI4.out _ HX.out.bel).mono ?_
  rintro e w1 ⟨rfl, hb⟩
  replace HX := hidW (HX.out.step hb)
  clear hb c0 HI4
  have c0 := HX.out.box.cell
  dsimp only at c0
  go_wp2_with (fail)
  go_at_call 10
  refine (HO1.out _ HX.out.bel).mono ?_
  rintro e w1 ⟨rfl, hb⟩
  replace HX := hidW (HX.out.step hb)
  clear hb c0 HO1
  have c0 := HX.out.box.cell
  dsimp only at c0
  go_wp2_with (fail)
  go_at_call 10
  refine (HO2.out _ HX.out.bel).mono ?_
  rintro e w1 ⟨rfl, hb⟩
  replace HX := hidW (HX.out.step hb)
  clear hb c0 HO2
  have c0 := HX.out.box.cell
  dsimp only at c0
  go_wp2_with (fail)
  go_at_call 10
  refine (HOt.out _ HX.out.bel).mono ?_
  rintro e w1 ⟨rfl, hb⟩
  replace HX := hidW (HX.out.step hb)
  clear hb c0 HOt
  have c0 := HX.out.box.cell
  dsimp only at c0
  go_wp2
  go_ret
  exact ⟨by simp, HX.out.bel⟩
end Go.Proofs.YtfbapflbjkmocaaDoor
