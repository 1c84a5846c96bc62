import Derived.Test.YtmodcbdgnmjkoabDoorVd
namespace Go.Proofs.YtmodcbdgnmjkoabDoor
open Go.RowKit
open Mm (Turn gr PM RM valV errV Byts)
set_option linter.unusedVariables false
set_option linter.unusedSimpArgs false
set_option maxRecDepth 100000 in
set_option maxHeartbeats 2000000 in
theorem steps_zero2 (c : Ctx) (va : Int) (w : World) {S : Nat → Prop} {rv : Value} {M : Mo} (hm : MemR w S rv M) (ht : TW w) (hc : c.Ok) (hv : 0 ≤ va ∧ va < 4294967296) (hon : c.on = true) (hO : fO c va = true) (x er : Int) (hx : M.wd (fA c va) = x) (he : M.er (fA c va) = er) (h0 : er = 0) (k1 k2 k3 : Int) (k4 : Bool) (k5 k6 : Int) (k7 k8 : Bool) (hd : D1 x = ⟨k1, k2, k3, k4, k5, k6, k7, k8⟩) (hk : k1 = 1) (x2 er2 : Int) (hx2 : M.wd (sA ⟨k1, k2, k3, k4, k5, k6, k7, k8⟩ va) = x2) (he2 : M.er (sA ⟨k1, k2, k3, k4, k5, k6, k7, k8⟩ va) = er2) (h02 : er2 = 0) (j1 j2 j3 : Int) (j4 : Bool) (j5 j6 : Int) (j7 j8 : Bool) (hd2 : D2 x2 = ⟨j1, j2, j3, j4, j5, j6, j7, j8⟩) (hk2 : j1 = 0) :
    Calls Tryd.prog 34 #[rv, .agg #[.bool c.on, .bool c.tre, .bool c.afe, .int .i64 c.n, .bool c.pd0, .bool c.pd1, .int .u64 c.b0, .int .u64 c.b1, .int .u32 c.dacr, .int .u32 c.prrr, .int .u32 c.nmrr, .int .i64 c.asid], .int .u32 va] w fun e w' => ∃ v, e = .returned (.tuple #[.agg #[.int .i64 tZ.size, .int .u32 tZ.va, .int .u64 tZ.pa, .int .i64 tZ.dom, .int .i64 tZ.ap, .int .u32 tZ.bits, .bool tZ.ng, .bool tZ.xn], .agg #[.int .i64 5, .int .i64 0, .int .i64 k3], v]) ∧ Us w' v [fA c va, sA ⟨k1, k2, k3, k4, k5, k6, k7, k8⟩ va] ∧ Below w.heap.size w w' := by
  subst h0
  have hx0 : 0 ≤ x ∧ x < 4294967296 := by rw [← hx]; exact hm.ok _
  have HD := hidW (fun ww => rdec1_any x ww hx0)
  rw [hd] at HD
  have hb0 := D1_base x hx0 (by rw [hd]; exact hk)
  rw [hd] at hb0
  dsimp only at hb0
  have HS := hidW (fun ww => vsecond_any k2 va ww (by omega) hv)
  have hsA : sA ⟨k1, k2, k3, k4, k5, k6, k7, k8⟩ va = k2 + 4 * (va / 4096 % 256) := rfl
  have hr2 : 0 ≤ k2 + 4 * (va / 4096 % 256) ∧ k2 + 4 * (va / 4096 % 256) < 18446744073709551616 := by omega
  rw [hsA] at hx2 he2 ⊢
  have HM2 := hidW hm
  clear hd hsA hb0
  subst hk
  generalize k2 + 4 * (va / 4096 % 256) = b2 at *
  subst h02
  have hx20 : 0 ≤ x2 ∧ x2 < 4294967296 := by rw [← hx2]; exact hm.ok _
  have HD2 := hidW (fun ww => rdec2_any x2 ww hx20)
  rw [hd2] at HD2
  clear hd2
  subst hk2
  have HA := hidW (fun ww => vfirst_any c va ww hc hv)
  rw [hO, hon] at HA
  have HX := hidW (F3.new (A0 w.heap.size) (St0.new ht) 26 49 32 [.bool c.on, .bool c.tre, .bool c.afe, .int .i64 c.n, .bool c.pd0, .bool c.pd1, .int .u64 c.b0, .int .u64 c.b1, .int .u32 c.dacr, .int .u32 c.prrr, .int .u32 c.nmrr, .int .i64 c.asid] [.int .i64 0, .int .u32 0, .int .u64 0, .int .i64 0, .int .i64 0, .int .u32 0, .bool false, .bool false] [.int .i64 0, .int .i64 0, .int .i64 0])
  have A := A0 w.heap.size
  rw [hon] at HX ⊢
  go_enter Tryd.func34, Tryd.ntmps34
  go_wp2_with fail
  go_at_call 18
  refine (HA.out _).mono ?_
  rintro e wa ⟨rfl, hb⟩
  have HX1 := hidW (HX.out.below A hb)
  clear hb HX HA
  generalize w.heap.size + 1 + 1 = z at *
  generalize w.heap.size + 1 = y at *
  have HK := hidW ((hm.below HX1.out.f.bel).word (fA c va) (fA_rng c va hc hv).1 (fA_rng c va hc hv).2)
  rw [hx, he] at HK
  go_wp2_with fail
  go_at_call 19
  refine HK.out.mono ?_
  rintro e wb ⟨rfl, rfl⟩
  clear HK
  go_wp2_with fail
  go_at_call 20
  refine (HD.out _).mono ?_
  rintro e wc ⟨rfl, hb⟩
  have HX2 := hidW (HX1.out.below A hb)
  clear hb HX1 HD
  have HX3 := hidW (HX2.out.below A (below_new wc (.cells #[.int .i64 1, .int .u64 k2, .int .i64 k3, .bool k4, .int .i64 k5, .int .u32 k6, .bool k7, .bool k8] 70)))
  have HN := hidW (Bl.new wc 70 [.int .i64 1, .int .u64 k2, .int .i64 k3, .bool k4, .int .i64 k5, .int .u32 k6, .bool k7, .bool k8])
  have m3 : ¬ wc.heap.size = y := by have := HX2.out.b.bl.lt; omega
  have m4 : ¬ wc.heap.size = z := by have := HX2.out.c.bl.lt; omega
  go_wp2_with fail
  generalize (wc.alloc (.cells #[.int .i64 1, .int .u64 k2, .int .i64 k3, .bool k4, .int .i64 k5, .int .u32 k6, .bool k7, .bool k8] 70)) = wx at *
  go_at_call 67
  refine (HS.out _).mono ?_
  rintro e wy ⟨rfl, rfl⟩
  have HK2 := hidW ((HM2.out.below HX3.out.f.bel).word b2 hr2.1 hr2.2)
  rw [hx2, he2] at HK2
  go_wp2_with fail
  go_at_call 19
  refine HK2.out.mono ?_
  rintro e wy ⟨rfl, rfl⟩
  clear HK2 HS
  go_wp2_with fail
  go_at_call 68
  refine (HD2.out _).mono ?_
  rintro e wf ⟨rfl, hb⟩
  have HX5 := hidW (HX3.out.below A hb)
  have HN5 := hidW (HN.out.below hb)
  clear hb HX3 HD2 HN
  have HX6 := hidW (HX5.out.below A (below_new wf (.cells #[.int .i64 0, .int .u64 j2, .int .i64 j3, .bool j4, .int .i64 j5, .int .u32 j6, .bool j7, .bool j8] 70)))
  have HN6 := hidW (HN5.out.below (below_new wf (.cells #[.int .i64 0, .int .u64 j2, .int .i64 j3, .bool j4, .int .i64 j5, .int .u32 j6, .bool j7, .bool j8] 70)))
  clear HX5 HN5
  go_wp2_with fail
  generalize (wf.alloc (.cells #[.int .i64 0, .int .u64 j2, .int .i64 j3, .bool j4, .int .i64 j5, .int .u32 j6, .bool j7, .bool j8] 70)) = wv at *
  have l1 := HX6.out.b.bl.lt
  have l2 := HX6.out.c.bl.lt
  have c1 := HX6.out.b.bl.cell
  have f1 := HX6.out.b.bl.frozen
  have c2 := HX6.out.c.bl.cell
  have f2 := HX6.out.c.bl.frozen
  have n1 : ¬ y = z := by have := HX6.out.hz; omega
  have n2 : ¬ z = y := by have := HX6.out.hz; omega
  have n3 : ¬ y = wv.heap.size := by omega
  have n4 : ¬ z = wv.heap.size := by omega
  have g1 : w.heap.size ≤ y := by have := HX6.out.hx; have := HX6.out.hy; omega
  have g2 : w.heap.size ≤ z := by have := HX6.out.hz; omega
  have cx : wv.drew.cell? ⟨wc.heap.size, 2, none⟩ = some (.int .i64 k3) := HN6.out.drew.cell 2
  go_wp2_with fail
  have HE := hidW (Ends.of HX6.out (.int .i64 0) (.int .u32 0) (.int .u64 0) (.int .i64 0) (.int .i64 0) (.int .u32 0) (.bool false) (.bool false) (.int .i64 5) (.int .i64 0) (.int .i64 k3) [.int .u64 (fA c va), .int .u64 b2])
  go_region_held3 (fun w' => w'.cell? ⟨wc.heap.size, 2, none⟩ = some (.int .i64 k3)) (first | (with_reducible exact cx) | ((with_reducible refine Eq.trans (Bl.cell (Bl.drew (Bl.below HN6.out (below_new _ _))) 2) ?_); rfl) | ((with_reducible refine Eq.trans (Bl.cell (Bl.drew (Bl.keep8 (Bl.below HN6.out (below_new _ _)) m3 _ _ _ _ _ _ _ _)) 2) ?_); rfl) | ((with_reducible refine Eq.trans (Bl.cell (Bl.drew (Bl.keep3 (Bl.keep8 (Bl.below HN6.out (below_new _ _)) m3 _ _ _ _ _ _ _ _) m4 _ _ _)) 2) ?_); rfl) | ((with_reducible refine Eq.trans (Bl.cell (Bl.drew (Bl.keep8 HN6.out m3 _ _ _ _ _ _ _ _)) 2) ?_); rfl) | ((with_reducible refine Eq.trans (Bl.cell (Bl.drew (Bl.below (Bl.keep8 HN6.out m3 _ _ _ _ _ _ _ _) (below_new _ _))) 2) ?_); rfl) | ((with_reducible refine Eq.trans (Bl.cell (Bl.drew (Bl.keep3 (Bl.below (Bl.keep8 HN6.out m3 _ _ _ _ _ _ _ _) (below_new _ _)) m4 _ _ _)) 2) ?_); rfl) | ((with_reducible refine Eq.trans (Bl.cell (Bl.drew (Bl.keep3 (Bl.keep8 HN6.out m3 _ _ _ _ _ _ _ _) m4 _ _ _)) 2) ?_); rfl) | ((with_reducible refine Eq.trans (Bl.cell (Bl.drew (Bl.below (Bl.keep3 (Bl.keep8 HN6.out m3 _ _ _ _ _ _ _ _) m4 _ _ _) (below_new _ _))) 2) ?_); rfl)) (first | fail)
  all_goals
    clear c1 f1 c2 f2
    generalize ((((((((((((wv.setCell ⟨y, 0, none⟩ (.int .i64 0)).setCell ⟨y, 1, none⟩ (.int .u32 0)).setCell ⟨y, 2, none⟩ (.int .u64 0)).setCell ⟨y, 3, none⟩ (.int .i64 0)).setCell ⟨y, 4, none⟩ (.int .i64 0)).setCell ⟨y, 5, none⟩ (.int .u32 0)).setCell ⟨y, 6, none⟩ (.bool false)).setCell ⟨y, 7, none⟩ (.bool false)).setCell ⟨z, 0, none⟩ (.int .i64 5)).setCell ⟨z, 1, none⟩ (.int .i64 0)).setCell ⟨z, 2, none⟩ (.int .i64 k3)).alloc (.cells #[.int .u64 (fA c va), .int .u64 b2] 23)).drew = wz at *
    have c1 := HE.out.a.cell
    have c2 := HE.out.b.cell
    go_wp2
    refine bodyPost_ret (v := .tuple #[.agg #[.int .i64 tZ.size, .int .u32 tZ.va, .int .u64 tZ.pa, .int .i64 tZ.dom, .int .i64 tZ.ap, .int .u32 tZ.bits, .bool tZ.ng, .bool tZ.xn], .agg #[.int .i64 5, .int .i64 0, .int .i64 k3], .slice (some ⟨wv.heap.size, 0, none⟩) 2 2]) (by simp [results, Tryd.results34, go_sem, c1, c2, tZ]) rfl ⟨_, rfl, Us.two HE.out.c, HE.out.bel⟩
set_option maxRecDepth 100000 in
set_option maxHeartbeats 2000000 in
theorem steps_ok2 (c : Ctx) (va : Int) (w : World) {S : Nat → Prop} {rv : Value} {M : Mo} (hm : MemR w S rv M) (ht : TW w) (hc : c.Ok) (hv : 0 ≤ va ∧ va < 4294967296) (hon : c.on = true) (hO : fO c va = true) (x er : Int) (hx : M.wd (fA c va) = x) (he : M.er (fA c va) = er) (h0 : er = 0) (k1 k2 k3 : Int) (k4 : Bool) (k5 k6 : Int) (k7 k8 : Bool) (hd : D1 x = ⟨k1, k2, k3, k4, k5, k6, k7, k8⟩) (hk : k1 = 1) (x2 er2 : Int) (hx2 : M.wd (sA ⟨k1, k2, k3, k4, k5, k6, k7, k8⟩ va) = x2) (he2 : M.er (sA ⟨k1, k2, k3, k4, k5, k6, k7, k8⟩ va) = er2) (h02 : er2 = 0) (j1 j2 j3 : Int) (j4 : Bool) (j5 j6 : Int) (j7 j8 : Bool) (hd2 : D2 x2 = ⟨j1, j2, j3, j4, j5, j6, j7, j8⟩) (hk2 : ¬ j1 = 0) (u : Tra) (hu : trF ⟨j1, j2, j3, j4, j5, j6, j7, j8⟩ k3 va = u) :
    Calls Tryd.prog 34 #[rv, .agg #[.bool c.on, .bool c.tre, .bool c.afe, .int .i64 c.n, .bool c.pd0, .bool c.pd1, .int .u64 c.b0, .int .u64 c.b1, .int .u32 c.dacr, .int .u32 c.prrr, .int .u32 c.nmrr, .int .i64 c.asid], .int .u32 va] w fun e w' => ∃ v, e = .returned (.tuple #[.agg #[.int .i64 u.size, .int .u32 u.va, .int .u64 u.pa, .int .i64 u.dom, .int .i64 u.ap, .int .u32 u.bits, .bool u.ng, .bool u.xn], .agg #[.int .i64 0, .int .i64 0, .int .i64 0], v]) ∧ Us w' v [fA c va, sA ⟨k1, k2, k3, k4, k5, k6, k7, k8⟩ va] ∧ Below w.heap.size w w' := by
  subst h0
  have hx0 : 0 ≤ x ∧ x < 4294967296 := by rw [← hx]; exact hm.ok _
  have HD := hidW (fun ww => rdec1_any x ww hx0)
  rw [hd] at HD
  have hb0 := D1_base x hx0 (by rw [hd]; exact hk)
  rw [hd] at hb0
  dsimp only at hb0
  have HS := hidW (fun ww => vsecond_any k2 va ww (by omega) hv)
  have hsA : sA ⟨k1, k2, k3, k4, k5, k6, k7, k8⟩ va = k2 + 4 * (va / 4096 % 256) := rfl
  have hr2 : 0 ≤ k2 + 4 * (va / 4096 % 256) ∧ k2 + 4 * (va / 4096 % 256) < 18446744073709551616 := by omega
  rw [hsA] at hx2 he2 ⊢
  have HM2 := hidW hm
  clear hd hsA hb0
  subst hk
  generalize k2 + 4 * (va / 4096 % 256) = b2 at *
  subst h02
  have hx20 : 0 ≤ x2 ∧ x2 < 4294967296 := by rw [← hx2]; exact hm.ok _
  have HD2 := hidW (fun ww => rdec2_any x2 ww hx20)
  rw [hd2] at HD2
  have HT := hidW (fun ww => rtrans_any (D2 x2) k3 va ww (ok_D2 x2 hx20).1 hv)
  rw [hd2, hu] at HT
  clear hd2 hu
  have hq2 : (j1 == 0) = false := by simp [hk2]
  have HA := hidW (fun ww => vfirst_any c va ww hc hv)
  rw [hO, hon] at HA
  have HX := hidW (F3.new (A0 w.heap.size) (St0.new ht) 26 49 32 [.bool c.on, .bool c.tre, .bool c.afe, .int .i64 c.n, .bool c.pd0, .bool c.pd1, .int .u64 c.b0, .int .u64 c.b1, .int .u32 c.dacr, .int .u32 c.prrr, .int .u32 c.nmrr, .int .i64 c.asid] [.int .i64 0, .int .u32 0, .int .u64 0, .int .i64 0, .int .i64 0, .int .u32 0, .bool false, .bool false] [.int .i64 0, .int .i64 0, .int .i64 0])
  have A := A0 w.heap.size
  rw [hon] at HX ⊢
  go_enter Tryd.func34, Tryd.ntmps34
  go_wp2_with fail
  go_at_call 18
  refine (HA.out _).mono ?_
  rintro e wa ⟨rfl, hb⟩
  have HX1 := hidW (HX.out.below A hb)
  clear hb HX HA
  generalize w.heap.size + 1 + 1 = z at *
  generalize w.heap.size + 1 = y at *
  have HK := hidW ((hm.below HX1.out.f.bel).word (fA c va) (fA_rng c va hc hv).1 (fA_rng c va hc hv).2)
  rw [hx, he] at HK
  go_wp2_with fail
  go_at_call 19
  refine HK.out.mono ?_
  rintro e wb ⟨rfl, rfl⟩
  clear HK
  go_wp2_with fail
  go_at_call 20
  refine (HD.out _).mono ?_
  rintro e wc ⟨rfl, hb⟩
  have HX2 := hidW (HX1.out.below A hb)
  clear hb HX1 HD
  have HX3 := hidW (HX2.out.below A (below_new wc (.cells #[.int .i64 1, .int .u64 k2, .int .i64 k3, .bool k4, .int .i64 k5, .int .u32 k6, .bool k7, .bool k8] 70)))
  have HN := hidW (Bl.new wc 70 [.int .i64 1, .int .u64 k2, .int .i64 k3, .bool k4, .int .i64 k5, .int .u32 k6, .bool k7, .bool k8])
  have m3 : ¬ wc.heap.size = y := by have := HX2.out.b.bl.lt; omega
  have m4 : ¬ wc.heap.size = z := by have := HX2.out.c.bl.lt; omega
  go_wp2_with fail
  generalize (wc.alloc (.cells #[.int .i64 1, .int .u64 k2, .int .i64 k3, .bool k4, .int .i64 k5, .int .u32 k6, .bool k7, .bool k8] 70)) = wx at *
  go_at_call 67
  refine (HS.out _).mono ?_
  rintro e wy ⟨rfl, rfl⟩
  have HK2 := hidW ((HM2.out.below HX3.out.f.bel).word b2 hr2.1 hr2.2)
  rw [hx2, he2] at HK2
  go_wp2_with fail
  go_at_call 19
  refine HK2.out.mono ?_
  rintro e wy ⟨rfl, rfl⟩
  clear HK2 HS
  go_wp2_with fail
  go_at_call 68
  refine (HD2.out _).mono ?_
  rintro e wf ⟨rfl, hb⟩
  have HX5 := hidW (HX3.out.below A hb)
  have HN5 := hidW (HN.out.below hb)
  clear hb HX3 HD2 HN
  have HX6 := hidW (HX5.out.below A (below_new wf (.cells #[.int .i64 j1, .int .u64 j2, .int .i64 j3, .bool j4, .int .i64 j5, .int .u32 j6, .bool j7, .bool j8] 70)))
  have HN6 := hidW (HN5.out.below (below_new wf (.cells #[.int .i64 j1, .int .u64 j2, .int .i64 j3, .bool j4, .int .i64 j5, .int .u32 j6, .bool j7, .bool j8] 70)))
  clear HX5 HN5
  have cx := HN6.out.cell 2
  simp only [List.getElem?_cons_succ, List.getElem?_cons_zero] at cx
  go_wp2_with fail
  go_at_call 22
  refine (HT.out _).mono ?_
  rintro e wd ⟨rfl, hb⟩
  have HX7 := hidW (HX6.out.below A hb)
  clear hb HX6 HN6 HT cx
  have HX8 := hidW (HX7.out.below A (below_new wd (.cells #[.int .u64 (fA c va), .int .u64 b2] 23)))
  have c1 := HX8.out.b.bl.cell
  have f1 := HX8.out.b.bl.frozen
  have c2 := HX8.out.c.bl.cell
  have f2 := HX8.out.c.bl.frozen
  have n1 : ¬ y = z := by have := HX8.out.hz; omega
  have n2 : ¬ z = y := by have := HX8.out.hz; omega
  go_wp2
  refine bodyPost_ret (v := .tuple #[.agg #[.int .i64 u.size, .int .u32 u.va, .int .u64 u.pa, .int .i64 u.dom, .int .i64 u.ap, .int .u32 u.bits, .bool u.ng, .bool u.xn], .agg #[.int .i64 0, .int .i64 0, .int .i64 0], .slice (some ⟨wd.heap.size, 0, none⟩) 2 2]) (by simp [results, Tryd.results34, go_sem, c1, f1, c2, f2, n1, n2]) rfl ⟨_, rfl, Us.two (Bl.keep3 (Bl.keep8 (Bl.new wd 23 [.int .u64 (fA c va), .int .u64 b2]) (by have := HX7.out.b.bl.lt; omega) _ _ _ _ _ _ _ _) (by have := HX7.out.c.bl.lt; omega) _ _ _), (HX8.out.fin11 A _ _ _ _ _ _ _ _ _ _ _).bel⟩
theorem steps_any (c : Ctx) (va : Int) (w : World) {S : Nat → Prop} {rv : Value} {M : Mo} (hm : MemR w S rv M) (ht : TW w) (hc : c.Ok) (hv : 0 ≤ va ∧ va < 4294967296) :
    Calls Tryd.prog 34 #[rv, .agg #[.bool c.on, .bool c.tre, .bool c.afe, .int .i64 c.n, .bool c.pd0, .bool c.pd1, .int .u64 c.b0, .int .u64 c.b1, .int .u32 c.dacr, .int .u32 c.prrr, .int .u32 c.nmrr, .int .i64 c.asid], .int .u32 va] w fun e w' => ∃ v, e = .returned (.tuple #[.agg #[.int .i64 ((wk M c va).1).size, .int .u32 ((wk M c va).1).va, .int .u64 ((wk M c va).1).pa, .int .i64 ((wk M c va).1).dom, .int .i64 ((wk M c va).1).ap, .int .u32 ((wk M c va).1).bits, .bool ((wk M c va).1).ng, .bool ((wk M c va).1).xn], .agg #[.int .i64 ((wk M c va).2).k, .int .i64 ((wk M c va).2).l, .int .i64 ((wk M c va).2).d], v]) ∧ Us w' v (rdL M c va) ∧ Below w.heap.size w w' := by
  unfold wk rdL
  cases hon : c.on
  · have h := steps_off c va w hm ht hc hv hon
    rw [hon] at h
    simpa [fZ] using h
  · cases hO : fO c va
    · have hw : w1 M c va = (dZ, ⟨3, 0, 0⟩) := by unfold w1; rw [hO]; rfl
      have h := steps_shut c va w hm ht hc hv hon hO
      rw [hon] at h
      simpa [hw, r1, hO] using h
    · by_cases he : M.er (fA c va) = 0
      · by_cases hk : (D1 (M.wd (fA c va))).kind = 0
        · have hw : w1 M c va = (dZ, ⟨3, 0, 0⟩) := by unfold w1; rw [if_pos hO, if_pos he, if_pos hk]
          have h := steps_zero c va w hm ht hc hv hon hO _ _ rfl rfl he (D1 (M.wd (fA c va))).kind (D1 (M.wd (fA c va))).base (D1 (M.wd (fA c va))).dom (D1 (M.wd (fA c va))).ns (D1 (M.wd (fA c va))).ap (D1 (M.wd (fA c va))).bits (D1 (M.wd (fA c va))).ng (D1 (M.wd (fA c va))).xn rfl hk
          rw [hon] at h
          simpa [hw, r1, hO] using h
        · have hw : w1 M c va = (D1 (M.wd (fA c va)), fZ) := by unfold w1; rw [if_pos hO, if_pos he, if_neg hk]
          rw [hw]
          by_cases hk1 : (D1 (M.wd (fA c va))).kind = 1
          · have hz : fZ.k = 0 := rfl
            simp only [hz, if_true, hk1, r1, hO, and_self, List.singleton_append]
            unfold w2
            by_cases he2 : M.er (sA (D1 (M.wd (fA c va))) va) = 0
            · by_cases hk2 : (D2 (M.wd (sA (D1 (M.wd (fA c va))) va))).kind = 0
              · have h := steps_zero2 c va w hm ht hc hv hon hO _ _ rfl rfl he (D1 (M.wd (fA c va))).kind (D1 (M.wd (fA c va))).base (D1 (M.wd (fA c va))).dom (D1 (M.wd (fA c va))).ns (D1 (M.wd (fA c va))).ap (D1 (M.wd (fA c va))).bits (D1 (M.wd (fA c va))).ng (D1 (M.wd (fA c va))).xn rfl hk1 _ _ rfl rfl he2 (D2 (M.wd (sA (D1 (M.wd (fA c va))) va))).kind (D2 (M.wd (sA (D1 (M.wd (fA c va))) va))).base (D2 (M.wd (sA (D1 (M.wd (fA c va))) va))).dom (D2 (M.wd (sA (D1 (M.wd (fA c va))) va))).ns (D2 (M.wd (sA (D1 (M.wd (fA c va))) va))).ap (D2 (M.wd (sA (D1 (M.wd (fA c va))) va))).bits (D2 (M.wd (sA (D1 (M.wd (fA c va))) va))).ng (D2 (M.wd (sA (D1 (M.wd (fA c va))) va))).xn rfl hk2
                rw [hon] at h
                rw [if_pos he2, if_pos hk2]
                exact h
              · have h := steps_ok2 c va w hm ht hc hv hon hO _ _ rfl rfl he (D1 (M.wd (fA c va))).kind (D1 (M.wd (fA c va))).base (D1 (M.wd (fA c va))).dom (D1 (M.wd (fA c va))).ns (D1 (M.wd (fA c va))).ap (D1 (M.wd (fA c va))).bits (D1 (M.wd (fA c va))).ng (D1 (M.wd (fA c va))).xn rfl hk1 _ _ rfl rfl he2 (D2 (M.wd (sA (D1 (M.wd (fA c va))) va))).kind (D2 (M.wd (sA (D1 (M.wd (fA c va))) va))).base (D2 (M.wd (sA (D1 (M.wd (fA c va))) va))).dom (D2 (M.wd (sA (D1 (M.wd (fA c va))) va))).ns (D2 (M.wd (sA (D1 (M.wd (fA c va))) va))).ap (D2 (M.wd (sA (D1 (M.wd (fA c va))) va))).bits (D2 (M.wd (sA (D1 (M.wd (fA c va))) va))).ng (D2 (M.wd (sA (D1 (M.wd (fA c va))) va))).xn rfl hk2 _ rfl
                rw [hon] at h
                rw [if_pos he2, if_neg hk2]
                exact h
            · have h := steps_bus2 c va w hm ht hc hv hon hO _ _ rfl rfl he (D1 (M.wd (fA c va))).kind (D1 (M.wd (fA c va))).base (D1 (M.wd (fA c va))).dom (D1 (M.wd (fA c va))).ns (D1 (M.wd (fA c va))).ap (D1 (M.wd (fA c va))).bits (D1 (M.wd (fA c va))).ng (D1 (M.wd (fA c va))).xn rfl hk1 _ _ rfl rfl he2
              rw [hon] at h
              rw [if_neg he2]
              exact h
          · have hz : fZ.k = 0 := rfl
            have h := steps_blk c va w hm ht hc hv hon hO _ _ rfl rfl he (D1 (M.wd (fA c va))).kind (D1 (M.wd (fA c va))).base (D1 (M.wd (fA c va))).dom (D1 (M.wd (fA c va))).ns (D1 (M.wd (fA c va))).ap (D1 (M.wd (fA c va))).bits (D1 (M.wd (fA c va))).ng (D1 (M.wd (fA c va))).xn rfl hk hk1 _ rfl
            rw [hon] at h
            simpa [hz, hk1, r1, hO, fZ] using h
      · have hw : w1 M c va = (dZ, ⟨2, 0, 0⟩) := by unfold w1; rw [if_pos hO, if_neg he]
        have h := steps_bus c va w hm ht hc hv hon hO _ _ rfl rfl he
        rw [hon] at h
        simpa [hw, r1, hO] using h
end Go.Proofs.YtmodcbdgnmjkoabDoor
