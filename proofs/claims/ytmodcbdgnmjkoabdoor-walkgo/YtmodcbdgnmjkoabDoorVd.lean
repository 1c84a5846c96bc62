import Derived.Test.YtmodcbdgnmjkoabDoorVc
namespace Go.Proofs.YtmodcbdgnmjkoabDoor
open Go.RowKit
open Mm (Turn gr PM RM valV errV Byts)
set_option linter.unusedVariables false
set_option linter.unusedSimpArgs false
theorem Bl.put {w : World} {b : Nat} {t : TypeId} {l : List Value} (h : Bl w b t l) (i : Nat) (v : Value) : Bl (w.setCell ⟨b, i, none⟩ v) b t (l.set i v) := by
  unfold Bl at h ⊢
  simp only [World.setCell, Array.getElem?_modify, h, if_true]
  simp
theorem Bl.set8 {w : World} {b : Nat} {t : TypeId} {u0 u1 u2 u3 u4 u5 u6 u7 : Value} (h : Bl w b t [u0, u1, u2, u3, u4, u5, u6, u7]) (v0 v1 v2 v3 v4 v5 v6 v7 : Value) : Bl ((((((((w.setCell ⟨b, 0, none⟩ v0).setCell ⟨b, 1, none⟩ v1).setCell ⟨b, 2, none⟩ v2).setCell ⟨b, 3, none⟩ v3).setCell ⟨b, 4, none⟩ v4).setCell ⟨b, 5, none⟩ v5).setCell ⟨b, 6, none⟩ v6).setCell ⟨b, 7, none⟩ v7) b t [v0, v1, v2, v3, v4, v5, v6, v7] :=
  (((((((h.put 0 v0).put 1 v1).put 2 v2).put 3 v3).put 4 v4).put 5 v5).put 6 v6).put 7 v7
theorem Bl.set3 {w : World} {b : Nat} {t : TypeId} {u0 u1 u2 : Value} (h : Bl w b t [u0, u1, u2]) (v0 v1 v2 : Value) : Bl (((w.setCell ⟨b, 0, none⟩ v0).setCell ⟨b, 1, none⟩ v1).setCell ⟨b, 2, none⟩ v2) b t [v0, v1, v2] :=
  ((h.put 0 v0).put 1 v1).put 2 v2
theorem heap8 (w : World) (b : Nat) (v0 v1 v2 v3 v4 v5 v6 v7 : Value) : ((((((((w.setCell ⟨b, 0, none⟩ v0).setCell ⟨b, 1, none⟩ v1).setCell ⟨b, 2, none⟩ v2).setCell ⟨b, 3, none⟩ v3).setCell ⟨b, 4, none⟩ v4).setCell ⟨b, 5, none⟩ v5).setCell ⟨b, 6, none⟩ v6).setCell ⟨b, 7, none⟩ v7).heap.size = w.heap.size := by simp
theorem heap3 (w : World) (b : Nat) (v0 v1 v2 : Value) : (((w.setCell ⟨b, 0, none⟩ v0).setCell ⟨b, 1, none⟩ v1).setCell ⟨b, 2, none⟩ v2).heap.size = w.heap.size := by simp
/-- What both result boxes and a list's block are behind the stores. -/
structure Ends (w wz : World) (y z g : Nat) (l0 l1 l2 : List Value) : Prop where
  a : Bl wz y 49 l0
  b : Bl wz z 32 l1
  c : Bl wz g 23 l2
  bel : Below w.heap.size w wz
theorem Ends.of {w wx : World} {Zr : Nat → Prop} {x y z : Nat} {t0 : TypeId} {l0 : List Value} {p0 p1 p2 p3 p4 p5 p6 p7 q0 q1 q2 : Value} {L : List Int} (h : F3 w.heap.size St0 w (fun b => b < w.heap.size) x y z t0 49 32 l0 [p0, p1, p2, p3, p4, p5, p6, p7] [q0, q1, q2] L wx Zr) (v0 v1 v2 v3 v4 v5 v6 v7 u0 u1 u2 : Value) (l : List Value) :
    Ends w ((((((((((((wx.setCell ⟨y, 0, none⟩ v0).setCell ⟨y, 1, none⟩ v1).setCell ⟨y, 2, none⟩ v2).setCell ⟨y, 3, none⟩ v3).setCell ⟨y, 4, none⟩ v4).setCell ⟨y, 5, none⟩ v5).setCell ⟨y, 6, none⟩ v6).setCell ⟨y, 7, none⟩ v7).setCell ⟨z, 0, none⟩ u0).setCell ⟨z, 1, none⟩ u1).setCell ⟨z, 2, none⟩ u2).alloc (.cells l.toArray 23)).drew y z wx.heap.size [v0, v1, v2, v3, v4, v5, v6, v7] [u0, u1, u2] l := by
  have n1 : y ≠ z := by have := h.hz; omega
  have n2 : z ≠ y := by have := h.hz; omega
  refine ⟨?_, ?_, ?_, ?_⟩
  · exact (((h.b.bl.set8 v0 v1 v2 v3 v4 v5 v6 v7).keep3 n1 u0 u1 u2).below (below_new _ _)).drew
  · exact (((h.c.bl.keep8 n2 v0 v1 v2 v3 v4 v5 v6 v7).set3 u0 u1 u2).below (below_new _ _)).drew
  · have hN := Bl.new (((((((((((wx.setCell ⟨y, 0, none⟩ v0).setCell ⟨y, 1, none⟩ v1).setCell ⟨y, 2, none⟩ v2).setCell ⟨y, 3, none⟩ v3).setCell ⟨y, 4, none⟩ v4).setCell ⟨y, 5, none⟩ v5).setCell ⟨y, 6, none⟩ v6).setCell ⟨y, 7, none⟩ v7).setCell ⟨z, 0, none⟩ u0).setCell ⟨z, 1, none⟩ u1).setCell ⟨z, 2, none⟩ u2) 23 l
    rw [heap3, heap8] at hN
    exact hN.drew
  · have hf := (h.fin11 (A0 w.heap.size) v0 v1 v2 v3 v4 v5 v6 v7 u0 u1 u2).bel
    exact below_drew (hf.alloc (by rw [heap3, heap8]; exact h.f.bel.size) _)
set_option maxRecDepth 100000 in
set_option maxHeartbeats 2000000 in
theorem steps_bus2 (c : Ctx) (va : Int) (w : World) {S : Nat → Prop} {rv : Value} {M : Mo} (hm : MemR w S rv M) (ht : TW w) (hc : c.Ok) (hv : 0 ≤ va ∧ va < 4294967296) (hon : c.on = true) (hO : fO c va = true) (x er : Int) (hx : M.wd (fA c va) = x) (he : M.er (fA c va) = er) (h0 : er = 0) (k1 k2 k3 : Int) (k4 : Bool) (k5 k6 : Int) (k7 k8 : Bool) (hd : D1 x = ⟨k1, k2, k3, k4, k5, k6, k7, k8⟩) (hk : k1 = 1) (x2 er2 : Int) (hx2 : M.wd (sA ⟨k1, k2, k3, k4, k5, k6, k7, k8⟩ va) = x2) (he2 : M.er (sA ⟨k1, k2, k3, k4, k5, k6, k7, k8⟩ va) = er2) (hne : ¬ er2 = 0) :
    Calls Tryd.prog 34 #[rv, .agg #[.bool c.on, .bool c.tre, .bool c.afe, .int .i64 c.n, .bool c.pd0, .bool c.pd1, .int .u64 c.b0, .int .u64 c.b1, .int .u32 c.dacr, .int .u32 c.prrr, .int .u32 c.nmrr, .int .i64 c.asid], .int .u32 va] w fun e w' => ∃ v, e = .returned (.tuple #[.agg #[.int .i64 tZ.size, .int .u32 tZ.va, .int .u64 tZ.pa, .int .i64 tZ.dom, .int .i64 tZ.ap, .int .u32 tZ.bits, .bool tZ.ng, .bool tZ.xn], .agg #[.int .i64 4, .int .i64 0, .int .i64 k3], v]) ∧ Us w' v [fA c va, sA ⟨k1, k2, k3, k4, k5, k6, k7, k8⟩ va] ∧ Below w.heap.size w w' := by
  subst h0
  have hx0 : 0 ≤ x ∧ x < 4294967296 := by rw [← hx]; exact hm.ok _
  have HD := hidW (fun ww => rdec1_any x ww hx0)
  rw [hd] at HD
  have hb0 := D1_base x hx0 (by rw [hd]; exact hk)
  rw [hd] at hb0
  dsimp only at hb0
  have HS := hidW (fun ww => vsecond_any k2 va ww (by omega) hv)
  have hsA : sA ⟨k1, k2, k3, k4, k5, k6, k7, k8⟩ va = k2 + 4 * (va / 4096 % 256) := rfl
  have hr2 : 0 ≤ k2 + 4 * (va / 4096 % 256) ∧ k2 + 4 * (va / 4096 % 256) < 18446744073709551616 := by omega
  rw [hsA] at hx2 he2 ⊢
  have HM2 := hidW hm
  clear hd hsA hb0
  subst hk
  generalize k2 + 4 * (va / 4096 % 256) = b2 at *
  have hq : (er2 != 0) = true := by simp [hne]
  have HA := hidW (fun ww => vfirst_any c va ww hc hv)
  rw [hO, hon] at HA
  have HX := hidW (F3.new (A0 w.heap.size) (St0.new ht) 26 49 32 [.bool c.on, .bool c.tre, .bool c.afe, .int .i64 c.n, .bool c.pd0, .bool c.pd1, .int .u64 c.b0, .int .u64 c.b1, .int .u32 c.dacr, .int .u32 c.prrr, .int .u32 c.nmrr, .int .i64 c.asid] [.int .i64 0, .int .u32 0, .int .u64 0, .int .i64 0, .int .i64 0, .int .u32 0, .bool false, .bool false] [.int .i64 0, .int .i64 0, .int .i64 0])
  have A := A0 w.heap.size
  rw [hon] at HX ⊢
  go_enter Tryd.func34, Tryd.ntmps34
  go_wp2_with fail
  go_at_call 18
  refine (HA.out _).mono ?_
  rintro e wa ⟨rfl, hb⟩
  have HX1 := hidW (HX.out.below A hb)
  clear hb HX HA
  generalize w.heap.size + 1 + 1 = z at *
  generalize w.heap.size + 1 = y at *
  have HK := hidW ((hm.below HX1.out.f.bel).word (fA c va) (fA_rng c va hc hv).1 (fA_rng c va hc hv).2)
  rw [hx, he] at HK
  go_wp2_with fail
  go_at_call 19
  refine HK.out.mono ?_
  rintro e wb ⟨rfl, rfl⟩
  clear HK
  go_wp2_with fail
  go_at_call 20
  refine (HD.out _).mono ?_
  rintro e wc ⟨rfl, hb⟩
  have HX2 := hidW (HX1.out.below A hb)
  clear hb HX1 HD
  have HX3 := hidW (HX2.out.below A (below_new wc (.cells #[.int .i64 1, .int .u64 k2, .int .i64 k3, .bool k4, .int .i64 k5, .int .u32 k6, .bool k7, .bool k8] 70)))
  have HN := hidW (Bl.new wc 70 [.int .i64 1, .int .u64 k2, .int .i64 k3, .bool k4, .int .i64 k5, .int .u32 k6, .bool k7, .bool k8])
  have m3 : ¬ wc.heap.size = y := by have := HX2.out.b.bl.lt; omega
  have m4 : ¬ wc.heap.size = z := by have := HX2.out.c.bl.lt; omega
  go_wp2_with fail
  generalize (wc.alloc (.cells #[.int .i64 1, .int .u64 k2, .int .i64 k3, .bool k4, .int .i64 k5, .int .u32 k6, .bool k7, .bool k8] 70)) = wx at *
  go_at_call 67
  refine (HS.out _).mono ?_
  rintro e wy ⟨rfl, rfl⟩
  have HK2 := hidW ((HM2.out.below HX3.out.f.bel).word b2 hr2.1 hr2.2)
  rw [hx2, he2] at HK2
  go_wp2_with fail
  go_at_call 19
  refine HK2.out.mono ?_
  rintro e wy ⟨rfl, rfl⟩
  clear HK2 HS
  have l1 := HX3.out.b.bl.lt
  have l2 := HX3.out.c.bl.lt
  have c1 := HX3.out.b.bl.cell
  have f1 := HX3.out.b.bl.frozen
  have c2 := HX3.out.c.bl.cell
  have f2 := HX3.out.c.bl.frozen
  have n1 : ¬ y = z := by have := HX3.out.hz; omega
  have n2 : ¬ z = y := by have := HX3.out.hz; omega
  have n3 : ¬ y = wx.heap.size := by omega
  have n4 : ¬ z = wx.heap.size := by omega
  have g1 : w.heap.size ≤ y := by have := HX3.out.hx; have := HX3.out.hy; omega
  have g2 : w.heap.size ≤ z := by have := HX3.out.hz; omega
  have cx : wx.drew.cell? ⟨wc.heap.size, 2, none⟩ = some (.int .i64 k3) := HN.out.drew.cell 2
  go_wp2_with fail
  have HE := hidW (Ends.of HX3.out (.int .i64 0) (.int .u32 0) (.int .u64 0) (.int .i64 0) (.int .i64 0) (.int .u32 0) (.bool false) (.bool false) (.int .i64 4) (.int .i64 0) (.int .i64 k3) [.int .u64 (fA c va), .int .u64 b2])
  go_region_held3 (fun w' => w'.cell? ⟨wc.heap.size, 2, none⟩ = some (.int .i64 k3)) (first | (with_reducible exact cx) | ((with_reducible refine Eq.trans (Bl.cell (Bl.drew (Bl.below HN.out (below_new _ _))) 2) ?_); rfl) | ((with_reducible refine Eq.trans (Bl.cell (Bl.drew (Bl.keep8 (Bl.below HN.out (below_new _ _)) m3 _ _ _ _ _ _ _ _)) 2) ?_); rfl) | ((with_reducible refine Eq.trans (Bl.cell (Bl.drew (Bl.keep3 (Bl.keep8 (Bl.below HN.out (below_new _ _)) m3 _ _ _ _ _ _ _ _) m4 _ _ _)) 2) ?_); rfl) | ((with_reducible refine Eq.trans (Bl.cell (Bl.drew (Bl.keep8 HN.out m3 _ _ _ _ _ _ _ _)) 2) ?_); rfl) | ((with_reducible refine Eq.trans (Bl.cell (Bl.drew (Bl.below (Bl.keep8 HN.out m3 _ _ _ _ _ _ _ _) (below_new _ _))) 2) ?_); rfl) | ((with_reducible refine Eq.trans (Bl.cell (Bl.drew (Bl.keep3 (Bl.below (Bl.keep8 HN.out m3 _ _ _ _ _ _ _ _) (below_new _ _)) m4 _ _ _)) 2) ?_); rfl) | ((with_reducible refine Eq.trans (Bl.cell (Bl.drew (Bl.keep3 (Bl.keep8 HN.out m3 _ _ _ _ _ _ _ _) m4 _ _ _)) 2) ?_); rfl) | ((with_reducible refine Eq.trans (Bl.cell (Bl.drew (Bl.below (Bl.keep3 (Bl.keep8 HN.out m3 _ _ _ _ _ _ _ _) m4 _ _ _) (below_new _ _))) 2) ?_); rfl)) (first | fail)
  all_goals
    clear c1 f1 c2 f2
    generalize ((((((((((((wx.setCell ⟨y, 0, none⟩ (.int .i64 0)).setCell ⟨y, 1, none⟩ (.int .u32 0)).setCell ⟨y, 2, none⟩ (.int .u64 0)).setCell ⟨y, 3, none⟩ (.int .i64 0)).setCell ⟨y, 4, none⟩ (.int .i64 0)).setCell ⟨y, 5, none⟩ (.int .u32 0)).setCell ⟨y, 6, none⟩ (.bool false)).setCell ⟨y, 7, none⟩ (.bool false)).setCell ⟨z, 0, none⟩ (.int .i64 4)).setCell ⟨z, 1, none⟩ (.int .i64 0)).setCell ⟨z, 2, none⟩ (.int .i64 k3)).alloc (.cells #[.int .u64 (fA c va), .int .u64 b2] 23)).drew = wz at *
    have c1 := HE.out.a.cell
    have c2 := HE.out.b.cell
    go_wp2
    refine bodyPost_ret (v := .tuple #[.agg #[.int .i64 tZ.size, .int .u32 tZ.va, .int .u64 tZ.pa, .int .i64 tZ.dom, .int .i64 tZ.ap, .int .u32 tZ.bits, .bool tZ.ng, .bool tZ.xn], .agg #[.int .i64 4, .int .i64 0, .int .i64 k3], .slice (some ⟨wx.heap.size, 0, none⟩) 2 2]) (by simp [results, Tryd.results34, go_sem, c1, c2, tZ]) rfl ⟨_, rfl, Us.two HE.out.c, HE.out.bel⟩
end Go.Proofs.YtmodcbdgnmjkoabDoor
