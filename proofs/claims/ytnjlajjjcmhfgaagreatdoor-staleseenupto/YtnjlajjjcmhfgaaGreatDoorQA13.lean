import Derived.Test.YtnjlajjjcmhfgaaGreatDoorQA12
namespace Go.Proofs.YtnjlajjjcmhfgaaGreatDoor
open Go.RowKit
open Mm (Turn gr RM valV errV)
set_option linter.unusedVariables false
set_option linter.unusedSimpArgs false
set_option maxRecDepth 100000 in
set_option maxHeartbeats 2000000 in
theorem walk_off {H : Nat} {M : Mo} {iv : Value} {St : List Int → (Nat → Prop) → World → Prop} (A : Asker H M iv St) (c : Ctx) (va : Int) (L : List Int) (Z : Nat → Prop) (w : World) (hs : St L Z w) (hL : L.length ≤ 7) (hc : c.Ok) (hv : 0 ≤ va ∧ va < 4294967296) (hon : c.on = false) :
    Calls Tryz.prog 32 #[iv, .agg #[.bool c.on, .bool c.tre, .bool c.afe, .int .i64 c.n, .bool c.pd0, .bool c.pd1, .int .u64 c.b0, .int .u64 c.b1, .int .u32 c.dacr, .int .u32 c.prrr, .int .u32 c.nmrr, .int .i64 c.asid], .int .u32 va] w fun e w' => e = .returned (.tuple #[.agg #[.int .i64 (itF va).size, .int .u32 (itF va).va, .int .u64 (itF va).pa, .int .i64 (itF va).dom, .int .i64 (itF va).ap, .int .u32 (itF va).bits, .bool (itF va).ng, .bool (itF va).xn], .agg #[.int .i64 0, .int .i64 0, .int .i64 0]]) ∧ Fin H St w Z L w' := by
  have HI := hidW (fun ww => itself_any va ww hv)
  have HX := hidW (F3.new A hs 47 43 88 [.bool c.on, .bool c.tre, .bool c.afe, .int .i64 c.n, .bool c.pd0, .bool c.pd1, .int .u64 c.b0, .int .u64 c.b1, .int .u32 c.dacr, .int .u32 c.prrr, .int .u32 c.nmrr, .int .i64 c.asid] [.int .i64 0, .int .u32 0, .int .u64 0, .int .i64 0, .int .i64 0, .int .u32 0, .bool false, .bool false] [.int .i64 0, .int .i64 0, .int .i64 0])
  clear hs
  rw [hon] at HX ⊢
  go_enter Tryz.func32, Tryz.ntmps32
  go_wp2_with fail
  go_at_call 60
  refine (HI.out _).mono ?_
  rintro e wa ⟨rfl, hb⟩
  have HX1 := hidW (HX.out.below A hb)
  clear hb HX HI
  generalize w.heap.size + 1 + 1 = z at *
  generalize w.heap.size + 1 = y at *
  have c1 := HX1.out.b.bl.cell
  have f1 := HX1.out.b.bl.frozen
  have c2 := HX1.out.c.bl.cell
  have f2 := HX1.out.c.bl.frozen
  have n1 : ¬ y = z := by have := HX1.out.hz; omega
  have n2 : ¬ z = y := by have := HX1.out.hz; omega
  have l1 := HX1.out.b.bl.lt
  have l2 := HX1.out.c.bl.lt
  go_wp2
  refine bodyPost_ret (v := .tuple #[.agg #[.int .i64 (itF va).size, .int .u32 (itF va).va, .int .u64 (itF va).pa, .int .i64 (itF va).dom, .int .i64 (itF va).ap, .int .u32 (itF va).bits, .bool (itF va).ng, .bool (itF va).xn], .agg #[.int .i64 0, .int .i64 0, .int .i64 0]]) (by simp [results, Tryz.results32, go_sem, c1, f1, c2, f2, n1, n2, l1, l2, tZ]) rfl ⟨rfl, ?_⟩
  exact HX1.out.fin11 A _ _ _ _ _ _ _ _ _ _ _
set_option maxRecDepth 100000 in
set_option maxHeartbeats 2000000 in
theorem walk_f1 {H : Nat} {M : Mo} {iv : Value} {St : List Int → (Nat → Prop) → World → Prop} (A : Asker H M iv St) (c : Ctx) (va : Int) (L : List Int) (Z : Nat → Prop) (w : World) (hs : St L Z w) (hL : L.length ≤ 7) (hc : c.Ok) (hv : 0 ≤ va ∧ va < 4294967296) (hon : c.on = true) (k1 k2 k3 : Int) (k4 : Bool) (k5 k6 : Int) (k7 k8 : Bool) (q1 q2 q3 : Int) (hw1 : w1 M c va = (⟨k1, k2, k3, k4, k5, k6, k7, k8⟩, ⟨q1, q2, q3⟩)) (hk : ¬ q1 = 0) :
    Calls Tryz.prog 32 #[iv, .agg #[.bool c.on, .bool c.tre, .bool c.afe, .int .i64 c.n, .bool c.pd0, .bool c.pd1, .int .u64 c.b0, .int .u64 c.b1, .int .u32 c.dacr, .int .u32 c.prrr, .int .u32 c.nmrr, .int .i64 c.asid], .int .u32 va] w fun e w' => e = .returned (.tuple #[.agg #[.int .i64 tZ.size, .int .u32 tZ.va, .int .u64 tZ.pa, .int .i64 tZ.dom, .int .i64 tZ.ap, .int .u32 tZ.bits, .bool tZ.ng, .bool tZ.xn], .agg #[.int .i64 q1, .int .i64 q2, .int .i64 q3]]) ∧ Fin H St w Z (L ++ r1 c va) w' := by
  have HF := hidW (fun Z ww h => first_any A c va L Z ww h (by omega) hc hv)
  rw [hw1, hon] at HF
  clear hw1
  have hq : (q1 != 0) = true := by simp [hk]
  have HX := hidW (F3.new A hs 47 43 88 [.bool c.on, .bool c.tre, .bool c.afe, .int .i64 c.n, .bool c.pd0, .bool c.pd1, .int .u64 c.b0, .int .u64 c.b1, .int .u32 c.dacr, .int .u32 c.prrr, .int .u32 c.nmrr, .int .i64 c.asid] [.int .i64 0, .int .u32 0, .int .u64 0, .int .i64 0, .int .i64 0, .int .u32 0, .bool false, .bool false] [.int .i64 0, .int .i64 0, .int .i64 0])
  clear hs
  rw [hon] at HX ⊢
  go_enter Tryz.func32, Tryz.ntmps32
  go_wp2_with fail
  go_at_call 61
  refine (HF.out _ _ HX.out.f.st).mono ?_
  rintro e wa ⟨rfl, hs2, T2⟩
  have HX1 := hidW (HX.out.call hs2 T2)
  clear hs2 T2 HX HF
  generalize w.heap.size + 1 + 1 = z at *
  generalize w.heap.size + 1 = y at *
  have HX2 := hidW ((HX1.out.below A (below_new wa (.cells #[.int .i64 k1, .int .u64 k2, .int .i64 k3, .bool k4, .int .i64 k5, .int .u32 k6, .bool k7, .bool k8] 140))).below A (below_new _ (.cells #[.int .i64 q1, .int .i64 q2, .int .i64 q3] 88)))
  have HN := hidW (Bl.new (wa.alloc (.cells #[.int .i64 k1, .int .u64 k2, .int .i64 k3, .bool k4, .int .i64 k5, .int .u32 k6, .bool k7, .bool k8] 140)) 88 [.int .i64 q1, .int .i64 q2, .int .i64 q3])
  rw [show (wa.alloc (.cells #[.int .i64 k1, .int .u64 k2, .int .i64 k3, .bool k4, .int .i64 k5, .int .u32 k6, .bool k7, .bool k8] 140)).heap.size = wa.heap.size + 1 by simp] at HN
  have n3 : ¬ wa.heap.size + 1 = y := by have := HX1.out.b.bl.lt; omega
  have n4 : ¬ wa.heap.size + 1 = z := by have := HX1.out.c.bl.lt; omega
  go_wp2
  generalize ((wa.alloc (.cells #[.int .i64 k1, .int .u64 k2, .int .i64 k3, .bool k4, .int .i64 k5, .int .u32 k6, .bool k7, .bool k8] 140)).alloc (.cells #[.int .i64 q1, .int .i64 q2, .int .i64 q3] 88)) = wx at *
  generalize wa.heap.size + 1 = b at *
  have c1 := HX2.out.b.bl.cell
  have f1 := HX2.out.b.bl.frozen
  have c2 := HX2.out.c.bl.cell
  have f2 := HX2.out.c.bl.frozen
  have n1 : ¬ y = z := by have := HX2.out.hz; omega
  have n2 : ¬ z = y := by have := HX2.out.hz; omega
  have l1 := HX2.out.b.bl.lt
  have l2 := HX2.out.c.bl.lt
  have d0 : wx.drew.cell? ⟨b, 0, none⟩ = some (.int .i64 q1) := HN.out.drew.cell 0
  have d1 : wx.drew.cell? ⟨b, 1, none⟩ = some (.int .i64 q2) := HN.out.drew.cell 1
  have d2 : wx.drew.cell? ⟨b, 2, none⟩ = some (.int .i64 q3) := HN.out.drew.cell 2
  go_region_held3 (fun w' => w'.cell? ⟨b, 0, none⟩ = some (.int .i64 q1) ∧ w'.cell? ⟨b, 1, none⟩ = some (.int .i64 q2) ∧ w'.cell? ⟨b, 2, none⟩ = some (.int .i64 q3)) (first | (with_reducible exact ⟨d0, d1, d2⟩) | ((refine ⟨?_, ?_, ?_⟩); ((with_reducible refine Eq.trans ((Bl.keep8 HN.out n3 _ _ _ _ _ _ _ _).drew.cell 0) ?_); rfl); ((with_reducible refine Eq.trans ((Bl.keep8 HN.out n3 _ _ _ _ _ _ _ _).drew.cell 1) ?_); rfl); ((with_reducible refine Eq.trans ((Bl.keep8 HN.out n3 _ _ _ _ _ _ _ _).drew.cell 2) ?_); rfl)) | ((refine ⟨?_, ?_, ?_⟩); ((with_reducible refine Eq.trans ((Bl.keep3 (Bl.keep8 HN.out n3 _ _ _ _ _ _ _ _) n4 _ _ _).drew.cell 0) ?_); rfl); ((with_reducible refine Eq.trans ((Bl.keep3 (Bl.keep8 HN.out n3 _ _ _ _ _ _ _ _) n4 _ _ _).drew.cell 1) ?_); rfl); ((with_reducible refine Eq.trans ((Bl.keep3 (Bl.keep8 HN.out n3 _ _ _ _ _ _ _ _) n4 _ _ _).drew.cell 2) ?_); rfl))) (first | fail)
  go_wp2
  refine bodyPost_ret (v := .tuple #[.agg #[.int .i64 tZ.size, .int .u32 tZ.va, .int .u64 tZ.pa, .int .i64 tZ.dom, .int .i64 tZ.ap, .int .u32 tZ.bits, .bool tZ.ng, .bool tZ.xn], .agg #[.int .i64 q1, .int .i64 q2, .int .i64 q3]]) (by simp [results, Tryz.results32, go_sem, c1, f1, c2, f2, n1, n2, l1, l2, tZ]) rfl ⟨rfl, ?_⟩
  exact (HX2.out.fin11 A _ _ _ _ _ _ _ _ _ _ _).drew A
set_option maxRecDepth 100000 in
set_option maxHeartbeats 2000000 in
theorem walk_tab {H : Nat} {M : Mo} {iv : Value} {St : List Int → (Nat → Prop) → World → Prop} (A : Asker H M iv St) (c : Ctx) (va : Int) (L : List Int) (Z : Nat → Prop) (w : World) (hs : St L Z w) (hL : L.length ≤ 7) (hc : c.Ok) (hv : 0 ≤ va ∧ va < 4294967296) (hon : c.on = true) (k1 k2 k3 : Int) (k4 : Bool) (k5 k6 : Int) (k7 k8 : Bool) (hw1 : w1 M c va = (⟨k1, k2, k3, k4, k5, k6, k7, k8⟩, ⟨0, 0, 0⟩)) (hk : k1 = 1) (hr : 0 ≤ k2 ∧ k2 < 4294967296) (u : Tra) (f : Fa) (hu : w2 M ⟨k1, k2, k3, k4, k5, k6, k7, k8⟩ va = (u, f)) :
    Calls Tryz.prog 32 #[iv, .agg #[.bool c.on, .bool c.tre, .bool c.afe, .int .i64 c.n, .bool c.pd0, .bool c.pd1, .int .u64 c.b0, .int .u64 c.b1, .int .u32 c.dacr, .int .u32 c.prrr, .int .u32 c.nmrr, .int .i64 c.asid], .int .u32 va] w fun e w' => e = .returned (.tuple #[.agg #[.int .i64 u.size, .int .u32 u.va, .int .u64 u.pa, .int .i64 u.dom, .int .i64 u.ap, .int .u32 u.bits, .bool u.ng, .bool u.xn], .agg #[.int .i64 f.k, .int .i64 f.l, .int .i64 f.d]]) ∧ Fin H St w Z (L ++ r1 c va ++ [sA ⟨k1, k2, k3, k4, k5, k6, k7, k8⟩ va]) w' := by
  have HF := hidW (fun Z ww h => first_any A c va L Z ww h (by omega) hc hv)
  rw [hw1, hon] at HF
  clear hw1
  have hr1 : (r1 c va).length ≤ 1 := by unfold r1; split <;> simp
  have HS := hidW (fun Z ww h => second_any A ⟨k1, k2, k3, k4, k5, k6, k7, k8⟩ va (L ++ r1 c va) Z ww h (by rw [List.length_append]; omega) hr hv)
  rw [hu] at HS
  clear hu
  subst hk
  have HX := hidW (F3.new A hs 47 43 88 [.bool c.on, .bool c.tre, .bool c.afe, .int .i64 c.n, .bool c.pd0, .bool c.pd1, .int .u64 c.b0, .int .u64 c.b1, .int .u32 c.dacr, .int .u32 c.prrr, .int .u32 c.nmrr, .int .i64 c.asid] [.int .i64 0, .int .u32 0, .int .u64 0, .int .i64 0, .int .i64 0, .int .u32 0, .bool false, .bool false] [.int .i64 0, .int .i64 0, .int .i64 0])
  clear hs
  rw [hon] at HX ⊢
  go_enter Tryz.func32, Tryz.ntmps32
  go_wp2_with fail
  go_at_call 61
  refine (HF.out _ _ HX.out.f.st).mono ?_
  rintro e wa ⟨rfl, hs2, T2⟩
  have HX1 := hidW (HX.out.call hs2 T2)
  clear hs2 T2 HX HF
  generalize w.heap.size + 1 + 1 = z at *
  generalize w.heap.size + 1 = y at *
  have HX2 := hidW ((HX1.out.below A (below_new wa (.cells #[.int .i64 1, .int .u64 k2, .int .i64 k3, .bool k4, .int .i64 k5, .int .u32 k6, .bool k7, .bool k8] 140))).below A (below_new _ (.cells #[.int .i64 0, .int .i64 0, .int .i64 0] 88)))
  go_wp2_with fail
  generalize ((wa.alloc (.cells #[.int .i64 1, .int .u64 k2, .int .i64 k3, .bool k4, .int .i64 k5, .int .u32 k6, .bool k7, .bool k8] 140)).alloc (.cells #[.int .i64 0, .int .i64 0, .int .i64 0] 88)) = wx at *
  go_at_call 62
  refine (HS.out _ _ HX2.out.f.st).mono ?_
  rintro e wb ⟨rfl, hs2, T2⟩
  have HX3 := hidW (HX2.out.call hs2 T2)
  clear hs2 T2 HX1 HX2 HS
  have c1 := HX3.out.b.bl.cell
  have f1 := HX3.out.b.bl.frozen
  have c2 := HX3.out.c.bl.cell
  have f2 := HX3.out.c.bl.frozen
  have n1 : ¬ y = z := by have := HX3.out.hz; omega
  have n2 : ¬ z = y := by have := HX3.out.hz; omega
  have l1 := HX3.out.b.bl.lt
  have l2 := HX3.out.c.bl.lt
  go_wp2
  refine bodyPost_ret (v := .tuple #[.agg #[.int .i64 u.size, .int .u32 u.va, .int .u64 u.pa, .int .i64 u.dom, .int .i64 u.ap, .int .u32 u.bits, .bool u.ng, .bool u.xn], .agg #[.int .i64 f.k, .int .i64 f.l, .int .i64 f.d]]) (by simp [results, Tryz.results32, go_sem, c1, f1, c2, f2, n1, n2, l1, l2]) rfl ⟨rfl, ?_⟩
  exact HX3.out.fin11 A _ _ _ _ _ _ _ _ _ _ _
set_option maxRecDepth 100000 in
set_option maxHeartbeats 2000000 in
theorem walk_blk {H : Nat} {M : Mo} {iv : Value} {St : List Int → (Nat → Prop) → World → Prop} (A : Asker H M iv St) (c : Ctx) (va : Int) (L : List Int) (Z : Nat → Prop) (w : World) (hs : St L Z w) (hL : L.length ≤ 7) (hc : c.Ok) (hv : 0 ≤ va ∧ va < 4294967296) (hon : c.on = true) (k1 k2 k3 : Int) (k4 : Bool) (k5 k6 : Int) (k7 k8 : Bool) (hw1 : w1 M c va = (⟨k1, k2, k3, k4, k5, k6, k7, k8⟩, ⟨0, 0, 0⟩)) (hk : ¬ k1 = 1) (hO : Ok ⟨k1, k2, k3, k4, k5, k6, k7, k8⟩) (u : Tra) (hu : trF ⟨k1, k2, k3, k4, k5, k6, k7, k8⟩ 0 va = u) :
    Calls Tryz.prog 32 #[iv, .agg #[.bool c.on, .bool c.tre, .bool c.afe, .int .i64 c.n, .bool c.pd0, .bool c.pd1, .int .u64 c.b0, .int .u64 c.b1, .int .u32 c.dacr, .int .u32 c.prrr, .int .u32 c.nmrr, .int .i64 c.asid], .int .u32 va] w fun e w' => e = .returned (.tuple #[.agg #[.int .i64 u.size, .int .u32 u.va, .int .u64 u.pa, .int .i64 u.dom, .int .i64 u.ap, .int .u32 u.bits, .bool u.ng, .bool u.xn], .agg #[.int .i64 0, .int .i64 0, .int .i64 0]]) ∧ Fin H St w Z (L ++ r1 c va) w' := by
  have HF := hidW (fun Z ww h => first_any A c va L Z ww h (by omega) hc hv)
  rw [hw1, hon] at HF
  clear hw1
  have HT := hidW (fun ww ht => trans_any ⟨k1, k2, k3, k4, k5, k6, k7, k8⟩ 0 va ww ht hO hv)
  rw [hu] at HT
  clear hu hO
  have hq : (k1 == 1) = false := by simp [hk]
  have HX := hidW (F3.new A hs 47 43 88 [.bool c.on, .bool c.tre, .bool c.afe, .int .i64 c.n, .bool c.pd0, .bool c.pd1, .int .u64 c.b0, .int .u64 c.b1, .int .u32 c.dacr, .int .u32 c.prrr, .int .u32 c.nmrr, .int .i64 c.asid] [.int .i64 0, .int .u32 0, .int .u64 0, .int .i64 0, .int .i64 0, .int .u32 0, .bool false, .bool false] [.int .i64 0, .int .i64 0, .int .i64 0])
  clear hs
  rw [hon] at HX ⊢
  go_enter Tryz.func32, Tryz.ntmps32
  go_wp2_with fail
  go_at_call 61
  refine (HF.out _ _ HX.out.f.st).mono ?_
  rintro e wa ⟨rfl, hs2, T2⟩
  have HX1 := hidW (HX.out.call hs2 T2)
  clear hs2 T2 HX HF
  generalize w.heap.size + 1 + 1 = z at *
  generalize w.heap.size + 1 = y at *
  have HX2 := hidW ((HX1.out.below A (below_new wa (.cells #[.int .i64 k1, .int .u64 k2, .int .i64 k3, .bool k4, .int .i64 k5, .int .u32 k6, .bool k7, .bool k8] 140))).below A (below_new _ (.cells #[.int .i64 0, .int .i64 0, .int .i64 0] 88)))
  go_wp2_with fail
  generalize ((wa.alloc (.cells #[.int .i64 k1, .int .u64 k2, .int .i64 k3, .bool k4, .int .i64 k5, .int .u32 k6, .bool k7, .bool k8] 140)).alloc (.cells #[.int .i64 0, .int .i64 0, .int .i64 0] 88)) = wx at *
  go_at_call 63
  refine (HT.out _ (A.tab HX2.out.f.st).r).mono ?_
  rintro e wb ⟨rfl, hb⟩
  have HX3 := hidW (HX2.out.below A hb)
  clear hb HX1 HX2 HT
  have c1 := HX3.out.b.bl.cell
  have f1 := HX3.out.b.bl.frozen
  have c2 := HX3.out.c.bl.cell
  have f2 := HX3.out.c.bl.frozen
  have n1 : ¬ y = z := by have := HX3.out.hz; omega
  have n2 : ¬ z = y := by have := HX3.out.hz; omega
  have l1 := HX3.out.b.bl.lt
  have l2 := HX3.out.c.bl.lt
  go_wp2
  refine bodyPost_ret (v := .tuple #[.agg #[.int .i64 u.size, .int .u32 u.va, .int .u64 u.pa, .int .i64 u.dom, .int .i64 u.ap, .int .u32 u.bits, .bool u.ng, .bool u.xn], .agg #[.int .i64 0, .int .i64 0, .int .i64 0]]) (by simp [results, Tryz.results32, go_sem, c1, f1, c2, f2, n1, n2, l1, l2]) rfl ⟨rfl, ?_⟩
  exact HX3.out.fin11 A _ _ _ _ _ _ _ _ _ _ _
theorem walk_any {H : Nat} {M : Mo} {iv : Value} {St : List Int → (Nat → Prop) → World → Prop} (A : Asker H M iv St) (c : Ctx) (va : Int) (L : List Int) (Z : Nat → Prop) (w : World) (hs : St L Z w) (hL : L.length ≤ 7) (hc : c.Ok) (hv : 0 ≤ va ∧ va < 4294967296) :
    Calls Tryz.prog 32 #[iv, .agg #[.bool c.on, .bool c.tre, .bool c.afe, .int .i64 c.n, .bool c.pd0, .bool c.pd1, .int .u64 c.b0, .int .u64 c.b1, .int .u32 c.dacr, .int .u32 c.prrr, .int .u32 c.nmrr, .int .i64 c.asid], .int .u32 va] w fun e w' => e = .returned (.tuple #[.agg #[.int .i64 ((wk M c va).1).size, .int .u32 ((wk M c va).1).va, .int .u64 ((wk M c va).1).pa, .int .i64 ((wk M c va).1).dom, .int .i64 ((wk M c va).1).ap, .int .u32 ((wk M c va).1).bits, .bool ((wk M c va).1).ng, .bool ((wk M c va).1).xn], .agg #[.int .i64 ((wk M c va).2).k, .int .i64 ((wk M c va).2).l, .int .i64 ((wk M c va).2).d]]) ∧ Fin H St w Z (L ++ rdL M c va) w' := by
  unfold wk rdL
  cases hon : c.on
  · have h := walk_off A c va L Z w hs hL hc hv hon
    rw [hon] at h
    simpa [fZ] using h
  · by_cases hf : (w1 M c va).2.k = 0
    · obtain ⟨ho, he, hw, hk⟩ := w1_kind hf
      have hx := A.ok (fA c va)
      by_cases h1 : (w1 M c va).1.kind = 1
      · have hb : 0 ≤ (w1 M c va).1.base ∧ (w1 M c va).1.base < 4294967296 := by
          rw [hw] at h1 ⊢
          dsimp only at h1 ⊢
          have := D1_base _ hx h1
          omega
        have h := walk_tab A c va L Z w hs hL hc hv hon (w1 M c va).1.kind (w1 M c va).1.base (w1 M c va).1.dom (w1 M c va).1.ns (w1 M c va).1.ap (w1 M c va).1.bits (w1 M c va).1.ng (w1 M c va).1.xn (by rw [hw]; rfl) h1 hb (w2 M (w1 M c va).1 va).1 (w2 M (w1 M c va).1 va).2 rfl
        rw [hon] at h
        change Calls _ _ _ _ (fun e w' => e = _ ∧ Fin H St w Z (L ++ r1 c va ++ [sA (w1 M c va).1 va]) w') at h
        simpa [hf, h1] using h
      · have h := walk_blk A c va L Z w hs hL hc hv hon (w1 M c va).1.kind (w1 M c va).1.base (w1 M c va).1.dom (w1 M c va).1.ns (w1 M c va).1.ap (w1 M c va).1.bits (w1 M c va).1.ng (w1 M c va).1.xn (by rw [hw]; rfl) h1 (by rw [hw]; exact (ok_D1 _ hx).1) _ rfl
        rw [hon] at h
        simpa [hf, h1, fZ] using h
    · have h := walk_f1 A c va L Z w hs hL hc hv hon (w1 M c va).1.kind (w1 M c va).1.base (w1 M c va).1.dom (w1 M c va).1.ns (w1 M c va).1.ap (w1 M c va).1.bits (w1 M c va).1.ng (w1 M c va).1.xn (w1 M c va).2.k (w1 M c va).2.l (w1 M c va).2.d rfl hf
      rw [hon] at h
      simpa [hf] using h
end Go.Proofs.YtnjlajjjcmhfgaaGreatDoor
