import Derived.Test.YtmodcbdgnmjkoabDoorVe
namespace Go.Proofs.YtmodcbdgnmjkoabDoor
open Go.RowKit
open Mm (Turn gr PM RM valV errV Byts)
set_option linter.unusedVariables false
set_option linter.unusedSimpArgs false
set_option maxRecDepth 100000 in
set_option maxHeartbeats 4000000 in
theorem vwalk_core (c : Ctx) (va : Int) (w : World) (rv : Value) (ht : TW w) (u : Tra) (f : Fa) (l : List Int)
    (HS : ∀ ww, Below w.heap.size w ww → Calls Tryd.prog 34 #[rv, .agg #[.bool c.on, .bool c.tre, .bool c.afe, .int .i64 c.n, .bool c.pd0, .bool c.pd1, .int .u64 c.b0, .int .u64 c.b1, .int .u32 c.dacr, .int .u32 c.prrr, .int .u32 c.nmrr, .int .i64 c.asid], .int .u32 va] ww fun e w' => ∃ v, e = .returned (.tuple #[.agg #[.int .i64 u.size, .int .u32 u.va, .int .u64 u.pa, .int .i64 u.dom, .int .i64 u.ap, .int .u32 u.bits, .bool u.ng, .bool u.xn], .agg #[.int .i64 f.k, .int .i64 f.l, .int .i64 f.d], v]) ∧ Us w' v l ∧ Below ww.heap.size ww w') :
    Calls Tryd.prog 16 #[rv, .agg #[.bool c.on, .bool c.tre, .bool c.afe, .int .i64 c.n, .bool c.pd0, .bool c.pd1, .int .u64 c.b0, .int .u64 c.b1, .int .u32 c.dacr, .int .u32 c.prrr, .int .u32 c.nmrr, .int .i64 c.asid], .int .u32 va] w fun e w' => e = .returned (.tuple #[.agg #[.int .i64 u.size, .int .u32 u.va, .int .u64 u.pa, .int .i64 u.dom, .int .i64 u.ap, .int .u32 u.bits, .bool u.ng, .bool u.xn], .agg #[.int .i64 f.k, .int .i64 f.l, .int .i64 f.d]]) ∧ Below w.heap.size w w' := by
  have A := A0 w.heap.size
  have HX := hidW (F3.new A (St0.new ht) 26 49 32 [.bool c.on, .bool c.tre, .bool c.afe, .int .i64 c.n, .bool c.pd0, .bool c.pd1, .int .u64 c.b0, .int .u64 c.b1, .int .u32 c.dacr, .int .u32 c.prrr, .int .u32 c.nmrr, .int .i64 c.asid] [.int .i64 0, .int .u32 0, .int .u64 0, .int .i64 0, .int .i64 0, .int .u32 0, .bool false, .bool false] [.int .i64 0, .int .i64 0, .int .i64 0])
  have HS := hidW HS
  go_enter Tryd.func16, Tryd.ntmps16
  go_wp2_with fail
  go_at_call 34
  refine (HS.out _ HX.out.f.bel).mono ?_
  rintro e wa ⟨v, rfl, _, hb⟩
  have HX1 := hidW (HX.out.below A hb)
  clear hb HX HS
  generalize w.heap.size + 1 + 1 = z at *
  generalize w.heap.size + 1 = y at *
  have HX2 := hidW ((HX1.out.below A (below_new wa (.cells #[.int .i64 u.size, .int .u32 u.va, .int .u64 u.pa, .int .i64 u.dom, .int .i64 u.ap, .int .u32 u.bits, .bool u.ng, .bool u.xn] 49))).below A (below_new _ (.cells #[.int .i64 f.k, .int .i64 f.l, .int .i64 f.d] 32)))
  have HN := hidW ((Bl.new wa 49 [.int .i64 u.size, .int .u32 u.va, .int .u64 u.pa, .int .i64 u.dom, .int .i64 u.ap, .int .u32 u.bits, .bool u.ng, .bool u.xn]).below (below_new _ (.cells #[.int .i64 f.k, .int .i64 f.l, .int .i64 f.d] 32)))
  have HM := hidW (Bl.new (wa.alloc (.cells #[.int .i64 u.size, .int .u32 u.va, .int .u64 u.pa, .int .i64 u.dom, .int .i64 u.ap, .int .u32 u.bits, .bool u.ng, .bool u.xn] 49)) 32 [.int .i64 f.k, .int .i64 f.l, .int .i64 f.d])
  rw [show (wa.alloc (.cells #[.int .i64 u.size, .int .u32 u.va, .int .u64 u.pa, .int .i64 u.dom, .int .i64 u.ap, .int .u32 u.bits, .bool u.ng, .bool u.xn] 49)).heap.size = wa.heap.size + 1 by simp] at HM
  have m1 : ¬ wa.heap.size = y := by have := HX1.out.b.bl.lt; omega
  have m2 : ¬ wa.heap.size = z := by have := HX1.out.c.bl.lt; omega
  have m3 : ¬ wa.heap.size + 1 = y := by have := HX1.out.b.bl.lt; omega
  have m4 : ¬ wa.heap.size + 1 = z := by have := HX1.out.c.bl.lt; omega
  go_wp2
  generalize ((wa.alloc (.cells #[.int .i64 u.size, .int .u32 u.va, .int .u64 u.pa, .int .i64 u.dom, .int .i64 u.ap, .int .u32 u.bits, .bool u.ng, .bool u.xn] 49)).alloc (.cells #[.int .i64 f.k, .int .i64 f.l, .int .i64 f.d] 32)) = wx at *
  generalize wa.heap.size + 1 = b2 at *
  generalize wa.heap.size = b1 at *
  have c1 := HX2.out.b.bl.cell
  have f1 := HX2.out.b.bl.frozen
  have l1 := HX2.out.b.bl.lt
  have c2 := HX2.out.c.bl.cell
  have f2 := HX2.out.c.bl.frozen
  have l2 := HX2.out.c.bl.lt
  have n1 : ¬ y = z := by have := HX2.out.hz; omega
  have n2 : ¬ z = y := by have := HX2.out.hz; omega
  have hS : ∀ ww, Bl ww b1 49 [.int .i64 u.size, .int .u32 u.va, .int .u64 u.pa, .int .i64 u.dom, .int .i64 u.ap, .int .u32 u.bits, .bool u.ng, .bool u.xn] → Bl ww b2 32 [.int .i64 f.k, .int .i64 f.l, .int .i64 f.d] → (ww.drew.cell? ⟨b1, 0, none⟩ = some (.int .i64 u.size) ∧ ww.drew.cell? ⟨b1, 1, none⟩ = some (.int .u32 u.va) ∧ ww.drew.cell? ⟨b1, 2, none⟩ = some (.int .u64 u.pa) ∧ ww.drew.cell? ⟨b1, 3, none⟩ = some (.int .i64 u.dom) ∧ ww.drew.cell? ⟨b1, 4, none⟩ = some (.int .i64 u.ap) ∧ ww.drew.cell? ⟨b1, 5, none⟩ = some (.int .u32 u.bits) ∧ ww.drew.cell? ⟨b1, 6, none⟩ = some (.bool u.ng) ∧ ww.drew.cell? ⟨b1, 7, none⟩ = some (.bool u.xn) ∧ ww.drew.cell? ⟨b2, 0, none⟩ = some (.int .i64 f.k) ∧ ww.drew.cell? ⟨b2, 1, none⟩ = some (.int .i64 f.l) ∧ ww.drew.cell? ⟨b2, 2, none⟩ = some (.int .i64 f.d)) := fun ww h1 h2 => ⟨h1.drew.cell 0, h1.drew.cell 1, h1.drew.cell 2, h1.drew.cell 3, h1.drew.cell 4, h1.drew.cell 5, h1.drew.cell 6, h1.drew.cell 7, h2.drew.cell 0, h2.drew.cell 1, h2.drew.cell 2⟩
  go_region_held3 (fun w' => (w'.cell? ⟨b1, 0, none⟩ = some (.int .i64 u.size) ∧ w'.cell? ⟨b1, 1, none⟩ = some (.int .u32 u.va) ∧ w'.cell? ⟨b1, 2, none⟩ = some (.int .u64 u.pa) ∧ w'.cell? ⟨b1, 3, none⟩ = some (.int .i64 u.dom) ∧ w'.cell? ⟨b1, 4, none⟩ = some (.int .i64 u.ap) ∧ w'.cell? ⟨b1, 5, none⟩ = some (.int .u32 u.bits) ∧ w'.cell? ⟨b1, 6, none⟩ = some (.bool u.ng) ∧ w'.cell? ⟨b1, 7, none⟩ = some (.bool u.xn) ∧ w'.cell? ⟨b2, 0, none⟩ = some (.int .i64 f.k) ∧ w'.cell? ⟨b2, 1, none⟩ = some (.int .i64 f.l) ∧ w'.cell? ⟨b2, 2, none⟩ = some (.int .i64 f.d))) (first | (with_reducible exact hS _ HN.out HM.out) | (with_reducible exact hS _ (Bl.keep8 HN.out m1 _ _ _ _ _ _ _ _) (Bl.keep8 HM.out m3 _ _ _ _ _ _ _ _)) | (with_reducible exact hS _ (Bl.keep3 (Bl.keep8 HN.out m1 _ _ _ _ _ _ _ _) m2 _ _ _) (Bl.keep3 (Bl.keep8 HM.out m3 _ _ _ _ _ _ _ _) m4 _ _ _))) (first | fail)
  go_wp2
  refine bodyPost_ret (v := .tuple #[.agg #[.int .i64 u.size, .int .u32 u.va, .int .u64 u.pa, .int .i64 u.dom, .int .i64 u.ap, .int .u32 u.bits, .bool u.ng, .bool u.xn], .agg #[.int .i64 f.k, .int .i64 f.l, .int .i64 f.d]]) (by simp [results, Tryd.results16, go_sem, c1, f1, c2, f2, n1, n2, l1, l2]) rfl ⟨rfl, ?_⟩
  exact ((HX2.out.fin11 A _ _ _ _ _ _ _ _ _ _ _).drew A).bel
theorem vwalk_any (c : Ctx) (va : Int) (w : World) {S : Nat → Prop} {rv : Value} {M : Mo} (hm : MemR w S rv M) (ht : TW w) (hc : c.Ok) (hv : 0 ≤ va ∧ va < 4294967296) :
    Calls Tryd.prog 16 #[rv, .agg #[.bool c.on, .bool c.tre, .bool c.afe, .int .i64 c.n, .bool c.pd0, .bool c.pd1, .int .u64 c.b0, .int .u64 c.b1, .int .u32 c.dacr, .int .u32 c.prrr, .int .u32 c.nmrr, .int .i64 c.asid], .int .u32 va] w fun e w' => e = .returned (.tuple #[.agg #[.int .i64 ((wk M c va).1).size, .int .u32 ((wk M c va).1).va, .int .u64 ((wk M c va).1).pa, .int .i64 ((wk M c va).1).dom, .int .i64 ((wk M c va).1).ap, .int .u32 ((wk M c va).1).bits, .bool ((wk M c va).1).ng, .bool ((wk M c va).1).xn], .agg #[.int .i64 ((wk M c va).2).k, .int .i64 ((wk M c va).2).l, .int .i64 ((wk M c va).2).d]]) ∧ Below w.heap.size w w' :=
  vwalk_core c va w rv ht _ _ (rdL M c va) (fun ww hb => steps_any c va ww (hm.below hb) (ht.below hb) hc hv)
end Go.Proofs.YtmodcbdgnmjkoabDoor
