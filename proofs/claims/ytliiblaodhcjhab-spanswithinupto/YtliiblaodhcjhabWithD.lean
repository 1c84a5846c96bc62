import Derived.Test.YtliiblaodhcjhabWithC
namespace Go.Proofs.Ytliiblaodhcjhab
open Go.RowKit Go.Shelf
set_option linter.unusedVariables false
attribute [local go_sem] Oper.semAt_some

set_option maxRecDepth 100000 in
set_option maxHeartbeats 8000000 in
theorem from12_any {t0 t3 t4 t5 t6 t7 t10 t12 t16 t17 t18 t19 t20 t21 t22 t23 t24 t25 t26 t27 t28 t29 t30 t31 t32 t33 t34 t35 t36 t37 t38 t39 t40 t41 t42 t43 t44 t45 t46 t47 t48 t49 t50 t51 t52 t53 t54 t55 t56 t57 : Value} (W w8 : World) (Bm Bw lw : Nat) (wa : Option Addr) (wc gl : Nat) (L : List (Sp Int)) (lo hi : Int) (v : Value)
    (hM8 : MapAt w8 (W.heap.size + 1) (W.heap.size + 1) v L) (hL : L.length ≤ 3000000) (hGL : (goesL lo hi L).length = gl) (hgl : gl ≤ 3000000)
    (bM8 : Boxed w8 Bm 24 (.pointer (some ⟨W.heap.size + 1, 0, none⟩))) (bW8 : Boxed w8 Bw 36 (.slice wa gl wc)) (bR8 : Boxed w8 W.heap.size 4 (.bool false))
    (hW8 : w8.ownsRow lw 47 3 (.slice wa gl wc) gl (cellsI (goesL lo hi L))) (hBW8 : Below W.heap.size W w8)
    (n2 : Bw ≠ W.heap.size + 1) (n3 : Bm ≠ W.heap.size + 1) :
    (from12 Try.f5).wpIn Fence.wide 3 Try.prog (bodyPostM Fence.wide 3 Try.prog Try.f5 fun e W' => e = .returned (.bool true) ∧ Below W.heap.size W W') { tmps := #[t0, .int .u64 lo, .int .u64 hi, t3, t4, t5, t6, t7, .pointer (some ⟨W.heap.size, 0, none⟩), .pointer (some ⟨Bm, 0, none⟩), t10, .pointer (some ⟨Bw, 0, none⟩), t12, undef, undef, undef, t16, t17, t18, t19, t20, t21, t22, t23, t24, t25, t26, t27, t28, t29, t30, t31, t32, t33, t34, t35, t36, t37, t38, t39, t40, t41, t42, t43, t44, t45, t46, t47, t48, t49, t50, t51, t52, t53, t54, t55, t56, t57, undef, undef, undef, undef, undef, undef, undef, undef, undef, undef, undef, undef, undef, undef, undef, undef, undef, undef, undef, undef, undef, undef, undef, undef, undef, undef, undef, undef, undef, undef, undef, undef, undef, undef, undef, undef, undef, undef, undef, undef, undef, undef], defers := [] } w8 := by
  generalize hQ : bodyPostM Fence.wide 3 Try.prog Try.f5 (fun e W' => e = .returned (.bool true) ∧ Below W.heap.size W W') = Q
  simp only [from12, from10, sq2, Try.f5, Option.getD]
  have cM8 := bM8.cell
  have HQ := Hid.mk2 hQ
  clear hQ
  gi_wp2
  refine ⟨trivial, (callsIn_wide.2 (within_any _ lo hi _)).mono ?_⟩
  rintro e w9 ⟨rfl, rfl⟩
  gi_wp2
  have bMm := (((Boxed.new w8 24 (.pointer (some ⟨W.heap.size + 1, 0, none⟩))).alloc (.cells #[.int .u64 lo] 23)).alloc (.cells #[.int .u64 hi] 23)).alloc (.cells #[.int .i64 0] 3)
  have bLo := ((Boxed.new (w8.alloc (.cells #[.pointer (some ⟨W.heap.size + 1, 0, none⟩)] 24)) 23 (.int .u64 lo)).alloc (.cells #[.int .u64 hi] 23)).alloc (.cells #[.int .i64 0] 3)
  have bHi := (Boxed.new ((w8.alloc (.cells #[.pointer (some ⟨W.heap.size + 1, 0, none⟩)] 24)).alloc (.cells #[.int .u64 lo] 23)) 23 (.int .u64 hi)).alloc (.cells #[.int .i64 0] 3)
  have bN := Boxed.new (((w8.alloc (.cells #[.pointer (some ⟨W.heap.size + 1, 0, none⟩)] 24)).alloc (.cells #[.int .u64 lo] 23)).alloc (.cells #[.int .u64 hi] 23)) 3 (.int .i64 0)
  simp only [World.size_alloc] at bLo bHi bN
  have hB10 := below_alloc (below_alloc (below_alloc (below_alloc (Below.refl w8.heap.size w8) (.cells #[.pointer (some ⟨W.heap.size + 1, 0, none⟩)] 24)) (.cells #[.int .u64 lo] 23)) (.cells #[.int .u64 hi] 23)) (.cells #[.int .i64 0] 3)
  have hs10 : ((((w8.alloc (.cells #[.pointer (some ⟨W.heap.size + 1, 0, none⟩)] 24)).alloc (.cells #[.int .u64 lo] 23)).alloc (.cells #[.int .u64 hi] 23)).alloc (.cells #[.int .i64 0] 3)).heap.size = w8.heap.size + 4 := by simp
  obtain ⟨w10, hw10⟩ : ∃ w10, w10 = (((w8.alloc (.cells #[.pointer (some ⟨W.heap.size + 1, 0, none⟩)] 24)).alloc (.cells #[.int .u64 lo] 23)).alloc (.cells #[.int .u64 hi] 23)).alloc (.cells #[.int .i64 0] 3) := ⟨_, rfl⟩
  rw [← hw10] at bMm bLo bHi bN hB10 hs10 ⊢
  clear hw10
  have hM10 := hM8.keep hB10
  have bM10 := bM8.kept (below_grown hB10) (by simp)
  have bW10 := bW8.kept (below_grown hB10) (by simp)
  have bR10 := bR8.kept (below_grown hB10) (by simp)
  have hW10 := row_keep hW8 hB10
  have hBW10 := below_go hBW8 hB10
  have n5 := bM8.lt
  have n4 := bW8.lt
  have n1 := hM8.lt
  have eb : blkAt w10 (W.heap.size + 1) = v.ownBlock := by rw [blkAt, hM10.cell]
  have hvl : ∀ g, v.ownBlock = some g → g < w8.heap.size := fun g hg => (hM8.own.lt g hg).2
  have bHi' : Boxed w10 (w8.heap.size + 2) 23 (.int .u64 hi) := bHi
  have bN' : Boxed w10 (w8.heap.size + 1 + 1 + 1) 3 (.int .i64 0) := bN
  have n6 : w8.heap.size + 4 ≤ w10.heap.size := by omega
  clear bHi bN hM8 bM8 bW8 bR8 hW8 hBW8
  refine wpIn_rangeFunc_ownH rfl (by decide) (gf := 38) (lb := #[.pointer (some ⟨w8.heap.size + 1, 0, none⟩), .pointer (some ⟨w8.heap.size + 2, 0, none⟩), .pointer (some ⟨w8.heap.size, 0, none⟩)]) rfl trivial (enters_of Try.func38 (by kernel_rfl) rfl)
    (with_stops 2 (w8.heap.size + 1) (w8.heap.size + 2) w8.heap.size (W.heap.size + 1) (W.heap.size + 1) (W.heap.size + 1) (w8.heap.size + 1 + 1 + 1) v L lo hi w10 hM10 hL (by omega) (by omega) (fun g hg => by rw [eb] at hg; have := hvl g hg; omega) ⟨⟨_, bLo, rfl⟩, by omega, by omega, by rw [eb]; intro e; have := hvl _ e; omega⟩ ⟨⟨_, bHi', rfl⟩, by omega, by omega, by rw [eb]; intro e; have := hvl _ e; omega⟩ bLo.cell bHi'.cell bMm.cell)
    (fun h k => h.trans k) (KpS.put (by omega)) (Below.refl _ _) (fun _ => rfl)
    (fun pre Y => Stw W w8 w10 Bm Bw lw wa wc gl (goesL lo hi L) L pre Y)
    (fun c pre Y => c = .ret ∧ ¬ pre <+: goesL lo hi L)
    (stw_own W w8 w10 Bm Bw lw wa wc gl (goesL lo hi L) L (by have := hBW10.size; omega))
    (fun c => ownFrom_pure _ (fun pre => c = .ret ∧ ¬ pre <+: goesL lo hi L))
    ⟨bN', bW10, bM10, bR10, hW10, ⟨v, hM10⟩, List.nil_prefix, hBW10, fun _ _ _ h _ _ _ => h⟩
    (fun x a' Y => ∃ Bx, w10.heap.size ≤ Bx ∧ Y.heap[Bx]? = some (.cells #[.int .u64 x.lo, .int .u64 x.hi, .int .i64 x.val] 45 (0, 0)) ∧ (∃ u, Y.cell? ⟨W.heap.size + 1, 0, none⟩ = some u ∧ u.ownBlock ≠ some Bx) ∧ a' = { tmps := #[t0, .int .u64 lo, .int .u64 hi, t3, t4, t5, t6, t7, .pointer (some ⟨W.heap.size, 0, none⟩), .pointer (some ⟨Bm, 0, none⟩), t10, .pointer (some ⟨Bw, 0, none⟩), t12, .func (.func 38) #[] #[.pointer (some ⟨w8.heap.size + 1, 0, none⟩), .pointer (some ⟨w8.heap.size + 2, 0, none⟩), .pointer (some ⟨w8.heap.size, 0, none⟩)], .pointer (some ⟨w8.heap.size + 1 + 1 + 1, 0, none⟩), .pointer (some ⟨Bx, 0, none⟩), t16, t17, t18, t19, t20, t21, t22, t23, t24, t25, t26, t27, t28, t29, t30, t31, t32, t33, t34, t35, t36, t37, t38, t39, t40, t41, t42, t43, t44, t45, t46, t47, t48, t49, t50, t51, t52, t53, t54, t55, t56, t57, .pointer (some ⟨W.heap.size + 1, 0, none⟩), .int .u64 lo, .int .u64 hi, .func (.func 38) #[] #[.pointer (some ⟨w8.heap.size + 1, 0, none⟩), .pointer (some ⟨w8.heap.size + 2, 0, none⟩), .pointer (some ⟨w8.heap.size, 0, none⟩)], .func (.func 38) #[] #[.pointer (some ⟨w8.heap.size + 1, 0, none⟩), .pointer (some ⟨w8.heap.size + 2, 0, none⟩), .pointer (some ⟨w8.heap.size, 0, none⟩)], .agg #[.int .u64 x.lo, .int .u64 x.hi, .int .i64 x.val], undef, undef, undef, undef, undef, undef, undef, undef, undef, undef, undef, undef, undef, undef, undef, undef, undef, undef, undef, undef, undef, undef, undef, undef, undef, undef, undef, undef, undef, undef, undef, undef, undef, undef, undef, undef], defers := [] })
    (fun x a' _ X Y row hs hg hr => by
      obtain ⟨Bx, h1, h2, ⟨u, h4, h5⟩, h3⟩ := hs
      have hp := World.block_lt_of_cell? _ _ h4
      refine ⟨Bx, h1, ?_, ⟨u, ?_, h5⟩, h3⟩
      · rw [hg.block Bx (Array.getElem?_eq_some_iff.1 h2).1 (fun e => by obtain ⟨o, ho, hc⟩ := (hr Bx e.symm).2; rw [h2] at ho; cases ho; cases hc)]
        exact h2
      · rw [← h4]
        simp only [World.cell?]
        rw [hg.block (W.heap.size + 1) hp (fun e => by have := (hr _ e.symm).1; omega)])
    ?assign ?body ?done ?stop
  case assign =>
    rintro l pre x Y K hI hK
    gi_wp2
    have hba := below_alloc (Below.refl Y.heap.size Y) (.cells #[.int .u64 x.lo, .int .u64 x.hi, .int .i64 x.val] 45)
    obtain ⟨vm, hm⟩ := hI.at'
    have hma := hm.keep hba
    have hk := hI.cnt.lt
    exact hK _ _ ((KeepsOthers.alloc _ _).from _) (KpS.of_below hm.lt hba) (hI.below hba) ⟨Y.heap.size, by omega, heap_alloc_new Y _, ⟨vm, hma.cell, fun e => Nat.lt_irrefl _ (hm.own.lt _ e).2⟩, rfl⟩
  case body =>
    rintro l pre x a' Y hl' ⟨r, hr⟩ hI ⟨Bx, hBx, hx, ⟨u, hu, hne⟩, rfl⟩ hlt
    exact body5_any _ l W w8 w10 Bm Bw lw wa wc gl _ L pre x Y Bx hI hGL hL hBx hx (fun u' h => by rw [hu] at h; cases h; exact hne) (by rw [← hGL]; exact hlt) n1 n2 n3 n4 n5 n6 hgl
  case done =>
    rintro D ys Y hD rfl hI hK
    rename_i K0 hK0
    refine hK0 _ _ ?_
    rw [← HQ.out]
    exact from19_any W w8 w10 Bm Bw lw wa wc gl _ L Y D lo hi hI hGL hL hD hK bMm bLo bHi' n1 n2 n3 n4 n5 n6 hgl
  case stop =>
    rintro D c pre Y hD hpre ⟨rfl, hn⟩ hK
    exact absurd hpre hn
end Go.Proofs.Ytliiblaodhcjhab
