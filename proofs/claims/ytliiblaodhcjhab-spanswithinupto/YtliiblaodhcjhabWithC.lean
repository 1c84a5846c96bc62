import Derived.Test.YtliiblaodhcjhabWithB
namespace Go.Proofs.Ytliiblaodhcjhab
open Go.RowKit Go.Shelf
set_option linter.unusedVariables false
attribute [local go_sem] Oper.semAt_some

theorem goesL_nil (lo hi : Int) : goesL lo hi ([] : List (Sp Int)) = [] := by
  rw [goesL]
  split <;> rfl

theorem results_true {fn : Func} {p : Tmp} (h : fn.results = #[.cell p 4]) (tmps : Array Value) (w : World) (b : Nat) (hp : tmps.getD p undef = .pointer (some ⟨b, 0, none⟩)) (hb : Boxed w b 4 (.bool true)) :
    (results fn tmps).run Try.prog w = .ok (.bool true) w := by
  have hp' : tmps[p]?.getD undef = .pointer (some ⟨b, 0, none⟩) := by simpa using hp
  have hc := hb.cell
  simp only [results, h]
  go_simp

theorem setCell_block {W : World} {b : Nat} {o : Obj} {q : Nat} (v : Value) (h : W.heap[b]? = some o) (hne : b ≠ q) : (W.setCell ⟨q, 0, none⟩ v).heap[b]? = some o := by
  rw [heap_setCell_other W ⟨q, 0, none⟩ b v hne]
  exact h

set_option maxRecDepth 100000 in
set_option maxHeartbeats 8000000 in
theorem from19_any {t0 t1 t2 t3 t4 t5 t6 t7 t10 t12 t15 t16 t17 t18 t19 t20 t21 t22 t23 t24 t25 t26 t27 t28 t29 t30 t31 t32 t33 t34 t35 t36 t37 t38 t39 t40 t41 t42 t43 t44 t45 t46 t47 t48 t49 t50 t51 t52 t53 t54 t55 t56 t57 t58 t59 t60 t61 t62 t63 t64 t65 t66 t67 t68 t69 t70 t71 t72 t73 t74 t75 t76 t77 t78 t79 t80 t81 t82 t83 t84 : Value} (W w8 w10 : World) (Bm Bw lw : Nat) (wa : Option Addr) (wc gl : Nat) (G L : List (Sp Int)) (Y : World) (D : Nat) (lo hi : Int)
    (hI : Stw W w8 w10 Bm Bw lw wa wc gl G L G Y) (hGL : G.length = gl) (hL : L.length ≤ 3000000) (hD : w10.heap.size ≤ D) (hK : Y.heap[D]? = some (.deferred (some [])))
    (bMm : Boxed w10 w8.heap.size 24 (.pointer (some ⟨W.heap.size + 1, 0, none⟩))) (bLo : Boxed w10 (w8.heap.size + 1) 23 (.int .u64 lo)) (bHi : Boxed w10 (w8.heap.size + 2) 23 (.int .u64 hi))
    (n1 : W.heap.size + 1 < w8.heap.size) (n2 : Bw ≠ W.heap.size + 1) (n3 : Bm ≠ W.heap.size + 1) (n4 : Bw < w8.heap.size) (n5 : Bm < w8.heap.size) (n6 : w8.heap.size + 4 ≤ w10.heap.size) (hgl : gl ≤ 3000000) :
    (from19 Try.f5).wpIn Fence.wide 3 Try.prog (bodyPostM Fence.wide 3 Try.prog Try.f5 fun e W' => e = .returned (.bool true) ∧ Below W.heap.size W W') { tmps := #[t0, t1, t2, t3, t4, t5, t6, t7, .pointer (some ⟨W.heap.size, 0, none⟩), .pointer (some ⟨Bm, 0, none⟩), t10, .pointer (some ⟨Bw, 0, none⟩), t12, .func (.func 38) #[] #[.pointer (some ⟨w8.heap.size + 1, 0, none⟩), .pointer (some ⟨w8.heap.size + 2, 0, none⟩), .pointer (some ⟨w8.heap.size, 0, none⟩)], .pointer (some ⟨w8.heap.size + 1 + 1 + 1, 0, none⟩), t15, t16, t17, t18, t19, t20, t21, t22, t23, t24, t25, t26, t27, t28, t29, t30, t31, t32, t33, t34, t35, t36, t37, t38, t39, t40, t41, t42, t43, t44, t45, t46, t47, t48, t49, t50, t51, t52, t53, t54, t55, t56, t57, t58, t59, t60, t61, t62, t63, t64, t65, t66, t67, t68, t69, t70, t71, t72, t73, t74, t75, t76, t77, t78, t79, t80, t81, t82, t83, t84, undef, undef, undef, undef, undef, undef, undef, undef, undef, undef, undef, undef, undef, undef, undef], defers := [{ target := .collected D, args := #[] }] } Y := by
  generalize hQ : bodyPostM Fence.wide 3 Try.prog Try.f5 (fun e W' => e = .returned (.bool true) ∧ Below W.heap.size W W') = Q
  simp only [from19, from12, from10, sq2, Try.f5, Option.getD]
  have bN := hI.cnt
  rw [hGL] at bN
  have c14 := bN.cell
  have c11 := hI.want.cell
  have c9 := hI.map.cell
  have c8 := hI.res.cell
  have f8 := hI.res.frozen
  have yLo := hI.clo _ _ _ bLo (by decide) (by omega) (by omega)
  have yHi := hI.clo _ _ _ bHi (by decide) (by omega) (by omega)
  have yMm := hI.clo _ _ _ bMm (by decide) (by omega) (by omega)
  have HI := Hid.mk2 hI
  have HQ := Hid.mk2 hQ
  have HK := Hid.mk2 hK
  have HL := Hid.mk2 yLo
  have HH := Hid.mk2 yHi
  have HM := Hid.mk2 yMm
  obtain ⟨vm, hMm⟩ := hI.at'
  have HMm := Hid.mk2 hMm
  clear hI hQ hK bMm bLo bHi yLo yHi yMm hMm
  by_cases hz : gl = 0
  · subst hz
    have hG : G = [] := List.eq_nil_of_length_eq_zero hGL
    have hMl := HMm.out
    rw [if_pos hG] at hMl
    have hC := callsIn_wide (n := 2).2 (len_any Y _ _ vm L hMl)
    have HE : Hid (∀ tmps, tmps.getD 8 undef = .pointer (some ⟨W.heap.size, 0, none⟩) → LeavesInM Fence.wide 3 Try.prog Try.f5 tmps (fun e W' => e = .returned (.bool true) ∧ Below W.heap.size W W') [{ target := .collected D, args := #[] }] .returning (Y.setCell ⟨W.heap.size, 0, none⟩ (.bool true))) := by
      intro tmps ht
      have hb := HI.out.bel
      have hs := hb.size
      refine ⟨by simp, .inl ⟨_, _, rfl, run_takeDeferred (setCell_block _ HK.out (by omega)), ?_⟩⟩
      refine ⟨_, results_true rfl _ _ W.heap.size ht ?_, rfl, ?_⟩
      · exact (HI.out.res.set _).kept (grownBy_putObj' _ D _) (by intro e; cases e; omega)
      · exact (hb.setCell (by show W.heap.size ≤ W.heap.size; omega) _).trans (belowK_b (w := W) (Nat.le_refl _) _ D _ _ (by omega) (setCell_block _ HK.out (by omega)) rfl rfl)
    by_cases hLz : L.length = 0
    · rw [hLz] at hC
      clear hMl hLz
      gi_wp2
      refine ⟨trivial, hC.mono ?_⟩
      rintro e w' ⟨rfl, rfl⟩
      clear hC
      gi_wp2
      rw [← HQ.out]
      exact HE.out _ rfl
    · have hLe : ((L.length : Int) == 0) = false := beq_eq_false_iff_ne.2 (by omega)
      clear hMl
      gi_wp2
      refine ⟨trivial, hC.mono ?_⟩
      rintro e w' ⟨rfl, rfl⟩
      clear hC
      gi_wp2
      rw [← HQ.out]
      exact HE.out _ rfl
  · have hp : (0 : Int) < (gl : Int) := by omega
    have hMl := HMm.out
    rw [if_neg (by intro e; rw [e] at hGL; simp at hGL; omega)] at hMl
    have HMl := Hid.mk2 hMl
    clear hMl
    gi_wp2
    have bLo : Boxed Y (w8.heap.size + 1) 23 (.int .u64 lo) := HL.out
    have bHi : Boxed Y (w8.heap.size + 2) 23 (.int .u64 hi) := HH.out
    have bMm : Boxed Y w8.heap.size 24 (.pointer (some ⟨W.heap.size + 1, 0, none⟩)) := HM.out
    have hMl := HMl.out
    have eb : blkAt Y (W.heap.size + 1) = vm.ownBlock := by rw [blkAt, hMl.cell]
    have hne : ∀ b ty u, Boxed Y b ty u → ty ≠ 45 → blkAt Y (W.heap.size + 1) ≠ some b := fun b ty u hb hty e => by
      rw [eb] at e
      obtain ⟨cur, hcur⟩ := own_type hMl.own e
      exact block_ne hb hcur hty rfl
    refine wpIn_rangeFunc_ownH rfl (by decide) (gf := 38) (lb := #[.pointer (some ⟨w8.heap.size + 1, 0, none⟩), .pointer (some ⟨w8.heap.size + 2, 0, none⟩), .pointer (some ⟨w8.heap.size, 0, none⟩)]) rfl trivial (enters_of Try.func38 (by kernel_rfl) rfl)
      (with_stops 2 (w8.heap.size + 1) (w8.heap.size + 2) w8.heap.size (W.heap.size + 1) (W.heap.size + 1) (W.heap.size + 1) (w8.heap.size + 1 + 1 + 1) vm [] lo hi Y hMl (by simp) bN.lt hMl.lt (fun g hg => by rw [eb] at hg; exact (hMl.own.lt g hg).2) ⟨⟨_, bLo, rfl⟩, by omega, by omega, hne _ _ _ bLo (by decide)⟩ ⟨⟨_, bHi, rfl⟩, by omega, by omega, hne _ _ _ bHi (by decide)⟩ bLo.cell bHi.cell bMm.cell)
      (fun h k => h.trans k) (KpS.put hMl.lt) (Below.refl _ _) (fun _ => rfl)
      (fun _ Z => Below Y.heap.size Y Z) (fun _ _ _ => False)
      (ownFrom_below (Nat.le_refl _) (Nat.le_refl _)) (fun c => ownFrom_pure _ (fun _ => False)) (Below.refl _ _)
      (fun _ _ _ => True) (fun x a' => ownFrom_pure _ (fun _ => True))
      ?assign ?body ?done ?stop
    case assign =>
      rintro l pre x Z K hZ hK'
      exact wpIn_skip (hK' _ _ (KeepsFrom.refl _ _) (KpS.refl _ _ _) hZ trivial)
    case body =>
      rintro l pre x a' Z _ _ _ _ hlt
      rw [goesL_nil] at hlt
      exact absurd hlt (by simp)
    case stop =>
      rintro D2 c pre Z _ _ h _
      exact h.elim
    case done =>
      rintro D2 xs Z hD2 _ hZ hK2
      have hMz := hMl.keep hZ
      have c14 := (bN.kept (below_grown hZ) (by simp)).cell
      have c9 := (HI.out.map.kept (below_grown hZ) (by simp)).cell
      have bRz := HI.out.res.kept (below_grown hZ) (by simp)
      have c8 := bRz.cell
      have f8 := bRz.frozen
      have hKD : Z.heap[D]? = some (.deferred (some [])) := by
        rw [hZ.block D (Array.getElem?_eq_some_iff.1 HK.out).1]
        exact HK.out
      have hC := callsIn_wide (n := 2).2 (len_any Z _ _ vm [] hMz)
      have HE : Hid (∀ tmps, tmps.getD 8 undef = .pointer (some ⟨W.heap.size, 0, none⟩) → LeavesInM Fence.wide 3 Try.prog Try.f5 tmps (fun e W' => e = .returned (.bool true) ∧ Below W.heap.size W W') [{ target := .collected D2, args := #[] }, { target := .collected D, args := #[] }] .returning (Z.setCell ⟨W.heap.size, 0, none⟩ (.bool true))) := by
        intro tmps ht
        have hb := below_go HI.out.bel hZ
        have hs := HI.out.bel.size
        have hDl := (Array.getElem?_eq_some_iff.1 HK.out).1
        have e2 : (Z.setCell ⟨W.heap.size, 0, none⟩ (.bool true)).heap[D2]? = some (.deferred (some [])) := setCell_block _ hK2 (by omega)
        have e1 : ((Z.setCell ⟨W.heap.size, 0, none⟩ (.bool true)).putObj D2 (.deferred none)).heap[D]? = some (.deferred (some [])) := by
          rw [(grownBy_putObj' _ D2 _).block D (by simp; have := hZ.size; omega) (by intro e; cases e; omega)]
          exact setCell_block _ hKD (by omega)
        refine ⟨by simp, .inl ⟨_, _, rfl, run_takeDeferred e2, ?_⟩⟩
        refine ⟨by simp, .inl ⟨_, _, rfl, run_takeDeferred e1, ?_⟩⟩
        refine ⟨_, results_true rfl _ _ W.heap.size ht ?_, rfl, ?_⟩
        · exact ((bRz.set _).kept (grownBy_putObj' _ D2 _) (by intro e; cases e; omega)).kept (grownBy_putObj' _ D _) (by intro e; cases e; omega)
        · exact ((hb.setCell (by show W.heap.size ≤ W.heap.size; omega) _).trans (belowK_b (w := W) (Nat.le_refl _) _ D2 _ _ (by omega) e2 rfl rfl)).trans (belowK_b (w := W) (Nat.le_refl _) _ D _ _ (by omega) e1 rfl rfl)
      clear hMz hMl bRz bLo bHi bMm hK2 hKD hZ
      gi_wp2
      refine ⟨trivial, hC.mono ?_⟩
      rintro e w' ⟨rfl, rfl⟩
      clear hC
      gi_wp2
      rw [← HQ.out]
      exact HE.out _ rfl
end Go.Proofs.Ytliiblaodhcjhab
