import Derived.Test.YtliiblaodhcjhabWithD
namespace Go.Proofs.Ytliiblaodhcjhab
open Go.RowKit Go.Shelf
set_option linter.unusedVariables false
attribute [local go_sem] Oper.semAt_some

theorem takeM_len {G : List (Sp Int)} {most : Int} : (takeM G most).length ≤ G.length := by
  rw [takeM]
  split
  · exact Nat.le_refl _
  · rw [List.length_take]
    omega

set_option maxRecDepth 100000 in
set_option maxHeartbeats 8000000 in
theorem from10_any {t0 t4 t5 t6 t7 t10 t16 t17 t18 t19 t20 t21 t22 t23 t24 t25 t26 t27 t28 t29 t30 t31 t32 t33 t34 t35 t36 t37 t38 t39 t40 t41 t42 t43 t44 t45 t46 t47 t48 t49 : Value} (W w6 : World) (Bm Bw lw : Nat) (wa fa : Option Addr) (wc gl fl fc : Nat) (L : List (Sp Int)) (lo hi stop : Int) (v : Value)
    (hM6 : MapAt w6 (W.heap.size + 1) (W.heap.size + 1) v L) (hL : L.length ≤ 3000000) (hGL : (goesL lo hi L).length = gl) (hgl : gl ≤ 3000000)
    (bM6 : Boxed w6 Bm 24 (.pointer (some ⟨W.heap.size + 1, 0, none⟩))) (bW6 : Boxed w6 Bw 36 (.slice wa gl wc)) (bR6 : Boxed w6 W.heap.size 4 (.bool false))
    (hW6 : w6.ownsRow lw 47 3 (.slice wa gl wc) gl (cellsI (goesL lo hi L))) (hF6 : Lr w6 lw (.slice fa fl fc) (takeM (goesL lo hi L) stop)) (hBW6 : Below W.heap.size W w6)
    (n2 : Bw ≠ W.heap.size + 1) (n3 : Bm ≠ W.heap.size + 1) :
    (from10 Try.f5).wpIn Fence.wide 3 Try.prog (bodyPostM Fence.wide 3 Try.prog Try.f5 fun e W' => e = .returned (.bool true) ∧ Below W.heap.size W W') { tmps := #[t0, .int .u64 lo, .int .u64 hi, .int .i64 stop, t4, t5, t6, t7, .pointer (some ⟨W.heap.size, 0, none⟩), .pointer (some ⟨Bm, 0, none⟩), t10, .pointer (some ⟨Bw, 0, none⟩), .slice fa fl fc, undef, undef, undef, t16, t17, t18, t19, t20, t21, t22, t23, t24, t25, t26, t27, t28, t29, t30, t31, t32, t33, t34, t35, t36, t37, t38, t39, t40, t41, t42, t43, t44, t45, t46, t47, t48, t49, undef, undef, undef, undef, undef, undef, undef, undef, undef, undef, undef, undef, undef, undef, undef, undef, undef, undef, undef, undef, undef, undef, undef, undef, undef, undef, undef, undef, undef, undef, undef, undef, undef, undef, undef, undef, undef, undef, undef, undef, undef, undef, undef, undef, undef, undef, undef, undef, undef, undef], defers := [] } w6 := by
  generalize hQ : bodyPostM Fence.wide 3 Try.prog Try.f5 (fun e W' => e = .returned (.bool true) ∧ Below W.heap.size W W') = Q
  simp only [from10, sq2, Try.f5, Option.getD]
  have cM6 := bM6.cell
  have HQ := Hid.mk2 hQ
  clear hQ
  have hP := callsIn_wide (n := 2).2 (pieces_any w6 _ _ v L lo hi stop hM6 hL)
  gi_wp2
  rename_i K0 hK0 Ka hKa K1 hK1
  have HK0 := Hid.mk2 hK0
  clear hK0
  refine ⟨trivial, hP.mono ?_⟩
  rintro e w7 ⟨v7, rfl, hL7, hb7⟩
  clear hP
  have hA := callsIn_wide (n := 2).2 (alike_any w7 _ _ v7 (.slice fa fl fc) _ hL7 (row_keep hF6 hb7) (Nat.le_trans takeM_len (by omega)))
  obtain ⟨la7, lc7, rfl⟩ := slice_form hL7
  clear hL7
  gi_wp2
  refine ⟨trivial, hA.mono ?_⟩
  rintro e w8 ⟨rfl, hb8⟩
  have hB8 := below_go hb7 hb8
  clear hA hb7 hb8
  gi_wp2
  refine HK0.out _ _ ?_
  rw [← HQ.out]
  exact from12_any W w8 Bm Bw lw wa wc gl L lo hi v (hM6.keep hB8) hL hGL hgl (bM6.kept (below_grown hB8) (by simp)) (bW6.kept (below_grown hB8) (by simp)) (bR6.kept (below_grown hB8) (by simp)) (row_keep hW6 hB8) (below_go hBW6 hB8) n2 n3
end Go.Proofs.Ytliiblaodhcjhab
