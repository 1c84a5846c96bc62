import Derived.Test.YtbbnodhpafiplaaDoorOa
import Derived.Test.YtbbnodhpafiplaaDoorMQ8
namespace Go.Proofs.YtbbnodhpafiplaaDoor
open Go.ChangeShapes Go.WideShapes Go.ChangeAt Go.RowKit Go.Deep
set_option linter.unusedVariables false
set_option linter.unusedSimpArgs false
theorem bytes_op : Tryd.prog.bytesOf 44 = 120 := by kernel_rfl
theorem bytes_blo : Tryd.prog.bytesOf 38 = 56 := by kernel_rfl
set_option maxRecDepth 1000000 in
theorem weigh {H : Type} {enc : TypeId × Value → H} {W : World} {t e : TypeId} {fuel : Nat} {a : Option Addr} {len cap : Nat} {d : DataW H} {ps : List MemPlace} (R : Nat) (ht : Tryd.prog.underlying t = some (.slice e))
    (h : DataW.trod enc Tryd.prog W 0 (fun _ => true) true fuel t (Value.slice a len cap).cells.toList = some (d, ps)) (hw : (d.weights Tryd.prog t).all (· ≤ R) = true) : len * Tryd.prog.bytesOf e ≤ R := by
  rcases open_slice (x := (d, ps)) ht h with ⟨hcs, _⟩ | ⟨a', len', cap', m, n, D, Pl, hcs, _, hl, _, _, hx, _⟩
  · have hcs2 : Value.slice a len cap = .slice none 0 0 := by
      have h1 : (Value.slice a len cap).cells.toList = [Value.slice a len cap] := rfl
      rw [h1] at hcs
      injection hcs
    injection hcs2 with _ e2 _
    have h0 : len * Tryd.prog.bytesOf e = 0 := by rw [e2, Nat.zero_mul]
    exact Nat.le_trans (Nat.le_of_eq h0) (Nat.zero_le _)
  · have hcs2 : Value.slice a len cap = .slice (some a') len' cap' := by
      have h1 : (Value.slice a len cap).cells.toList = [Value.slice a len cap] := rfl
      rw [h1] at hcs
      injection hcs
    injection hcs2 with e1 e2 e3
    subst e1 e2 e3
    obtain ⟨rfl, rfl⟩ := Prod.mk.inj hx
    simp only [DataW.weights, ht, List.all_cons, Bool.and_eq_true, decide_eq_true_eq, List.length_map, List.length_range] at hw
    exact Nat.le_trans (Nat.mul_le_mul_right _ (Nat.le_add_right _ _)) hw.1
/-- A list of numbers, a list of blocks, in memory. -/
def IsI (W : World) (a : Option Addr) (zs : List Int) : Prop := (∀ i z, zs[i]? = some z → ∃ b off, a = some ⟨b, off, none⟩ ∧ b < W.heap.size ∧ W.cell? ⟨b, off + i, none⟩ = some (.int .i64 z)) ∧ ∀ z ∈ zs, -9223372036854775808 ≤ z ∧ z ≤ 9223372036854775807
def IsK (W : World) (a : Option Addr) (ks : List Blo) : Prop := (∀ i x, ks[i]? = some x → ∃ b off, a = some ⟨b, off, none⟩ ∧ b < W.heap.size ∧ ∀ j v, ([.int .i64 x.asid, .int .i64 x.t.size, .int .u32 x.t.va, .int .u64 x.t.pa, .int .i64 x.t.dom, .int .i64 x.t.ap, .int .u32 x.t.bits, .bool x.t.ng, .bool x.t.xn])[j]? = some v → W.cell? ⟨b, off + i * 9 + j, none⟩ = some v) ∧ ∀ x ∈ ks, BOk x
theorem open_ints {H : Type} {enc : TypeId × Value → H} {W : World} {fuel : Nat} {a : Option Addr} {len cap : Nat} {x : DataW H × List MemPlace} (h : DataW.trod enc Tryd.prog W 0 (fun _ => true) true fuel 22 (Value.slice a len cap).cells.toList = some x) :
    ∃ zs : List Int, zs.length = len ∧ IsI W a zs ∧ zs.length ≤ maxLen := by
  obtain ⟨zs, h1, h2, h3, h4⟩ := open_rows 3 1 (by omega) cells_i (fun z : Int => [Value.int .i64 z]) (fun z => -9223372036854775808 ≤ z ∧ z ≤ 9223372036854775807) 0 (fun h => by
    obtain ⟨i0, e0, _, w0⟩ := DataW.trod_int Tryd.underlying3 h
    have b0 := bounds_i64 w0
    exact ⟨i0, e0, by omega, by omega⟩) (fun _ => rfl) Tryd.underlying22 h
  refine ⟨zs, h1, ⟨fun i z hz => ?_, h3⟩, h4⟩
  obtain ⟨b, off, ha, hb, hc⟩ := h2 i z hz
  refine ⟨b, off, ha, hb, ?_⟩
  have := hc 0 _ rfl
  rw [Nat.mul_one, Nat.add_zero] at this
  exact this
theorem open_blos {H : Type} {enc : TypeId × Value → H} {W : World} {fuel : Nat} {a : Option Addr} {len cap : Nat} {x : DataW H × List MemPlace} (h : DataW.trod enc Tryd.prog W 0 (fun _ => true) true fuel 24 (Value.slice a len cap).cells.toList = some x) :
    ∃ ks : List Blo, ks.length = len ∧ IsK W a ks ∧ ks.length ≤ maxLen := by
  obtain ⟨ks, h1, h2, h3, h4⟩ := open_rows 38 9 (by omega) cells_blo (fun b : Blo => [.int .i64 b.asid, .int .i64 b.t.size, .int .u32 b.t.va, .int .u64 b.t.pa, .int .i64 b.t.dom, .int .i64 b.t.ap, .int .u32 b.t.bits, .bool b.t.ng, .bool b.t.xn]) BOk bZ (fun h => by obtain ⟨b, e, _, wf⟩ := blo_read h; exact ⟨b, e, wf.ok⟩) (fun _ => rfl) Tryd.underlying24 h
  exact ⟨ks, h1, ⟨h2, h3⟩, h4⟩
end Go.Proofs.YtbbnodhpafiplaaDoor
namespace Go.Proofs.YtbbnodhpafiplaaDoor
open Go.RowKit
set_option linter.unusedVariables false
set_option linter.unusedSimpArgs false
/-- The lists below n are full of their marks. -/
def Mk (R : List (Nat × List Slo)) (n : Nat) : Prop := ∀ m p, m < n → R[m]? = some p → p.2 = List.replicate p.2.length (mk m)
theorem Mk.set {R : List (Nat × List Slo)} {n : Nat} (h : Mk R n) (g l : Nat) : Mk (R.set n (g, List.replicate l (mk n))) (n + 1) := by
  intro m p hm hp
  rw [List.getElem?_set] at hp
  split at hp
  · rename_i e
    subst e
    split at hp
    · injection hp with hp
      rw [← hp]
      simp
    · cases hp
  · exact h m p (by omega) hp
set_option maxRecDepth 1000000 in
set_option maxHeartbeats 64000000 in
theorem own_C {v0 v1 v2 v3 v4 v5 v6 v7 v8 v9 v10 v11 v13 v14 v15 v16 v18 v19 v20 v21 v22 v23 v24 v25 v26 v27 v28 v29 v30 v31 v32 v33 v34 v35 v36 v37 v38 v39 v40 v41 v42 v43 v44 v45 v46 v47 v48 v49 v50 v51 v52 v53 v54 v55 v56 v57 v58 v59 v60 v61 v62 v63 v64 v65 v66 v67 v68 v69 v70 v71 v72 v73 v74 v75 v76 v77 v78 v79 v80 v81 v82 v83 v84 v85 v86 v87 v88 v89 v90 v91 v92 v93 v94 v95 v96 v97 v98 v99 v100 v101 v102 v103 v104 v105 v106 v107 v108 v109 v110 v111 v112 v113 v114 v115 v116 v117 v118 v119 v120 v121 v122 v123 v124 v125 v126 v127 v128 v129 v130 v131 v132 v133 v134 v135 v136 v137 v138 v139 v140 v141 v142 v143 v144 v145 v146 v147 v148 v149 v150 v151 v152 v153 v154 v155 : Value} {Q : Exit → Act → World → Prop} (W wr : World) (A B : Ad) (X : Hi) (G cp ha rl fr : Nat) (R : List (Nat × List Slo)) (HRl : Hid (R.length = rl)) (hfr : fr ≤ rl) (hn2 : rl ≤ 70368744177664) (HMk : Hid (Mk R fr)) (HX : Hid (HH W wr A B X G (.slice (some ⟨ha, 0, none⟩) rl cp) R))
    (HQ : Hid (∀ {u17 u18 u19 u20 u80 u81 u82 u83 u84 u85 u86 u87 u88 u89 u90 u91 u92 u93 u94 u95 u96 u97 u98 u99 u100 u101 u102 u103 u104 u105 u106 u107 u108 u109 u110 u111 u112 u113 u114 u115 u116 u117 : Value} {w : World} {R' : List (Nat × List Slo)}, R'.length = rl → Mk R' rl → HH W w A B X G (.slice (some ⟨ha, 0, none⟩) rl cp) R' → Q (.exit 6) ⟨(v0 :: v1 :: v2 :: v3 :: v4 :: v5 :: v6 :: v7 :: v8 :: v9 :: v10 :: v11 :: (.slice (some ⟨ha, 0, none⟩) rl cp) :: v13 :: v14 :: v15 :: v16 :: u17 :: u18 :: u19 :: u20 :: v21 :: v22 :: v23 :: v24 :: v25 :: v26 :: v27 :: v28 :: v29 :: v30 :: v31 :: v32 :: v33 :: v34 :: v35 :: v36 :: v37 :: v38 :: v39 :: v40 :: v41 :: v42 :: v43 :: v44 :: v45 :: v46 :: v47 :: v48 :: v49 :: v50 :: v51 :: v52 :: v53 :: v54 :: v55 :: v56 :: v57 :: v58 :: v59 :: v60 :: v61 :: v62 :: v63 :: v64 :: v65 :: v66 :: v67 :: v68 :: v69 :: v70 :: v71 :: v72 :: v73 :: v74 :: v75 :: v76 :: v77 :: v78 :: v79 :: u80 :: u81 :: u82 :: u83 :: u84 :: u85 :: u86 :: u87 :: u88 :: u89 :: u90 :: u91 :: u92 :: u93 :: u94 :: u95 :: u96 :: u97 :: u98 :: u99 :: u100 :: u101 :: u102 :: u103 :: u104 :: u105 :: u106 :: u107 :: u108 :: u109 :: u110 :: u111 :: u112 :: u113 :: u114 :: u115 :: u116 :: u117 :: v118 :: v119 :: v120 :: v121 :: v122 :: v123 :: v124 :: v125 :: v126 :: v127 :: v128 :: v129 :: v130 :: v131 :: v132 :: v133 :: v134 :: v135 :: v136 :: v137 :: v138 :: v139 :: v140 :: v141 :: v142 :: v143 :: v144 :: v145 :: v146 :: v147 :: v148 :: v149 :: v150 :: v151 :: v152 :: v153 :: v154 :: v155 :: []).toArray, []⟩ w)) :
    (Code.loop (in6 Tryd.f6)).wp Tryd.prog Q ⟨(v0 :: v1 :: v2 :: v3 :: v4 :: v5 :: v6 :: v7 :: v8 :: v9 :: v10 :: v11 :: (.slice (some ⟨ha, 0, none⟩) rl cp) :: v13 :: v14 :: v15 :: v16 :: (.int .i64 (fr : Int)) :: v18 :: v19 :: v20 :: v21 :: v22 :: v23 :: v24 :: v25 :: v26 :: v27 :: v28 :: v29 :: v30 :: v31 :: v32 :: v33 :: v34 :: v35 :: v36 :: v37 :: v38 :: v39 :: v40 :: v41 :: v42 :: v43 :: v44 :: v45 :: v46 :: v47 :: v48 :: v49 :: v50 :: v51 :: v52 :: v53 :: v54 :: v55 :: v56 :: v57 :: v58 :: v59 :: v60 :: v61 :: v62 :: v63 :: v64 :: v65 :: v66 :: v67 :: v68 :: v69 :: v70 :: v71 :: v72 :: v73 :: v74 :: v75 :: v76 :: v77 :: v78 :: v79 :: v80 :: v81 :: v82 :: v83 :: v84 :: v85 :: v86 :: v87 :: v88 :: v89 :: v90 :: v91 :: v92 :: v93 :: v94 :: v95 :: v96 :: v97 :: v98 :: v99 :: v100 :: v101 :: v102 :: v103 :: v104 :: v105 :: v106 :: v107 :: v108 :: v109 :: v110 :: v111 :: v112 :: v113 :: v114 :: v115 :: v116 :: v117 :: v118 :: v119 :: v120 :: v121 :: v122 :: v123 :: v124 :: v125 :: v126 :: v127 :: v128 :: v129 :: v130 :: v131 :: v132 :: v133 :: v134 :: v135 :: v136 :: v137 :: v138 :: v139 :: v140 :: v141 :: v142 :: v143 :: v144 :: v145 :: v146 :: v147 :: v148 :: v149 :: v150 :: v151 :: v152 :: v153 :: v154 :: v155 :: []).toArray, []⟩ wr := by
  conv => arg 2; arg 1; whnf
  go_loopw [17] (fun i wr => ∃ (n : Nat) (R' : List (Nat × List Slo)), n ≤ rl ∧ i = .int .i64 n ∧ R'.length = rl ∧ Mk R' n ∧ HH W wr A B X G (.slice (some ⟨ha, 0, none⟩) rl cp) R') (fun i _ => rl - (intOf i).toNat)
  case atStart => exact ⟨fr, R, hfr, rfl, HRl.out, HMk.out, HX.out⟩
  case round =>
    clear HX HMk HRl
    obtain ⟨n, R', hn, rfl, hrl, hmk, hX⟩ := hrel
    have HX := hidW hX
    have HRl := hidW hrl
    have HMk := hidW hmk
    clear hX hrl hmk
    by_cases hlt : n < rl
    · obtain ⟨⟨g, L⟩, hp⟩ : ∃ p, R'[n]? = some p := ⟨_, List.getElem?_eq_getElem (by rw [HRl.out]; exact hlt)⟩
      have HR := hidW hp
      have hl := (HX.out.len _ (List.mem_of_getElem? hp)).2
      clear hp
      dsimp only at hl
      generalize hll : L.length = l at *
      have HL := hidW hll
      clear hll
      go_wp2
      refine own_M W _ A B X G n cp ha g l rl R' L HRl hlt hn2 HL hl HR HX ?_
      refine hidW ?_
      intros
      rename_i wq hX
      have HX := hidW hX
      clear hX
      have HRn : Hid ((R'.set n (g, List.replicate l (mk n)))[n]? = some (g, List.replicate l (mk n))) := hidW (by rw [List.getElem?_set_self (by rw [HRl.out]; exact hlt)])
      obtain ⟨g2, e2, hc⟩ := HX.out.held HRn.out
      injection e2 with e2
      injection e2 with e2 _ _
      subst e2
      have hc2 : wq.cell? ⟨ha, n, none⟩ = some (.slice (some ⟨g, 0, none⟩) l l) := by rw [hc]; unfold sv; rw [List.length_replicate]
      clear hc
      have HBl := hidW (HX.out.rows _ (List.mem_of_getElem? HRn.out))
      clear HRn
      go_wp2
      refine own_A _ g l (List.replicate l (mk n)) (hidW List.length_replicate) hl HBl ?_
      refine hidW ?_
      intros
      rename_i wy hb
      replace HX := hidW (HX.out.step hb)
      clear hb HBl hc2
      have HRl2 : Hid ((R'.set n (g, List.replicate l (mk n))).length = rl) := hidW (by rw [List.length_set]; exact HRl.out)
      have HMk2 := hidW (HMk.out.set g l)
      clear HR HL HMk HRl
      go_wp2
      go_roundw
      case rel => exact ⟨n + 1, _, by omega, by go_num, HRl2.out, HMk2.out, HX.out⟩
      case measure => simp [intOf]; omega
    · obtain rfl : n = rl := by omega
      go_wp2
      exact HQ.out HRl.out HMk.out HX.out
end Go.Proofs.YtbbnodhpafiplaaDoor
namespace Go.Proofs.YtbbnodhpafiplaaDoor
open Go.RowKit
set_option linter.unusedVariables false
set_option linter.unusedSimpArgs false
set_option maxRecDepth 1000000 in
set_option maxHeartbeats 64000000 in
theorem own_E {v0 v1 v2 v3 v4 v5 v6 v7 v8 v9 v10 v11 v13 v14 v15 v16 v17 v18 v19 v20 v23 v24 v25 v26 v27 v28 v29 v30 v31 v32 v33 v34 v35 v36 v37 v38 v39 v40 v41 v42 v43 v44 v45 v46 v47 v48 v49 v50 v51 v52 v53 v54 v55 v56 v57 v58 v59 v60 v61 v62 v63 v64 v65 v66 v67 v68 v69 v70 v71 v72 v73 v74 v75 v76 v77 v78 v79 v80 v81 v82 v83 v84 v85 v86 v87 v88 v89 v90 v91 v92 v93 v94 v95 v96 v97 v98 v99 v100 v101 v102 v103 v104 v105 v106 v107 v108 v109 v110 v111 v112 v113 v114 v115 v116 v117 v118 v119 v120 v121 v122 v123 v124 v125 v126 v127 v128 v129 v130 v131 v132 v133 v134 v135 v136 v137 v138 v139 v140 v141 v142 v143 v144 v145 v146 v147 v148 v149 v150 v151 v152 v153 v154 v155 : Value} {Q : Exit → Act → World → Prop} (W w0 : World) (A B : Ad) (X : Hi) (G n cp ha g l rl : Nat) (R : List (Nat × List Slo)) (hn : n < rl) (hn2 : rl ≤ 70368744177664) (hl : l ≤ 64) (HR : Hid (R[n]? = some (g, List.replicate l (mk n)))) (HX : Hid (HH W w0 A B X G (.slice (some ⟨ha, 0, none⟩) rl cp) R))
    (HQ : Hid (∀ {u8 u22 u135 u136 u137 u138 u139 u140 u141 u142 u143 u144 u145 u146 u147 u148 u149 u150 u151 u152 u153 u154 u155 : Value}, Q (.exit 14) ⟨(v0 :: v1 :: v2 :: v3 :: v4 :: v5 :: v6 :: v7 :: u8 :: v9 :: v10 :: v11 :: (.slice (some ⟨ha, 0, none⟩) rl cp) :: v13 :: v14 :: v15 :: v16 :: v17 :: v18 :: v19 :: v20 :: (.int .i64 (n : Int)) :: u22 :: v23 :: v24 :: v25 :: v26 :: v27 :: v28 :: v29 :: v30 :: v31 :: v32 :: v33 :: v34 :: v35 :: v36 :: v37 :: v38 :: v39 :: v40 :: v41 :: v42 :: v43 :: v44 :: v45 :: v46 :: v47 :: v48 :: v49 :: v50 :: v51 :: v52 :: v53 :: v54 :: v55 :: v56 :: v57 :: v58 :: v59 :: v60 :: v61 :: v62 :: v63 :: v64 :: v65 :: v66 :: v67 :: v68 :: v69 :: v70 :: v71 :: v72 :: v73 :: v74 :: v75 :: v76 :: v77 :: v78 :: v79 :: v80 :: v81 :: v82 :: v83 :: v84 :: v85 :: v86 :: v87 :: v88 :: v89 :: v90 :: v91 :: v92 :: v93 :: v94 :: v95 :: v96 :: v97 :: v98 :: v99 :: v100 :: v101 :: v102 :: v103 :: v104 :: v105 :: v106 :: v107 :: v108 :: v109 :: v110 :: v111 :: v112 :: v113 :: v114 :: v115 :: v116 :: v117 :: v118 :: v119 :: v120 :: v121 :: v122 :: v123 :: v124 :: v125 :: v126 :: v127 :: v128 :: v129 :: v130 :: v131 :: v132 :: v133 :: v134 :: u135 :: u136 :: u137 :: u138 :: u139 :: u140 :: u141 :: u142 :: u143 :: u144 :: u145 :: u146 :: u147 :: u148 :: u149 :: u150 :: u151 :: u152 :: u153 :: u154 :: u155 :: []).toArray, []⟩ w0)) :
    (Code.loop (in14 Tryd.f6)).wp Tryd.prog Q ⟨(v0 :: v1 :: v2 :: v3 :: v4 :: v5 :: v6 :: v7 :: v8 :: v9 :: v10 :: v11 :: (.slice (some ⟨ha, 0, none⟩) rl cp) :: v13 :: v14 :: v15 :: v16 :: v17 :: v18 :: v19 :: v20 :: (.int .i64 (n : Int)) :: (.int .i64 0) :: v23 :: v24 :: v25 :: v26 :: v27 :: v28 :: v29 :: v30 :: v31 :: v32 :: v33 :: v34 :: v35 :: v36 :: v37 :: v38 :: v39 :: v40 :: v41 :: v42 :: v43 :: v44 :: v45 :: v46 :: v47 :: v48 :: v49 :: v50 :: v51 :: v52 :: v53 :: v54 :: v55 :: v56 :: v57 :: v58 :: v59 :: v60 :: v61 :: v62 :: v63 :: v64 :: v65 :: v66 :: v67 :: v68 :: v69 :: v70 :: v71 :: v72 :: v73 :: v74 :: v75 :: v76 :: v77 :: v78 :: v79 :: v80 :: v81 :: v82 :: v83 :: v84 :: v85 :: v86 :: v87 :: v88 :: v89 :: v90 :: v91 :: v92 :: v93 :: v94 :: v95 :: v96 :: v97 :: v98 :: v99 :: v100 :: v101 :: v102 :: v103 :: v104 :: v105 :: v106 :: v107 :: v108 :: v109 :: v110 :: v111 :: v112 :: v113 :: v114 :: v115 :: v116 :: v117 :: v118 :: v119 :: v120 :: v121 :: v122 :: v123 :: v124 :: v125 :: v126 :: v127 :: v128 :: v129 :: v130 :: v131 :: v132 :: v133 :: v134 :: v135 :: v136 :: v137 :: v138 :: v139 :: v140 :: v141 :: v142 :: v143 :: v144 :: v145 :: v146 :: v147 :: v148 :: v149 :: v150 :: v151 :: v152 :: v153 :: v154 :: v155 :: []).toArray, []⟩ w0 := by
  conv => arg 2; arg 1; whnf
  have t1 : IntKind.i64.wrap (-9 - (n : Int)) = -9 - (n : Int) := by rw [IntKind.wrap_i64]; omega
  have he : ∀ w, (Op.equalIn 10000 57 (.agg #[.bool true, .int .i64 (-9 - (n : Int)), .int .i64 0, .int .u32 0, .int .u64 0, .int .i64 0, .int .i64 0, .int .u32 0, .bool false, .bool false]) (.agg #[.bool true, .int .i64 (-9 - (n : Int)), .int .i64 0, .int .u32 0, .int .u64 0, .int .i64 0, .int .i64 0, .int .u32 0, .bool false, .bool false])).run Tryd.prog w = .ok true w := fun w => by
    have := eqS (mk n) (mk n) w
    rw [Slo.same_self] at this
    exact this
  obtain ⟨g2, e2, hc⟩ := HX.out.held HR.out
  injection e2 with e2
  injection e2 with e2 _ _
  subst e2
  have hc2 : w0.cell? ⟨ha, n, none⟩ = some (.slice (some ⟨g, 0, none⟩) l l) := by rw [hc]; unfold sv; rw [List.length_replicate]
  have HBl := hidW (HX.out.rows _ (List.mem_of_getElem? HR.out))
  clear hc
  go_loopw [22] (fun i wr => ∃ j : Nat, j ≤ l ∧ i = .int .i64 j ∧ wr = w0) (fun i _ => l - (intOf i).toNat)
  case atStart => exact ⟨0, by omega, rfl, rfl⟩
  case round =>
    obtain ⟨j, hj, rfl, hww⟩ := hrel
    subst hww
    by_cases hlj : j < l
    · have hs : (List.replicate l (mk n))[j]? = some (mk n) := by rw [List.getElem?_replicate, if_pos hlj]
      obtain ⟨x0, x1, x2, x3, x4, x5, x6, x7, x8, x9⟩ : wr.cell? ⟨g, j * 10, none⟩ = some (.bool true) ∧ wr.cell? ⟨g, j * 10 + 1, none⟩ = some (.int .i64 (-9 - (n : Int))) ∧ wr.cell? ⟨g, j * 10 + 2, none⟩ = some (.int .i64 0) ∧ wr.cell? ⟨g, j * 10 + 3, none⟩ = some (.int .u32 0) ∧ wr.cell? ⟨g, j * 10 + 4, none⟩ = some (.int .u64 0) ∧ wr.cell? ⟨g, j * 10 + 5, none⟩ = some (.int .i64 0) ∧ wr.cell? ⟨g, j * 10 + 6, none⟩ = some (.int .i64 0) ∧ wr.cell? ⟨g, j * 10 + 7, none⟩ = some (.int .u32 0) ∧ wr.cell? ⟨g, j * 10 + 8, none⟩ = some (.bool false) ∧ wr.cell? ⟨g, j * 10 + 9, none⟩ = some (.bool false) := rowS_cells HBl.out hs
      clear hs
      go_wp2
      go_roundw
      case rel => exact ⟨j + 1, by omega, by go_num, (by first | rfl | trivial)⟩
      case measure => simp [intOf]; omega
    · obtain rfl : j = l := by omega
      go_wp2
      exact HQ.out
set_option maxRecDepth 1000000 in
set_option maxHeartbeats 64000000 in
theorem own_D {v0 v1 v2 v4 v5 v6 v7 v8 v9 v10 v11 v14 v15 v16 v17 v18 v19 v20 v22 v23 v24 v25 v26 v27 v28 v29 v30 v31 v32 v33 v34 v35 v36 v37 v38 v39 v40 v41 v42 v43 v44 v45 v46 v47 v48 v49 v50 v51 v52 v53 v54 v55 v56 v57 v58 v59 v60 v61 v62 v63 v64 v65 v66 v67 v68 v69 v70 v71 v72 v73 v74 v75 v76 v77 v78 v79 v80 v81 v82 v83 v84 v85 v86 v87 v88 v89 v90 v91 v92 v93 v94 v95 v96 v97 v98 v99 v100 v101 v102 v103 v104 v105 v106 v107 v108 v109 v110 v111 v112 v113 v114 v115 v116 v117 v118 v119 v120 v121 v122 v123 v124 v125 v126 v127 v128 v129 v130 v131 v132 v133 v134 v135 v136 v137 v138 v139 v140 v141 v142 v143 v144 v145 v146 v147 v148 v149 v150 v151 v152 v153 v154 v155 : Value} {Q : Exit → Act → World → Prop} (W w0 : World) (A B : Ad) (X : Hi) (G cp ha rl k sl scap : Nat) (sa : Option Addr) (R : List (Nat × List Slo)) (hks : k < sl) (hsl : sl ≤ 9223372036854775807) (HRl : Hid (R.length = rl)) (hn2 : rl ≤ 70368744177664) (HMk : Hid (Mk R rl)) (HX : Hid (HH W w0 A B X G (.slice (some ⟨ha, 0, none⟩) rl cp) R))
    (HQ : Hid (∀ {u8 u21 u22 u118 u119 u120 u121 u122 u123 u124 u125 u126 u127 u128 u129 u130 u131 u132 u133 u134 u135 u136 u137 u138 u139 u140 u141 u142 u143 u144 u145 u146 u147 u148 u149 u150 u151 u152 u153 u154 u155 : Value}, Q (.exit 12) ⟨(v0 :: v1 :: v2 :: (.slice sa sl scap) :: v4 :: v5 :: v6 :: v7 :: u8 :: v9 :: v10 :: v11 :: (.slice (some ⟨ha, 0, none⟩) rl cp) :: (.int .i64 (k : Int)) :: v14 :: v15 :: v16 :: v17 :: v18 :: v19 :: v20 :: u21 :: u22 :: v23 :: v24 :: v25 :: v26 :: v27 :: v28 :: v29 :: v30 :: v31 :: v32 :: v33 :: v34 :: v35 :: v36 :: v37 :: v38 :: v39 :: v40 :: v41 :: v42 :: v43 :: v44 :: v45 :: v46 :: v47 :: v48 :: v49 :: v50 :: v51 :: v52 :: v53 :: v54 :: v55 :: v56 :: v57 :: v58 :: v59 :: v60 :: v61 :: v62 :: v63 :: v64 :: v65 :: v66 :: v67 :: v68 :: v69 :: v70 :: v71 :: v72 :: v73 :: v74 :: v75 :: v76 :: v77 :: v78 :: v79 :: v80 :: v81 :: v82 :: v83 :: v84 :: v85 :: v86 :: v87 :: v88 :: v89 :: v90 :: v91 :: v92 :: v93 :: v94 :: v95 :: v96 :: v97 :: v98 :: v99 :: v100 :: v101 :: v102 :: v103 :: v104 :: v105 :: v106 :: v107 :: v108 :: v109 :: v110 :: v111 :: v112 :: v113 :: v114 :: v115 :: v116 :: v117 :: u118 :: u119 :: u120 :: u121 :: u122 :: u123 :: u124 :: u125 :: u126 :: u127 :: u128 :: u129 :: u130 :: u131 :: u132 :: u133 :: u134 :: u135 :: u136 :: u137 :: u138 :: u139 :: u140 :: u141 :: u142 :: u143 :: u144 :: u145 :: u146 :: u147 :: u148 :: u149 :: u150 :: u151 :: u152 :: u153 :: u154 :: u155 :: []).toArray, []⟩ w0)) :
    (Code.loop (in12 Tryd.f6)).wp Tryd.prog Q ⟨(v0 :: v1 :: v2 :: (.slice sa sl scap) :: v4 :: v5 :: v6 :: v7 :: v8 :: v9 :: v10 :: v11 :: (.slice (some ⟨ha, 0, none⟩) rl cp) :: (.int .i64 (k : Int)) :: v14 :: v15 :: v16 :: v17 :: v18 :: v19 :: v20 :: (.int .i64 0) :: v22 :: v23 :: v24 :: v25 :: v26 :: v27 :: v28 :: v29 :: v30 :: v31 :: v32 :: v33 :: v34 :: v35 :: v36 :: v37 :: v38 :: v39 :: v40 :: v41 :: v42 :: v43 :: v44 :: v45 :: v46 :: v47 :: v48 :: v49 :: v50 :: v51 :: v52 :: v53 :: v54 :: v55 :: v56 :: v57 :: v58 :: v59 :: v60 :: v61 :: v62 :: v63 :: v64 :: v65 :: v66 :: v67 :: v68 :: v69 :: v70 :: v71 :: v72 :: v73 :: v74 :: v75 :: v76 :: v77 :: v78 :: v79 :: v80 :: v81 :: v82 :: v83 :: v84 :: v85 :: v86 :: v87 :: v88 :: v89 :: v90 :: v91 :: v92 :: v93 :: v94 :: v95 :: v96 :: v97 :: v98 :: v99 :: v100 :: v101 :: v102 :: v103 :: v104 :: v105 :: v106 :: v107 :: v108 :: v109 :: v110 :: v111 :: v112 :: v113 :: v114 :: v115 :: v116 :: v117 :: v118 :: v119 :: v120 :: v121 :: v122 :: v123 :: v124 :: v125 :: v126 :: v127 :: v128 :: v129 :: v130 :: v131 :: v132 :: v133 :: v134 :: v135 :: v136 :: v137 :: v138 :: v139 :: v140 :: v141 :: v142 :: v143 :: v144 :: v145 :: v146 :: v147 :: v148 :: v149 :: v150 :: v151 :: v152 :: v153 :: v154 :: v155 :: []).toArray, []⟩ w0 := by
  conv => arg 2; arg 1; whnf
  have t1 : IntKind.i64.wrap ((sl : Int) - 1) = (sl : Int) - 1 := by rw [IntKind.wrap_i64]; omega
  go_loopw [21] (fun i wr => ∃ n : Nat, n ≤ rl ∧ i = .int .i64 n ∧ wr = w0) (fun i _ => rl - (intOf i).toNat)
  case atStart => exact ⟨0, by omega, rfl, rfl⟩
  case round =>
    obtain ⟨n, hn, rfl, hww⟩ := hrel
    subst hww
    by_cases hlt : n < rl
    · obtain ⟨⟨g, L⟩, hp⟩ : ∃ p, R[n]? = some p := ⟨_, List.getElem?_eq_getElem (by rw [HRl.out]; exact hlt)⟩
      have hl := (HX.out.len _ (List.mem_of_getElem? hp)).2
      have hm := HMk.out n _ hlt hp
      dsimp only at hl hm
      rw [hm] at hp
      have HR := hidW hp
      clear hp hm
      generalize L.length = l at *
      by_cases c1 : k < 20
      · have q1 : decide ((k : Int) < 20) = true := decide_eq_true (by omega)
        go_wp2
        refine own_E W _ A B X G n cp ha g l rl R hlt hn2 hl HR HX ?_
        refine hidW ?_
        intros
        go_wp2
        go_roundw
        case rel => exact ⟨n + 1, by omega, by go_num, (by first | rfl | trivial)⟩
        case measure => simp [intOf]; omega
      · have q1 : decide ((k : Int) < 20) = false := decide_eq_false (by omega)
        by_cases c2 : (k : Int) = (sl : Int) - 1
        · have q2 : ((k : Int) == (sl : Int) - 1) = true := by rw [beq_iff_eq]; exact c2
          have HC2 := hidW c2
          clear c2
          go_wp2
          refine own_E W _ A B X G n cp ha g l rl R hlt hn2 hl HR HX ?_
          refine hidW ?_
          intros
          go_wp2
          go_roundw
          case rel => exact ⟨n + 1, by omega, by go_num, (by first | rfl | trivial)⟩
          case measure => simp [intOf]; omega
        · have q2 : ((k : Int) == (sl : Int) - 1) = false := by rw [beq_eq_false_iff_ne]; exact c2
          go_wp2
          exact HQ.out
    · obtain rfl : n = rl := by omega
      go_wp2
      exact HQ.out
end Go.Proofs.YtbbnodhpafiplaaDoor
namespace Go.Proofs.YtbbnodhpafiplaaDoor
open Go.RowKit
set_option linter.unusedVariables false
set_option linter.unusedSimpArgs false
/-- The six lists, in the order in which they are asked for. -/
def six (X : Hi) : List (List Slo) := [X.i, X.d, X.m, X.i, X.d, X.m]
theorem six_add {X : Hi} {N : List (Nat × List Slo)} {j : Nat} (h : N.map (·.2) = (six X).take j) {g : Nat} {L : List Slo} (hL : (six X)[j]? = some L) : (N ++ [(g, L)]).map (·.2) = (six X).take (j + 1) := by
  rw [List.map_append, h, List.take_add_one, hL]
  rfl
theorem six_len {X : Hi} {N : List (Nat × List Slo)} {j : Nat} (h : N.map (·.2) = (six X).take j) (hj : j ≤ 6) : N.length = j := by
  have := congrArg List.length h
  rw [List.length_map, List.length_take] at this
  simp [six] at this
  omega
/-- One list more, asked for and held. -/
theorem six_app {W wr w3 : World} {A B : Ad} {X : Hi} {G : Nat} {v : Value} {R N : List (Nat × List Slo)} {j : Nat} {L : List Slo} (h : HH W wr A B X G v (R ++ N)) (hN : N.map (·.2) = (six X).take j) (hj : j < 6) (hR : R.length ≤ 7036874417600) (hL : (six X)[j]? = some L) (h1 : 1 ≤ L.length ∧ L.length ≤ 64) (hB : Bl w3 wr.heap.size 57 (rowS L)) (hb : Below wr.heap.size wr w3) :
    ∃ v' w', (Builtin.append_ #[64, 64] 64 #[v, .slice (some ⟨w3.heap.size, 0, none⟩) 1 1]).run Tryd.prog (w3.alloc (.cells #[.slice (some ⟨wr.heap.size, 0, none⟩) L.length L.length] 54)) = .ok v' w' ∧ HH W w' A B X G v' (R ++ (N ++ [(wr.heap.size, L)])) ∧ (N ++ [(wr.heap.size, L)]).map (·.2) = (six X).take (j + 1) := by
  have hn := six_len hN (by omega)
  have hl : (R ++ N).length = R.length + j := by rw [List.length_append, hn]
  have h3 := h.step hb
  obtain ⟨v', w', r1, r2, r3⟩ := appL w3 W.heap.size v (R ++ N) (wr.heap.size, L) h3.own (Nat.le_trans h3.gw.1 h3.gw.2) (by rw [hl]; omega)
  refine ⟨v', w', r1, ?_, six_add hN hL⟩
  rw [← List.append_assoc]
  exact h3.add hB (fun p hp => (h.rows p hp).lt) h.gw.2 h1 r2 r3
set_option maxRecDepth 1000000 in
set_option maxHeartbeats 64000000 in
theorem own_P {v0 v1 v2 v3 v4 v5 v6 v7 v8 v10 v11 v13 v14 v16 v17 v18 v19 v20 v21 v22 v23 v24 v25 v26 v27 v28 v29 v30 v31 v32 v33 v34 v35 v36 v37 v38 v39 v40 v41 v42 v43 v44 v45 v46 v47 v48 v49 v50 v51 v52 v53 v54 v55 v56 v57 v58 v59 v60 v61 v62 v63 v64 v65 v66 v67 v68 v69 v70 v71 v72 v73 v74 v75 v76 v77 v78 v79 v80 v81 v82 v83 v84 v85 v86 v87 v88 v89 v90 v91 v92 v93 v94 v95 v96 v97 v98 v99 v100 v101 v102 v103 v104 v105 v106 v107 v108 v109 v110 v111 v112 v113 v114 v115 v116 v117 v118 v119 v120 v121 v122 v123 v124 v125 v126 v127 v128 v129 v130 v131 v132 v133 v134 v135 v136 v137 v138 v139 v140 v141 v142 v143 v144 v145 v146 v147 v148 v149 v150 v151 v152 v153 v154 v155 v : Value} {Q : Exit → Act → World → Prop} (W wr : World) (A B : Ad) (X : Hi) (G : Nat) (R : List (Nat × List Slo)) (hR : R.length ≤ 7036874417600) (HX : Hid (HH W wr A B X G v R))
    (HQ : Hid (∀ {u15 u50 u51 u52 u53 u54 u55 u56 u57 u58 u59 u60 u61 v' : Value} {w : World} {N : List (Nat × List Slo)}, N.map (·.2) = six X → HH W w A B X G v' (R ++ N) → Q (.exit 2) ⟨(v0 :: v1 :: v2 :: v3 :: v4 :: v5 :: v6 :: v7 :: v8 :: (.pointer (some ⟨A.h, 0, none⟩)) :: v10 :: v11 :: v' :: v13 :: v14 :: u15 :: v16 :: v17 :: v18 :: v19 :: v20 :: v21 :: v22 :: v23 :: v24 :: v25 :: v26 :: v27 :: v28 :: v29 :: v30 :: v31 :: v32 :: v33 :: v34 :: v35 :: v36 :: v37 :: v38 :: v39 :: v40 :: v41 :: v42 :: v43 :: v44 :: v45 :: v46 :: v47 :: v48 :: v49 :: u50 :: u51 :: u52 :: u53 :: u54 :: u55 :: u56 :: u57 :: u58 :: u59 :: u60 :: u61 :: v62 :: v63 :: v64 :: v65 :: v66 :: v67 :: v68 :: v69 :: v70 :: v71 :: v72 :: v73 :: v74 :: v75 :: v76 :: v77 :: v78 :: v79 :: v80 :: v81 :: v82 :: v83 :: v84 :: v85 :: v86 :: v87 :: v88 :: v89 :: v90 :: v91 :: v92 :: v93 :: v94 :: v95 :: v96 :: v97 :: v98 :: v99 :: v100 :: v101 :: v102 :: v103 :: v104 :: v105 :: v106 :: v107 :: v108 :: v109 :: v110 :: v111 :: v112 :: v113 :: v114 :: v115 :: v116 :: v117 :: v118 :: v119 :: v120 :: v121 :: v122 :: v123 :: v124 :: v125 :: v126 :: v127 :: v128 :: v129 :: v130 :: v131 :: v132 :: v133 :: v134 :: v135 :: v136 :: v137 :: v138 :: v139 :: v140 :: v141 :: v142 :: v143 :: v144 :: v145 :: v146 :: v147 :: v148 :: v149 :: v150 :: v151 :: v152 :: v153 :: v154 :: v155 :: []).toArray, []⟩ w)) :
    (Code.loop (in2 Tryd.f6)).wp Tryd.prog Q ⟨(v0 :: v1 :: v2 :: v3 :: v4 :: v5 :: v6 :: v7 :: v8 :: (.pointer (some ⟨A.h, 0, none⟩)) :: v10 :: v11 :: v :: v13 :: v14 :: (.int .i64 0) :: v16 :: v17 :: v18 :: v19 :: v20 :: v21 :: v22 :: v23 :: v24 :: v25 :: v26 :: v27 :: v28 :: v29 :: v30 :: v31 :: v32 :: v33 :: v34 :: v35 :: v36 :: v37 :: v38 :: v39 :: v40 :: v41 :: v42 :: v43 :: v44 :: v45 :: v46 :: v47 :: v48 :: v49 :: v50 :: v51 :: v52 :: v53 :: v54 :: v55 :: v56 :: v57 :: v58 :: v59 :: v60 :: v61 :: v62 :: v63 :: v64 :: v65 :: v66 :: v67 :: v68 :: v69 :: v70 :: v71 :: v72 :: v73 :: v74 :: v75 :: v76 :: v77 :: v78 :: v79 :: v80 :: v81 :: v82 :: v83 :: v84 :: v85 :: v86 :: v87 :: v88 :: v89 :: v90 :: v91 :: v92 :: v93 :: v94 :: v95 :: v96 :: v97 :: v98 :: v99 :: v100 :: v101 :: v102 :: v103 :: v104 :: v105 :: v106 :: v107 :: v108 :: v109 :: v110 :: v111 :: v112 :: v113 :: v114 :: v115 :: v116 :: v117 :: v118 :: v119 :: v120 :: v121 :: v122 :: v123 :: v124 :: v125 :: v126 :: v127 :: v128 :: v129 :: v130 :: v131 :: v132 :: v133 :: v134 :: v135 :: v136 :: v137 :: v138 :: v139 :: v140 :: v141 :: v142 :: v143 :: v144 :: v145 :: v146 :: v147 :: v148 :: v149 :: v150 :: v151 :: v152 :: v153 :: v154 :: v155 :: []).toArray, []⟩ wr := by
  conv => arg 2; arg 1; whnf
  have HR := hidW hR
  clear hR
  go_loopw [12, 15] (fun v' i wr => ∃ (j : Nat) (N : List (Nat × List Slo)), j ≤ 6 ∧ i = .int .i64 j ∧ N.map (·.2) = (six X).take j ∧ HH W wr A B X G v' (R ++ N)) (fun _ i _ => (6 - intOf i).toNat)
  case atStart => exact ⟨0, [], by omega, rfl, rfl, by rw [List.append_nil]; exact HX.out⟩
  case round =>
    clear HX
    obtain ⟨j, N, hj, hi, hN, hX⟩ := hrel
    have HX := hidW hX
    have HN := hidW hN
    clear hX hN
    have hj7 : j = 0 ∨ j = 1 ∨ j = 2 ∨ j = 3 ∨ j = 4 ∨ j = 5 ∨ j = 6 := by omega
    clear hj
    rcases hj7 with rfl | rfl | rfl | rfl | rfl | rfl | rfl
    · replace hi : _ = Value.int .i64 0 := hi
      subst hi
      have HC : Hid (Calls Tryd.prog 19 #[.pointer (some ⟨A.h, 0, none⟩), .int .i64 1] _ fun e w' => e = .returned (.slice (some ⟨_, 0, none⟩) X.i.length X.i.length) ∧ Bl w' _ 57 (rowS X.i) ∧ Below _ _ w') := hidW (hplaces_1 _ A X HX.out.t2.pa)
      have HA := hidW (fun w3 => six_app (w3 := w3) HX.out HN.out (by omega) HR.out (L := X.i) rfl ⟨HX.out.t2.pa.ti.lo, HX.out.t2.pa.ti.hi⟩)
      clear HX HN
      generalize X.i.length = l at HC HA
      go_wp2_with (fail)
      go_at_call 19
      refine HC.out.mono ?_
      rintro e w3 ⟨rfl, hB, hb⟩
      obtain ⟨v', w', r1, r2, r3⟩ := HA.out w3 hB hb
      have HR1 := hidW r1
      have HX := hidW r2
      have HN := hidW r3
      clear HC HA hB hb r1 r2 r3
      go_wp2_with (first | (at_builtin; refine wpList_append_eq rfl (.tmp 54) (.tmp 60) 64 rfl _ _ rfl rfl HR1.out ?_; clear HR1))
      go_roundw
      case rel => exact ⟨1, _, by omega, (by first | rfl | go_num), HN.out, HX.out⟩
      case measure => simp [intOf]
    · replace hi : _ = Value.int .i64 1 := hi
      subst hi
      have HC : Hid (Calls Tryd.prog 19 #[.pointer (some ⟨A.h, 0, none⟩), .int .i64 2] _ fun e w' => e = .returned (.slice (some ⟨_, 0, none⟩) X.d.length X.d.length) ∧ Bl w' _ 57 (rowS X.d) ∧ Below _ _ w') := hidW (hplaces_2 _ A X HX.out.t2.pa)
      have HA := hidW (fun w3 => six_app (w3 := w3) HX.out HN.out (by omega) HR.out (L := X.d) rfl ⟨HX.out.t2.pa.td.lo, HX.out.t2.pa.td.hi⟩)
      clear HX HN
      generalize X.d.length = l at HC HA
      go_wp2_with (fail)
      go_at_call 19
      refine HC.out.mono ?_
      rintro e w3 ⟨rfl, hB, hb⟩
      obtain ⟨v', w', r1, r2, r3⟩ := HA.out w3 hB hb
      have HR1 := hidW r1
      have HX := hidW r2
      have HN := hidW r3
      clear HC HA hB hb r1 r2 r3
      go_wp2_with (first | (at_builtin; refine wpList_append_eq rfl (.tmp 54) (.tmp 60) 64 rfl _ _ rfl rfl HR1.out ?_; clear HR1))
      go_roundw
      case rel => exact ⟨2, _, by omega, (by first | rfl | go_num), HN.out, HX.out⟩
      case measure => simp [intOf]
    · replace hi : _ = Value.int .i64 2 := hi
      subst hi
      have HC : Hid (Calls Tryd.prog 19 #[.pointer (some ⟨A.h, 0, none⟩), .int .i64 3] _ fun e w' => e = .returned (.slice (some ⟨_, 0, none⟩) X.m.length X.m.length) ∧ Bl w' _ 57 (rowS X.m) ∧ Below _ _ w') := hidW (hplaces_3 _ A X HX.out.t2.pa)
      have HA := hidW (fun w3 => six_app (w3 := w3) HX.out HN.out (by omega) HR.out (L := X.m) rfl ⟨HX.out.t2.pa.tm.lo, HX.out.t2.pa.tm.hi⟩)
      clear HX HN
      generalize X.m.length = l at HC HA
      go_wp2_with (fail)
      go_at_call 19
      refine HC.out.mono ?_
      rintro e w3 ⟨rfl, hB, hb⟩
      obtain ⟨v', w', r1, r2, r3⟩ := HA.out w3 hB hb
      have HR1 := hidW r1
      have HX := hidW r2
      have HN := hidW r3
      clear HC HA hB hb r1 r2 r3
      go_wp2_with (first | (at_builtin; refine wpList_append_eq rfl (.tmp 54) (.tmp 60) 64 rfl _ _ rfl rfl HR1.out ?_; clear HR1))
      go_roundw
      case rel => exact ⟨3, _, by omega, (by first | rfl | go_num), HN.out, HX.out⟩
      case measure => simp [intOf]
    · replace hi : _ = Value.int .i64 3 := hi
      subst hi
      have HC : Hid (Calls Tryd.prog 19 #[.pointer (some ⟨A.h, 0, none⟩), .int .i64 1] _ fun e w' => e = .returned (.slice (some ⟨_, 0, none⟩) X.i.length X.i.length) ∧ Bl w' _ 57 (rowS X.i) ∧ Below _ _ w') := hidW (hplaces_1 _ A X HX.out.t2.pa)
      have HA := hidW (fun w3 => six_app (w3 := w3) HX.out HN.out (by omega) HR.out (L := X.i) rfl ⟨HX.out.t2.pa.ti.lo, HX.out.t2.pa.ti.hi⟩)
      clear HX HN
      generalize X.i.length = l at HC HA
      go_wp2_with (fail)
      go_at_call 19
      refine HC.out.mono ?_
      rintro e w3 ⟨rfl, hB, hb⟩
      obtain ⟨v', w', r1, r2, r3⟩ := HA.out w3 hB hb
      have HR1 := hidW r1
      have HX := hidW r2
      have HN := hidW r3
      clear HC HA hB hb r1 r2 r3
      go_wp2_with (first | (at_builtin; refine wpList_append_eq rfl (.tmp 54) (.tmp 60) 64 rfl _ _ rfl rfl HR1.out ?_; clear HR1))
      go_roundw
      case rel => exact ⟨4, _, by omega, (by first | rfl | go_num), HN.out, HX.out⟩
      case measure => simp [intOf]
    · replace hi : _ = Value.int .i64 4 := hi
      subst hi
      have HC : Hid (Calls Tryd.prog 19 #[.pointer (some ⟨A.h, 0, none⟩), .int .i64 2] _ fun e w' => e = .returned (.slice (some ⟨_, 0, none⟩) X.d.length X.d.length) ∧ Bl w' _ 57 (rowS X.d) ∧ Below _ _ w') := hidW (hplaces_2 _ A X HX.out.t2.pa)
      have HA := hidW (fun w3 => six_app (w3 := w3) HX.out HN.out (by omega) HR.out (L := X.d) rfl ⟨HX.out.t2.pa.td.lo, HX.out.t2.pa.td.hi⟩)
      clear HX HN
      generalize X.d.length = l at HC HA
      go_wp2_with (fail)
      go_at_call 19
      refine HC.out.mono ?_
      rintro e w3 ⟨rfl, hB, hb⟩
      obtain ⟨v', w', r1, r2, r3⟩ := HA.out w3 hB hb
      have HR1 := hidW r1
      have HX := hidW r2
      have HN := hidW r3
      clear HC HA hB hb r1 r2 r3
      go_wp2_with (first | (at_builtin; refine wpList_append_eq rfl (.tmp 54) (.tmp 60) 64 rfl _ _ rfl rfl HR1.out ?_; clear HR1))
      go_roundw
      case rel => exact ⟨5, _, by omega, (by first | rfl | go_num), HN.out, HX.out⟩
      case measure => simp [intOf]
    · replace hi : _ = Value.int .i64 5 := hi
      subst hi
      have HC : Hid (Calls Tryd.prog 19 #[.pointer (some ⟨A.h, 0, none⟩), .int .i64 3] _ fun e w' => e = .returned (.slice (some ⟨_, 0, none⟩) X.m.length X.m.length) ∧ Bl w' _ 57 (rowS X.m) ∧ Below _ _ w') := hidW (hplaces_3 _ A X HX.out.t2.pa)
      have HA := hidW (fun w3 => six_app (w3 := w3) HX.out HN.out (by omega) HR.out (L := X.m) rfl ⟨HX.out.t2.pa.tm.lo, HX.out.t2.pa.tm.hi⟩)
      clear HX HN
      generalize X.m.length = l at HC HA
      go_wp2_with (fail)
      go_at_call 19
      refine HC.out.mono ?_
      rintro e w3 ⟨rfl, hB, hb⟩
      obtain ⟨v', w', r1, r2, r3⟩ := HA.out w3 hB hb
      have HR1 := hidW r1
      have HX := hidW r2
      have HN := hidW r3
      clear HC HA hB hb r1 r2 r3
      go_wp2_with (first | (at_builtin; refine wpList_append_eq rfl (.tmp 54) (.tmp 60) 64 rfl _ _ rfl rfl HR1.out ?_; clear HR1))
      go_roundw
      case rel => exact ⟨6, _, by omega, (by first | rfl | go_num), HN.out, HX.out⟩
      case measure => simp [intOf]
    · cases hi
      go_wp2
      exact HQ.out HN.out HX.out
end Go.Proofs.YtbbnodhpafiplaaDoor
namespace Go.Proofs.YtbbnodhpafiplaaDoor
open Go.RowKit
set_option linter.unusedVariables false
set_option linter.unusedSimpArgs false
set_option maxRecDepth 1000000 in
set_option maxHeartbeats 64000000 in
theorem own_B {v0 v1 v2 v3 v4 v5 v6 v7 v8 v9 v11 v13 v15 v17 v18 v19 v20 v21 v22 v23 v24 v25 v26 v27 v28 v29 v30 v31 v32 v33 v34 v35 v36 v37 v38 v39 v40 v41 v42 v43 v44 v45 v46 v47 v48 v49 v50 v51 v52 v53 v54 v55 v56 v57 v58 v59 v60 v61 v62 v63 v64 v65 v66 v67 v68 v69 v70 v71 v72 v73 v74 v75 v76 v77 v78 v79 v80 v81 v82 v83 v84 v85 v86 v87 v88 v89 v90 v91 v92 v93 v94 v95 v96 v97 v98 v99 v100 v101 v102 v103 v104 v105 v106 v107 v108 v109 v110 v111 v112 v113 v114 v115 v116 v117 v118 v119 v120 v121 v122 v123 v124 v125 v126 v127 v128 v129 v130 v131 v132 v133 v134 v135 v136 v137 v138 v139 v140 v141 v142 v143 v144 v145 v146 v147 v148 v149 v150 v151 v152 v153 v154 v155 : Value} {Q : Exit → Act → World → Prop} (hpan : ∀ {c : List PanicEntry} {a : Act} {d : Option Tmp} {v : Value} {w : World}, Q (.panic c) (a.put d v) w → Q (.panic c) a w) (W wr : World) (A B : Ad) (X : Hi) (G cp ha rl fr : Nat) (R : List (Nat × List Slo)) (hfr : fr + 6 = rl) (hn2 : rl ≤ 70368744177664) (HN : Hid (∀ j L, (six X)[j]? = some L → ∃ g, R[fr + j]? = some (g, L))) (HX : Hid (HH W wr A B X G (.slice (some ⟨ha, 0, none⟩) rl cp) R))
    (HQ : Hid (∀ {u8 u16 u62 u63 u64 u65 u66 u67 u68 u69 u70 u71 u72 u73 u74 u75 u76 u77 u78 : Value} {w : World}, HH W w A B X G (.slice (some ⟨ha, 0, none⟩) rl cp) R → Q (.exit 4) ⟨(v0 :: v1 :: v2 :: v3 :: v4 :: v5 :: v6 :: v7 :: u8 :: v9 :: (.pointer (some ⟨B.h, 0, none⟩)) :: v11 :: (.slice (some ⟨ha, 0, none⟩) rl cp) :: v13 :: (.int .i64 (fr : Int)) :: v15 :: u16 :: v17 :: v18 :: v19 :: v20 :: v21 :: v22 :: v23 :: v24 :: v25 :: v26 :: v27 :: v28 :: v29 :: v30 :: v31 :: v32 :: v33 :: v34 :: v35 :: v36 :: v37 :: v38 :: v39 :: v40 :: v41 :: v42 :: v43 :: v44 :: v45 :: v46 :: v47 :: v48 :: v49 :: v50 :: v51 :: v52 :: v53 :: v54 :: v55 :: v56 :: v57 :: v58 :: v59 :: v60 :: v61 :: u62 :: u63 :: u64 :: u65 :: u66 :: u67 :: u68 :: u69 :: u70 :: u71 :: u72 :: u73 :: u74 :: u75 :: u76 :: u77 :: u78 :: v79 :: v80 :: v81 :: v82 :: v83 :: v84 :: v85 :: v86 :: v87 :: v88 :: v89 :: v90 :: v91 :: v92 :: v93 :: v94 :: v95 :: v96 :: v97 :: v98 :: v99 :: v100 :: v101 :: v102 :: v103 :: v104 :: v105 :: v106 :: v107 :: v108 :: v109 :: v110 :: v111 :: v112 :: v113 :: v114 :: v115 :: v116 :: v117 :: v118 :: v119 :: v120 :: v121 :: v122 :: v123 :: v124 :: v125 :: v126 :: v127 :: v128 :: v129 :: v130 :: v131 :: v132 :: v133 :: v134 :: v135 :: v136 :: v137 :: v138 :: v139 :: v140 :: v141 :: v142 :: v143 :: v144 :: v145 :: v146 :: v147 :: v148 :: v149 :: v150 :: v151 :: v152 :: v153 :: v154 :: v155 :: []).toArray, []⟩ w)) :
    (Code.loop (in4 Tryd.f6)).wp Tryd.prog Q ⟨(v0 :: v1 :: v2 :: v3 :: v4 :: v5 :: v6 :: v7 :: v8 :: v9 :: (.pointer (some ⟨B.h, 0, none⟩)) :: v11 :: (.slice (some ⟨ha, 0, none⟩) rl cp) :: v13 :: (.int .i64 (fr : Int)) :: v15 :: (.int .i64 0) :: v17 :: v18 :: v19 :: v20 :: v21 :: v22 :: v23 :: v24 :: v25 :: v26 :: v27 :: v28 :: v29 :: v30 :: v31 :: v32 :: v33 :: v34 :: v35 :: v36 :: v37 :: v38 :: v39 :: v40 :: v41 :: v42 :: v43 :: v44 :: v45 :: v46 :: v47 :: v48 :: v49 :: v50 :: v51 :: v52 :: v53 :: v54 :: v55 :: v56 :: v57 :: v58 :: v59 :: v60 :: v61 :: v62 :: v63 :: v64 :: v65 :: v66 :: v67 :: v68 :: v69 :: v70 :: v71 :: v72 :: v73 :: v74 :: v75 :: v76 :: v77 :: v78 :: v79 :: v80 :: v81 :: v82 :: v83 :: v84 :: v85 :: v86 :: v87 :: v88 :: v89 :: v90 :: v91 :: v92 :: v93 :: v94 :: v95 :: v96 :: v97 :: v98 :: v99 :: v100 :: v101 :: v102 :: v103 :: v104 :: v105 :: v106 :: v107 :: v108 :: v109 :: v110 :: v111 :: v112 :: v113 :: v114 :: v115 :: v116 :: v117 :: v118 :: v119 :: v120 :: v121 :: v122 :: v123 :: v124 :: v125 :: v126 :: v127 :: v128 :: v129 :: v130 :: v131 :: v132 :: v133 :: v134 :: v135 :: v136 :: v137 :: v138 :: v139 :: v140 :: v141 :: v142 :: v143 :: v144 :: v145 :: v146 :: v147 :: v148 :: v149 :: v150 :: v151 :: v152 :: v153 :: v154 :: v155 :: []).toArray, []⟩ wr := by
  conv => arg 2; arg 1; whnf
  go_loopw [16] (fun i wr => ∃ (j : Nat), j ≤ 6 ∧ i = .int .i64 j ∧ HH W wr A B X G (.slice (some ⟨ha, 0, none⟩) rl cp) R) (fun i _ => (6 - intOf i).toNat)
  case atStart => exact ⟨0, by omega, rfl, HX.out⟩
  case round =>
    clear HX
    obtain ⟨j, hj, hi, hX⟩ := hrel
    have HX := hidW hX
    clear hX
    have hj7 : j = 0 ∨ j = 1 ∨ j = 2 ∨ j = 3 ∨ j = 4 ∨ j = 5 ∨ j = 6 := by omega
    clear hj
    rcases hj7 with rfl | rfl | rfl | rfl | rfl | rfl | rfl
    · replace hi : _ = Value.int .i64 0 := hi
      subst hi
      obtain ⟨g, hg⟩ := HN.out 0 X.i rfl
      have HK : Hid (∀ w, HH W w A B X G (.slice (some ⟨ha, 0, none⟩) rl cp) R → w.cell? ⟨ha, fr, none⟩ = some (.slice (some ⟨g, 0, none⟩) X.i.length X.i.length)) := hidW (fun w hw => by
        obtain ⟨g2, e2, hc⟩ := hw.held hg
        injection e2 with e2
        injection e2 with e2 _ _
        subst e2
        exact hc)
      have HG : Hid (∀ w, HH W w A B X G (.slice (some ⟨ha, 0, none⟩) rl cp) R → Rv w (some ⟨g, 0, none⟩) X.i) := hidW (fun w hw => Sv.rv (Or.inr ⟨g, rfl, hw.rows _ (List.mem_of_getElem? hg)⟩))
      have HV : Hid (∀ w, HH W w A B X G (.slice (some ⟨ha, 0, none⟩) rl cp) R → Calls Tryd.prog 23 #[.pointer (some ⟨B.h, 0, none⟩), .int .i64 1] w fun e w' => ∃ a cap, e = .returned (.slice a X.i.length cap) ∧ Rv w' a X.i ∧ Below w.heap.size w w') := hidW (fun w hw => (vplaces_1 w B X hw.t2.pb).mono fun e w' ⟨g, cap, rest, q1, q2, q3⟩ => ⟨_, _, q1, Sw.rv (Or.inr ⟨g, rest, rfl, q2⟩), q3⟩)
      have HQL : Hid (∀ w b cb, Rv w (some ⟨g, 0, none⟩) X.i → Rv w b X.i → Calls Tryd.prog 22 #[.slice (some ⟨g, 0, none⟩) X.i.length X.i.length, .slice b X.i.length cb] w fun e w' => e = .returned (.bool true) ∧ Below w.heap.size w w') := hidW (fun w b cb k1 k2 => slots_yes w _ b _ cb X.i k1 k2 HX.out.t2.pa.ti.hi)
      clear hg
      have tw : IntKind.i64.wrap ((fr : Int)) = (fr : Int) := by rw [IntKind.wrap_i64]; omega
      have tn : ((fr : Int)).toNat = fr := by omega
      have tl : fr < rl := by omega
      have tz : (fr : Int) < (rl : Int) := by omega
      have ty : (0 : Int) ≤ (fr : Int) := by omega
      generalize X.i.length = l at HK HG HV HQL
      generalize X.i = L at HG HV HQL
      go_wp2
      replace HX := hidW HX.out.drew
      refine wp_region_held_drew (S := fun w' => w'.cell? ⟨ha, fr, none⟩ = some (.slice (some ⟨g, 0, none⟩) l l)) (by kernel_rfl) (HK.out _ HX.out) (fun hHeld => ?_)
      refine wpAnyH_take (i := 0) (oi := { dst := some 66, op := Op.move (Operand.tmp 12), type := 64, pos := _, after := #[], guard := none }) (v := ?_) rfl (by kernel_rfl) (by kernel_rfl) (by kernel_rfl) (fun _ _ _ h => hpan h) (Or.inl ⟨by rfl, ?_⟩) (by assumption) ?_
      rotate_left
      · (intro w hSw; (try dsimp only at hSw); go_simp; try with_reducible rfl)
      simp only [Act.put, List.setIfInBounds_toArray, List.set_cons_zero, List.set_cons_succ]
      refine wpAnyH_take (i := 1) (oi := { dst := some 67, op := Op.move (Operand.tmp 14), type := 3, pos := _, after := #[], guard := none }) (v := ?_) rfl (by kernel_rfl) (by kernel_rfl) (by kernel_rfl) (fun _ _ _ h => hpan h) (Or.inl ⟨by rfl, ?_⟩) (by assumption) ?_
      rotate_left
      · (intro w hSw; (try dsimp only at hSw); go_simp; try with_reducible rfl)
      simp only [Act.put, List.setIfInBounds_toArray, List.set_cons_zero, List.set_cons_succ]
      refine wpAnyH_take (i := 2) (oi := { dst := some 68, op := Op.move (Operand.tmp 16), type := 3, pos := _, after := #[], guard := none }) (v := ?_) rfl (by kernel_rfl) (by kernel_rfl) (by kernel_rfl) (fun _ _ _ h => hpan h) (Or.inl ⟨by rfl, ?_⟩) (by assumption) ?_
      rotate_left
      · (intro w hSw; (try dsimp only at hSw); go_simp; try with_reducible rfl)
      simp only [Act.put, List.setIfInBounds_toArray, List.set_cons_zero, List.set_cons_succ]
      refine wpAnyH_take (i := 3) (oi := { dst := some 69, op := Op.binOp BinOp.add 3 (Operand.tmp 67) (Operand.tmp 68) 3, type := 3, pos := _, after := #[{ on := 1, ground := Ground.data }, { on := 2, ground := Ground.data }], guard := none }) (v := ?_) rfl (by kernel_rfl) (by kernel_rfl) (by kernel_rfl) (fun _ _ _ h => hpan h) (Or.inl ⟨by rfl, ?_⟩) (by assumption) ?_
      rotate_left
      · (intro w hSw; (try dsimp only at hSw); go_simp; try with_reducible rfl)
      simp only [Act.put, List.setIfInBounds_toArray, List.set_cons_zero, List.set_cons_succ]
      refine wpAnyH_take (i := 4) (oi := { dst := some 70, op := Op.indexAddr 64 (Operand.tmp 66) (Operand.tmp 69), type := 0, pos := _, after := #[{ on := 0, ground := Ground.data }, { on := 3, ground := Ground.data }], guard := none }) (v := ?_) rfl (by kernel_rfl) (by kernel_rfl) (by kernel_rfl) (fun _ _ _ h => hpan h) (Or.inl ⟨by rfl, ?_⟩) (by assumption) ?_
      rotate_left
      · (intro w hSw; (try dsimp only at hSw); go_simp; try with_reducible rfl)
      simp only [Act.put, List.setIfInBounds_toArray, List.set_cons_zero, List.set_cons_succ]
      refine wpAnyH_take (i := 5) (oi := { dst := some 71, op := Op.load 54 (Operand.tmp 70), type := 54, pos := _, after := #[{ on := 4, ground := Ground.data }], guard := none }) (v := ?_) rfl (by kernel_rfl) (by kernel_rfl) (by kernel_rfl) (fun _ _ _ h => hpan h) (Or.inl ⟨by rfl, ?_⟩) (by assumption) ?_
      rotate_left
      · (intro w hSw; (try dsimp only at hSw); go_simp; try with_reducible rfl)
      simp only [Act.put, List.setIfInBounds_toArray, List.set_cons_zero, List.set_cons_succ]
      refine wpAnyH_take (i := 6) (oi := { dst := some 72, op := Op.move (Operand.tmp 10), type := 59, pos := _, after := #[], guard := none }) (v := ?_) rfl (by kernel_rfl) (by kernel_rfl) (by kernel_rfl) (fun _ _ _ h => hpan h) (Or.inl ⟨by rfl, ?_⟩) (by assumption) ?_
      rotate_left
      · (intro w hSw; (try dsimp only at hSw); go_simp; try with_reducible rfl)
      simp only [Act.put, List.setIfInBounds_toArray, List.set_cons_zero, List.set_cons_succ]
      refine wpAnyH_take (i := 7) (oi := { dst := some 73, op := Op.move (Operand.tmp 16), type := 3, pos := _, after := #[], guard := none }) (v := ?_) rfl (by kernel_rfl) (by kernel_rfl) (by kernel_rfl) (fun _ _ _ h => hpan h) (Or.inl ⟨by rfl, ?_⟩) (by assumption) ?_
      rotate_left
      · (intro w hSw; (try dsimp only at hSw); go_simp; try with_reducible rfl)
      simp only [Act.put, List.setIfInBounds_toArray, List.set_cons_zero, List.set_cons_succ]
      refine wpAnyH_take (i := 8) (oi := { dst := some 74, op := Op.binOp BinOp.rem 3 (Operand.tmp 73) (Operand.const (Value.int IntKind.i64 3)) 3, type := 3, pos := _, after := #[{ on := 7, ground := Ground.data }], guard := none }) (v := ?_) rfl (by kernel_rfl) (by kernel_rfl) (by kernel_rfl) (fun _ _ _ h => hpan h) (Or.inl ⟨by rfl, ?_⟩) (by assumption) ?_
      rotate_left
      · (intro w hSw; (try dsimp only at hSw); go_simp; try with_reducible rfl)
      simp only [Act.put, List.setIfInBounds_toArray, List.set_cons_zero, List.set_cons_succ]
      refine wpAnyH_take (i := 9) (oi := { dst := some 75, op := Op.binOp BinOp.add 3 (Operand.const (Value.int IntKind.i64 1)) (Operand.tmp 74) 3, type := 3, pos := _, after := #[{ on := 8, ground := Ground.data }], guard := none }) (v := ?_) rfl (by kernel_rfl) (by kernel_rfl) (by kernel_rfl) (fun _ _ _ h => hpan h) (Or.inl ⟨by rfl, ?_⟩) (by assumption) ?_
      rotate_left
      · (intro w hSw; (try dsimp only at hSw); go_simp; try with_reducible rfl)
      simp only [Act.put, List.setIfInBounds_toArray, List.set_cons_zero, List.set_cons_succ]
      refine wpAnyH_ready (rs := [10]) (by kernel_rfl) (by simp) ?_
      refine AllReadyH.cons (o := { dst := some 76, op := Op.call { callee := Callee.value (Operand.func 23), args := #[Operand.tmp 72, Operand.tmp 75], argTypes := #[59, 3] }, type := 54, pos := _, after := #[{ on := 6, ground := Ground.data }, { on := 9, ground := Ground.data }], guard := none }) rfl (fun K hK => ?_) AllReadyH.nil
      go_simp
      (go_at_call 23; refine (HV.out _ HX.out).mono ?_; rintro e w3 ⟨a3, c3, rfl, hv, hb⟩; replace HX := hidW (HX.out.step hb); have HVv := hidW hv; clear hb hv; go_wp2_with fail)
      refine hK.out _ _ ?_ (fun hHeld => ?_)
      · ((try dsimp only); with_reducible exact HK.out _ HX.out)
      clear hK K
      try simp only [Act.put, List.setIfInBounds_toArray, List.set_cons_zero, List.set_cons_succ]
      refine wpAnyH_ready (rs := [11]) (by kernel_rfl) (by simp) ?_
      refine AllReadyH.cons (o := { dst := some 77, op := Op.call { callee := Callee.value (Operand.func 22), args := #[Operand.tmp 71, Operand.tmp 76], argTypes := #[54, 54] }, type := 4, pos := _, after := #[{ on := 5, ground := Ground.data }, { on := 10, ground := Ground.data }, { on := 10, ground := Ground.chain }], guard := none }) rfl (fun K hK => ?_) AllReadyH.nil
      go_simp
      (go_at_call 22; refine (HQL.out _ _ _ (HG.out _ HX.out) HVv.out).mono ?_; rintro e w4 ⟨rfl, hb⟩; replace HX := hidW (HX.out.step hb); clear hb HVv; go_wp2_with fail)
      refine hK.out _ _ ?_ (fun hHeld => ?_)
      · ((try dsimp only); with_reducible exact HK.out _ HX.out)
      clear hK K
      try simp only [Act.put, List.setIfInBounds_toArray, List.set_cons_zero, List.set_cons_succ]
      refine wpAnyH_take (i := 12) (oi := { dst := some 78, op := Op.unOp UnOp.not 4 (Operand.tmp 77), type := 4, pos := _, after := #[{ on := 11, ground := Ground.data }], guard := none }) (v := ?_) rfl (by kernel_rfl) (by kernel_rfl) (by kernel_rfl) (fun _ _ _ h => hpan h) (Or.inl ⟨by rfl, ?_⟩) (by assumption) ?_
      rotate_left
      · (intro w hSw; (try dsimp only at hSw); go_simp; try with_reducible rfl)
      simp only [Act.put, List.setIfInBounds_toArray, List.set_cons_zero, List.set_cons_succ]
      refine wpAnyH_done (by kernel_rfl) ?_ _
      clear hHeld
      go_wp2
      go_roundw
      case rel => exact ⟨1, by omega, (by first | rfl | go_num), HX.out⟩
      case measure => simp [intOf]
    · replace hi : _ = Value.int .i64 1 := hi
      subst hi
      obtain ⟨g, hg⟩ := HN.out 1 X.d rfl
      have HK : Hid (∀ w, HH W w A B X G (.slice (some ⟨ha, 0, none⟩) rl cp) R → w.cell? ⟨ha, fr + 1, none⟩ = some (.slice (some ⟨g, 0, none⟩) X.d.length X.d.length)) := hidW (fun w hw => by
        obtain ⟨g2, e2, hc⟩ := hw.held hg
        injection e2 with e2
        injection e2 with e2 _ _
        subst e2
        exact hc)
      have HG : Hid (∀ w, HH W w A B X G (.slice (some ⟨ha, 0, none⟩) rl cp) R → Rv w (some ⟨g, 0, none⟩) X.d) := hidW (fun w hw => Sv.rv (Or.inr ⟨g, rfl, hw.rows _ (List.mem_of_getElem? hg)⟩))
      have HV : Hid (∀ w, HH W w A B X G (.slice (some ⟨ha, 0, none⟩) rl cp) R → Calls Tryd.prog 23 #[.pointer (some ⟨B.h, 0, none⟩), .int .i64 2] w fun e w' => ∃ a cap, e = .returned (.slice a X.d.length cap) ∧ Rv w' a X.d ∧ Below w.heap.size w w') := hidW (fun w hw => (vplaces_2 w B X hw.t2.pb).mono fun e w' ⟨g, cap, rest, q1, q2, q3⟩ => ⟨_, _, q1, Sw.rv (Or.inr ⟨g, rest, rfl, q2⟩), q3⟩)
      have HQL : Hid (∀ w b cb, Rv w (some ⟨g, 0, none⟩) X.d → Rv w b X.d → Calls Tryd.prog 22 #[.slice (some ⟨g, 0, none⟩) X.d.length X.d.length, .slice b X.d.length cb] w fun e w' => e = .returned (.bool true) ∧ Below w.heap.size w w') := hidW (fun w b cb k1 k2 => slots_yes w _ b _ cb X.d k1 k2 HX.out.t2.pa.td.hi)
      clear hg
      have tw : IntKind.i64.wrap ((fr : Int) + 1) = (fr : Int) + 1 := by rw [IntKind.wrap_i64]; omega
      have tn : ((fr : Int) + 1).toNat = fr + 1 := by omega
      have tl : fr + 1 < rl := by omega
      have tz : (fr : Int) + 1 < (rl : Int) := by omega
      have ty : (0 : Int) ≤ (fr : Int) + 1 := by omega
      generalize X.d.length = l at HK HG HV HQL
      generalize X.d = L at HG HV HQL
      go_wp2
      replace HX := hidW HX.out.drew
      refine wp_region_held_drew (S := fun w' => w'.cell? ⟨ha, fr + 1, none⟩ = some (.slice (some ⟨g, 0, none⟩) l l)) (by kernel_rfl) (HK.out _ HX.out) (fun hHeld => ?_)
      refine wpAnyH_take (i := 0) (oi := { dst := some 66, op := Op.move (Operand.tmp 12), type := 64, pos := _, after := #[], guard := none }) (v := ?_) rfl (by kernel_rfl) (by kernel_rfl) (by kernel_rfl) (fun _ _ _ h => hpan h) (Or.inl ⟨by rfl, ?_⟩) (by assumption) ?_
      rotate_left
      · (intro w hSw; (try dsimp only at hSw); go_simp; try with_reducible rfl)
      simp only [Act.put, List.setIfInBounds_toArray, List.set_cons_zero, List.set_cons_succ]
      refine wpAnyH_take (i := 1) (oi := { dst := some 67, op := Op.move (Operand.tmp 14), type := 3, pos := _, after := #[], guard := none }) (v := ?_) rfl (by kernel_rfl) (by kernel_rfl) (by kernel_rfl) (fun _ _ _ h => hpan h) (Or.inl ⟨by rfl, ?_⟩) (by assumption) ?_
      rotate_left
      · (intro w hSw; (try dsimp only at hSw); go_simp; try with_reducible rfl)
      simp only [Act.put, List.setIfInBounds_toArray, List.set_cons_zero, List.set_cons_succ]
      refine wpAnyH_take (i := 2) (oi := { dst := some 68, op := Op.move (Operand.tmp 16), type := 3, pos := _, after := #[], guard := none }) (v := ?_) rfl (by kernel_rfl) (by kernel_rfl) (by kernel_rfl) (fun _ _ _ h => hpan h) (Or.inl ⟨by rfl, ?_⟩) (by assumption) ?_
      rotate_left
      · (intro w hSw; (try dsimp only at hSw); go_simp; try with_reducible rfl)
      simp only [Act.put, List.setIfInBounds_toArray, List.set_cons_zero, List.set_cons_succ]
      refine wpAnyH_take (i := 3) (oi := { dst := some 69, op := Op.binOp BinOp.add 3 (Operand.tmp 67) (Operand.tmp 68) 3, type := 3, pos := _, after := #[{ on := 1, ground := Ground.data }, { on := 2, ground := Ground.data }], guard := none }) (v := ?_) rfl (by kernel_rfl) (by kernel_rfl) (by kernel_rfl) (fun _ _ _ h => hpan h) (Or.inl ⟨by rfl, ?_⟩) (by assumption) ?_
      rotate_left
      · (intro w hSw; (try dsimp only at hSw); go_simp; try with_reducible rfl)
      simp only [Act.put, List.setIfInBounds_toArray, List.set_cons_zero, List.set_cons_succ]
      refine wpAnyH_take (i := 4) (oi := { dst := some 70, op := Op.indexAddr 64 (Operand.tmp 66) (Operand.tmp 69), type := 0, pos := _, after := #[{ on := 0, ground := Ground.data }, { on := 3, ground := Ground.data }], guard := none }) (v := ?_) rfl (by kernel_rfl) (by kernel_rfl) (by kernel_rfl) (fun _ _ _ h => hpan h) (Or.inl ⟨by rfl, ?_⟩) (by assumption) ?_
      rotate_left
      · (intro w hSw; (try dsimp only at hSw); go_simp; try with_reducible rfl)
      simp only [Act.put, List.setIfInBounds_toArray, List.set_cons_zero, List.set_cons_succ]
      refine wpAnyH_take (i := 5) (oi := { dst := some 71, op := Op.load 54 (Operand.tmp 70), type := 54, pos := _, after := #[{ on := 4, ground := Ground.data }], guard := none }) (v := ?_) rfl (by kernel_rfl) (by kernel_rfl) (by kernel_rfl) (fun _ _ _ h => hpan h) (Or.inl ⟨by rfl, ?_⟩) (by assumption) ?_
      rotate_left
      · (intro w hSw; (try dsimp only at hSw); go_simp; try with_reducible rfl)
      simp only [Act.put, List.setIfInBounds_toArray, List.set_cons_zero, List.set_cons_succ]
      refine wpAnyH_take (i := 6) (oi := { dst := some 72, op := Op.move (Operand.tmp 10), type := 59, pos := _, after := #[], guard := none }) (v := ?_) rfl (by kernel_rfl) (by kernel_rfl) (by kernel_rfl) (fun _ _ _ h => hpan h) (Or.inl ⟨by rfl, ?_⟩) (by assumption) ?_
      rotate_left
      · (intro w hSw; (try dsimp only at hSw); go_simp; try with_reducible rfl)
      simp only [Act.put, List.setIfInBounds_toArray, List.set_cons_zero, List.set_cons_succ]
      refine wpAnyH_take (i := 7) (oi := { dst := some 73, op := Op.move (Operand.tmp 16), type := 3, pos := _, after := #[], guard := none }) (v := ?_) rfl (by kernel_rfl) (by kernel_rfl) (by kernel_rfl) (fun _ _ _ h => hpan h) (Or.inl ⟨by rfl, ?_⟩) (by assumption) ?_
      rotate_left
      · (intro w hSw; (try dsimp only at hSw); go_simp; try with_reducible rfl)
      simp only [Act.put, List.setIfInBounds_toArray, List.set_cons_zero, List.set_cons_succ]
      refine wpAnyH_take (i := 8) (oi := { dst := some 74, op := Op.binOp BinOp.rem 3 (Operand.tmp 73) (Operand.const (Value.int IntKind.i64 3)) 3, type := 3, pos := _, after := #[{ on := 7, ground := Ground.data }], guard := none }) (v := ?_) rfl (by kernel_rfl) (by kernel_rfl) (by kernel_rfl) (fun _ _ _ h => hpan h) (Or.inl ⟨by rfl, ?_⟩) (by assumption) ?_
      rotate_left
      · (intro w hSw; (try dsimp only at hSw); go_simp; try with_reducible rfl)
      simp only [Act.put, List.setIfInBounds_toArray, List.set_cons_zero, List.set_cons_succ]
      refine wpAnyH_take (i := 9) (oi := { dst := some 75, op := Op.binOp BinOp.add 3 (Operand.const (Value.int IntKind.i64 1)) (Operand.tmp 74) 3, type := 3, pos := _, after := #[{ on := 8, ground := Ground.data }], guard := none }) (v := ?_) rfl (by kernel_rfl) (by kernel_rfl) (by kernel_rfl) (fun _ _ _ h => hpan h) (Or.inl ⟨by rfl, ?_⟩) (by assumption) ?_
      rotate_left
      · (intro w hSw; (try dsimp only at hSw); go_simp; try with_reducible rfl)
      simp only [Act.put, List.setIfInBounds_toArray, List.set_cons_zero, List.set_cons_succ]
      refine wpAnyH_ready (rs := [10]) (by kernel_rfl) (by simp) ?_
      refine AllReadyH.cons (o := { dst := some 76, op := Op.call { callee := Callee.value (Operand.func 23), args := #[Operand.tmp 72, Operand.tmp 75], argTypes := #[59, 3] }, type := 54, pos := _, after := #[{ on := 6, ground := Ground.data }, { on := 9, ground := Ground.data }], guard := none }) rfl (fun K hK => ?_) AllReadyH.nil
      go_simp
      (go_at_call 23; refine (HV.out _ HX.out).mono ?_; rintro e w3 ⟨a3, c3, rfl, hv, hb⟩; replace HX := hidW (HX.out.step hb); have HVv := hidW hv; clear hb hv; go_wp2_with fail)
      refine hK.out _ _ ?_ (fun hHeld => ?_)
      · ((try dsimp only); with_reducible exact HK.out _ HX.out)
      clear hK K
      try simp only [Act.put, List.setIfInBounds_toArray, List.set_cons_zero, List.set_cons_succ]
      refine wpAnyH_ready (rs := [11]) (by kernel_rfl) (by simp) ?_
      refine AllReadyH.cons (o := { dst := some 77, op := Op.call { callee := Callee.value (Operand.func 22), args := #[Operand.tmp 71, Operand.tmp 76], argTypes := #[54, 54] }, type := 4, pos := _, after := #[{ on := 5, ground := Ground.data }, { on := 10, ground := Ground.data }, { on := 10, ground := Ground.chain }], guard := none }) rfl (fun K hK => ?_) AllReadyH.nil
      go_simp
      (go_at_call 22; refine (HQL.out _ _ _ (HG.out _ HX.out) HVv.out).mono ?_; rintro e w4 ⟨rfl, hb⟩; replace HX := hidW (HX.out.step hb); clear hb HVv; go_wp2_with fail)
      refine hK.out _ _ ?_ (fun hHeld => ?_)
      · ((try dsimp only); with_reducible exact HK.out _ HX.out)
      clear hK K
      try simp only [Act.put, List.setIfInBounds_toArray, List.set_cons_zero, List.set_cons_succ]
      refine wpAnyH_take (i := 12) (oi := { dst := some 78, op := Op.unOp UnOp.not 4 (Operand.tmp 77), type := 4, pos := _, after := #[{ on := 11, ground := Ground.data }], guard := none }) (v := ?_) rfl (by kernel_rfl) (by kernel_rfl) (by kernel_rfl) (fun _ _ _ h => hpan h) (Or.inl ⟨by rfl, ?_⟩) (by assumption) ?_
      rotate_left
      · (intro w hSw; (try dsimp only at hSw); go_simp; try with_reducible rfl)
      simp only [Act.put, List.setIfInBounds_toArray, List.set_cons_zero, List.set_cons_succ]
      refine wpAnyH_done (by kernel_rfl) ?_ _
      clear hHeld
      go_wp2
      go_roundw
      case rel => exact ⟨2, by omega, (by first | rfl | go_num), HX.out⟩
      case measure => simp [intOf]
    · replace hi : _ = Value.int .i64 2 := hi
      subst hi
      obtain ⟨g, hg⟩ := HN.out 2 X.m rfl
      have HK : Hid (∀ w, HH W w A B X G (.slice (some ⟨ha, 0, none⟩) rl cp) R → w.cell? ⟨ha, fr + 2, none⟩ = some (.slice (some ⟨g, 0, none⟩) X.m.length X.m.length)) := hidW (fun w hw => by
        obtain ⟨g2, e2, hc⟩ := hw.held hg
        injection e2 with e2
        injection e2 with e2 _ _
        subst e2
        exact hc)
      have HG : Hid (∀ w, HH W w A B X G (.slice (some ⟨ha, 0, none⟩) rl cp) R → Rv w (some ⟨g, 0, none⟩) X.m) := hidW (fun w hw => Sv.rv (Or.inr ⟨g, rfl, hw.rows _ (List.mem_of_getElem? hg)⟩))
      have HV : Hid (∀ w, HH W w A B X G (.slice (some ⟨ha, 0, none⟩) rl cp) R → Calls Tryd.prog 23 #[.pointer (some ⟨B.h, 0, none⟩), .int .i64 3] w fun e w' => ∃ a cap, e = .returned (.slice a X.m.length cap) ∧ Rv w' a X.m ∧ Below w.heap.size w w') := hidW (fun w hw => (vplaces_3 w B X hw.t2.pb).mono fun e w' ⟨g, cap, rest, q1, q2, q3⟩ => ⟨_, _, q1, Sw.rv (Or.inr ⟨g, rest, rfl, q2⟩), q3⟩)
      have HQL : Hid (∀ w b cb, Rv w (some ⟨g, 0, none⟩) X.m → Rv w b X.m → Calls Tryd.prog 22 #[.slice (some ⟨g, 0, none⟩) X.m.length X.m.length, .slice b X.m.length cb] w fun e w' => e = .returned (.bool true) ∧ Below w.heap.size w w') := hidW (fun w b cb k1 k2 => slots_yes w _ b _ cb X.m k1 k2 HX.out.t2.pa.tm.hi)
      clear hg
      have tw : IntKind.i64.wrap ((fr : Int) + 2) = (fr : Int) + 2 := by rw [IntKind.wrap_i64]; omega
      have tn : ((fr : Int) + 2).toNat = fr + 2 := by omega
      have tl : fr + 2 < rl := by omega
      have tz : (fr : Int) + 2 < (rl : Int) := by omega
      have ty : (0 : Int) ≤ (fr : Int) + 2 := by omega
      generalize X.m.length = l at HK HG HV HQL
      generalize X.m = L at HG HV HQL
      go_wp2
      replace HX := hidW HX.out.drew
      refine wp_region_held_drew (S := fun w' => w'.cell? ⟨ha, fr + 2, none⟩ = some (.slice (some ⟨g, 0, none⟩) l l)) (by kernel_rfl) (HK.out _ HX.out) (fun hHeld => ?_)
      refine wpAnyH_take (i := 0) (oi := { dst := some 66, op := Op.move (Operand.tmp 12), type := 64, pos := _, after := #[], guard := none }) (v := ?_) rfl (by kernel_rfl) (by kernel_rfl) (by kernel_rfl) (fun _ _ _ h => hpan h) (Or.inl ⟨by rfl, ?_⟩) (by assumption) ?_
      rotate_left
      · (intro w hSw; (try dsimp only at hSw); go_simp; try with_reducible rfl)
      simp only [Act.put, List.setIfInBounds_toArray, List.set_cons_zero, List.set_cons_succ]
      refine wpAnyH_take (i := 1) (oi := { dst := some 67, op := Op.move (Operand.tmp 14), type := 3, pos := _, after := #[], guard := none }) (v := ?_) rfl (by kernel_rfl) (by kernel_rfl) (by kernel_rfl) (fun _ _ _ h => hpan h) (Or.inl ⟨by rfl, ?_⟩) (by assumption) ?_
      rotate_left
      · (intro w hSw; (try dsimp only at hSw); go_simp; try with_reducible rfl)
      simp only [Act.put, List.setIfInBounds_toArray, List.set_cons_zero, List.set_cons_succ]
      refine wpAnyH_take (i := 2) (oi := { dst := some 68, op := Op.move (Operand.tmp 16), type := 3, pos := _, after := #[], guard := none }) (v := ?_) rfl (by kernel_rfl) (by kernel_rfl) (by kernel_rfl) (fun _ _ _ h => hpan h) (Or.inl ⟨by rfl, ?_⟩) (by assumption) ?_
      rotate_left
      · (intro w hSw; (try dsimp only at hSw); go_simp; try with_reducible rfl)
      simp only [Act.put, List.setIfInBounds_toArray, List.set_cons_zero, List.set_cons_succ]
      refine wpAnyH_take (i := 3) (oi := { dst := some 69, op := Op.binOp BinOp.add 3 (Operand.tmp 67) (Operand.tmp 68) 3, type := 3, pos := _, after := #[{ on := 1, ground := Ground.data }, { on := 2, ground := Ground.data }], guard := none }) (v := ?_) rfl (by kernel_rfl) (by kernel_rfl) (by kernel_rfl) (fun _ _ _ h => hpan h) (Or.inl ⟨by rfl, ?_⟩) (by assumption) ?_
      rotate_left
      · (intro w hSw; (try dsimp only at hSw); go_simp; try with_reducible rfl)
      simp only [Act.put, List.setIfInBounds_toArray, List.set_cons_zero, List.set_cons_succ]
      refine wpAnyH_take (i := 4) (oi := { dst := some 70, op := Op.indexAddr 64 (Operand.tmp 66) (Operand.tmp 69), type := 0, pos := _, after := #[{ on := 0, ground := Ground.data }, { on := 3, ground := Ground.data }], guard := none }) (v := ?_) rfl (by kernel_rfl) (by kernel_rfl) (by kernel_rfl) (fun _ _ _ h => hpan h) (Or.inl ⟨by rfl, ?_⟩) (by assumption) ?_
      rotate_left
      · (intro w hSw; (try dsimp only at hSw); go_simp; try with_reducible rfl)
      simp only [Act.put, List.setIfInBounds_toArray, List.set_cons_zero, List.set_cons_succ]
      refine wpAnyH_take (i := 5) (oi := { dst := some 71, op := Op.load 54 (Operand.tmp 70), type := 54, pos := _, after := #[{ on := 4, ground := Ground.data }], guard := none }) (v := ?_) rfl (by kernel_rfl) (by kernel_rfl) (by kernel_rfl) (fun _ _ _ h => hpan h) (Or.inl ⟨by rfl, ?_⟩) (by assumption) ?_
      rotate_left
      · (intro w hSw; (try dsimp only at hSw); go_simp; try with_reducible rfl)
      simp only [Act.put, List.setIfInBounds_toArray, List.set_cons_zero, List.set_cons_succ]
      refine wpAnyH_take (i := 6) (oi := { dst := some 72, op := Op.move (Operand.tmp 10), type := 59, pos := _, after := #[], guard := none }) (v := ?_) rfl (by kernel_rfl) (by kernel_rfl) (by kernel_rfl) (fun _ _ _ h => hpan h) (Or.inl ⟨by rfl, ?_⟩) (by assumption) ?_
      rotate_left
      · (intro w hSw; (try dsimp only at hSw); go_simp; try with_reducible rfl)
      simp only [Act.put, List.setIfInBounds_toArray, List.set_cons_zero, List.set_cons_succ]
      refine wpAnyH_take (i := 7) (oi := { dst := some 73, op := Op.move (Operand.tmp 16), type := 3, pos := _, after := #[], guard := none }) (v := ?_) rfl (by kernel_rfl) (by kernel_rfl) (by kernel_rfl) (fun _ _ _ h => hpan h) (Or.inl ⟨by rfl, ?_⟩) (by assumption) ?_
      rotate_left
      · (intro w hSw; (try dsimp only at hSw); go_simp; try with_reducible rfl)
      simp only [Act.put, List.setIfInBounds_toArray, List.set_cons_zero, List.set_cons_succ]
      refine wpAnyH_take (i := 8) (oi := { dst := some 74, op := Op.binOp BinOp.rem 3 (Operand.tmp 73) (Operand.const (Value.int IntKind.i64 3)) 3, type := 3, pos := _, after := #[{ on := 7, ground := Ground.data }], guard := none }) (v := ?_) rfl (by kernel_rfl) (by kernel_rfl) (by kernel_rfl) (fun _ _ _ h => hpan h) (Or.inl ⟨by rfl, ?_⟩) (by assumption) ?_
      rotate_left
      · (intro w hSw; (try dsimp only at hSw); go_simp; try with_reducible rfl)
      simp only [Act.put, List.setIfInBounds_toArray, List.set_cons_zero, List.set_cons_succ]
      refine wpAnyH_take (i := 9) (oi := { dst := some 75, op := Op.binOp BinOp.add 3 (Operand.const (Value.int IntKind.i64 1)) (Operand.tmp 74) 3, type := 3, pos := _, after := #[{ on := 8, ground := Ground.data }], guard := none }) (v := ?_) rfl (by kernel_rfl) (by kernel_rfl) (by kernel_rfl) (fun _ _ _ h => hpan h) (Or.inl ⟨by rfl, ?_⟩) (by assumption) ?_
      rotate_left
      · (intro w hSw; (try dsimp only at hSw); go_simp; try with_reducible rfl)
      simp only [Act.put, List.setIfInBounds_toArray, List.set_cons_zero, List.set_cons_succ]
      refine wpAnyH_ready (rs := [10]) (by kernel_rfl) (by simp) ?_
      refine AllReadyH.cons (o := { dst := some 76, op := Op.call { callee := Callee.value (Operand.func 23), args := #[Operand.tmp 72, Operand.tmp 75], argTypes := #[59, 3] }, type := 54, pos := _, after := #[{ on := 6, ground := Ground.data }, { on := 9, ground := Ground.data }], guard := none }) rfl (fun K hK => ?_) AllReadyH.nil
      go_simp
      (go_at_call 23; refine (HV.out _ HX.out).mono ?_; rintro e w3 ⟨a3, c3, rfl, hv, hb⟩; replace HX := hidW (HX.out.step hb); have HVv := hidW hv; clear hb hv; go_wp2_with fail)
      refine hK.out _ _ ?_ (fun hHeld => ?_)
      · ((try dsimp only); with_reducible exact HK.out _ HX.out)
      clear hK K
      try simp only [Act.put, List.setIfInBounds_toArray, List.set_cons_zero, List.set_cons_succ]
      refine wpAnyH_ready (rs := [11]) (by kernel_rfl) (by simp) ?_
      refine AllReadyH.cons (o := { dst := some 77, op := Op.call { callee := Callee.value (Operand.func 22), args := #[Operand.tmp 71, Operand.tmp 76], argTypes := #[54, 54] }, type := 4, pos := _, after := #[{ on := 5, ground := Ground.data }, { on := 10, ground := Ground.data }, { on := 10, ground := Ground.chain }], guard := none }) rfl (fun K hK => ?_) AllReadyH.nil
      go_simp
      (go_at_call 22; refine (HQL.out _ _ _ (HG.out _ HX.out) HVv.out).mono ?_; rintro e w4 ⟨rfl, hb⟩; replace HX := hidW (HX.out.step hb); clear hb HVv; go_wp2_with fail)
      refine hK.out _ _ ?_ (fun hHeld => ?_)
      · ((try dsimp only); with_reducible exact HK.out _ HX.out)
      clear hK K
      try simp only [Act.put, List.setIfInBounds_toArray, List.set_cons_zero, List.set_cons_succ]
      refine wpAnyH_take (i := 12) (oi := { dst := some 78, op := Op.unOp UnOp.not 4 (Operand.tmp 77), type := 4, pos := _, after := #[{ on := 11, ground := Ground.data }], guard := none }) (v := ?_) rfl (by kernel_rfl) (by kernel_rfl) (by kernel_rfl) (fun _ _ _ h => hpan h) (Or.inl ⟨by rfl, ?_⟩) (by assumption) ?_
      rotate_left
      · (intro w hSw; (try dsimp only at hSw); go_simp; try with_reducible rfl)
      simp only [Act.put, List.setIfInBounds_toArray, List.set_cons_zero, List.set_cons_succ]
      refine wpAnyH_done (by kernel_rfl) ?_ _
      clear hHeld
      go_wp2
      go_roundw
      case rel => exact ⟨3, by omega, (by first | rfl | go_num), HX.out⟩
      case measure => simp [intOf]
    · replace hi : _ = Value.int .i64 3 := hi
      subst hi
      obtain ⟨g, hg⟩ := HN.out 3 X.i rfl
      have HK : Hid (∀ w, HH W w A B X G (.slice (some ⟨ha, 0, none⟩) rl cp) R → w.cell? ⟨ha, fr + 3, none⟩ = some (.slice (some ⟨g, 0, none⟩) X.i.length X.i.length)) := hidW (fun w hw => by
        obtain ⟨g2, e2, hc⟩ := hw.held hg
        injection e2 with e2
        injection e2 with e2 _ _
        subst e2
        exact hc)
      have HG : Hid (∀ w, HH W w A B X G (.slice (some ⟨ha, 0, none⟩) rl cp) R → Rv w (some ⟨g, 0, none⟩) X.i) := hidW (fun w hw => Sv.rv (Or.inr ⟨g, rfl, hw.rows _ (List.mem_of_getElem? hg)⟩))
      have HV : Hid (∀ w, HH W w A B X G (.slice (some ⟨ha, 0, none⟩) rl cp) R → Calls Tryd.prog 23 #[.pointer (some ⟨B.h, 0, none⟩), .int .i64 1] w fun e w' => ∃ a cap, e = .returned (.slice a X.i.length cap) ∧ Rv w' a X.i ∧ Below w.heap.size w w') := hidW (fun w hw => (vplaces_1 w B X hw.t2.pb).mono fun e w' ⟨g, cap, rest, q1, q2, q3⟩ => ⟨_, _, q1, Sw.rv (Or.inr ⟨g, rest, rfl, q2⟩), q3⟩)
      have HQL : Hid (∀ w b cb, Rv w (some ⟨g, 0, none⟩) X.i → Rv w b X.i → Calls Tryd.prog 22 #[.slice (some ⟨g, 0, none⟩) X.i.length X.i.length, .slice b X.i.length cb] w fun e w' => e = .returned (.bool true) ∧ Below w.heap.size w w') := hidW (fun w b cb k1 k2 => slots_yes w _ b _ cb X.i k1 k2 HX.out.t2.pa.ti.hi)
      clear hg
      have tw : IntKind.i64.wrap ((fr : Int) + 3) = (fr : Int) + 3 := by rw [IntKind.wrap_i64]; omega
      have tn : ((fr : Int) + 3).toNat = fr + 3 := by omega
      have tl : fr + 3 < rl := by omega
      have tz : (fr : Int) + 3 < (rl : Int) := by omega
      have ty : (0 : Int) ≤ (fr : Int) + 3 := by omega
      generalize X.i.length = l at HK HG HV HQL
      generalize X.i = L at HG HV HQL
      go_wp2
      replace HX := hidW HX.out.drew
      refine wp_region_held_drew (S := fun w' => w'.cell? ⟨ha, fr + 3, none⟩ = some (.slice (some ⟨g, 0, none⟩) l l)) (by kernel_rfl) (HK.out _ HX.out) (fun hHeld => ?_)
      refine wpAnyH_take (i := 0) (oi := { dst := some 66, op := Op.move (Operand.tmp 12), type := 64, pos := _, after := #[], guard := none }) (v := ?_) rfl (by kernel_rfl) (by kernel_rfl) (by kernel_rfl) (fun _ _ _ h => hpan h) (Or.inl ⟨by rfl, ?_⟩) (by assumption) ?_
      rotate_left
      · (intro w hSw; (try dsimp only at hSw); go_simp; try with_reducible rfl)
      simp only [Act.put, List.setIfInBounds_toArray, List.set_cons_zero, List.set_cons_succ]
      refine wpAnyH_take (i := 1) (oi := { dst := some 67, op := Op.move (Operand.tmp 14), type := 3, pos := _, after := #[], guard := none }) (v := ?_) rfl (by kernel_rfl) (by kernel_rfl) (by kernel_rfl) (fun _ _ _ h => hpan h) (Or.inl ⟨by rfl, ?_⟩) (by assumption) ?_
      rotate_left
      · (intro w hSw; (try dsimp only at hSw); go_simp; try with_reducible rfl)
      simp only [Act.put, List.setIfInBounds_toArray, List.set_cons_zero, List.set_cons_succ]
      refine wpAnyH_take (i := 2) (oi := { dst := some 68, op := Op.move (Operand.tmp 16), type := 3, pos := _, after := #[], guard := none }) (v := ?_) rfl (by kernel_rfl) (by kernel_rfl) (by kernel_rfl) (fun _ _ _ h => hpan h) (Or.inl ⟨by rfl, ?_⟩) (by assumption) ?_
      rotate_left
      · (intro w hSw; (try dsimp only at hSw); go_simp; try with_reducible rfl)
      simp only [Act.put, List.setIfInBounds_toArray, List.set_cons_zero, List.set_cons_succ]
      refine wpAnyH_take (i := 3) (oi := { dst := some 69, op := Op.binOp BinOp.add 3 (Operand.tmp 67) (Operand.tmp 68) 3, type := 3, pos := _, after := #[{ on := 1, ground := Ground.data }, { on := 2, ground := Ground.data }], guard := none }) (v := ?_) rfl (by kernel_rfl) (by kernel_rfl) (by kernel_rfl) (fun _ _ _ h => hpan h) (Or.inl ⟨by rfl, ?_⟩) (by assumption) ?_
      rotate_left
      · (intro w hSw; (try dsimp only at hSw); go_simp; try with_reducible rfl)
      simp only [Act.put, List.setIfInBounds_toArray, List.set_cons_zero, List.set_cons_succ]
      refine wpAnyH_take (i := 4) (oi := { dst := some 70, op := Op.indexAddr 64 (Operand.tmp 66) (Operand.tmp 69), type := 0, pos := _, after := #[{ on := 0, ground := Ground.data }, { on := 3, ground := Ground.data }], guard := none }) (v := ?_) rfl (by kernel_rfl) (by kernel_rfl) (by kernel_rfl) (fun _ _ _ h => hpan h) (Or.inl ⟨by rfl, ?_⟩) (by assumption) ?_
      rotate_left
      · (intro w hSw; (try dsimp only at hSw); go_simp; try with_reducible rfl)
      simp only [Act.put, List.setIfInBounds_toArray, List.set_cons_zero, List.set_cons_succ]
      refine wpAnyH_take (i := 5) (oi := { dst := some 71, op := Op.load 54 (Operand.tmp 70), type := 54, pos := _, after := #[{ on := 4, ground := Ground.data }], guard := none }) (v := ?_) rfl (by kernel_rfl) (by kernel_rfl) (by kernel_rfl) (fun _ _ _ h => hpan h) (Or.inl ⟨by rfl, ?_⟩) (by assumption) ?_
      rotate_left
      · (intro w hSw; (try dsimp only at hSw); go_simp; try with_reducible rfl)
      simp only [Act.put, List.setIfInBounds_toArray, List.set_cons_zero, List.set_cons_succ]
      refine wpAnyH_take (i := 6) (oi := { dst := some 72, op := Op.move (Operand.tmp 10), type := 59, pos := _, after := #[], guard := none }) (v := ?_) rfl (by kernel_rfl) (by kernel_rfl) (by kernel_rfl) (fun _ _ _ h => hpan h) (Or.inl ⟨by rfl, ?_⟩) (by assumption) ?_
      rotate_left
      · (intro w hSw; (try dsimp only at hSw); go_simp; try with_reducible rfl)
      simp only [Act.put, List.setIfInBounds_toArray, List.set_cons_zero, List.set_cons_succ]
      refine wpAnyH_take (i := 7) (oi := { dst := some 73, op := Op.move (Operand.tmp 16), type := 3, pos := _, after := #[], guard := none }) (v := ?_) rfl (by kernel_rfl) (by kernel_rfl) (by kernel_rfl) (fun _ _ _ h => hpan h) (Or.inl ⟨by rfl, ?_⟩) (by assumption) ?_
      rotate_left
      · (intro w hSw; (try dsimp only at hSw); go_simp; try with_reducible rfl)
      simp only [Act.put, List.setIfInBounds_toArray, List.set_cons_zero, List.set_cons_succ]
      refine wpAnyH_take (i := 8) (oi := { dst := some 74, op := Op.binOp BinOp.rem 3 (Operand.tmp 73) (Operand.const (Value.int IntKind.i64 3)) 3, type := 3, pos := _, after := #[{ on := 7, ground := Ground.data }], guard := none }) (v := ?_) rfl (by kernel_rfl) (by kernel_rfl) (by kernel_rfl) (fun _ _ _ h => hpan h) (Or.inl ⟨by rfl, ?_⟩) (by assumption) ?_
      rotate_left
      · (intro w hSw; (try dsimp only at hSw); go_simp; try with_reducible rfl)
      simp only [Act.put, List.setIfInBounds_toArray, List.set_cons_zero, List.set_cons_succ]
      refine wpAnyH_take (i := 9) (oi := { dst := some 75, op := Op.binOp BinOp.add 3 (Operand.const (Value.int IntKind.i64 1)) (Operand.tmp 74) 3, type := 3, pos := _, after := #[{ on := 8, ground := Ground.data }], guard := none }) (v := ?_) rfl (by kernel_rfl) (by kernel_rfl) (by kernel_rfl) (fun _ _ _ h => hpan h) (Or.inl ⟨by rfl, ?_⟩) (by assumption) ?_
      rotate_left
      · (intro w hSw; (try dsimp only at hSw); go_simp; try with_reducible rfl)
      simp only [Act.put, List.setIfInBounds_toArray, List.set_cons_zero, List.set_cons_succ]
      refine wpAnyH_ready (rs := [10]) (by kernel_rfl) (by simp) ?_
      refine AllReadyH.cons (o := { dst := some 76, op := Op.call { callee := Callee.value (Operand.func 23), args := #[Operand.tmp 72, Operand.tmp 75], argTypes := #[59, 3] }, type := 54, pos := _, after := #[{ on := 6, ground := Ground.data }, { on := 9, ground := Ground.data }], guard := none }) rfl (fun K hK => ?_) AllReadyH.nil
      go_simp
      (go_at_call 23; refine (HV.out _ HX.out).mono ?_; rintro e w3 ⟨a3, c3, rfl, hv, hb⟩; replace HX := hidW (HX.out.step hb); have HVv := hidW hv; clear hb hv; go_wp2_with fail)
      refine hK.out _ _ ?_ (fun hHeld => ?_)
      · ((try dsimp only); with_reducible exact HK.out _ HX.out)
      clear hK K
      try simp only [Act.put, List.setIfInBounds_toArray, List.set_cons_zero, List.set_cons_succ]
      refine wpAnyH_ready (rs := [11]) (by kernel_rfl) (by simp) ?_
      refine AllReadyH.cons (o := { dst := some 77, op := Op.call { callee := Callee.value (Operand.func 22), args := #[Operand.tmp 71, Operand.tmp 76], argTypes := #[54, 54] }, type := 4, pos := _, after := #[{ on := 5, ground := Ground.data }, { on := 10, ground := Ground.data }, { on := 10, ground := Ground.chain }], guard := none }) rfl (fun K hK => ?_) AllReadyH.nil
      go_simp
      (go_at_call 22; refine (HQL.out _ _ _ (HG.out _ HX.out) HVv.out).mono ?_; rintro e w4 ⟨rfl, hb⟩; replace HX := hidW (HX.out.step hb); clear hb HVv; go_wp2_with fail)
      refine hK.out _ _ ?_ (fun hHeld => ?_)
      · ((try dsimp only); with_reducible exact HK.out _ HX.out)
      clear hK K
      try simp only [Act.put, List.setIfInBounds_toArray, List.set_cons_zero, List.set_cons_succ]
      refine wpAnyH_take (i := 12) (oi := { dst := some 78, op := Op.unOp UnOp.not 4 (Operand.tmp 77), type := 4, pos := _, after := #[{ on := 11, ground := Ground.data }], guard := none }) (v := ?_) rfl (by kernel_rfl) (by kernel_rfl) (by kernel_rfl) (fun _ _ _ h => hpan h) (Or.inl ⟨by rfl, ?_⟩) (by assumption) ?_
      rotate_left
      · (intro w hSw; (try dsimp only at hSw); go_simp; try with_reducible rfl)
      simp only [Act.put, List.setIfInBounds_toArray, List.set_cons_zero, List.set_cons_succ]
      refine wpAnyH_done (by kernel_rfl) ?_ _
      clear hHeld
      go_wp2
      go_roundw
      case rel => exact ⟨4, by omega, (by first | rfl | go_num), HX.out⟩
      case measure => simp [intOf]
    · replace hi : _ = Value.int .i64 4 := hi
      subst hi
      obtain ⟨g, hg⟩ := HN.out 4 X.d rfl
      have HK : Hid (∀ w, HH W w A B X G (.slice (some ⟨ha, 0, none⟩) rl cp) R → w.cell? ⟨ha, fr + 4, none⟩ = some (.slice (some ⟨g, 0, none⟩) X.d.length X.d.length)) := hidW (fun w hw => by
        obtain ⟨g2, e2, hc⟩ := hw.held hg
        injection e2 with e2
        injection e2 with e2 _ _
        subst e2
        exact hc)
      have HG : Hid (∀ w, HH W w A B X G (.slice (some ⟨ha, 0, none⟩) rl cp) R → Rv w (some ⟨g, 0, none⟩) X.d) := hidW (fun w hw => Sv.rv (Or.inr ⟨g, rfl, hw.rows _ (List.mem_of_getElem? hg)⟩))
      have HV : Hid (∀ w, HH W w A B X G (.slice (some ⟨ha, 0, none⟩) rl cp) R → Calls Tryd.prog 23 #[.pointer (some ⟨B.h, 0, none⟩), .int .i64 2] w fun e w' => ∃ a cap, e = .returned (.slice a X.d.length cap) ∧ Rv w' a X.d ∧ Below w.heap.size w w') := hidW (fun w hw => (vplaces_2 w B X hw.t2.pb).mono fun e w' ⟨g, cap, rest, q1, q2, q3⟩ => ⟨_, _, q1, Sw.rv (Or.inr ⟨g, rest, rfl, q2⟩), q3⟩)
      have HQL : Hid (∀ w b cb, Rv w (some ⟨g, 0, none⟩) X.d → Rv w b X.d → Calls Tryd.prog 22 #[.slice (some ⟨g, 0, none⟩) X.d.length X.d.length, .slice b X.d.length cb] w fun e w' => e = .returned (.bool true) ∧ Below w.heap.size w w') := hidW (fun w b cb k1 k2 => slots_yes w _ b _ cb X.d k1 k2 HX.out.t2.pa.td.hi)
      clear hg
      have tw : IntKind.i64.wrap ((fr : Int) + 4) = (fr : Int) + 4 := by rw [IntKind.wrap_i64]; omega
      have tn : ((fr : Int) + 4).toNat = fr + 4 := by omega
      have tl : fr + 4 < rl := by omega
      have tz : (fr : Int) + 4 < (rl : Int) := by omega
      have ty : (0 : Int) ≤ (fr : Int) + 4 := by omega
      generalize X.d.length = l at HK HG HV HQL
      generalize X.d = L at HG HV HQL
      go_wp2
      replace HX := hidW HX.out.drew
      refine wp_region_held_drew (S := fun w' => w'.cell? ⟨ha, fr + 4, none⟩ = some (.slice (some ⟨g, 0, none⟩) l l)) (by kernel_rfl) (HK.out _ HX.out) (fun hHeld => ?_)
      refine wpAnyH_take (i := 0) (oi := { dst := some 66, op := Op.move (Operand.tmp 12), type := 64, pos := _, after := #[], guard := none }) (v := ?_) rfl (by kernel_rfl) (by kernel_rfl) (by kernel_rfl) (fun _ _ _ h => hpan h) (Or.inl ⟨by rfl, ?_⟩) (by assumption) ?_
      rotate_left
      · (intro w hSw; (try dsimp only at hSw); go_simp; try with_reducible rfl)
      simp only [Act.put, List.setIfInBounds_toArray, List.set_cons_zero, List.set_cons_succ]
      refine wpAnyH_take (i := 1) (oi := { dst := some 67, op := Op.move (Operand.tmp 14), type := 3, pos := _, after := #[], guard := none }) (v := ?_) rfl (by kernel_rfl) (by kernel_rfl) (by kernel_rfl) (fun _ _ _ h => hpan h) (Or.inl ⟨by rfl, ?_⟩) (by assumption) ?_
      rotate_left
      · (intro w hSw; (try dsimp only at hSw); go_simp; try with_reducible rfl)
      simp only [Act.put, List.setIfInBounds_toArray, List.set_cons_zero, List.set_cons_succ]
      refine wpAnyH_take (i := 2) (oi := { dst := some 68, op := Op.move (Operand.tmp 16), type := 3, pos := _, after := #[], guard := none }) (v := ?_) rfl (by kernel_rfl) (by kernel_rfl) (by kernel_rfl) (fun _ _ _ h => hpan h) (Or.inl ⟨by rfl, ?_⟩) (by assumption) ?_
      rotate_left
      · (intro w hSw; (try dsimp only at hSw); go_simp; try with_reducible rfl)
      simp only [Act.put, List.setIfInBounds_toArray, List.set_cons_zero, List.set_cons_succ]
      refine wpAnyH_take (i := 3) (oi := { dst := some 69, op := Op.binOp BinOp.add 3 (Operand.tmp 67) (Operand.tmp 68) 3, type := 3, pos := _, after := #[{ on := 1, ground := Ground.data }, { on := 2, ground := Ground.data }], guard := none }) (v := ?_) rfl (by kernel_rfl) (by kernel_rfl) (by kernel_rfl) (fun _ _ _ h => hpan h) (Or.inl ⟨by rfl, ?_⟩) (by assumption) ?_
      rotate_left
      · (intro w hSw; (try dsimp only at hSw); go_simp; try with_reducible rfl)
      simp only [Act.put, List.setIfInBounds_toArray, List.set_cons_zero, List.set_cons_succ]
      refine wpAnyH_take (i := 4) (oi := { dst := some 70, op := Op.indexAddr 64 (Operand.tmp 66) (Operand.tmp 69), type := 0, pos := _, after := #[{ on := 0, ground := Ground.data }, { on := 3, ground := Ground.data }], guard := none }) (v := ?_) rfl (by kernel_rfl) (by kernel_rfl) (by kernel_rfl) (fun _ _ _ h => hpan h) (Or.inl ⟨by rfl, ?_⟩) (by assumption) ?_
      rotate_left
      · (intro w hSw; (try dsimp only at hSw); go_simp; try with_reducible rfl)
      simp only [Act.put, List.setIfInBounds_toArray, List.set_cons_zero, List.set_cons_succ]
      refine wpAnyH_take (i := 5) (oi := { dst := some 71, op := Op.load 54 (Operand.tmp 70), type := 54, pos := _, after := #[{ on := 4, ground := Ground.data }], guard := none }) (v := ?_) rfl (by kernel_rfl) (by kernel_rfl) (by kernel_rfl) (fun _ _ _ h => hpan h) (Or.inl ⟨by rfl, ?_⟩) (by assumption) ?_
      rotate_left
      · (intro w hSw; (try dsimp only at hSw); go_simp; try with_reducible rfl)
      simp only [Act.put, List.setIfInBounds_toArray, List.set_cons_zero, List.set_cons_succ]
      refine wpAnyH_take (i := 6) (oi := { dst := some 72, op := Op.move (Operand.tmp 10), type := 59, pos := _, after := #[], guard := none }) (v := ?_) rfl (by kernel_rfl) (by kernel_rfl) (by kernel_rfl) (fun _ _ _ h => hpan h) (Or.inl ⟨by rfl, ?_⟩) (by assumption) ?_
      rotate_left
      · (intro w hSw; (try dsimp only at hSw); go_simp; try with_reducible rfl)
      simp only [Act.put, List.setIfInBounds_toArray, List.set_cons_zero, List.set_cons_succ]
      refine wpAnyH_take (i := 7) (oi := { dst := some 73, op := Op.move (Operand.tmp 16), type := 3, pos := _, after := #[], guard := none }) (v := ?_) rfl (by kernel_rfl) (by kernel_rfl) (by kernel_rfl) (fun _ _ _ h => hpan h) (Or.inl ⟨by rfl, ?_⟩) (by assumption) ?_
      rotate_left
      · (intro w hSw; (try dsimp only at hSw); go_simp; try with_reducible rfl)
      simp only [Act.put, List.setIfInBounds_toArray, List.set_cons_zero, List.set_cons_succ]
      refine wpAnyH_take (i := 8) (oi := { dst := some 74, op := Op.binOp BinOp.rem 3 (Operand.tmp 73) (Operand.const (Value.int IntKind.i64 3)) 3, type := 3, pos := _, after := #[{ on := 7, ground := Ground.data }], guard := none }) (v := ?_) rfl (by kernel_rfl) (by kernel_rfl) (by kernel_rfl) (fun _ _ _ h => hpan h) (Or.inl ⟨by rfl, ?_⟩) (by assumption) ?_
      rotate_left
      · (intro w hSw; (try dsimp only at hSw); go_simp; try with_reducible rfl)
      simp only [Act.put, List.setIfInBounds_toArray, List.set_cons_zero, List.set_cons_succ]
      refine wpAnyH_take (i := 9) (oi := { dst := some 75, op := Op.binOp BinOp.add 3 (Operand.const (Value.int IntKind.i64 1)) (Operand.tmp 74) 3, type := 3, pos := _, after := #[{ on := 8, ground := Ground.data }], guard := none }) (v := ?_) rfl (by kernel_rfl) (by kernel_rfl) (by kernel_rfl) (fun _ _ _ h => hpan h) (Or.inl ⟨by rfl, ?_⟩) (by assumption) ?_
      rotate_left
      · (intro w hSw; (try dsimp only at hSw); go_simp; try with_reducible rfl)
      simp only [Act.put, List.setIfInBounds_toArray, List.set_cons_zero, List.set_cons_succ]
      refine wpAnyH_ready (rs := [10]) (by kernel_rfl) (by simp) ?_
      refine AllReadyH.cons (o := { dst := some 76, op := Op.call { callee := Callee.value (Operand.func 23), args := #[Operand.tmp 72, Operand.tmp 75], argTypes := #[59, 3] }, type := 54, pos := _, after := #[{ on := 6, ground := Ground.data }, { on := 9, ground := Ground.data }], guard := none }) rfl (fun K hK => ?_) AllReadyH.nil
      go_simp
      (go_at_call 23; refine (HV.out _ HX.out).mono ?_; rintro e w3 ⟨a3, c3, rfl, hv, hb⟩; replace HX := hidW (HX.out.step hb); have HVv := hidW hv; clear hb hv; go_wp2_with fail)
      refine hK.out _ _ ?_ (fun hHeld => ?_)
      · ((try dsimp only); with_reducible exact HK.out _ HX.out)
      clear hK K
      try simp only [Act.put, List.setIfInBounds_toArray, List.set_cons_zero, List.set_cons_succ]
      refine wpAnyH_ready (rs := [11]) (by kernel_rfl) (by simp) ?_
      refine AllReadyH.cons (o := { dst := some 77, op := Op.call { callee := Callee.value (Operand.func 22), args := #[Operand.tmp 71, Operand.tmp 76], argTypes := #[54, 54] }, type := 4, pos := _, after := #[{ on := 5, ground := Ground.data }, { on := 10, ground := Ground.data }, { on := 10, ground := Ground.chain }], guard := none }) rfl (fun K hK => ?_) AllReadyH.nil
      go_simp
      (go_at_call 22; refine (HQL.out _ _ _ (HG.out _ HX.out) HVv.out).mono ?_; rintro e w4 ⟨rfl, hb⟩; replace HX := hidW (HX.out.step hb); clear hb HVv; go_wp2_with fail)
      refine hK.out _ _ ?_ (fun hHeld => ?_)
      · ((try dsimp only); with_reducible exact HK.out _ HX.out)
      clear hK K
      try simp only [Act.put, List.setIfInBounds_toArray, List.set_cons_zero, List.set_cons_succ]
      refine wpAnyH_take (i := 12) (oi := { dst := some 78, op := Op.unOp UnOp.not 4 (Operand.tmp 77), type := 4, pos := _, after := #[{ on := 11, ground := Ground.data }], guard := none }) (v := ?_) rfl (by kernel_rfl) (by kernel_rfl) (by kernel_rfl) (fun _ _ _ h => hpan h) (Or.inl ⟨by rfl, ?_⟩) (by assumption) ?_
      rotate_left
      · (intro w hSw; (try dsimp only at hSw); go_simp; try with_reducible rfl)
      simp only [Act.put, List.setIfInBounds_toArray, List.set_cons_zero, List.set_cons_succ]
      refine wpAnyH_done (by kernel_rfl) ?_ _
      clear hHeld
      go_wp2
      go_roundw
      case rel => exact ⟨5, by omega, (by first | rfl | go_num), HX.out⟩
      case measure => simp [intOf]
    · replace hi : _ = Value.int .i64 5 := hi
      subst hi
      obtain ⟨g, hg⟩ := HN.out 5 X.m rfl
      have HK : Hid (∀ w, HH W w A B X G (.slice (some ⟨ha, 0, none⟩) rl cp) R → w.cell? ⟨ha, fr + 5, none⟩ = some (.slice (some ⟨g, 0, none⟩) X.m.length X.m.length)) := hidW (fun w hw => by
        obtain ⟨g2, e2, hc⟩ := hw.held hg
        injection e2 with e2
        injection e2 with e2 _ _
        subst e2
        exact hc)
      have HG : Hid (∀ w, HH W w A B X G (.slice (some ⟨ha, 0, none⟩) rl cp) R → Rv w (some ⟨g, 0, none⟩) X.m) := hidW (fun w hw => Sv.rv (Or.inr ⟨g, rfl, hw.rows _ (List.mem_of_getElem? hg)⟩))
      have HV : Hid (∀ w, HH W w A B X G (.slice (some ⟨ha, 0, none⟩) rl cp) R → Calls Tryd.prog 23 #[.pointer (some ⟨B.h, 0, none⟩), .int .i64 3] w fun e w' => ∃ a cap, e = .returned (.slice a X.m.length cap) ∧ Rv w' a X.m ∧ Below w.heap.size w w') := hidW (fun w hw => (vplaces_3 w B X hw.t2.pb).mono fun e w' ⟨g, cap, rest, q1, q2, q3⟩ => ⟨_, _, q1, Sw.rv (Or.inr ⟨g, rest, rfl, q2⟩), q3⟩)
      have HQL : Hid (∀ w b cb, Rv w (some ⟨g, 0, none⟩) X.m → Rv w b X.m → Calls Tryd.prog 22 #[.slice (some ⟨g, 0, none⟩) X.m.length X.m.length, .slice b X.m.length cb] w fun e w' => e = .returned (.bool true) ∧ Below w.heap.size w w') := hidW (fun w b cb k1 k2 => slots_yes w _ b _ cb X.m k1 k2 HX.out.t2.pa.tm.hi)
      clear hg
      have tw : IntKind.i64.wrap ((fr : Int) + 5) = (fr : Int) + 5 := by rw [IntKind.wrap_i64]; omega
      have tn : ((fr : Int) + 5).toNat = fr + 5 := by omega
      have tl : fr + 5 < rl := by omega
      have tz : (fr : Int) + 5 < (rl : Int) := by omega
      have ty : (0 : Int) ≤ (fr : Int) + 5 := by omega
      generalize X.m.length = l at HK HG HV HQL
      generalize X.m = L at HG HV HQL
      go_wp2
      replace HX := hidW HX.out.drew
      refine wp_region_held_drew (S := fun w' => w'.cell? ⟨ha, fr + 5, none⟩ = some (.slice (some ⟨g, 0, none⟩) l l)) (by kernel_rfl) (HK.out _ HX.out) (fun hHeld => ?_)
      refine wpAnyH_take (i := 0) (oi := { dst := some 66, op := Op.move (Operand.tmp 12), type := 64, pos := _, after := #[], guard := none }) (v := ?_) rfl (by kernel_rfl) (by kernel_rfl) (by kernel_rfl) (fun _ _ _ h => hpan h) (Or.inl ⟨by rfl, ?_⟩) (by assumption) ?_
      rotate_left
      · (intro w hSw; (try dsimp only at hSw); go_simp; try with_reducible rfl)
      simp only [Act.put, List.setIfInBounds_toArray, List.set_cons_zero, List.set_cons_succ]
      refine wpAnyH_take (i := 1) (oi := { dst := some 67, op := Op.move (Operand.tmp 14), type := 3, pos := _, after := #[], guard := none }) (v := ?_) rfl (by kernel_rfl) (by kernel_rfl) (by kernel_rfl) (fun _ _ _ h => hpan h) (Or.inl ⟨by rfl, ?_⟩) (by assumption) ?_
      rotate_left
      · (intro w hSw; (try dsimp only at hSw); go_simp; try with_reducible rfl)
      simp only [Act.put, List.setIfInBounds_toArray, List.set_cons_zero, List.set_cons_succ]
      refine wpAnyH_take (i := 2) (oi := { dst := some 68, op := Op.move (Operand.tmp 16), type := 3, pos := _, after := #[], guard := none }) (v := ?_) rfl (by kernel_rfl) (by kernel_rfl) (by kernel_rfl) (fun _ _ _ h => hpan h) (Or.inl ⟨by rfl, ?_⟩) (by assumption) ?_
      rotate_left
      · (intro w hSw; (try dsimp only at hSw); go_simp; try with_reducible rfl)
      simp only [Act.put, List.setIfInBounds_toArray, List.set_cons_zero, List.set_cons_succ]
      refine wpAnyH_take (i := 3) (oi := { dst := some 69, op := Op.binOp BinOp.add 3 (Operand.tmp 67) (Operand.tmp 68) 3, type := 3, pos := _, after := #[{ on := 1, ground := Ground.data }, { on := 2, ground := Ground.data }], guard := none }) (v := ?_) rfl (by kernel_rfl) (by kernel_rfl) (by kernel_rfl) (fun _ _ _ h => hpan h) (Or.inl ⟨by rfl, ?_⟩) (by assumption) ?_
      rotate_left
      · (intro w hSw; (try dsimp only at hSw); go_simp; try with_reducible rfl)
      simp only [Act.put, List.setIfInBounds_toArray, List.set_cons_zero, List.set_cons_succ]
      refine wpAnyH_take (i := 4) (oi := { dst := some 70, op := Op.indexAddr 64 (Operand.tmp 66) (Operand.tmp 69), type := 0, pos := _, after := #[{ on := 0, ground := Ground.data }, { on := 3, ground := Ground.data }], guard := none }) (v := ?_) rfl (by kernel_rfl) (by kernel_rfl) (by kernel_rfl) (fun _ _ _ h => hpan h) (Or.inl ⟨by rfl, ?_⟩) (by assumption) ?_
      rotate_left
      · (intro w hSw; (try dsimp only at hSw); go_simp; try with_reducible rfl)
      simp only [Act.put, List.setIfInBounds_toArray, List.set_cons_zero, List.set_cons_succ]
      refine wpAnyH_take (i := 5) (oi := { dst := some 71, op := Op.load 54 (Operand.tmp 70), type := 54, pos := _, after := #[{ on := 4, ground := Ground.data }], guard := none }) (v := ?_) rfl (by kernel_rfl) (by kernel_rfl) (by kernel_rfl) (fun _ _ _ h => hpan h) (Or.inl ⟨by rfl, ?_⟩) (by assumption) ?_
      rotate_left
      · (intro w hSw; (try dsimp only at hSw); go_simp; try with_reducible rfl)
      simp only [Act.put, List.setIfInBounds_toArray, List.set_cons_zero, List.set_cons_succ]
      refine wpAnyH_take (i := 6) (oi := { dst := some 72, op := Op.move (Operand.tmp 10), type := 59, pos := _, after := #[], guard := none }) (v := ?_) rfl (by kernel_rfl) (by kernel_rfl) (by kernel_rfl) (fun _ _ _ h => hpan h) (Or.inl ⟨by rfl, ?_⟩) (by assumption) ?_
      rotate_left
      · (intro w hSw; (try dsimp only at hSw); go_simp; try with_reducible rfl)
      simp only [Act.put, List.setIfInBounds_toArray, List.set_cons_zero, List.set_cons_succ]
      refine wpAnyH_take (i := 7) (oi := { dst := some 73, op := Op.move (Operand.tmp 16), type := 3, pos := _, after := #[], guard := none }) (v := ?_) rfl (by kernel_rfl) (by kernel_rfl) (by kernel_rfl) (fun _ _ _ h => hpan h) (Or.inl ⟨by rfl, ?_⟩) (by assumption) ?_
      rotate_left
      · (intro w hSw; (try dsimp only at hSw); go_simp; try with_reducible rfl)
      simp only [Act.put, List.setIfInBounds_toArray, List.set_cons_zero, List.set_cons_succ]
      refine wpAnyH_take (i := 8) (oi := { dst := some 74, op := Op.binOp BinOp.rem 3 (Operand.tmp 73) (Operand.const (Value.int IntKind.i64 3)) 3, type := 3, pos := _, after := #[{ on := 7, ground := Ground.data }], guard := none }) (v := ?_) rfl (by kernel_rfl) (by kernel_rfl) (by kernel_rfl) (fun _ _ _ h => hpan h) (Or.inl ⟨by rfl, ?_⟩) (by assumption) ?_
      rotate_left
      · (intro w hSw; (try dsimp only at hSw); go_simp; try with_reducible rfl)
      simp only [Act.put, List.setIfInBounds_toArray, List.set_cons_zero, List.set_cons_succ]
      refine wpAnyH_take (i := 9) (oi := { dst := some 75, op := Op.binOp BinOp.add 3 (Operand.const (Value.int IntKind.i64 1)) (Operand.tmp 74) 3, type := 3, pos := _, after := #[{ on := 8, ground := Ground.data }], guard := none }) (v := ?_) rfl (by kernel_rfl) (by kernel_rfl) (by kernel_rfl) (fun _ _ _ h => hpan h) (Or.inl ⟨by rfl, ?_⟩) (by assumption) ?_
      rotate_left
      · (intro w hSw; (try dsimp only at hSw); go_simp; try with_reducible rfl)
      simp only [Act.put, List.setIfInBounds_toArray, List.set_cons_zero, List.set_cons_succ]
      refine wpAnyH_ready (rs := [10]) (by kernel_rfl) (by simp) ?_
      refine AllReadyH.cons (o := { dst := some 76, op := Op.call { callee := Callee.value (Operand.func 23), args := #[Operand.tmp 72, Operand.tmp 75], argTypes := #[59, 3] }, type := 54, pos := _, after := #[{ on := 6, ground := Ground.data }, { on := 9, ground := Ground.data }], guard := none }) rfl (fun K hK => ?_) AllReadyH.nil
      go_simp
      (go_at_call 23; refine (HV.out _ HX.out).mono ?_; rintro e w3 ⟨a3, c3, rfl, hv, hb⟩; replace HX := hidW (HX.out.step hb); have HVv := hidW hv; clear hb hv; go_wp2_with fail)
      refine hK.out _ _ ?_ (fun hHeld => ?_)
      · ((try dsimp only); with_reducible exact HK.out _ HX.out)
      clear hK K
      try simp only [Act.put, List.setIfInBounds_toArray, List.set_cons_zero, List.set_cons_succ]
      refine wpAnyH_ready (rs := [11]) (by kernel_rfl) (by simp) ?_
      refine AllReadyH.cons (o := { dst := some 77, op := Op.call { callee := Callee.value (Operand.func 22), args := #[Operand.tmp 71, Operand.tmp 76], argTypes := #[54, 54] }, type := 4, pos := _, after := #[{ on := 5, ground := Ground.data }, { on := 10, ground := Ground.data }, { on := 10, ground := Ground.chain }], guard := none }) rfl (fun K hK => ?_) AllReadyH.nil
      go_simp
      (go_at_call 22; refine (HQL.out _ _ _ (HG.out _ HX.out) HVv.out).mono ?_; rintro e w4 ⟨rfl, hb⟩; replace HX := hidW (HX.out.step hb); clear hb HVv; go_wp2_with fail)
      refine hK.out _ _ ?_ (fun hHeld => ?_)
      · ((try dsimp only); with_reducible exact HK.out _ HX.out)
      clear hK K
      try simp only [Act.put, List.setIfInBounds_toArray, List.set_cons_zero, List.set_cons_succ]
      refine wpAnyH_take (i := 12) (oi := { dst := some 78, op := Op.unOp UnOp.not 4 (Operand.tmp 77), type := 4, pos := _, after := #[{ on := 11, ground := Ground.data }], guard := none }) (v := ?_) rfl (by kernel_rfl) (by kernel_rfl) (by kernel_rfl) (fun _ _ _ h => hpan h) (Or.inl ⟨by rfl, ?_⟩) (by assumption) ?_
      rotate_left
      · (intro w hSw; (try dsimp only at hSw); go_simp; try with_reducible rfl)
      simp only [Act.put, List.setIfInBounds_toArray, List.set_cons_zero, List.set_cons_succ]
      refine wpAnyH_done (by kernel_rfl) ?_ _
      clear hHeld
      go_wp2
      go_roundw
      case rel => exact ⟨6, by omega, (by first | rfl | go_num), HX.out⟩
      case measure => simp [intOf]
    · cases hi
      go_wp2
      exact HQ.out HX.out
end Go.Proofs.YtbbnodhpafiplaaDoor
namespace Go.Proofs.YtbbnodhpafiplaaDoor
open Go.RowKit
set_option linter.unusedVariables false
set_option linter.unusedSimpArgs false
/-- What the six lists more are. -/
theorem own_mid {W w : World} {A B : Ad} {X : Hi} {G fr : Nat} {v : Value} {R N : List (Nat × List Slo)} (h : HH W w A B X G v (R ++ N)) (hR : R.length = fr) (hN : N.map (·.2) = six X) (hM : Mk R fr) :
    ∃ ha cp, v = .slice (some ⟨ha, 0, none⟩) (fr + 6) cp ∧ (R ++ N).length = fr + 6 ∧ Mk (R ++ N) fr ∧ ∀ j L, (six X)[j]? = some L → ∃ g, (R ++ N)[fr + j]? = some (g, L) := by
  have hn : N.length = 6 := by
    have := congrArg List.length hN
    rw [List.length_map] at this
    exact this
  have hl : (R ++ N).length = fr + 6 := by rw [List.length_append, hR, hn]
  have hf : ∀ j L, (six X)[j]? = some L → ∃ g, (R ++ N)[fr + j]? = some (g, L) := fun j L h => by
    rw [List.getElem?_append_right (by omega), hR, Nat.add_sub_cancel_left]
    rw [← hN, List.getElem?_map] at h
    cases hp : N[j]? with
    | none => rw [hp] at h; cases h
    | some p =>
      rw [hp] at h
      injection h with h
      exact ⟨p.1, by rw [← h]⟩
  obtain ⟨a, cp, hv, hc⟩ := h.own.shape
  rw [hl] at hv
  obtain ⟨g0, hg0⟩ := hf 0 X.i rfl
  obtain ⟨ha, e2, _⟩ := hc _ _ hg0
  subst e2
  refine ⟨ha, cp, hv, hl, fun m p hm hp => hM m p hm ?_, hf⟩
  rw [List.getElem?_append_left (by omega)] at hp
  exact hp
set_option maxRecDepth 1000000 in
set_option maxHeartbeats 64000000 in
theorem own_no (W : World) (i d m : Int) (sa : Option Addr) (len cap : Nat) (h : ¬ (Okn i ∧ Okn d ∧ Okn m)) :
    Calls Tryd.prog 6 #[.int .i64 i, .int .i64 d, .int .i64 m, .slice sa len cap] W fun e w' => e = .returned (.bool true) ∧ Below W.heap.size W w' := by
  have HB := hidW (both_no i d m W h)
  clear h
  go_enter Tryd.func6, Tryd.ntmps6
  go_wp2_with (fail)
  go_at_call 20
  refine HB.out.mono ?_
  rintro e w1 ⟨rfl, hb⟩
  have HX := hidW hb
  clear hb HB
  go_wp2
  go_ret
  exact ⟨rfl, HX.out⟩
theorem T2.start {W w : World} {A B : Ad} {X : Hi} (h : T2 W w A B X) : HH W w A B X w.heap.size (.slice none 0 0) [] := by
  refine ⟨h, ⟨rfl, .inl ⟨rfl, rfl⟩⟩, fun p hp => by simp at hp, List.Pairwise.nil, fun p hp => by simp at hp, fun p hp => by simp at hp, fun x hx => ?_, h.bel.size, Nat.le_refl _⟩
  rcases hx with hx | hx
  · obtain ⟨c, hc⟩ := h.pa.row _ hx
    exact hc.lt
  · obtain ⟨c, hc⟩ := h.pb.row _ hx
    exact hc.lt
set_option maxRecDepth 1000000 in
set_option maxHeartbeats 64000000 in
theorem own_yes (W : World) (i d m : Int) (sa : Option Addr) (cap : Nat) (ops : List Opr) (hS : Scr W sa ops) (hT : TR W) (hl : ops.length ≤ maxLen) (hl2 : ops.length * 120 ≤ 140737488351232) (h : Okn i ∧ Okn d ∧ Okn m) :
    Calls Tryd.prog 6 #[.int .i64 i, .int .i64 d, .int .i64 m, .slice sa ops.length cap] W fun e w' => e = .returned (.bool true) ∧ Below W.heap.size W w' := by
  clear hl
  have HT : Hid (∀ w, Below W.heap.size W w → TR w) := hidW (fun w hb => hT.below hb)
  have HS0 : Hid (Scr W sa ops) := hS
  have HB := hidW (both_yes i d m W h)
  generalize hn : ops.length = n at *
  have HM : Hid (ops.length = n) := hn
  clear hT hS hn h
  go_enter Tryd.func6, Tryd.ntmps6
  go_wp2_with (fail)
  go_at_call 20
  refine HB.out.mono ?_
  rintro e w1 ⟨A, B, rfl, hX⟩
  have HX := hidW hX.start
  clear hX HB
  generalize w1.heap.size = G at HX
  go_wp2
  go_loopw [12, 13] (fun v i wr => ∃ (k : Nat) (X : Hi) (R : List (Nat × List Slo)), k ≤ n ∧ i = .int .i64 k ∧ R.length = 6 * k ∧ Mk R (6 * k) ∧ HH W wr A B X G v R) (fun _ i _ => n - (intOf i).toNat)
  case atStart => exact ⟨0, _, [], by omega, rfl, rfl, fun m p hm => by omega, HX.out⟩
  case round =>
    clear HX
    obtain ⟨k, X, R, hk, rfl, hr, hm, hX⟩ := hrel
    obtain ⟨a, cp, hv, _⟩ := hX.own.shape
    rw [hr] at hv
    subst hv
    generalize hf : 6 * k = fr at *
    have HX := hidW hX
    have HRl := hidW hr
    have HMk := hidW hm
    clear hX hr hm
    by_cases hlt : k < n
    · obtain ⟨o, b, off, hok, rfl, hoo, hr⟩ := HS0.out.rng HX.out.t2.bel (k := k) (by rw [HM.out]; exact hlt)
      have HR := hidW hr
      have HD : Hid (∀ w, T2 W w A B X → Calls Tryd.prog 21 #[.pointer (some ⟨A.h, 0, none⟩), .pointer (some ⟨B.h, 0, none⟩), .agg #[.int .i64 o.kind, .int .i64 o.asid, .int .i64 o.pick, .int .i64 o.which, .int .u32 o.va, .bool o.fetch, .bool o.mfirst, .int .i64 o.b.asid, .int .i64 o.b.t.size, .int .u32 o.b.t.va, .int .u64 o.b.t.pa, .int .i64 o.b.t.dom, .int .i64 o.b.t.ap, .int .u32 o.b.t.bits, .bool o.b.t.ng, .bool o.b.t.xn, .int .i64 o.d.kind, .int .u32 o.d.va, .int .i64 o.d.asid]] w fun e w' => e = .returned (.bool true) ∧ PH 73 95 [] w' A (stF X o) ∧ PH 93 89 [.pointer none] w' B (stF X o) ∧ Turn (fun x => A.S x ∨ B.S x) w w') := fun w h1 => step_any w A B X o h1.pa h1.pb (HT.out _ h1.bel) h1.dis hoo
      clear hok hoo hr
      generalize stF X o = Y at *
      go_wp2_with (guard_target =~ wpList _ _ _ (Oper.mk (some 45) _ _ _ _ _ :: _) _ _; refine wpList_load_mid rfl _ _ rfl b (off + k * 19) rfl ([.int .i64 o.kind, .int .i64 o.asid, .int .i64 o.pick, .int .i64 o.which, .int .u32 o.va, .bool o.fetch, .bool o.mfirst, .int .i64 o.b.asid, .int .i64 o.b.t.size, .int .u32 o.b.t.va, .int .u64 o.b.t.pa, .int .i64 o.b.t.dom, .int .i64 o.b.t.ap, .int .u32 o.b.t.bits, .bool o.b.t.ng, .bool o.b.t.xn, .int .i64 o.d.kind, .int .u32 o.d.va, .int .i64 o.d.asid]) _ HR.out Tryd.underlying44 rfl (by kernel_rfl) ?_; clear HR)
      go_at_call 21
      refine (HD.out _ HX.out.t2).mono ?_
      rintro e w3 ⟨rfl, hp, hq, hT⟩
      replace HX := hidW (HX.out.turn hp hq hT)
      clear hp hq hT HD HS0 HT
      go_wp2
      refine own_P W _ A B Y G R (by rw [HRl.out]; omega) HX ?_
      refine hidW ?_
      intros
      rename_i v' w4 N hN hX
      obtain ⟨ha, cp, rfl, hl, hm, hc⟩ := own_mid hX HRl.out hN HMk.out
      replace HX := hidW hX
      have HNf := hidW hc
      replace HRl := hidW hl
      replace HMk := hidW hm
      clear hN hX hl hm hc
      generalize hrl : fr + 6 = rl at *
      generalize R ++ N = R2 at *
      have hn2 : rl ≤ 70368744177664 := by omega
      go_wp2
      refine own_B (fun {_ _ d _ _} h => by cases d <;> exact h) W _ A B Y G cp ha rl fr R2 hrl hn2 HNf HX ?_
      refine hidW ?_
      intros
      rename_i w5 hX
      replace HX := hidW hX
      clear hX HNf
      go_wp2
      refine own_C W _ A B Y G cp ha rl fr R2 HRl (by omega) hn2 HMk HX ?_
      refine hidW ?_
      intros
      rename_i w6 R3 hl hm hX
      replace HX := hidW hX
      replace HRl := hidW hl
      replace HMk := hidW hm
      clear hl hm hX
      go_wp2
      refine own_D W _ A B Y G cp ha rl k n cap _ R3 hlt (by omega) HRl hn2 HMk HX ?_
      refine hidW ?_
      intros
      go_wp2
      go_roundw
      case rel =>
        exact ⟨k + 1, Y, R3, by omega, by go_num, by rw [HRl.out]; omega, by rw [show 6 * (k + 1) = rl by omega]; exact HMk.out, HX.out⟩
      case measure => simp [intOf]; omega
    · obtain rfl : k = n := by omega
      go_wp2
      go_ret
      exact ⟨rfl, HX.out.t2.bel⟩
theorem law_own (W : World) (i d m : Int) (sa : Option Addr) (cap : Nat) (ops : List Opr) (hS : Scr W sa ops) (hT : TR W) (hl : ops.length ≤ maxLen) (hl2 : ops.length * 120 ≤ 140737488351232) :
    Calls Tryd.prog 6 #[.int .i64 i, .int .i64 d, .int .i64 m, .slice sa ops.length cap] W fun e w' => e = .returned (.bool true) ∧ Below W.heap.size W w' := by
  by_cases h : Okn i ∧ Okn d ∧ Okn m
  · exact own_yes W i d m sa cap ops hS hT hl hl2 h
  · exact own_no W i d m sa ops.length cap h
end Go.Proofs.YtbbnodhpafiplaaDoor
