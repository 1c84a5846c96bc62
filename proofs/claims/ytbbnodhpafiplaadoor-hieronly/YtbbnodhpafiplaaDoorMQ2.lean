import Derived.Test.YtbbnodhpafiplaaDoorMQ1
import Derived.Test.YtbbnodhpafiplaaDoorOa
namespace Go.Proofs.YtbbnodhpafiplaaDoor
open Go.RowKit
set_option linter.unusedVariables false
set_option linter.unusedSimpArgs false
set_option maxRecDepth 1000000 in
set_option maxHeartbeats 64000000 in
theorem only_J {v0 v1 v2 v3 v4 v5 v6 v7 v8 v9 v10 v11 v12 v13 v14 v15 v16 v17 v18 v19 v20 v23 v24 v25 v26 v27 v28 v29 v30 v31 v32 v33 v34 v35 v36 v37 v38 v39 v40 v41 v42 v43 v44 v45 v46 v47 v48 v49 v50 v51 v52 v53 v54 v55 v56 v57 v58 v59 v60 v61 v62 v63 v64 v65 v66 v67 v68 v69 v70 v71 v72 v73 v74 v75 v76 v77 v78 v79 v80 v81 v82 v83 v84 v85 v86 v87 v88 v89 v90 v91 v92 v93 v94 v95 v96 v97 v98 v99 v100 v101 v102 v103 v104 v105 v106 v107 v108 v109 v110 v111 v112 v113 v114 v115 v116 v117 v118 v119 v120 v121 v122 v123 v124 v125 v126 v127 v128 v129 v130 v131 v132 v133 v134 v135 v136 v137 v138 v139 v140 v141 v142 v143 v144 v145 v146 v147 v148 v149 v150 v151 v152 v153 v154 v155 v156 v157 v158 v159 v160 v161 v162 v163 v164 v165 v166 v167 v168 v169 v170 v171 v172 v173 v174 v175 v176 v177 v178 v179 v180 v181 v182 v183 v184 v185 v186 v187 v188 v189 v190 v191 v192 v193 v194 v195 v196 v197 v198 v199 v200 v201 v202 v203 v204 v205 v206 v207 v208 v209 v210 v211 v212 v213 v214 v215 v216 v217 v218 v219 v220 v221 v222 v223 v224 v225 v226 v227 v228 v229 v230 v231 v232 v233 : Value} {Q : Exit → Act → World → Prop} (S : World → Prop) (HS : Hid (∀ w w', S w → Below w.heap.size w w' → S w')) (K : List Blo) (L : List Slo) (P n : Nat) (hn : n ≤ 64) (HN : Hid (L.length = n)) (HI : Hid (∀ s ∈ L, s.full = true → s.b ∈ K)) (HA : Hid (∀ w b, S w → b ∈ K → Calls Tryd.prog 13 #[v15, .agg #[.int .i64 b.asid, .int .i64 b.t.size, .int .u32 b.t.va, .int .u64 b.t.pa, .int .i64 b.t.dom, .int .i64 b.t.ap, .int .u32 b.t.bits, .bool b.t.ng, .bool b.t.xn]] w fun e w' => e = .returned (.bool true) ∧ Below w.heap.size w w')) (w0 : World) (HX : Hid (S w0 ∧ Bl w0 P 57 (rowS L)))
    (HQ : Hid (∀ {u8 u22 u213 u214 u215 u216 u217 u218 u219 u220 u221 u222 u223 u224 u225 u226 u227 u228 u229 u230 u231 u232 u233 : Value} {w : World}, S w → Q (.exit 5) ⟨(v0 :: v1 :: v2 :: v3 :: v4 :: v5 :: v6 :: v7 :: u8 :: v9 :: v10 :: v11 :: v12 :: v13 :: v14 :: v15 :: v16 :: v17 :: v18 :: v19 :: v20 :: (.slice (some ⟨P, 0, none⟩) n n) :: u22 :: v23 :: v24 :: v25 :: v26 :: v27 :: v28 :: v29 :: v30 :: v31 :: v32 :: v33 :: v34 :: v35 :: v36 :: v37 :: v38 :: v39 :: v40 :: v41 :: v42 :: v43 :: v44 :: v45 :: v46 :: v47 :: v48 :: v49 :: v50 :: v51 :: v52 :: v53 :: v54 :: v55 :: v56 :: v57 :: v58 :: v59 :: v60 :: v61 :: v62 :: v63 :: v64 :: v65 :: v66 :: v67 :: v68 :: v69 :: v70 :: v71 :: v72 :: v73 :: v74 :: v75 :: v76 :: v77 :: v78 :: v79 :: v80 :: v81 :: v82 :: v83 :: v84 :: v85 :: v86 :: v87 :: v88 :: v89 :: v90 :: v91 :: v92 :: v93 :: v94 :: v95 :: v96 :: v97 :: v98 :: v99 :: v100 :: v101 :: v102 :: v103 :: v104 :: v105 :: v106 :: v107 :: v108 :: v109 :: v110 :: v111 :: v112 :: v113 :: v114 :: v115 :: v116 :: v117 :: v118 :: v119 :: v120 :: v121 :: v122 :: v123 :: v124 :: v125 :: v126 :: v127 :: v128 :: v129 :: v130 :: v131 :: v132 :: v133 :: v134 :: v135 :: v136 :: v137 :: v138 :: v139 :: v140 :: v141 :: v142 :: v143 :: v144 :: v145 :: v146 :: v147 :: v148 :: v149 :: v150 :: v151 :: v152 :: v153 :: v154 :: v155 :: v156 :: v157 :: v158 :: v159 :: v160 :: v161 :: v162 :: v163 :: v164 :: v165 :: v166 :: v167 :: v168 :: v169 :: v170 :: v171 :: v172 :: v173 :: v174 :: v175 :: v176 :: v177 :: v178 :: v179 :: v180 :: v181 :: v182 :: v183 :: v184 :: v185 :: v186 :: v187 :: v188 :: v189 :: v190 :: v191 :: v192 :: v193 :: v194 :: v195 :: v196 :: v197 :: v198 :: v199 :: v200 :: v201 :: v202 :: v203 :: v204 :: v205 :: v206 :: v207 :: v208 :: v209 :: v210 :: v211 :: v212 :: u213 :: u214 :: u215 :: u216 :: u217 :: u218 :: u219 :: u220 :: u221 :: u222 :: u223 :: u224 :: u225 :: u226 :: u227 :: u228 :: u229 :: u230 :: u231 :: u232 :: u233 :: []).toArray, []⟩ w)) :
    (Code.loop (inJ Tryd.f4)).wp Tryd.prog Q ⟨(v0 :: v1 :: v2 :: v3 :: v4 :: v5 :: v6 :: v7 :: v8 :: v9 :: v10 :: v11 :: v12 :: v13 :: v14 :: v15 :: v16 :: v17 :: v18 :: v19 :: v20 :: (.slice (some ⟨P, 0, none⟩) n n) :: (.int .i64 0) :: v23 :: v24 :: v25 :: v26 :: v27 :: v28 :: v29 :: v30 :: v31 :: v32 :: v33 :: v34 :: v35 :: v36 :: v37 :: v38 :: v39 :: v40 :: v41 :: v42 :: v43 :: v44 :: v45 :: v46 :: v47 :: v48 :: v49 :: v50 :: v51 :: v52 :: v53 :: v54 :: v55 :: v56 :: v57 :: v58 :: v59 :: v60 :: v61 :: v62 :: v63 :: v64 :: v65 :: v66 :: v67 :: v68 :: v69 :: v70 :: v71 :: v72 :: v73 :: v74 :: v75 :: v76 :: v77 :: v78 :: v79 :: v80 :: v81 :: v82 :: v83 :: v84 :: v85 :: v86 :: v87 :: v88 :: v89 :: v90 :: v91 :: v92 :: v93 :: v94 :: v95 :: v96 :: v97 :: v98 :: v99 :: v100 :: v101 :: v102 :: v103 :: v104 :: v105 :: v106 :: v107 :: v108 :: v109 :: v110 :: v111 :: v112 :: v113 :: v114 :: v115 :: v116 :: v117 :: v118 :: v119 :: v120 :: v121 :: v122 :: v123 :: v124 :: v125 :: v126 :: v127 :: v128 :: v129 :: v130 :: v131 :: v132 :: v133 :: v134 :: v135 :: v136 :: v137 :: v138 :: v139 :: v140 :: v141 :: v142 :: v143 :: v144 :: v145 :: v146 :: v147 :: v148 :: v149 :: v150 :: v151 :: v152 :: v153 :: v154 :: v155 :: v156 :: v157 :: v158 :: v159 :: v160 :: v161 :: v162 :: v163 :: v164 :: v165 :: v166 :: v167 :: v168 :: v169 :: v170 :: v171 :: v172 :: v173 :: v174 :: v175 :: v176 :: v177 :: v178 :: v179 :: v180 :: v181 :: v182 :: v183 :: v184 :: v185 :: v186 :: v187 :: v188 :: v189 :: v190 :: v191 :: v192 :: v193 :: v194 :: v195 :: v196 :: v197 :: v198 :: v199 :: v200 :: v201 :: v202 :: v203 :: v204 :: v205 :: v206 :: v207 :: v208 :: v209 :: v210 :: v211 :: v212 :: v213 :: v214 :: v215 :: v216 :: v217 :: v218 :: v219 :: v220 :: v221 :: v222 :: v223 :: v224 :: v225 :: v226 :: v227 :: v228 :: v229 :: v230 :: v231 :: v232 :: v233 :: []).toArray, []⟩ w0 := by
  conv => arg 2; arg 1; whnf
  go_loopw [22] (fun i wr => ∃ j : Nat, j ≤ n ∧ i = .int .i64 j ∧ S wr ∧ Bl wr P 57 (rowS L)) (fun i _ => n - (intOf i).toNat)
  case atStart => exact ⟨0, by omega, rfl, HX.out⟩
  case round =>
    clear HX
    obtain ⟨j, hj, rfl, hX⟩ := hrel
    have HX := hidW hX
    clear hX
    by_cases hlj : j < n
    · obtain ⟨s, hs⟩ : ∃ s, L[j]? = some s := ⟨_, List.getElem?_eq_getElem (by rw [HN.out]; exact hlj)⟩
      obtain ⟨e0, e1, e2, e3, e4, e5, e6, e7, e8, e9⟩ := rowS_cells HX.out.2 hs
      have HM := hidW (HI.out s (List.mem_of_getElem? hs))
      clear hs
      obtain ⟨fu, sb⟩ := s
      dsimp only at *
      cases fu
      · clear HM HA HI HN HS
        go_wp2
        go_roundw
        case rel => exact ⟨j + 1, by omega, by go_num, HX.out⟩
        case measure => simp [intOf]; omega
      · have HC := hidW (fun w hw => HA.out w sb hw (HM.out rfl))
        clear HM HA HI HN
        go_wp2_with (fail)
        go_at_call 13
        refine (HC.out _ HX.out.1).mono ?_
        rintro e w1 ⟨rfl, hb⟩
        replace HX := hidW (And.intro (HS.out _ _ HX.out.1 hb) (HX.out.2.below hb))
        clear hb e0 e1 e2 e3 e4 e5 e6 e7 e8 e9 HC HS
        go_wp2
        go_roundw
        case rel => exact ⟨j + 1, by omega, by go_num, HX.out⟩
        case measure => simp [intOf]; omega
    · obtain rfl : j = n := by omega
      go_wp2
      exact HQ.out HX.out.1
end Go.Proofs.YtbbnodhpafiplaaDoor
namespace Go.Proofs.YtbbnodhpafiplaaDoor
open Go.RowKit
set_option linter.unusedVariables false
set_option linter.unusedSimpArgs false
set_option maxRecDepth 1000000 in
set_option maxHeartbeats 64000000 in
theorem only_W {v0 v1 v2 v3 v4 v5 v6 v7 v8 v10 v11 v12 v13 v14 v15 v16 v17 v18 v19 v21 v22 v23 v24 v25 v26 v27 v28 v29 v30 v31 v32 v33 v34 v35 v36 v37 v38 v39 v40 v41 v42 v43 v44 v45 v46 v47 v48 v49 v50 v51 v52 v53 v54 v55 v56 v57 v58 v59 v60 v61 v62 v63 v64 v65 v66 v67 v68 v69 v70 v71 v72 v73 v74 v75 v76 v77 v78 v79 v80 v81 v82 v83 v84 v85 v86 v87 v88 v89 v90 v91 v92 v93 v94 v95 v96 v97 v98 v99 v100 v101 v102 v103 v104 v105 v106 v107 v108 v109 v110 v111 v112 v113 v114 v115 v116 v117 v118 v119 v120 v121 v122 v123 v124 v125 v126 v127 v128 v129 v130 v131 v132 v133 v134 v135 v136 v137 v138 v139 v140 v141 v142 v143 v144 v145 v146 v147 v148 v149 v150 v151 v152 v153 v154 v155 v156 v157 v158 v159 v160 v161 v162 v163 v164 v165 v166 v167 v168 v169 v170 v171 v172 v173 v174 v175 v176 v177 v178 v179 v180 v181 v182 v183 v184 v185 v186 v187 v188 v189 v190 v191 v192 v193 v194 v195 v196 v197 v198 v199 v200 v201 v202 v203 v204 v205 v206 v207 v208 v209 v210 v211 v212 v213 v214 v215 v216 v217 v218 v219 v220 v221 v222 v223 v224 v225 v226 v227 v228 v229 v230 v231 v232 v233 : Value} {Q : Exit → Act → World → Prop} (h : Nat) (S : World → Prop) (HS : Hid (∀ w w', S w → Below w.heap.size w w' → S w')) (K : List Blo) (L1 L2 L3 : List Slo) (n1 n2 n3 : Nat) (hn1 : n1 ≤ 64) (hn2 : n2 ≤ 64) (hn3 : n3 ≤ 64) (HN1 : Hid (L1.length = n1)) (HN2 : Hid (L2.length = n2)) (HN3 : Hid (L3.length = n3)) (HI1 : Hid (∀ s ∈ L1, s.full = true → s.b ∈ K)) (HI2 : Hid (∀ s ∈ L2, s.full = true → s.b ∈ K)) (HI3 : Hid (∀ s ∈ L3, s.full = true → s.b ∈ K))
    (HP1 : Hid (∀ w, S w → Calls Tryd.prog 19 #[.pointer (some ⟨h, 0, none⟩), .int .i64 1] w fun e w' => e = .returned (.slice (some ⟨w.heap.size, 0, none⟩) n1 n1) ∧ Bl w' w.heap.size 57 (rowS L1) ∧ Below w.heap.size w w'))
    (HP2 : Hid (∀ w, S w → Calls Tryd.prog 19 #[.pointer (some ⟨h, 0, none⟩), .int .i64 2] w fun e w' => e = .returned (.slice (some ⟨w.heap.size, 0, none⟩) n2 n2) ∧ Bl w' w.heap.size 57 (rowS L2) ∧ Below w.heap.size w w'))
    (HP3 : Hid (∀ w, S w → Calls Tryd.prog 19 #[.pointer (some ⟨h, 0, none⟩), .int .i64 3] w fun e w' => e = .returned (.slice (some ⟨w.heap.size, 0, none⟩) n3 n3) ∧ Bl w' w.heap.size 57 (rowS L3) ∧ Below w.heap.size w w'))
    (HA : Hid (∀ w b, S w → b ∈ K → Calls Tryd.prog 13 #[v15, .agg #[.int .i64 b.asid, .int .i64 b.t.size, .int .u32 b.t.va, .int .u64 b.t.pa, .int .i64 b.t.dom, .int .i64 b.t.ap, .int .u32 b.t.bits, .bool b.t.ng, .bool b.t.xn]] w fun e w' => e = .returned (.bool true) ∧ Below w.heap.size w w')) (w0 : World) (HX : Hid (S w0))
    (HQ : Hid (∀ {u8 u20 u21 u22 u206 u207 u208 u209 u210 u211 u212 u213 u214 u215 u216 u217 u218 u219 u220 u221 u222 u223 u224 u225 u226 u227 u228 u229 u230 u231 u232 u233 : Value} {w : World}, S w → Q (.exit 3) ⟨(v0 :: v1 :: v2 :: v3 :: v4 :: v5 :: v6 :: v7 :: u8 :: (.pointer (some ⟨h, 0, none⟩)) :: v10 :: v11 :: v12 :: v13 :: v14 :: v15 :: v16 :: v17 :: v18 :: v19 :: u20 :: u21 :: u22 :: v23 :: v24 :: v25 :: v26 :: v27 :: v28 :: v29 :: v30 :: v31 :: v32 :: v33 :: v34 :: v35 :: v36 :: v37 :: v38 :: v39 :: v40 :: v41 :: v42 :: v43 :: v44 :: v45 :: v46 :: v47 :: v48 :: v49 :: v50 :: v51 :: v52 :: v53 :: v54 :: v55 :: v56 :: v57 :: v58 :: v59 :: v60 :: v61 :: v62 :: v63 :: v64 :: v65 :: v66 :: v67 :: v68 :: v69 :: v70 :: v71 :: v72 :: v73 :: v74 :: v75 :: v76 :: v77 :: v78 :: v79 :: v80 :: v81 :: v82 :: v83 :: v84 :: v85 :: v86 :: v87 :: v88 :: v89 :: v90 :: v91 :: v92 :: v93 :: v94 :: v95 :: v96 :: v97 :: v98 :: v99 :: v100 :: v101 :: v102 :: v103 :: v104 :: v105 :: v106 :: v107 :: v108 :: v109 :: v110 :: v111 :: v112 :: v113 :: v114 :: v115 :: v116 :: v117 :: v118 :: v119 :: v120 :: v121 :: v122 :: v123 :: v124 :: v125 :: v126 :: v127 :: v128 :: v129 :: v130 :: v131 :: v132 :: v133 :: v134 :: v135 :: v136 :: v137 :: v138 :: v139 :: v140 :: v141 :: v142 :: v143 :: v144 :: v145 :: v146 :: v147 :: v148 :: v149 :: v150 :: v151 :: v152 :: v153 :: v154 :: v155 :: v156 :: v157 :: v158 :: v159 :: v160 :: v161 :: v162 :: v163 :: v164 :: v165 :: v166 :: v167 :: v168 :: v169 :: v170 :: v171 :: v172 :: v173 :: v174 :: v175 :: v176 :: v177 :: v178 :: v179 :: v180 :: v181 :: v182 :: v183 :: v184 :: v185 :: v186 :: v187 :: v188 :: v189 :: v190 :: v191 :: v192 :: v193 :: v194 :: v195 :: v196 :: v197 :: v198 :: v199 :: v200 :: v201 :: v202 :: v203 :: v204 :: v205 :: u206 :: u207 :: u208 :: u209 :: u210 :: u211 :: u212 :: u213 :: u214 :: u215 :: u216 :: u217 :: u218 :: u219 :: u220 :: u221 :: u222 :: u223 :: u224 :: u225 :: u226 :: u227 :: u228 :: u229 :: u230 :: u231 :: u232 :: u233 :: []).toArray, []⟩ w)) :
    (Code.loop (inW Tryd.f4)).wp Tryd.prog Q ⟨(v0 :: v1 :: v2 :: v3 :: v4 :: v5 :: v6 :: v7 :: v8 :: (.pointer (some ⟨h, 0, none⟩)) :: v10 :: v11 :: v12 :: v13 :: v14 :: v15 :: v16 :: v17 :: v18 :: v19 :: (.int .i64 1) :: v21 :: v22 :: v23 :: v24 :: v25 :: v26 :: v27 :: v28 :: v29 :: v30 :: v31 :: v32 :: v33 :: v34 :: v35 :: v36 :: v37 :: v38 :: v39 :: v40 :: v41 :: v42 :: v43 :: v44 :: v45 :: v46 :: v47 :: v48 :: v49 :: v50 :: v51 :: v52 :: v53 :: v54 :: v55 :: v56 :: v57 :: v58 :: v59 :: v60 :: v61 :: v62 :: v63 :: v64 :: v65 :: v66 :: v67 :: v68 :: v69 :: v70 :: v71 :: v72 :: v73 :: v74 :: v75 :: v76 :: v77 :: v78 :: v79 :: v80 :: v81 :: v82 :: v83 :: v84 :: v85 :: v86 :: v87 :: v88 :: v89 :: v90 :: v91 :: v92 :: v93 :: v94 :: v95 :: v96 :: v97 :: v98 :: v99 :: v100 :: v101 :: v102 :: v103 :: v104 :: v105 :: v106 :: v107 :: v108 :: v109 :: v110 :: v111 :: v112 :: v113 :: v114 :: v115 :: v116 :: v117 :: v118 :: v119 :: v120 :: v121 :: v122 :: v123 :: v124 :: v125 :: v126 :: v127 :: v128 :: v129 :: v130 :: v131 :: v132 :: v133 :: v134 :: v135 :: v136 :: v137 :: v138 :: v139 :: v140 :: v141 :: v142 :: v143 :: v144 :: v145 :: v146 :: v147 :: v148 :: v149 :: v150 :: v151 :: v152 :: v153 :: v154 :: v155 :: v156 :: v157 :: v158 :: v159 :: v160 :: v161 :: v162 :: v163 :: v164 :: v165 :: v166 :: v167 :: v168 :: v169 :: v170 :: v171 :: v172 :: v173 :: v174 :: v175 :: v176 :: v177 :: v178 :: v179 :: v180 :: v181 :: v182 :: v183 :: v184 :: v185 :: v186 :: v187 :: v188 :: v189 :: v190 :: v191 :: v192 :: v193 :: v194 :: v195 :: v196 :: v197 :: v198 :: v199 :: v200 :: v201 :: v202 :: v203 :: v204 :: v205 :: v206 :: v207 :: v208 :: v209 :: v210 :: v211 :: v212 :: v213 :: v214 :: v215 :: v216 :: v217 :: v218 :: v219 :: v220 :: v221 :: v222 :: v223 :: v224 :: v225 :: v226 :: v227 :: v228 :: v229 :: v230 :: v231 :: v232 :: v233 :: []).toArray, []⟩ w0 := by
  conv => arg 2; arg 1; whnf
  go_loopw [20] (fun i wr => S wr ∧ (i = .int .i64 1 ∨ i = .int .i64 2 ∨ i = .int .i64 3 ∨ i = .int .i64 4)) (fun i _ => (4 - intOf i).toNat)
  case atStart => exact ⟨HX.out, .inl rfl⟩
  case round =>
    clear HX
    obtain ⟨hX, hj⟩ := hrel
    have HX := hidW hX
    clear hX
    rcases hj with rfl | rfl | rfl | rfl
    · go_wp2_with (fail)
      go_at_call 19
      refine (HP1.out _ HX.out).mono ?_
      rintro e w1 ⟨rfl, hrow, hb⟩
      have HY := hidW (And.intro (HS.out _ _ HX.out hb) hrow)
      clear hb hrow HX
      generalize wr.heap.size = P at *
      go_wp2
      refine only_J S HS K L1 P n1 hn1 HN1 HI1 HA _ HY ?_
      refine hidW ?_
      intros
      rename_i wq hX
      have HX := hidW hX
      clear hX HY
      go_wp2
      go_roundw
      case rel => exact ⟨HX.out, by simp⟩
      case measure => simp [intOf]
    · go_wp2_with (fail)
      go_at_call 19
      refine (HP2.out _ HX.out).mono ?_
      rintro e w1 ⟨rfl, hrow, hb⟩
      have HY := hidW (And.intro (HS.out _ _ HX.out hb) hrow)
      clear hb hrow HX
      generalize wr.heap.size = P at *
      go_wp2
      refine only_J S HS K L2 P n2 hn2 HN2 HI2 HA _ HY ?_
      refine hidW ?_
      intros
      rename_i wq hX
      have HX := hidW hX
      clear hX HY
      go_wp2
      go_roundw
      case rel => exact ⟨HX.out, by simp⟩
      case measure => simp [intOf]
    · go_wp2_with (fail)
      go_at_call 19
      refine (HP3.out _ HX.out).mono ?_
      rintro e w1 ⟨rfl, hrow, hb⟩
      have HY := hidW (And.intro (HS.out _ _ HX.out hb) hrow)
      clear hb hrow HX
      generalize wr.heap.size = P at *
      go_wp2
      refine only_J S HS K L3 P n3 hn3 HN3 HI3 HA _ HY ?_
      refine hidW ?_
      intros
      rename_i wq hX
      have HX := hidW hX
      clear hX HY
      go_wp2
      go_roundw
      case rel => exact ⟨HX.out, by simp⟩
      case measure => simp [intOf]
    · go_wp2
      exact HQ.out HX.out
end Go.Proofs.YtbbnodhpafiplaaDoor
namespace Go.Proofs.YtbbnodhpafiplaaDoor
open Go.RowKit
set_option linter.unusedVariables false
set_option linter.unusedSimpArgs false
theorem Scr.rng {W w : World} {a : Option Addr} {ops : List Opr} (h : Scr W a ops) (hb : Below W.heap.size W w) {k : Nat} (hk : k < ops.length) :
    ∃ o b off, ops[k]? = some o ∧ a = some ⟨b, off, none⟩ ∧ OOk o ∧ w.rangeAt b (off + k * 19) ([.int .i64 o.kind, .int .i64 o.asid, .int .i64 o.pick, .int .i64 o.which, .int .u32 o.va, .bool o.fetch, .bool o.mfirst, .int .i64 o.b.asid, .int .i64 o.b.t.size, .int .u32 o.b.t.va, .int .u64 o.b.t.pa, .int .i64 o.b.t.dom, .int .i64 o.b.t.ap, .int .u32 o.b.t.bits, .bool o.b.t.ng, .bool o.b.t.xn, .int .i64 o.d.kind, .int .u32 o.d.va, .int .i64 o.d.asid]) := by
  obtain ⟨b, off, ha, hlt, hc⟩ := h.1 k ops[k] (List.getElem?_eq_getElem hk)
  refine ⟨ops[k], b, off, List.getElem?_eq_getElem hk, ha, h.2 _ (List.getElem_mem _), fun j v hv => ?_⟩
  rw [← hc j v hv]
  exact hb.cell (p := ⟨b, off + k * 19 + j, none⟩) hlt
theorem OX.among {W w : World} {A : Ad} {X : Hi} {K : List Blo} {a : Option Addr} {cp : Nat} (h : OX W w A X K (.slice a K.length cp)) (hl : K.length ≤ 4611686018427387904) {b : Blo} (hb : b ∈ K) : Calls Tryd.prog 13 #[.slice a K.length cp, .agg #[.int .i64 b.asid, .int .i64 b.t.size, .int .u32 b.t.va, .int .u64 b.t.pa, .int .i64 b.t.dom, .int .i64 b.t.ap, .int .u32 b.t.bits, .bool b.t.ng, .bool b.t.xn]] w fun e w' => e = .returned (.bool true) ∧ Below w.heap.size w w' := by
  obtain ⟨a2, cp2, hv, hr⟩ := h.own.rb
  injection hv with h1 _ h3
  subst h1 h3
  have := among_any w a cp K b hr hl
  rw [any_mem hb] at this
  exact this
theorem OX.start {W w : World} {A : Ad} {X : Hi} (h : OX W w A X [] (.slice none 0 0)) : OX W (w.alloc (.cells ([.int .i64 3, .int .i64 1, .int .u32 4096, .int .u64 8192, .int .i64 0, .int .i64 3, .int .u32 0, .bool true, .bool false]).toArray 38)) A X [fB] (.slice (some ⟨w.heap.size, 0, none⟩) 1 1) :=
  ⟨Below.step h.bel (below_new _ _), h.ph.below (below_new _ _), h.na, ob_first h.bel.size, fun b hb => by rw [List.mem_singleton.1 hb]; exact fB_ok⟩
end Go.Proofs.YtbbnodhpafiplaaDoor
