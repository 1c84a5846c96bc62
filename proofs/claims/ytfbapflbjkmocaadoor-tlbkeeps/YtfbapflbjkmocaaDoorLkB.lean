import Derived.Test.YtfbapflbjkmocaaDoorLk0
namespace Go.Proofs.YtfbapflbjkmocaaDoor
open Go.RowKit
set_option linter.unusedVariables false
set_option linter.unusedSimpArgs false
set_option maxRecDepth 1000000 in
set_option maxHeartbeats 64000000 in
theorem keeps_B {v0 v1 v2 v3 v4 v7 v15 v16 v17 v18 v19 v20 v21 v22 v23 v24 v25 v26 v27 v28 v29 v30 v31 v32 v33 v34 v35 v36 v37 v38 v39 v40 v41 v42 v43 v44 v45 v46 v47 v48 v49 v50 v51 v52 v53 v54 v55 v56 v57 v58 v59 v60 v61 v62 v63 v64 v65 v66 v67 v68 v69 v70 v71 v72 v73 v74 v75 v76 v77 v78 v79 v80 v81 v82 v83 v84 v85 v86 v87 v88 v89 v90 v91 v92 v93 v94 v95 v96 v97 v98 v99 v100 v101 v102 v103 v104 v105 v106 v107 v108 v109 v110 v111 v112 v113 v114 v115 v116 v117 v118 v119 v120 v121 v122 v123 v124 v125 v126 v127 v128 v129 v130 v131 v132 v133 v134 v135 v136 v137 v138 v139 v140 v141 v142 v143 v144 v145 v146 v147 v148 v149 v150 v151 v152 v153 v154 v155 v156 v157 v158 v159 v160 v161 v162 v163 v164 v165 v166 v167 v168 v169 v170 v171 v172 v173 v174 v175 v176 v177 v178 v179 v180 v181 v182 v183 v184 v185 v186 v187 v188 v189 v190 v191 v192 v193 v194 v195 v196 v197 v198 v199 v200 v201 v202 v203 v204 v205 v206 v207 v208 v209 v210 v211 v212 v213 v214 v215 v216 v217 v218 v219 v220 v221 v222 v223 v224 v225 v226 v227 v228 v229 v230 v231 v232 v233 v234 v235 v236 v237 v238 v239 v240 v241 v242 v243 v244 v245 v246 v247 v248 v249 v250 v251 : Value} {Q : Exit → Act → World → Prop} (W w0 : World) (p g a b c n at0 : Nat) (L M : List Slo) (ova on : Int) (ob : Blo) (od : Dro) (hpn : 1 ≤ n ∧ n ≤ 8) (HN : Hid (L.length = n)) (HMl : Hid (M.length = n)) (HU : Hid (Uni M)) (HLok : Hid (LOk L)) (HMeq : Hid (M = opF L ⟨3, ova, on, ob, od⟩)) (HX : Hid (KZ W w0 p g a b c L M ⟨3, ova, on, ob, od⟩)) (hpan : ∀ {c : List PanicEntry} {a : Act} {d : Option Tmp} {v : Value} {w : World}, Q (.panic c) (a.put d v) w → Q (.panic c) a w)
    (HQ : Hid (∀ {u4 u14 u15 u57 u58 u59 u60 u61 u62 u63 u64 u65 u66 u67 u68 u69 u70 u71 u72 u73 u74 u75 u76 u77 u78 u79 u80 u81 u82 u83 u84 u85 u86 u87 u88 u89 u90 u91 u92 u93 u94 u95 u96 u97 u98 u99 u100 u101 u102 u103 u104 u105 u106 u107 u108 u109 u110 u111 u112 u113 u114 u115 u116 u117 u118 u119 u120 u121 u122 u123 u124 u125 u126 u127 u128 u129 u130 u131 u132 u133 u134 u135 u136 u137 u138 u139 u140 u141 u142 u143 u144 u145 u146 u147 u148 u149 u150 u151 u152 u153 u154 u155 u156 u157 u158 u159 u160 u161 u162 u163 u164 u165 u166 u167 u168 u169 u170 u171 u172 u173 u174 u175 u176 u177 u178 u179 u180 u181 u182 u183 u184 u185 u186 u187 u188 u189 u190 u191 u192 u193 u194 u195 u196 u197 u198 u199 u200 u201 u202 u203 u204 u205 u206 u207 u208 u209 u210 u211 u212 u213 u214 u215 u216 u217 u218 u219 u220 u221 u222 u223 u224 : Value} {t0 : Nat} {w : World}, t0 ≤ n → KZ W w p g a b c L M ⟨3, ova, on, ob, od⟩ → Q (.exit 2) ⟨(v0 :: v1 :: v2 :: v3 :: (u4) :: (.pointer (some ⟨p, 0, none⟩)) :: (.int .i64 (n : Int)) :: v7 :: (.pointer (some ⟨c, 0, none⟩)) :: (.slice (some ⟨a, 0, none⟩) n n) :: (.int .i64 (at0 : Int)) :: (.bool false) :: (.slice (some ⟨b, 0, none⟩) n n) :: (.int .i64 (t0 : Int)) :: (u14) :: (u15) :: v16 :: v17 :: v18 :: v19 :: v20 :: v21 :: v22 :: v23 :: v24 :: v25 :: v26 :: v27 :: v28 :: v29 :: v30 :: v31 :: v32 :: v33 :: v34 :: v35 :: v36 :: v37 :: v38 :: v39 :: v40 :: v41 :: v42 :: v43 :: v44 :: v45 :: v46 :: v47 :: v48 :: v49 :: v50 :: v51 :: v52 :: v53 :: v54 :: v55 :: v56 :: (u57) :: (u58) :: (u59) :: (u60) :: (u61) :: (u62) :: (u63) :: (u64) :: (u65) :: (u66) :: (u67) :: (u68) :: (u69) :: (u70) :: (u71) :: (u72) :: (u73) :: (u74) :: (u75) :: (u76) :: (u77) :: (u78) :: (u79) :: (u80) :: (u81) :: (u82) :: (u83) :: (u84) :: (u85) :: (u86) :: (u87) :: (u88) :: (u89) :: (u90) :: (u91) :: (u92) :: (u93) :: (u94) :: (u95) :: (u96) :: (u97) :: (u98) :: (u99) :: (u100) :: (u101) :: (u102) :: (u103) :: (u104) :: (u105) :: (u106) :: (u107) :: (u108) :: (u109) :: (u110) :: (u111) :: (u112) :: (u113) :: (u114) :: (u115) :: (u116) :: (u117) :: (u118) :: (u119) :: (u120) :: (u121) :: (u122) :: (u123) :: (u124) :: (u125) :: (u126) :: (u127) :: (u128) :: (u129) :: (u130) :: (u131) :: (u132) :: (u133) :: (u134) :: (u135) :: (u136) :: (u137) :: (u138) :: (u139) :: (u140) :: (u141) :: (u142) :: (u143) :: (u144) :: (u145) :: (u146) :: (u147) :: (u148) :: (u149) :: (u150) :: (u151) :: (u152) :: (u153) :: (u154) :: (u155) :: (u156) :: (u157) :: (u158) :: (u159) :: (u160) :: (u161) :: (u162) :: (u163) :: (u164) :: (u165) :: (u166) :: (u167) :: (u168) :: (u169) :: (u170) :: (u171) :: (u172) :: (u173) :: (u174) :: (u175) :: (u176) :: (u177) :: (u178) :: (u179) :: (u180) :: (u181) :: (u182) :: (u183) :: (u184) :: (u185) :: (u186) :: (u187) :: (u188) :: (u189) :: (u190) :: (u191) :: (u192) :: (u193) :: (u194) :: (u195) :: (u196) :: (u197) :: (u198) :: (u199) :: (u200) :: (u201) :: (u202) :: (u203) :: (u204) :: (u205) :: (u206) :: (u207) :: (u208) :: (u209) :: (u210) :: (u211) :: (u212) :: (u213) :: (u214) :: (u215) :: (u216) :: (u217) :: (u218) :: (u219) :: (u220) :: (u221) :: (u222) :: (u223) :: (u224) :: v225 :: v226 :: v227 :: v228 :: v229 :: v230 :: v231 :: v232 :: v233 :: v234 :: v235 :: v236 :: v237 :: v238 :: v239 :: v240 :: v241 :: v242 :: v243 :: v244 :: v245 :: v246 :: v247 :: v248 :: v249 :: v250 :: v251 :: []).toArray, []⟩ w)) :
    (Code.loop (inB Tryd.f5)).wp Tryd.prog Q ⟨(v0 :: v1 :: v2 :: v3 :: v4 :: (.pointer (some ⟨p, 0, none⟩)) :: (.int .i64 (n : Int)) :: v7 :: (.pointer (some ⟨c, 0, none⟩)) :: (.slice (some ⟨a, 0, none⟩) n n) :: (.int .i64 (at0 : Int)) :: (.bool false) :: (.slice (some ⟨b, 0, none⟩) n n) :: (.int .i64 0) :: (.int .i64 0) :: v15 :: v16 :: v17 :: v18 :: v19 :: v20 :: v21 :: v22 :: v23 :: v24 :: v25 :: v26 :: v27 :: v28 :: v29 :: v30 :: v31 :: v32 :: v33 :: v34 :: v35 :: v36 :: v37 :: v38 :: v39 :: v40 :: v41 :: v42 :: v43 :: v44 :: v45 :: v46 :: v47 :: v48 :: v49 :: v50 :: v51 :: v52 :: v53 :: v54 :: v55 :: v56 :: v57 :: v58 :: v59 :: v60 :: v61 :: v62 :: v63 :: v64 :: v65 :: v66 :: v67 :: v68 :: v69 :: v70 :: v71 :: v72 :: v73 :: v74 :: v75 :: v76 :: v77 :: v78 :: v79 :: v80 :: v81 :: v82 :: v83 :: v84 :: v85 :: v86 :: v87 :: v88 :: v89 :: v90 :: v91 :: v92 :: v93 :: v94 :: v95 :: v96 :: v97 :: v98 :: v99 :: v100 :: v101 :: v102 :: v103 :: v104 :: v105 :: v106 :: v107 :: v108 :: v109 :: v110 :: v111 :: v112 :: v113 :: v114 :: v115 :: v116 :: v117 :: v118 :: v119 :: v120 :: v121 :: v122 :: v123 :: v124 :: v125 :: v126 :: v127 :: v128 :: v129 :: v130 :: v131 :: v132 :: v133 :: v134 :: v135 :: v136 :: v137 :: v138 :: v139 :: v140 :: v141 :: v142 :: v143 :: v144 :: v145 :: v146 :: v147 :: v148 :: v149 :: v150 :: v151 :: v152 :: v153 :: v154 :: v155 :: v156 :: v157 :: v158 :: v159 :: v160 :: v161 :: v162 :: v163 :: v164 :: v165 :: v166 :: v167 :: v168 :: v169 :: v170 :: v171 :: v172 :: v173 :: v174 :: v175 :: v176 :: v177 :: v178 :: v179 :: v180 :: v181 :: v182 :: v183 :: v184 :: v185 :: v186 :: v187 :: v188 :: v189 :: v190 :: v191 :: v192 :: v193 :: v194 :: v195 :: v196 :: v197 :: v198 :: v199 :: v200 :: v201 :: v202 :: v203 :: v204 :: v205 :: v206 :: v207 :: v208 :: v209 :: v210 :: v211 :: v212 :: v213 :: v214 :: v215 :: v216 :: v217 :: v218 :: v219 :: v220 :: v221 :: v222 :: v223 :: v224 :: v225 :: v226 :: v227 :: v228 :: v229 :: v230 :: v231 :: v232 :: v233 :: v234 :: v235 :: v236 :: v237 :: v238 :: v239 :: v240 :: v241 :: v242 :: v243 :: v244 :: v245 :: v246 :: v247 :: v248 :: v249 :: v250 :: v251 :: []).toArray, []⟩ w0 := by
  conv => arg 2; arg 1; whnf
  go_loopw [13, 14] (fun t i wr => ∃ (j c0 : Nat), j ≤ n ∧ i = .int .i64 j ∧ t = .int .i64 c0 ∧ c0 ≤ j ∧ KZ W wr p g a b c L M ⟨3, ova, on, ob, od⟩) (fun _ i _ => n - (intOf i).toNat)
  case atStart => exact ⟨0, 0, by omega, rfl, rfl, by omega, HX.out⟩
  case round =>
    clear HX
    obtain ⟨j, t0, hj, rfl, rfl, hrel0, hX⟩ := hrel
    have HX := hidW hX
    clear hX
    by_cases hlj : j < n
    · obtain ⟨s, hs⟩ : ∃ s, L[j]? = some s := ⟨_, List.getElem?_eq_getElem (by rw [HN.out]; exact hlj)⟩
      have HLs := hidW hs
      clear hs
      have HMs0 := hidW (view_evict (o := ⟨3, ova, on, ob, od⟩) rfl HLs.out)
      by_cases hjn : (j : Int) = on
      · subst hjn
        have HMs : Hid (M[j]? = some ⟨false, bZ⟩) := hidW (by rw [HMeq.out, HMs0.out, if_pos rfl]; rfl)
        clear HMs0
        obtain ⟨fs, sb⟩ := s
        cases fs
        · obtain ⟨e0, e1, e2, e3, e4, e5, e6, e7, e8, e9⟩ := rowS_cells HX.out.ra HLs.out
          obtain ⟨x0, x1, x2, x3, x4, x5, x6, x7, x8, x9⟩ := rowS_cells HX.out.rb HMs.out
          dsimp only at e0 e1 e2 e3 e4 e5 e6 e7 e8 e9 x0 x1 x2 x3 x4 x5 x6 x7 x8 x9
          go_wp2
          go_quiet (fail)
          replace HX := hidW (HX.out.drewN nq)
          clear e0 e1 e2 e3 e4 e5 e6 e7 e8 e9 x0 x1 x2 x3 x4 x5 x6 x7 x8 x9
          obtain ⟨e0, e1, e2, e3, e4, e5, e6, e7, e8, e9⟩ := rowS_cells HX.out.ra HLs.out
          obtain ⟨x0, x1, x2, x3, x4, x5, x6, x7, x8, x9⟩ := rowS_cells HX.out.rb HMs.out
          dsimp only at e0 e1 e2 e3 e4 e5 e6 e7 e8 e9 x0 x1 x2 x3 x4 x5 x6 x7 x8 x9
          have c0 := HX.out.box.cell
          go_wp2
          generalize World.drewN _ _ = wq at *
          go_quiet (fail)
          replace HX := hidW (HX.out.drewN nq)
          go_wp2
          go_roundw
          case rel => exact ⟨j + 1, t0, by omega, by go_num, by first | rfl | go_num, by omega, HX.out⟩
          case measure => simp [intOf]; omega
        · obtain ⟨e0, e1, e2, e3, e4, e5, e6, e7, e8, e9⟩ := rowS_cells HX.out.ra HLs.out
          obtain ⟨x0, x1, x2, x3, x4, x5, x6, x7, x8, x9⟩ := rowS_cells HX.out.rb HMs.out
          dsimp only at e0 e1 e2 e3 e4 e5 e6 e7 e8 e9 x0 x1 x2 x3 x4 x5 x6 x7 x8 x9
          go_wp2
          go_quiet (fail)
          replace HX := hidW (HX.out.drewN nq)
          clear e0 e1 e2 e3 e4 e5 e6 e7 e8 e9 x0 x1 x2 x3 x4 x5 x6 x7 x8 x9
          obtain ⟨e0, e1, e2, e3, e4, e5, e6, e7, e8, e9⟩ := rowS_cells HX.out.ra HLs.out
          obtain ⟨x0, x1, x2, x3, x4, x5, x6, x7, x8, x9⟩ := rowS_cells HX.out.rb HMs.out
          dsimp only at e0 e1 e2 e3 e4 e5 e6 e7 e8 e9 x0 x1 x2 x3 x4 x5 x6 x7 x8 x9
          have c0 := HX.out.box.cell
          go_wp2
          generalize World.drewN _ _ = wq at *
          go_quiet (fail)
          replace HX := hidW (HX.out.drewN nq)
          go_wp2
          go_roundw
          case rel => exact ⟨j + 1, t0 + 1, by omega, by go_num, by go_num, by omega, HX.out⟩
          case measure => simp [intOf]; omega
      · have HMs : Hid (M[j]? = some s) := hidW (by rw [HMeq.out, HMs0.out, if_neg hjn])
        clear HMs0
        have hjb : ((j : Int) == on) = false := by simp [hjn]
        have hjc : ((j : Int) != on) = true := by simp [hjn]
        have hjd : decide ((j : Int) = on) = false := by simp [hjn]
        obtain ⟨fu, ub⟩ := s
        have he := eqB ub ub
        rw [Blo.same_self] at he
        cases fu
        · obtain ⟨e0, e1, e2, e3, e4, e5, e6, e7, e8, e9⟩ := rowS_cells HX.out.ra HLs.out
          obtain ⟨x0, x1, x2, x3, x4, x5, x6, x7, x8, x9⟩ := rowS_cells HX.out.rb HMs.out
          dsimp only at e0 e1 e2 e3 e4 e5 e6 e7 e8 e9 x0 x1 x2 x3 x4 x5 x6 x7 x8 x9
          go_wp2
          go_quiet (fail)
          replace HX := hidW (HX.out.drewN nq)
          clear e0 e1 e2 e3 e4 e5 e6 e7 e8 e9 x0 x1 x2 x3 x4 x5 x6 x7 x8 x9
          obtain ⟨e0, e1, e2, e3, e4, e5, e6, e7, e8, e9⟩ := rowS_cells HX.out.ra HLs.out
          obtain ⟨x0, x1, x2, x3, x4, x5, x6, x7, x8, x9⟩ := rowS_cells HX.out.rb HMs.out
          dsimp only at e0 e1 e2 e3 e4 e5 e6 e7 e8 e9 x0 x1 x2 x3 x4 x5 x6 x7 x8 x9
          have c0 := HX.out.box.cell
          go_wp2
          generalize World.drewN _ _ = wq at *
          go_quiet (fail)
          replace HX := hidW (HX.out.drewN nq)
          go_wp2
          go_roundw
          case rel => exact ⟨j + 1, t0, by omega, by go_num, by first | rfl | go_num, by omega, HX.out⟩
          case measure => simp [intOf]; omega
        · have HW1 : Hid ((wiN M ub : Int) = 1) := hidW (by have := wi_one HU.out HMs.out rfl; dsimp only at this; omega)
          have HRt : Hid (bR ub = true) := hidW ((HX.out.lv.pt.ok.at HMs.out).yes rfl)
          have HOk : Hid (BOk ub) := hidW (HX.out.lv.pt.ok.at HMs.out).ok
          obtain ⟨e0, e1, e2, e3, e4, e5, e6, e7, e8, e9⟩ := rowS_cells HX.out.ra HLs.out
          obtain ⟨x0, x1, x2, x3, x4, x5, x6, x7, x8, x9⟩ := rowS_cells HX.out.rb HMs.out
          dsimp only at e0 e1 e2 e3 e4 e5 e6 e7 e8 e9 x0 x1 x2 x3 x4 x5 x6 x7 x8 x9
          go_wp2_with (fail)
          go_at_call 17
          refine (within_any _ _ _ _ _ ub HX.out.rb.rs0 (by omega) HMl.out).mono ?_
          rintro e wa ⟨rfl, hb⟩
          rw [HW1.out]
          replace HX := hidW (HX.out.step hb)
          clear hb e0 e1 e2 e3 e4 e5 e6 e7 e8 e9 x0 x1 x2 x3 x4 x5 x6 x7 x8 x9
          obtain ⟨e0, e1, e2, e3, e4, e5, e6, e7, e8, e9⟩ := rowS_cells HX.out.ra HLs.out
          obtain ⟨x0, x1, x2, x3, x4, x5, x6, x7, x8, x9⟩ := rowS_cells HX.out.rb HMs.out
          dsimp only at e0 e1 e2 e3 e4 e5 e6 e7 e8 e9 x0 x1 x2 x3 x4 x5 x6 x7 x8 x9
          go_wp2_with (fail)
          go_at_call 11
          refine (tright_any ub _ HX.out.lv.tr HOk.out).mono ?_
          rintro e wb ⟨rfl, hb⟩
          rw [HRt.out]
          replace HX := hidW (HX.out.step hb)
          clear hb e0 e1 e2 e3 e4 e5 e6 e7 e8 e9 x0 x1 x2 x3 x4 x5 x6 x7 x8 x9
          obtain ⟨e0, e1, e2, e3, e4, e5, e6, e7, e8, e9⟩ := rowS_cells HX.out.ra HLs.out
          obtain ⟨x0, x1, x2, x3, x4, x5, x6, x7, x8, x9⟩ := rowS_cells HX.out.rb HMs.out
          dsimp only at e0 e1 e2 e3 e4 e5 e6 e7 e8 e9 x0 x1 x2 x3 x4 x5 x6 x7 x8 x9
          go_wp2
          go_quiet (fail)
          replace HX := hidW (HX.out.drewN nq)
          clear e0 e1 e2 e3 e4 e5 e6 e7 e8 e9 x0 x1 x2 x3 x4 x5 x6 x7 x8 x9
          obtain ⟨e0, e1, e2, e3, e4, e5, e6, e7, e8, e9⟩ := rowS_cells HX.out.ra HLs.out
          obtain ⟨x0, x1, x2, x3, x4, x5, x6, x7, x8, x9⟩ := rowS_cells HX.out.rb HMs.out
          dsimp only at e0 e1 e2 e3 e4 e5 e6 e7 e8 e9 x0 x1 x2 x3 x4 x5 x6 x7 x8 x9
          have c0 := HX.out.box.cell
          go_wp2
          generalize World.drewN _ _ = wq at *
          go_quiet (fail)
          replace HX := hidW (HX.out.drewN nq)
          go_wp2
          go_roundw
          case rel => exact ⟨j + 1, t0, by omega, by go_num, by first | rfl | go_num, by omega, HX.out⟩
          case measure => simp [intOf]; omega
    · obtain rfl : j = n := by omega
      go_wp2
      exact HQ.out (by first | exact hrel0 | omega) HX.out
end Go.Proofs.YtfbapflbjkmocaaDoor
