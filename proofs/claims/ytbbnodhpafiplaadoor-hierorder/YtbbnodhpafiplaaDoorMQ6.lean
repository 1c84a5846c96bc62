import Derived.Test.YtbbnodhpafiplaaDoorMQ5
namespace Go.Proofs.YtbbnodhpafiplaaDoor
open Go.RowKit
set_option linter.unusedVariables false
set_option linter.unusedSimpArgs false
theorem all_take (p : Blo → Bool) {K : List Blo} {j : Nat} {x : Blo} (hx : K[j]? = some x) : (K.take (j + 1)).all p = ((K.take j).all p && p x) := by
  rw [List.take_add_one, hx]
  simp
set_option maxRecDepth 1000000 in
set_option maxHeartbeats 64000000 in
theorem order_J {v0 v1 v3 v4 v5 v6 v7 v8 v9 v10 v11 v12 v17 v18 v19 v20 v21 v22 v23 v24 v25 v26 v27 v28 v29 v30 v31 v32 v33 v34 v35 v36 v37 v38 v39 v40 v41 v42 v43 v44 v45 v46 v47 v48 v49 v50 v51 v52 v53 v54 v55 v56 v57 v58 v59 v60 v61 v62 v63 v64 v65 v66 v67 v68 v69 v70 v71 v72 v73 v74 v75 v76 v77 v78 v79 v80 v81 v82 v83 v84 v85 v86 v87 v88 v89 v90 v91 v92 v93 v94 v95 v96 v97 v98 v99 v100 v101 v102 v103 v104 v105 v106 v107 v108 v109 v110 v111 v112 v113 v114 v115 v116 v117 v118 v119 v120 v121 v122 v123 v124 v125 v126 v127 v128 v129 v130 v131 v132 v133 v134 v135 v136 v137 v138 v139 v140 v141 v142 v143 v144 v145 v146 v147 v148 v149 v150 v151 v152 v153 v154 v155 v156 v157 v158 v159 v160 v161 v162 v163 v164 v165 v166 v167 v168 v169 v170 v171 v172 v173 v174 v175 v176 v177 v178 v179 v180 v181 v182 v183 v184 v185 v186 v187 v188 v189 v190 v191 v192 v193 v194 v195 v196 v197 v198 v199 v200 v201 v202 v203 v204 v205 v206 v207 v208 v209 v210 v211 v212 v213 v214 v215 v216 v217 v218 v219 v220 v221 v222 v223 v224 v225 v226 v227 v228 v229 v230 v231 v232 v233 v234 v235 v236 : Value} {Q : Exit → Act → World → Prop} (hpan : ∀ {c : List PanicEntry} {a : Act} {d : Option Tmp} {v : Value} {w : World}, Q (.panic c) (a.put d v) w → Q (.panic c) a w) (S : World → Prop) (HS : Hid (∀ w w', S w → Below w.heap.size w w' → S w')) (K : List Blo) (b : Blo) (g0 : Bool) (a : Option Addr) (cp kb koff kn kcap k : Nat) (hk : k < kn) (hkl : K.length ≤ 4611686018427387904) (HR : Hid (∀ w, S w → RB w a K ∧ w.cell? ⟨kb, koff + k * 9, none⟩ = some (.int .i64 b.asid) ∧ w.cell? ⟨kb, koff + k * 9 + 1, none⟩ = some (.int .i64 b.t.size) ∧ w.cell? ⟨kb, koff + k * 9 + 2, none⟩ = some (.int .u32 b.t.va) ∧ w.cell? ⟨kb, koff + k * 9 + 3, none⟩ = some (.int .u64 b.t.pa) ∧ w.cell? ⟨kb, koff + k * 9 + 4, none⟩ = some (.int .i64 b.t.dom) ∧ w.cell? ⟨kb, koff + k * 9 + 5, none⟩ = some (.int .i64 b.t.ap) ∧ w.cell? ⟨kb, koff + k * 9 + 6, none⟩ = some (.int .u32 b.t.bits) ∧ w.cell? ⟨kb, koff + k * 9 + 7, none⟩ = some (.bool b.t.ng) ∧ w.cell? ⟨kb, koff + k * 9 + 8, none⟩ = some (.bool b.t.xn))) (HA : Hid (∀ w x, S w → x ∈ K → Calls Tryd.prog 10 #[.agg #[.int .i64 x.asid, .int .i64 x.t.size, .int .u32 x.t.va, .int .u64 x.t.pa, .int .i64 x.t.dom, .int .i64 x.t.ap, .int .u32 x.t.bits, .bool x.t.ng, .bool x.t.xn], .agg #[.int .i64 b.asid, .int .i64 b.t.size, .int .u32 b.t.va, .int .u64 b.t.pa, .int .i64 b.t.dom, .int .i64 b.t.ap, .int .u32 b.t.bits, .bool b.t.ng, .bool b.t.xn]] w fun e w' => e = .returned (.bool (apF x b)) ∧ Below w.heap.size w w')) (w0 : World) (HX : Hid (S w0))
    (HQ : Hid (∀ {u16 u84 u85 u86 u87 u88 u89 u90 u91 u92 u93 u94 u95 u96 u97 u98 u99 u100 u101 : Value} {w : World}, S w → Q (.exit 4) ⟨(v0 :: v1 :: (.slice (some ⟨kb, koff, none⟩) kn kcap) :: v3 :: v4 :: v5 :: v6 :: v7 :: v8 :: v9 :: v10 :: v11 :: v12 :: (.slice a K.length cp) :: (.int .i64 (k : Int)) :: (.bool (g0 && K.all (fun x => apF x b))) :: u16 :: v17 :: v18 :: v19 :: v20 :: v21 :: v22 :: v23 :: v24 :: v25 :: v26 :: v27 :: v28 :: v29 :: v30 :: v31 :: v32 :: v33 :: v34 :: v35 :: v36 :: v37 :: v38 :: v39 :: v40 :: v41 :: v42 :: v43 :: v44 :: v45 :: v46 :: v47 :: v48 :: v49 :: v50 :: v51 :: v52 :: v53 :: v54 :: v55 :: v56 :: v57 :: v58 :: v59 :: v60 :: v61 :: v62 :: v63 :: v64 :: v65 :: v66 :: v67 :: v68 :: v69 :: v70 :: v71 :: v72 :: v73 :: v74 :: v75 :: v76 :: v77 :: v78 :: v79 :: v80 :: v81 :: v82 :: v83 :: u84 :: u85 :: u86 :: u87 :: u88 :: u89 :: u90 :: u91 :: u92 :: u93 :: u94 :: u95 :: u96 :: u97 :: u98 :: u99 :: u100 :: u101 :: v102 :: v103 :: v104 :: v105 :: v106 :: v107 :: v108 :: v109 :: v110 :: v111 :: v112 :: v113 :: v114 :: v115 :: v116 :: v117 :: v118 :: v119 :: v120 :: v121 :: v122 :: v123 :: v124 :: v125 :: v126 :: v127 :: v128 :: v129 :: v130 :: v131 :: v132 :: v133 :: v134 :: v135 :: v136 :: v137 :: v138 :: v139 :: v140 :: v141 :: v142 :: v143 :: v144 :: v145 :: v146 :: v147 :: v148 :: v149 :: v150 :: v151 :: v152 :: v153 :: v154 :: v155 :: v156 :: v157 :: v158 :: v159 :: v160 :: v161 :: v162 :: v163 :: v164 :: v165 :: v166 :: v167 :: v168 :: v169 :: v170 :: v171 :: v172 :: v173 :: v174 :: v175 :: v176 :: v177 :: v178 :: v179 :: v180 :: v181 :: v182 :: v183 :: v184 :: v185 :: v186 :: v187 :: v188 :: v189 :: v190 :: v191 :: v192 :: v193 :: v194 :: v195 :: v196 :: v197 :: v198 :: v199 :: v200 :: v201 :: v202 :: v203 :: v204 :: v205 :: v206 :: v207 :: v208 :: v209 :: v210 :: v211 :: v212 :: v213 :: v214 :: v215 :: v216 :: v217 :: v218 :: v219 :: v220 :: v221 :: v222 :: v223 :: v224 :: v225 :: v226 :: v227 :: v228 :: v229 :: v230 :: v231 :: v232 :: v233 :: v234 :: v235 :: v236 :: []).toArray, []⟩ w)) :
    (Code.loop (inJ Tryd.f3)).wp Tryd.prog Q ⟨(v0 :: v1 :: (.slice (some ⟨kb, koff, none⟩) kn kcap) :: v3 :: v4 :: v5 :: v6 :: v7 :: v8 :: v9 :: v10 :: v11 :: v12 :: (.slice a K.length cp) :: (.int .i64 (k : Int)) :: (.bool g0) :: (.int .i64 0) :: v17 :: v18 :: v19 :: v20 :: v21 :: v22 :: v23 :: v24 :: v25 :: v26 :: v27 :: v28 :: v29 :: v30 :: v31 :: v32 :: v33 :: v34 :: v35 :: v36 :: v37 :: v38 :: v39 :: v40 :: v41 :: v42 :: v43 :: v44 :: v45 :: v46 :: v47 :: v48 :: v49 :: v50 :: v51 :: v52 :: v53 :: v54 :: v55 :: v56 :: v57 :: v58 :: v59 :: v60 :: v61 :: v62 :: v63 :: v64 :: v65 :: v66 :: v67 :: v68 :: v69 :: v70 :: v71 :: v72 :: v73 :: v74 :: v75 :: v76 :: v77 :: v78 :: v79 :: v80 :: v81 :: v82 :: v83 :: v84 :: v85 :: v86 :: v87 :: v88 :: v89 :: v90 :: v91 :: v92 :: v93 :: v94 :: v95 :: v96 :: v97 :: v98 :: v99 :: v100 :: v101 :: v102 :: v103 :: v104 :: v105 :: v106 :: v107 :: v108 :: v109 :: v110 :: v111 :: v112 :: v113 :: v114 :: v115 :: v116 :: v117 :: v118 :: v119 :: v120 :: v121 :: v122 :: v123 :: v124 :: v125 :: v126 :: v127 :: v128 :: v129 :: v130 :: v131 :: v132 :: v133 :: v134 :: v135 :: v136 :: v137 :: v138 :: v139 :: v140 :: v141 :: v142 :: v143 :: v144 :: v145 :: v146 :: v147 :: v148 :: v149 :: v150 :: v151 :: v152 :: v153 :: v154 :: v155 :: v156 :: v157 :: v158 :: v159 :: v160 :: v161 :: v162 :: v163 :: v164 :: v165 :: v166 :: v167 :: v168 :: v169 :: v170 :: v171 :: v172 :: v173 :: v174 :: v175 :: v176 :: v177 :: v178 :: v179 :: v180 :: v181 :: v182 :: v183 :: v184 :: v185 :: v186 :: v187 :: v188 :: v189 :: v190 :: v191 :: v192 :: v193 :: v194 :: v195 :: v196 :: v197 :: v198 :: v199 :: v200 :: v201 :: v202 :: v203 :: v204 :: v205 :: v206 :: v207 :: v208 :: v209 :: v210 :: v211 :: v212 :: v213 :: v214 :: v215 :: v216 :: v217 :: v218 :: v219 :: v220 :: v221 :: v222 :: v223 :: v224 :: v225 :: v226 :: v227 :: v228 :: v229 :: v230 :: v231 :: v232 :: v233 :: v234 :: v235 :: v236 :: []).toArray, []⟩ w0 := by
  conv => arg 2; arg 1; whnf
  generalize hn : K.length = n at *
  have HN : Hid (K.length = n) := hn
  clear hn
  go_loopw [15, 16] (fun g i wr => ∃ j : Nat, j ≤ n ∧ i = .int .i64 j ∧ g = .bool (g0 && (K.take j).all (fun x => apF x b)) ∧ S wr) (fun _ i _ => n - (intOf i).toNat)
  case atStart => exact ⟨0, by omega, rfl, by simp, HX.out⟩
  case round =>
    clear HX
    obtain ⟨j, hj, rfl, rfl, hX⟩ := hrel
    have HX := hidW hX
    clear hX
    by_cases hlj : j < n
    · obtain ⟨s, hs⟩ : ∃ s, K[j]? = some s := ⟨_, List.getElem?_eq_getElem (by rw [HN.out]; exact hlj)⟩
      have HAl := hidW (all_take (fun x => apF x b) hs)
      have HC := hidW (fun w hw => HA.out w s hw (List.mem_of_getElem? hs))
      obtain ⟨g, rfl, hg, _⟩ := (HR.out _ HX.out).1.at hs
      have HK : Hid (∀ w, S w → ((w.cell? ⟨g, j * 9, none⟩ = some (.int .i64 s.asid) ∧ w.cell? ⟨g, j * 9 + 1, none⟩ = some (.int .i64 s.t.size) ∧ w.cell? ⟨g, j * 9 + 2, none⟩ = some (.int .u32 s.t.va) ∧ w.cell? ⟨g, j * 9 + 3, none⟩ = some (.int .u64 s.t.pa) ∧ w.cell? ⟨g, j * 9 + 4, none⟩ = some (.int .i64 s.t.dom) ∧ w.cell? ⟨g, j * 9 + 5, none⟩ = some (.int .i64 s.t.ap) ∧ w.cell? ⟨g, j * 9 + 6, none⟩ = some (.int .u32 s.t.bits) ∧ w.cell? ⟨g, j * 9 + 7, none⟩ = some (.bool s.t.ng) ∧ w.cell? ⟨g, j * 9 + 8, none⟩ = some (.bool s.t.xn)) ∧ w.cell? ⟨kb, koff + k * 9, none⟩ = some (.int .i64 b.asid) ∧ w.cell? ⟨kb, koff + k * 9 + 1, none⟩ = some (.int .i64 b.t.size) ∧ w.cell? ⟨kb, koff + k * 9 + 2, none⟩ = some (.int .u32 b.t.va) ∧ w.cell? ⟨kb, koff + k * 9 + 3, none⟩ = some (.int .u64 b.t.pa) ∧ w.cell? ⟨kb, koff + k * 9 + 4, none⟩ = some (.int .i64 b.t.dom) ∧ w.cell? ⟨kb, koff + k * 9 + 5, none⟩ = some (.int .i64 b.t.ap) ∧ w.cell? ⟨kb, koff + k * 9 + 6, none⟩ = some (.int .u32 b.t.bits) ∧ w.cell? ⟨kb, koff + k * 9 + 7, none⟩ = some (.bool b.t.ng) ∧ w.cell? ⟨kb, koff + k * 9 + 8, none⟩ = some (.bool b.t.xn))) := hidW (fun w hw => by
        obtain ⟨g', h1, _, h2⟩ := (HR.out _ hw).1.at hs
        injection h1 with h1
        injection h1 with h1 _ _
        subst h1
        exact ⟨h2, (HR.out _ hw).2⟩)
      have HD : Hid (∀ w, S w → S w.drew) := hidW (fun w hw => HS.out _ _ hw (below_drew (Below.refl _ _)))
      clear hs HA HR hg
      generalize hq : (g0 && (K.take j).all (fun x => apF x b)) = q at *
      have HAq : Hid ((g0 && (K.take (j + 1)).all (fun x => apF x b)) = (q && apF s b)) := hidW (by rw [HAl.out, ← hq, Bool.and_assoc])
      clear hq HAl
      cases q
      · go_wp2
        replace HX := hidW (HD.out _ HX.out)
        refine wp_region_held_drew (S := fun _ => True) (by kernel_rfl) trivial (fun hHeld => ?_)
        refine wpAnyH_take (i := 0) (oi := { dst := some 90, op := Op.move (Operand.tmp 15), type := 4, pos := _, after := #[], guard := none }) (v := ?_) rfl (by kernel_rfl) (by kernel_rfl) (by kernel_rfl) (fun _ _ _ h => hpan h) (Or.inl ⟨by rfl, ?_⟩) (by assumption) ?_
        rotate_left
        · (intro w hSw; (try dsimp only at hSw); go_simp; try with_reducible rfl)
        simp only [Act.put, List.setIfInBounds_toArray, List.set_cons_zero, List.set_cons_succ]
        refine wpAnyH_take (i := 1) (oi := { dst := some 91, op := Op.move (Operand.tmp 90), type := 4, pos := _, after := #[{ on := 0, ground := Ground.data }], guard := none }) (v := ?_) rfl (by kernel_rfl) (by kernel_rfl) (by kernel_rfl) (fun _ _ _ h => hpan h) (Or.inl ⟨by rfl, ?_⟩) (by assumption) ?_
        rotate_left
        · (intro w hSw; (try dsimp only at hSw); go_simp; try with_reducible rfl)
        simp only [Act.put, List.setIfInBounds_toArray, List.set_cons_zero, List.set_cons_succ]
        refine wpAnyH_take (i := 2) (oi := { dst := some 92, op := Op.move (Operand.tmp 13), type := 24, pos := _, after := #[{ on := 1, ground := Ground.guard }], guard := some (1, true) }) (v := undef) rfl (by kernel_rfl) (by kernel_rfl) (by kernel_rfl) (fun _ _ _ h => hpan h) (Or.inr ⟨by rfl, rfl⟩) (by assumption) ?_
        simp only [Act.put, List.setIfInBounds_toArray, List.set_cons_zero, List.set_cons_succ]
        refine wpAnyH_take (i := 3) (oi := { dst := some 93, op := Op.move (Operand.tmp 16), type := 3, pos := _, after := #[{ on := 1, ground := Ground.guard }], guard := some (1, true) }) (v := undef) rfl (by kernel_rfl) (by kernel_rfl) (by kernel_rfl) (fun _ _ _ h => hpan h) (Or.inr ⟨by rfl, rfl⟩) (by assumption) ?_
        simp only [Act.put, List.setIfInBounds_toArray, List.set_cons_zero, List.set_cons_succ]
        refine wpAnyH_take (i := 4) (oi := { dst := some 94, op := Op.indexAddr 24 (Operand.tmp 92) (Operand.tmp 93), type := 0, pos := _, after := #[{ on := 2, ground := Ground.data }, { on := 3, ground := Ground.data }, { on := 1, ground := Ground.guard }], guard := some (1, true) }) (v := undef) rfl (by kernel_rfl) (by kernel_rfl) (by kernel_rfl) (fun _ _ _ h => hpan h) (Or.inr ⟨by rfl, rfl⟩) (by assumption) ?_
        simp only [Act.put, List.setIfInBounds_toArray, List.set_cons_zero, List.set_cons_succ]
        refine wpAnyH_take (i := 5) (oi := { dst := some 95, op := Op.load 38 (Operand.tmp 94), type := 38, pos := _, after := #[{ on := 4, ground := Ground.data }, { on := 1, ground := Ground.guard }], guard := some (1, true) }) (v := undef) rfl (by kernel_rfl) (by kernel_rfl) (by kernel_rfl) (fun _ _ _ h => hpan h) (Or.inr ⟨by rfl, rfl⟩) (by assumption) ?_
        simp only [Act.put, List.setIfInBounds_toArray, List.set_cons_zero, List.set_cons_succ]
        refine wpAnyH_take (i := 6) (oi := { dst := some 96, op := Op.move (Operand.tmp 2), type := 24, pos := _, after := #[{ on := 1, ground := Ground.guard }], guard := some (1, true) }) (v := undef) rfl (by kernel_rfl) (by kernel_rfl) (by kernel_rfl) (fun _ _ _ h => hpan h) (Or.inr ⟨by rfl, rfl⟩) (by assumption) ?_
        simp only [Act.put, List.setIfInBounds_toArray, List.set_cons_zero, List.set_cons_succ]
        refine wpAnyH_take (i := 7) (oi := { dst := some 97, op := Op.move (Operand.tmp 14), type := 3, pos := _, after := #[{ on := 1, ground := Ground.guard }], guard := some (1, true) }) (v := undef) rfl (by kernel_rfl) (by kernel_rfl) (by kernel_rfl) (fun _ _ _ h => hpan h) (Or.inr ⟨by rfl, rfl⟩) (by assumption) ?_
        simp only [Act.put, List.setIfInBounds_toArray, List.set_cons_zero, List.set_cons_succ]
        refine wpAnyH_take (i := 8) (oi := { dst := some 98, op := Op.indexAddr 24 (Operand.tmp 96) (Operand.tmp 97), type := 0, pos := _, after := #[{ on := 6, ground := Ground.data }, { on := 7, ground := Ground.data }, { on := 1, ground := Ground.guard }], guard := some (1, true) }) (v := undef) rfl (by kernel_rfl) (by kernel_rfl) (by kernel_rfl) (fun _ _ _ h => hpan h) (Or.inr ⟨by rfl, rfl⟩) (by assumption) ?_
        simp only [Act.put, List.setIfInBounds_toArray, List.set_cons_zero, List.set_cons_succ]
        refine wpAnyH_take (i := 9) (oi := { dst := some 99, op := Op.load 38 (Operand.tmp 98), type := 38, pos := _, after := #[{ on := 8, ground := Ground.data }, { on := 1, ground := Ground.guard }], guard := some (1, true) }) (v := undef) rfl (by kernel_rfl) (by kernel_rfl) (by kernel_rfl) (fun _ _ _ h => hpan h) (Or.inr ⟨by rfl, rfl⟩) (by assumption) ?_
        simp only [Act.put, List.setIfInBounds_toArray, List.set_cons_zero, List.set_cons_succ]
        refine wpAnyH_take (i := 10) (oi := { dst := some 100, op := Op.call { callee := Callee.value (Operand.func 10), args := #[Operand.tmp 95, Operand.tmp 99], argTypes := #[38, 38] }, type := 4, pos := _, after := #[{ on := 5, ground := Ground.data }, { on := 9, ground := Ground.data }, { on := 1, ground := Ground.chain }, { on := 1, ground := Ground.guard }], guard := some (1, true) }) (v := undef) rfl (by kernel_rfl) (by kernel_rfl) (by kernel_rfl) (fun _ _ _ h => hpan h) (Or.inr ⟨by rfl, rfl⟩) (by assumption) ?_
        simp only [Act.put, List.setIfInBounds_toArray, List.set_cons_zero, List.set_cons_succ]
        refine wpAnyH_take (i := 11) (oi := { dst := some 101, op := Op.pick (Operand.tmp 91) (Operand.tmp 100) (Operand.const (Value.bool false)), type := 4, pos := _, after := #[{ on := 1, ground := Ground.data }, { on := 10, ground := Ground.data }], guard := none }) (v := ?_) rfl (by kernel_rfl) (by kernel_rfl) (by kernel_rfl) (fun _ _ _ h => hpan h) (Or.inl ⟨by rfl, ?_⟩) (by assumption) ?_
        rotate_left
        · (intro w hSw; (try dsimp only at hSw); go_simp; try with_reducible rfl)
        simp only [Act.put, List.setIfInBounds_toArray, List.set_cons_zero, List.set_cons_succ]
        refine wpAnyH_take (i := 12) (oi := { dst := some 15, op := Op.assign (Operand.tmp 101), type := 4, pos := _, after := #[{ on := 11, ground := Ground.data }, { on := 10, ground := Ground.chain }, { on := 0, ground := Ground.phase }, { on := 1, ground := Ground.phase }, { on := 2, ground := Ground.phase }, { on := 3, ground := Ground.phase }, { on := 4, ground := Ground.phase }, { on := 5, ground := Ground.phase }, { on := 6, ground := Ground.phase }, { on := 7, ground := Ground.phase }, { on := 8, ground := Ground.phase }, { on := 9, ground := Ground.phase }, { on := 10, ground := Ground.phase }, { on := 11, ground := Ground.phase }], guard := none }) (v := ?_) rfl (by kernel_rfl) (by kernel_rfl) (by kernel_rfl) (fun _ _ _ h => hpan h) (Or.inl ⟨by rfl, ?_⟩) (by assumption) ?_
        rotate_left
        · (intro w hSw; (try dsimp only at hSw); go_simp; try with_reducible rfl)
        simp only [Act.put, List.setIfInBounds_toArray, List.set_cons_zero, List.set_cons_succ]
        refine wpAnyH_done (by kernel_rfl) ?_ _
        clear hHeld
        go_wp2
        go_roundw
        case rel => exact ⟨j + 1, by omega, by go_num, by rw [HAq.out]; rfl, HX.out⟩
        case measure => simp [intOf]; omega
      · go_wp2
        replace HX := hidW (HD.out _ HX.out)
        refine wp_region_held_drew (S := fun w' => (w'.cell? ⟨g, j * 9, none⟩ = some (.int .i64 s.asid) ∧ w'.cell? ⟨g, j * 9 + 1, none⟩ = some (.int .i64 s.t.size) ∧ w'.cell? ⟨g, j * 9 + 2, none⟩ = some (.int .u32 s.t.va) ∧ w'.cell? ⟨g, j * 9 + 3, none⟩ = some (.int .u64 s.t.pa) ∧ w'.cell? ⟨g, j * 9 + 4, none⟩ = some (.int .i64 s.t.dom) ∧ w'.cell? ⟨g, j * 9 + 5, none⟩ = some (.int .i64 s.t.ap) ∧ w'.cell? ⟨g, j * 9 + 6, none⟩ = some (.int .u32 s.t.bits) ∧ w'.cell? ⟨g, j * 9 + 7, none⟩ = some (.bool s.t.ng) ∧ w'.cell? ⟨g, j * 9 + 8, none⟩ = some (.bool s.t.xn)) ∧ w'.cell? ⟨kb, koff + k * 9, none⟩ = some (.int .i64 b.asid) ∧ w'.cell? ⟨kb, koff + k * 9 + 1, none⟩ = some (.int .i64 b.t.size) ∧ w'.cell? ⟨kb, koff + k * 9 + 2, none⟩ = some (.int .u32 b.t.va) ∧ w'.cell? ⟨kb, koff + k * 9 + 3, none⟩ = some (.int .u64 b.t.pa) ∧ w'.cell? ⟨kb, koff + k * 9 + 4, none⟩ = some (.int .i64 b.t.dom) ∧ w'.cell? ⟨kb, koff + k * 9 + 5, none⟩ = some (.int .i64 b.t.ap) ∧ w'.cell? ⟨kb, koff + k * 9 + 6, none⟩ = some (.int .u32 b.t.bits) ∧ w'.cell? ⟨kb, koff + k * 9 + 7, none⟩ = some (.bool b.t.ng) ∧ w'.cell? ⟨kb, koff + k * 9 + 8, none⟩ = some (.bool b.t.xn)) (by kernel_rfl) (HK.out _ HX.out) (fun hHeld => ?_)
        refine wpAnyH_take (i := 0) (oi := { dst := some 90, op := Op.move (Operand.tmp 15), type := 4, pos := _, after := #[], guard := none }) (v := ?_) rfl (by kernel_rfl) (by kernel_rfl) (by kernel_rfl) (fun _ _ _ h => hpan h) (Or.inl ⟨by rfl, ?_⟩) (by assumption) ?_
        rotate_left
        · (intro w hSw; (try dsimp only at hSw); go_simp; try with_reducible rfl)
        simp only [Act.put, List.setIfInBounds_toArray, List.set_cons_zero, List.set_cons_succ]
        refine wpAnyH_take (i := 1) (oi := { dst := some 91, op := Op.move (Operand.tmp 90), type := 4, pos := _, after := #[{ on := 0, ground := Ground.data }], guard := none }) (v := ?_) rfl (by kernel_rfl) (by kernel_rfl) (by kernel_rfl) (fun _ _ _ h => hpan h) (Or.inl ⟨by rfl, ?_⟩) (by assumption) ?_
        rotate_left
        · (intro w hSw; (try dsimp only at hSw); go_simp; try with_reducible rfl)
        simp only [Act.put, List.setIfInBounds_toArray, List.set_cons_zero, List.set_cons_succ]
        refine wpAnyH_take (i := 2) (oi := { dst := some 92, op := Op.move (Operand.tmp 13), type := 24, pos := _, after := #[{ on := 1, ground := Ground.guard }], guard := some (1, true) }) (v := ?_) rfl (by kernel_rfl) (by kernel_rfl) (by kernel_rfl) (fun _ _ _ h => hpan h) (Or.inl ⟨by rfl, ?_⟩) (by assumption) ?_
        rotate_left
        · (intro w hSw; (try dsimp only at hSw); go_simp; try with_reducible rfl)
        simp only [Act.put, List.setIfInBounds_toArray, List.set_cons_zero, List.set_cons_succ]
        refine wpAnyH_take (i := 3) (oi := { dst := some 93, op := Op.move (Operand.tmp 16), type := 3, pos := _, after := #[{ on := 1, ground := Ground.guard }], guard := some (1, true) }) (v := ?_) rfl (by kernel_rfl) (by kernel_rfl) (by kernel_rfl) (fun _ _ _ h => hpan h) (Or.inl ⟨by rfl, ?_⟩) (by assumption) ?_
        rotate_left
        · (intro w hSw; (try dsimp only at hSw); go_simp; try with_reducible rfl)
        simp only [Act.put, List.setIfInBounds_toArray, List.set_cons_zero, List.set_cons_succ]
        refine wpAnyH_take (i := 4) (oi := { dst := some 94, op := Op.indexAddr 24 (Operand.tmp 92) (Operand.tmp 93), type := 0, pos := _, after := #[{ on := 2, ground := Ground.data }, { on := 3, ground := Ground.data }, { on := 1, ground := Ground.guard }], guard := some (1, true) }) (v := ?_) rfl (by kernel_rfl) (by kernel_rfl) (by kernel_rfl) (fun _ _ _ h => hpan h) (Or.inl ⟨by rfl, ?_⟩) (by assumption) ?_
        rotate_left
        · (intro w hSw; (try dsimp only at hSw); go_simp; try with_reducible rfl)
        simp only [Act.put, List.setIfInBounds_toArray, List.set_cons_zero, List.set_cons_succ]
        refine wpAnyH_take (i := 5) (oi := { dst := some 95, op := Op.load 38 (Operand.tmp 94), type := 38, pos := _, after := #[{ on := 4, ground := Ground.data }, { on := 1, ground := Ground.guard }], guard := some (1, true) }) (v := ?_) rfl (by kernel_rfl) (by kernel_rfl) (by kernel_rfl) (fun _ _ _ h => hpan h) (Or.inl ⟨by rfl, ?_⟩) (by assumption) ?_
        rotate_left
        · (intro w hSw; (try dsimp only at hSw); go_simp; try with_reducible rfl)
        simp only [Act.put, List.setIfInBounds_toArray, List.set_cons_zero, List.set_cons_succ]
        refine wpAnyH_take (i := 6) (oi := { dst := some 96, op := Op.move (Operand.tmp 2), type := 24, pos := _, after := #[{ on := 1, ground := Ground.guard }], guard := some (1, true) }) (v := ?_) rfl (by kernel_rfl) (by kernel_rfl) (by kernel_rfl) (fun _ _ _ h => hpan h) (Or.inl ⟨by rfl, ?_⟩) (by assumption) ?_
        rotate_left
        · (intro w hSw; (try dsimp only at hSw); go_simp; try with_reducible rfl)
        simp only [Act.put, List.setIfInBounds_toArray, List.set_cons_zero, List.set_cons_succ]
        refine wpAnyH_take (i := 7) (oi := { dst := some 97, op := Op.move (Operand.tmp 14), type := 3, pos := _, after := #[{ on := 1, ground := Ground.guard }], guard := some (1, true) }) (v := ?_) rfl (by kernel_rfl) (by kernel_rfl) (by kernel_rfl) (fun _ _ _ h => hpan h) (Or.inl ⟨by rfl, ?_⟩) (by assumption) ?_
        rotate_left
        · (intro w hSw; (try dsimp only at hSw); go_simp; try with_reducible rfl)
        simp only [Act.put, List.setIfInBounds_toArray, List.set_cons_zero, List.set_cons_succ]
        refine wpAnyH_take (i := 8) (oi := { dst := some 98, op := Op.indexAddr 24 (Operand.tmp 96) (Operand.tmp 97), type := 0, pos := _, after := #[{ on := 6, ground := Ground.data }, { on := 7, ground := Ground.data }, { on := 1, ground := Ground.guard }], guard := some (1, true) }) (v := ?_) rfl (by kernel_rfl) (by kernel_rfl) (by kernel_rfl) (fun _ _ _ h => hpan h) (Or.inl ⟨by rfl, ?_⟩) (by assumption) ?_
        rotate_left
        · (intro w hSw; (try dsimp only at hSw); go_simp; try with_reducible rfl)
        simp only [Act.put, List.setIfInBounds_toArray, List.set_cons_zero, List.set_cons_succ]
        refine wpAnyH_take (i := 9) (oi := { dst := some 99, op := Op.load 38 (Operand.tmp 98), type := 38, pos := _, after := #[{ on := 8, ground := Ground.data }, { on := 1, ground := Ground.guard }], guard := some (1, true) }) (v := ?_) rfl (by kernel_rfl) (by kernel_rfl) (by kernel_rfl) (fun _ _ _ h => hpan h) (Or.inl ⟨by rfl, ?_⟩) (by assumption) ?_
        rotate_left
        · (intro w hSw; (try dsimp only at hSw); go_simp; try with_reducible rfl)
        simp only [Act.put, List.setIfInBounds_toArray, List.set_cons_zero, List.set_cons_succ]
        refine wpAnyH_ready (rs := [10]) (by kernel_rfl) (by simp) ?_
        refine AllReadyH.cons (o := { dst := some 100, op := Op.call { callee := Callee.value (Operand.func 10), args := #[Operand.tmp 95, Operand.tmp 99], argTypes := #[38, 38] }, type := 4, pos := _, after := #[{ on := 5, ground := Ground.data }, { on := 9, ground := Ground.data }, { on := 1, ground := Ground.chain }, { on := 1, ground := Ground.guard }], guard := some (1, true) }) rfl (fun K hK => ?_) AllReadyH.nil
        go_simp
        (go_at_call 10; refine (HC.out _ HX.out).mono ?_; rintro e w3 ⟨rfl, hb⟩; replace HX := hidW (HS.out _ _ HX.out hb); clear hb; go_wp2_with fail)
        refine hK.out _ _ ?_ (fun hHeld => ?_)
        · ((try dsimp only); with_reducible exact HK.out _ HX.out)
        clear hK K
        try simp only [Act.put, List.setIfInBounds_toArray, List.set_cons_zero, List.set_cons_succ]
        refine wpAnyH_take (i := 11) (oi := { dst := some 101, op := Op.pick (Operand.tmp 91) (Operand.tmp 100) (Operand.const (Value.bool false)), type := 4, pos := _, after := #[{ on := 1, ground := Ground.data }, { on := 10, ground := Ground.data }], guard := none }) (v := ?_) rfl (by kernel_rfl) (by kernel_rfl) (by kernel_rfl) (fun _ _ _ h => hpan h) (Or.inl ⟨by rfl, ?_⟩) (by assumption) ?_
        rotate_left
        · (intro w hSw; (try dsimp only at hSw); go_simp; try with_reducible rfl)
        simp only [Act.put, List.setIfInBounds_toArray, List.set_cons_zero, List.set_cons_succ]
        refine wpAnyH_take (i := 12) (oi := { dst := some 15, op := Op.assign (Operand.tmp 101), type := 4, pos := _, after := #[{ on := 11, ground := Ground.data }, { on := 10, ground := Ground.chain }, { on := 0, ground := Ground.phase }, { on := 1, ground := Ground.phase }, { on := 2, ground := Ground.phase }, { on := 3, ground := Ground.phase }, { on := 4, ground := Ground.phase }, { on := 5, ground := Ground.phase }, { on := 6, ground := Ground.phase }, { on := 7, ground := Ground.phase }, { on := 8, ground := Ground.phase }, { on := 9, ground := Ground.phase }, { on := 10, ground := Ground.phase }, { on := 11, ground := Ground.phase }], guard := none }) (v := ?_) rfl (by kernel_rfl) (by kernel_rfl) (by kernel_rfl) (fun _ _ _ h => hpan h) (Or.inl ⟨by rfl, ?_⟩) (by assumption) ?_
        rotate_left
        · (intro w hSw; (try dsimp only at hSw); go_simp; try with_reducible rfl)
        simp only [Act.put, List.setIfInBounds_toArray, List.set_cons_zero, List.set_cons_succ]
        refine wpAnyH_done (by kernel_rfl) ?_ _
        clear hHeld
        go_wp2
        go_roundw
        case rel => exact ⟨j + 1, by omega, by go_num, by rw [HAq.out]; simp, HX.out⟩
        case measure => simp [intOf]; omega
    · obtain rfl : j = n := by omega
      have HF : Hid ((K.take j).all (fun x => apF x b) = K.all (fun x => apF x b)) := hidW (by rw [← HN.out, List.take_length])
      rw [HF.out]
      go_wp2
      exact HQ.out HX.out
end Go.Proofs.YtbbnodhpafiplaaDoor
namespace Go.Proofs.YtbbnodhpafiplaaDoor
open Go.RowKit
set_option linter.unusedVariables false
set_option linter.unusedSimpArgs false
theorem and_nat : ∀ n : Fin 256, bits BinOp.and IntKind.i64 (n.val : Int) 255 = (n.val : Int) := by decide +kernel
theorem and255 {x : Int} (h : x = -1 ∨ (0 ≤ x ∧ x ≤ 255)) : x = -1 ∨ bits BinOp.and IntKind.i64 x 255 = x := by
  rcases h with h | ⟨h1, h2⟩
  · exact .inl h
  · obtain ⟨n, rfl⟩ := Int.eq_ofNat_of_zero_le h1
    exact .inr (and_nat ⟨n, by omega⟩)
/-- What holds of both throughout. -/
structure PI (X Y : Hi) (K : List Blo) : Prop where
  ia : Inv X K
  ib : Inv Y K
  ua : UniH X
  ub : UniH Y
  ap : Aps K
set_option maxRecDepth 1000000 in
set_option maxHeartbeats 64000000 in
theorem order_K0 {v0 v1 v3 v4 v5 v6 v8 v9 v10 v12 v15 v16 v17 v18 v19 v20 v21 v22 v23 v24 v25 v26 v27 v28 v29 v30 v31 v32 v33 v34 v35 v36 v37 v38 v39 v40 v41 v42 v43 v44 v45 v46 v47 v48 v49 v50 v51 v52 v53 v54 v55 v56 v57 v58 v59 v60 v61 v62 v63 v64 v65 v66 v67 v68 v69 v70 v71 v72 v73 v74 v75 v76 v77 v78 v79 v80 v81 v82 v83 v84 v85 v86 v87 v88 v89 v90 v91 v92 v93 v94 v95 v96 v97 v98 v99 v100 v101 v102 v103 v104 v105 v106 v107 v108 v109 v110 v111 v112 v113 v114 v115 v116 v117 v118 v119 v120 v121 v122 v123 v124 v125 v126 v127 v128 v129 v130 v131 v132 v133 v134 v135 v136 v137 v138 v139 v140 v141 v142 v143 v144 v145 v146 v147 v148 v149 v150 v151 v152 v153 v154 v155 v156 v157 v158 v159 v160 v161 v162 v163 v164 v165 v166 v167 v168 v169 v170 v171 v172 v173 v174 v175 v176 v177 v178 v179 v180 v181 v182 v183 v184 v185 v186 v187 v188 v189 v190 v191 v192 v193 v194 v195 v196 v197 v198 v199 v200 v201 v202 v203 v204 v205 v206 v207 v208 v209 v210 v211 v212 v213 v214 v215 v216 v217 v218 v219 v220 v221 v222 v223 v224 v225 v226 v227 v228 v229 v230 v231 v232 v233 v234 v235 v236 : Value} {Q : Exit → Act → World → Prop} (hpan : ∀ {c : List PanicEntry} {a : Act} {d : Option Tmp} {v : Value} {w : World}, Q (.panic c) (a.put d v) w → Q (.panic c) a w) (W wr : World) (A B : Ad) (X Y : Hi) (K : List Blo) (b : Blo) (a : Option Addr) (cp kb koff kn kcap k : Nat) (hk : k < kn) (HL : Hid (kn * 56 ≤ 140737488351232)) (HKl : Hid (K.length ≤ k)) (HT : Hid (∀ w, Below W.heap.size W w → TR w)) (HX : Hid (QX W wr A B X Y K (.slice a K.length cp))) (HI : Hid (PI X Y K)) (HB : Hid (BOk b)) (HC : Hid (∀ w, Below W.heap.size W w → w.cell? ⟨kb, koff + k * 9, none⟩ = some (.int .i64 b.asid) ∧ w.cell? ⟨kb, koff + k * 9 + 1, none⟩ = some (.int .i64 b.t.size) ∧ w.cell? ⟨kb, koff + k * 9 + 2, none⟩ = some (.int .u32 b.t.va) ∧ w.cell? ⟨kb, koff + k * 9 + 3, none⟩ = some (.int .u64 b.t.pa) ∧ w.cell? ⟨kb, koff + k * 9 + 4, none⟩ = some (.int .i64 b.t.dom) ∧ w.cell? ⟨kb, koff + k * 9 + 5, none⟩ = some (.int .i64 b.t.ap) ∧ w.cell? ⟨kb, koff + k * 9 + 6, none⟩ = some (.int .u32 b.t.bits) ∧ w.cell? ⟨kb, koff + k * 9 + 7, none⟩ = some (.bool b.t.ng) ∧ w.cell? ⟨kb, koff + k * 9 + 8, none⟩ = some (.bool b.t.xn))) (hg : (bR b && K.all (fun x => apF x b)) = false)
    (HQ : Hid (∀ {u6 u15 u16 u17 u73 u74 u75 u76 u77 u78 u79 u80 u81 u82 u83 u84 u85 u86 u87 u88 u89 u90 u91 u92 u93 u94 u95 u96 u97 u98 u99 u100 u101 u102 u103 u104 u105 u106 u107 u108 u109 u110 u111 u112 u113 u114 u115 u116 u117 u118 u119 u120 u121 u122 u123 u124 u125 u126 u127 u128 u129 u130 u131 u132 u133 u134 u135 u136 u137 u138 u139 u140 u141 u142 u143 u144 u145 u146 u147 u148 u149 u150 u151 u152 u153 u154 v' : Value} {w : World} {X' Y' : Hi} {M : List Blo}, QX W w A B X' Y' M v' → PI X' Y' M → M.length ≤ k + 1 → Q .normal ⟨(v0 :: v1 :: (.slice (some ⟨kb, koff, none⟩) kn kcap) :: v3 :: v4 :: v5 :: u6 :: (.pointer (some ⟨A.h, 0, none⟩)) :: v8 :: v9 :: v10 :: (.pointer (some ⟨B.h, 0, none⟩)) :: v12 :: v' :: (.int .i64 ((k + 1 : Nat) : Int)) :: u15 :: u16 :: u17 :: v18 :: v19 :: v20 :: v21 :: v22 :: v23 :: v24 :: v25 :: v26 :: v27 :: v28 :: v29 :: v30 :: v31 :: v32 :: v33 :: v34 :: v35 :: v36 :: v37 :: v38 :: v39 :: v40 :: v41 :: v42 :: v43 :: v44 :: v45 :: v46 :: v47 :: v48 :: v49 :: v50 :: v51 :: v52 :: v53 :: v54 :: v55 :: v56 :: v57 :: v58 :: v59 :: v60 :: v61 :: v62 :: v63 :: v64 :: v65 :: v66 :: v67 :: v68 :: v69 :: v70 :: v71 :: v72 :: u73 :: u74 :: u75 :: u76 :: u77 :: u78 :: u79 :: u80 :: u81 :: u82 :: u83 :: u84 :: u85 :: u86 :: u87 :: u88 :: u89 :: u90 :: u91 :: u92 :: u93 :: u94 :: u95 :: u96 :: u97 :: u98 :: u99 :: u100 :: u101 :: u102 :: u103 :: u104 :: u105 :: u106 :: u107 :: u108 :: u109 :: u110 :: u111 :: u112 :: u113 :: u114 :: u115 :: u116 :: u117 :: u118 :: u119 :: u120 :: u121 :: u122 :: u123 :: u124 :: u125 :: u126 :: u127 :: u128 :: u129 :: u130 :: u131 :: u132 :: u133 :: u134 :: u135 :: u136 :: u137 :: u138 :: u139 :: u140 :: u141 :: u142 :: u143 :: u144 :: u145 :: u146 :: u147 :: u148 :: u149 :: u150 :: u151 :: u152 :: u153 :: u154 :: v155 :: v156 :: v157 :: v158 :: v159 :: v160 :: v161 :: v162 :: v163 :: v164 :: v165 :: v166 :: v167 :: v168 :: v169 :: v170 :: v171 :: v172 :: v173 :: v174 :: v175 :: v176 :: v177 :: v178 :: v179 :: v180 :: v181 :: v182 :: v183 :: v184 :: v185 :: v186 :: v187 :: v188 :: v189 :: v190 :: v191 :: v192 :: v193 :: v194 :: v195 :: v196 :: v197 :: v198 :: v199 :: v200 :: v201 :: v202 :: v203 :: v204 :: v205 :: v206 :: v207 :: v208 :: v209 :: v210 :: v211 :: v212 :: v213 :: v214 :: v215 :: v216 :: v217 :: v218 :: v219 :: v220 :: v221 :: v222 :: v223 :: v224 :: v225 :: v226 :: v227 :: v228 :: v229 :: v230 :: v231 :: v232 :: v233 :: v234 :: v235 :: v236 :: []).toArray, []⟩ w)) :
    (inK Tryd.f3).wp Tryd.prog Q ⟨(v0 :: v1 :: (.slice (some ⟨kb, koff, none⟩) kn kcap) :: v3 :: v4 :: v5 :: v6 :: (.pointer (some ⟨A.h, 0, none⟩)) :: v8 :: v9 :: v10 :: (.pointer (some ⟨B.h, 0, none⟩)) :: v12 :: (.slice a K.length cp) :: (.int .i64 (k : Int)) :: v15 :: v16 :: v17 :: v18 :: v19 :: v20 :: v21 :: v22 :: v23 :: v24 :: v25 :: v26 :: v27 :: v28 :: v29 :: v30 :: v31 :: v32 :: v33 :: v34 :: v35 :: v36 :: v37 :: v38 :: v39 :: v40 :: v41 :: v42 :: v43 :: v44 :: v45 :: v46 :: v47 :: v48 :: v49 :: v50 :: v51 :: v52 :: v53 :: v54 :: v55 :: v56 :: v57 :: v58 :: v59 :: v60 :: v61 :: v62 :: v63 :: v64 :: v65 :: v66 :: v67 :: v68 :: v69 :: v70 :: v71 :: v72 :: v73 :: v74 :: v75 :: v76 :: v77 :: v78 :: v79 :: v80 :: v81 :: v82 :: v83 :: v84 :: v85 :: v86 :: v87 :: v88 :: v89 :: v90 :: v91 :: v92 :: v93 :: v94 :: v95 :: v96 :: v97 :: v98 :: v99 :: v100 :: v101 :: v102 :: v103 :: v104 :: v105 :: v106 :: v107 :: v108 :: v109 :: v110 :: v111 :: v112 :: v113 :: v114 :: v115 :: v116 :: v117 :: v118 :: v119 :: v120 :: v121 :: v122 :: v123 :: v124 :: v125 :: v126 :: v127 :: v128 :: v129 :: v130 :: v131 :: v132 :: v133 :: v134 :: v135 :: v136 :: v137 :: v138 :: v139 :: v140 :: v141 :: v142 :: v143 :: v144 :: v145 :: v146 :: v147 :: v148 :: v149 :: v150 :: v151 :: v152 :: v153 :: v154 :: v155 :: v156 :: v157 :: v158 :: v159 :: v160 :: v161 :: v162 :: v163 :: v164 :: v165 :: v166 :: v167 :: v168 :: v169 :: v170 :: v171 :: v172 :: v173 :: v174 :: v175 :: v176 :: v177 :: v178 :: v179 :: v180 :: v181 :: v182 :: v183 :: v184 :: v185 :: v186 :: v187 :: v188 :: v189 :: v190 :: v191 :: v192 :: v193 :: v194 :: v195 :: v196 :: v197 :: v198 :: v199 :: v200 :: v201 :: v202 :: v203 :: v204 :: v205 :: v206 :: v207 :: v208 :: v209 :: v210 :: v211 :: v212 :: v213 :: v214 :: v215 :: v216 :: v217 :: v218 :: v219 :: v220 :: v221 :: v222 :: v223 :: v224 :: v225 :: v226 :: v227 :: v228 :: v229 :: v230 :: v231 :: v232 :: v233 :: v234 :: v235 :: v236 :: []).toArray, []⟩ wr := by
  conv => arg 2; whnf
  have hlk : kn ≤ 9223372036854775807 := by have := HL.out; omega
  cases hr : bR b
  · have HRi : Hid (∀ w, TR w → Calls Tryd.prog 9 #[.agg #[.int .i64 b.asid, .int .i64 b.t.size, .int .u32 b.t.va, .int .u64 b.t.pa, .int .i64 b.t.dom, .int .i64 b.t.ap, .int .u32 b.t.bits, .bool b.t.ng, .bool b.t.xn]] w fun e w' => e = .returned (.bool false) ∧ Below w.heap.size w w') := hidW (fun w k1 => by have := tright_any b w k1 HB.out; rw [hr] at this; exact this)
    have HAp : Hid (∀ w x, QX W w A B X Y K (.slice a K.length cp) → x ∈ K → Calls Tryd.prog 10 #[.agg #[.int .i64 x.asid, .int .i64 x.t.size, .int .u32 x.t.va, .int .u64 x.t.pa, .int .i64 x.t.dom, .int .i64 x.t.ap, .int .u32 x.t.bits, .bool x.t.ng, .bool x.t.xn], .agg #[.int .i64 b.asid, .int .i64 b.t.size, .int .u32 b.t.va, .int .u64 b.t.pa, .int .i64 b.t.dom, .int .i64 b.t.ap, .int .u32 b.t.bits, .bool b.t.ng, .bool b.t.xn]] w fun e w' => e = .returned (.bool (apF x b)) ∧ Below w.heap.size w w') := hidW (fun w x h1 hx => apart_any x b w (HT.out _ h1.bel).tb (h1.kok x hx) HB.out)
    obtain ⟨e0, e1, e2, e3, e4, e5, e6, e7, e8⟩ := HC.out _ HX.out.bel
    go_wp2_with (fail)
    go_at_call 9
    refine (HRi.out _ (HT.out _ HX.out.bel)).mono ?_
    rintro e w1 ⟨rfl, hb⟩
    replace HX := hidW (HX.out.step hb)
    clear hb HRi e0 e1 e2 e3 e4 e5 e6 e7 e8
    go_wp2
    refine order_J (fun {_ _ d _ _} h => by cases d <;> exact hpan h) (fun w => QX W w A B X Y K (.slice a K.length cp)) (hidW (fun w w' h1 h2 => h1.step h2)) K b false a cp kb koff kn kcap k hk (by have := HKl.out; have := HL.out; omega) (hidW (fun w h1 => ⟨h1.rb, HC.out _ h1.bel⟩)) HAp _ HX ?_
    refine hidW ?_
    intros
    rename_i wq hX
    have HX := hidW hX
    clear hX HAp
    rw [Bool.false_and]
    clear hg hr
    go_wp2
    exact HQ.out HX.out HI.out (by have := HKl.out; omega)
  · have HRi : Hid (∀ w, TR w → Calls Tryd.prog 9 #[.agg #[.int .i64 b.asid, .int .i64 b.t.size, .int .u32 b.t.va, .int .u64 b.t.pa, .int .i64 b.t.dom, .int .i64 b.t.ap, .int .u32 b.t.bits, .bool b.t.ng, .bool b.t.xn]] w fun e w' => e = .returned (.bool true) ∧ Below w.heap.size w w') := hidW (fun w k1 => by have := tright_any b w k1 HB.out; rw [hr] at this; exact this)
    have HAp : Hid (∀ w x, QX W w A B X Y K (.slice a K.length cp) → x ∈ K → Calls Tryd.prog 10 #[.agg #[.int .i64 x.asid, .int .i64 x.t.size, .int .u32 x.t.va, .int .u64 x.t.pa, .int .i64 x.t.dom, .int .i64 x.t.ap, .int .u32 x.t.bits, .bool x.t.ng, .bool x.t.xn], .agg #[.int .i64 b.asid, .int .i64 b.t.size, .int .u32 b.t.va, .int .u64 b.t.pa, .int .i64 b.t.dom, .int .i64 b.t.ap, .int .u32 b.t.bits, .bool b.t.ng, .bool b.t.xn]] w fun e w' => e = .returned (.bool (apF x b)) ∧ Below w.heap.size w w') := hidW (fun w x h1 hx => apart_any x b w (HT.out _ h1.bel).tb (h1.kok x hx) HB.out)
    obtain ⟨e0, e1, e2, e3, e4, e5, e6, e7, e8⟩ := HC.out _ HX.out.bel
    go_wp2_with (fail)
    go_at_call 9
    refine (HRi.out _ (HT.out _ HX.out.bel)).mono ?_
    rintro e w1 ⟨rfl, hb⟩
    replace HX := hidW (HX.out.step hb)
    clear hb HRi e0 e1 e2 e3 e4 e5 e6 e7 e8
    go_wp2
    refine order_J (fun {_ _ d _ _} h => by cases d <;> exact hpan h) (fun w => QX W w A B X Y K (.slice a K.length cp)) (hidW (fun w w' h1 h2 => h1.step h2)) K b true a cp kb koff kn kcap k hk (by have := HKl.out; have := HL.out; omega) (hidW (fun w h1 => ⟨h1.rb, HC.out _ h1.bel⟩)) HAp _ HX ?_
    refine hidW ?_
    intros
    rename_i wq hX
    have HX := hidW hX
    clear hX HAp
    rw [hr, Bool.true_and] at hg
    rw [hg, Bool.and_false]
    clear hg hr
    go_wp2
    exact HQ.out HX.out HI.out (by have := HKl.out; omega)
set_option maxRecDepth 1000000 in
set_option maxHeartbeats 64000000 in
theorem order_K1 {v0 v1 v3 v4 v5 v6 v8 v9 v10 v12 v15 v16 v17 v18 v19 v20 v21 v22 v23 v24 v25 v26 v27 v28 v29 v30 v31 v32 v33 v34 v35 v36 v37 v38 v39 v40 v41 v42 v43 v44 v45 v46 v47 v48 v49 v50 v51 v52 v53 v54 v55 v56 v57 v58 v59 v60 v61 v62 v63 v64 v65 v66 v67 v68 v69 v70 v71 v72 v73 v74 v75 v76 v77 v78 v79 v80 v81 v82 v83 v84 v85 v86 v87 v88 v89 v90 v91 v92 v93 v94 v95 v96 v97 v98 v99 v100 v101 v102 v103 v104 v105 v106 v107 v108 v109 v110 v111 v112 v113 v114 v115 v116 v117 v118 v119 v120 v121 v122 v123 v124 v125 v126 v127 v128 v129 v130 v131 v132 v133 v134 v135 v136 v137 v138 v139 v140 v141 v142 v143 v144 v145 v146 v147 v148 v149 v150 v151 v152 v153 v154 v155 v156 v157 v158 v159 v160 v161 v162 v163 v164 v165 v166 v167 v168 v169 v170 v171 v172 v173 v174 v175 v176 v177 v178 v179 v180 v181 v182 v183 v184 v185 v186 v187 v188 v189 v190 v191 v192 v193 v194 v195 v196 v197 v198 v199 v200 v201 v202 v203 v204 v205 v206 v207 v208 v209 v210 v211 v212 v213 v214 v215 v216 v217 v218 v219 v220 v221 v222 v223 v224 v225 v226 v227 v228 v229 v230 v231 v232 v233 v234 v235 v236 : Value} {Q : Exit → Act → World → Prop} (hpan : ∀ {c : List PanicEntry} {a : Act} {d : Option Tmp} {v : Value} {w : World}, Q (.panic c) (a.put d v) w → Q (.panic c) a w) (W wr : World) (A B : Ad) (X Y : Hi) (K : List Blo) (b : Blo) (a : Option Addr) (cp kb koff kn kcap k : Nat) (hk : k < kn) (HL : Hid (kn * 56 ≤ 140737488351232)) (HKl : Hid (K.length ≤ k)) (HT : Hid (∀ w, Below W.heap.size W w → TR w)) (HX : Hid (QX W wr A B X Y K (.slice a K.length cp))) (HI : Hid (PI X Y K)) (HB : Hid (BOk b)) (HC : Hid (∀ w, Below W.heap.size W w → w.cell? ⟨kb, koff + k * 9, none⟩ = some (.int .i64 b.asid) ∧ w.cell? ⟨kb, koff + k * 9 + 1, none⟩ = some (.int .i64 b.t.size) ∧ w.cell? ⟨kb, koff + k * 9 + 2, none⟩ = some (.int .u32 b.t.va) ∧ w.cell? ⟨kb, koff + k * 9 + 3, none⟩ = some (.int .u64 b.t.pa) ∧ w.cell? ⟨kb, koff + k * 9 + 4, none⟩ = some (.int .i64 b.t.dom) ∧ w.cell? ⟨kb, koff + k * 9 + 5, none⟩ = some (.int .i64 b.t.ap) ∧ w.cell? ⟨kb, koff + k * 9 + 6, none⟩ = some (.int .u32 b.t.bits) ∧ w.cell? ⟨kb, koff + k * 9 + 7, none⟩ = some (.bool b.t.ng) ∧ w.cell? ⟨kb, koff + k * 9 + 8, none⟩ = some (.bool b.t.xn))) (hr : bR b = true) (hal : K.all (fun x => apF x b) = true)
    (HQ : Hid (∀ {u6 u15 u16 u17 u73 u74 u75 u76 u77 u78 u79 u80 u81 u82 u83 u84 u85 u86 u87 u88 u89 u90 u91 u92 u93 u94 u95 u96 u97 u98 u99 u100 u101 u102 u103 u104 u105 u106 u107 u108 u109 u110 u111 u112 u113 u114 u115 u116 u117 u118 u119 u120 u121 u122 u123 u124 u125 u126 u127 u128 u129 u130 u131 u132 u133 u134 u135 u136 u137 u138 u139 u140 u141 u142 u143 u144 u145 u146 u147 u148 u149 u150 u151 u152 u153 u154 v' : Value} {w : World} {X' Y' : Hi} {M : List Blo}, QX W w A B X' Y' M v' → PI X' Y' M → M.length ≤ k + 1 → Q .normal ⟨(v0 :: v1 :: (.slice (some ⟨kb, koff, none⟩) kn kcap) :: v3 :: v4 :: v5 :: u6 :: (.pointer (some ⟨A.h, 0, none⟩)) :: v8 :: v9 :: v10 :: (.pointer (some ⟨B.h, 0, none⟩)) :: v12 :: v' :: (.int .i64 ((k + 1 : Nat) : Int)) :: u15 :: u16 :: u17 :: v18 :: v19 :: v20 :: v21 :: v22 :: v23 :: v24 :: v25 :: v26 :: v27 :: v28 :: v29 :: v30 :: v31 :: v32 :: v33 :: v34 :: v35 :: v36 :: v37 :: v38 :: v39 :: v40 :: v41 :: v42 :: v43 :: v44 :: v45 :: v46 :: v47 :: v48 :: v49 :: v50 :: v51 :: v52 :: v53 :: v54 :: v55 :: v56 :: v57 :: v58 :: v59 :: v60 :: v61 :: v62 :: v63 :: v64 :: v65 :: v66 :: v67 :: v68 :: v69 :: v70 :: v71 :: v72 :: u73 :: u74 :: u75 :: u76 :: u77 :: u78 :: u79 :: u80 :: u81 :: u82 :: u83 :: u84 :: u85 :: u86 :: u87 :: u88 :: u89 :: u90 :: u91 :: u92 :: u93 :: u94 :: u95 :: u96 :: u97 :: u98 :: u99 :: u100 :: u101 :: u102 :: u103 :: u104 :: u105 :: u106 :: u107 :: u108 :: u109 :: u110 :: u111 :: u112 :: u113 :: u114 :: u115 :: u116 :: u117 :: u118 :: u119 :: u120 :: u121 :: u122 :: u123 :: u124 :: u125 :: u126 :: u127 :: u128 :: u129 :: u130 :: u131 :: u132 :: u133 :: u134 :: u135 :: u136 :: u137 :: u138 :: u139 :: u140 :: u141 :: u142 :: u143 :: u144 :: u145 :: u146 :: u147 :: u148 :: u149 :: u150 :: u151 :: u152 :: u153 :: u154 :: v155 :: v156 :: v157 :: v158 :: v159 :: v160 :: v161 :: v162 :: v163 :: v164 :: v165 :: v166 :: v167 :: v168 :: v169 :: v170 :: v171 :: v172 :: v173 :: v174 :: v175 :: v176 :: v177 :: v178 :: v179 :: v180 :: v181 :: v182 :: v183 :: v184 :: v185 :: v186 :: v187 :: v188 :: v189 :: v190 :: v191 :: v192 :: v193 :: v194 :: v195 :: v196 :: v197 :: v198 :: v199 :: v200 :: v201 :: v202 :: v203 :: v204 :: v205 :: v206 :: v207 :: v208 :: v209 :: v210 :: v211 :: v212 :: v213 :: v214 :: v215 :: v216 :: v217 :: v218 :: v219 :: v220 :: v221 :: v222 :: v223 :: v224 :: v225 :: v226 :: v227 :: v228 :: v229 :: v230 :: v231 :: v232 :: v233 :: v234 :: v235 :: v236 :: []).toArray, []⟩ w)) :
    (inK Tryd.f3).wp Tryd.prog Q ⟨(v0 :: v1 :: (.slice (some ⟨kb, koff, none⟩) kn kcap) :: v3 :: v4 :: v5 :: v6 :: (.pointer (some ⟨A.h, 0, none⟩)) :: v8 :: v9 :: v10 :: (.pointer (some ⟨B.h, 0, none⟩)) :: v12 :: (.slice a K.length cp) :: (.int .i64 (k : Int)) :: v15 :: v16 :: v17 :: v18 :: v19 :: v20 :: v21 :: v22 :: v23 :: v24 :: v25 :: v26 :: v27 :: v28 :: v29 :: v30 :: v31 :: v32 :: v33 :: v34 :: v35 :: v36 :: v37 :: v38 :: v39 :: v40 :: v41 :: v42 :: v43 :: v44 :: v45 :: v46 :: v47 :: v48 :: v49 :: v50 :: v51 :: v52 :: v53 :: v54 :: v55 :: v56 :: v57 :: v58 :: v59 :: v60 :: v61 :: v62 :: v63 :: v64 :: v65 :: v66 :: v67 :: v68 :: v69 :: v70 :: v71 :: v72 :: v73 :: v74 :: v75 :: v76 :: v77 :: v78 :: v79 :: v80 :: v81 :: v82 :: v83 :: v84 :: v85 :: v86 :: v87 :: v88 :: v89 :: v90 :: v91 :: v92 :: v93 :: v94 :: v95 :: v96 :: v97 :: v98 :: v99 :: v100 :: v101 :: v102 :: v103 :: v104 :: v105 :: v106 :: v107 :: v108 :: v109 :: v110 :: v111 :: v112 :: v113 :: v114 :: v115 :: v116 :: v117 :: v118 :: v119 :: v120 :: v121 :: v122 :: v123 :: v124 :: v125 :: v126 :: v127 :: v128 :: v129 :: v130 :: v131 :: v132 :: v133 :: v134 :: v135 :: v136 :: v137 :: v138 :: v139 :: v140 :: v141 :: v142 :: v143 :: v144 :: v145 :: v146 :: v147 :: v148 :: v149 :: v150 :: v151 :: v152 :: v153 :: v154 :: v155 :: v156 :: v157 :: v158 :: v159 :: v160 :: v161 :: v162 :: v163 :: v164 :: v165 :: v166 :: v167 :: v168 :: v169 :: v170 :: v171 :: v172 :: v173 :: v174 :: v175 :: v176 :: v177 :: v178 :: v179 :: v180 :: v181 :: v182 :: v183 :: v184 :: v185 :: v186 :: v187 :: v188 :: v189 :: v190 :: v191 :: v192 :: v193 :: v194 :: v195 :: v196 :: v197 :: v198 :: v199 :: v200 :: v201 :: v202 :: v203 :: v204 :: v205 :: v206 :: v207 :: v208 :: v209 :: v210 :: v211 :: v212 :: v213 :: v214 :: v215 :: v216 :: v217 :: v218 :: v219 :: v220 :: v221 :: v222 :: v223 :: v224 :: v225 :: v226 :: v227 :: v228 :: v229 :: v230 :: v231 :: v232 :: v233 :: v234 :: v235 :: v236 :: []).toArray, []⟩ wr := by
  conv => arg 2; whnf
  have hlk : kn ≤ 9223372036854775807 := by have := HL.out; omega
  have hov : ovF b b.t.va (bits BinOp.and IntKind.i64 b.asid 255) = true := ov_own hr (and255 (right_asid hr))
  have HKa : Hid (∀ w f pick, PH 73 95 [] w A X → TR w → Calls Tryd.prog 11 #[.pointer (some ⟨A.h, 0, none⟩), .agg #[.int .i64 b.asid, .int .i64 b.t.size, .int .u32 b.t.va, .int .u64 b.t.pa, .int .i64 b.t.dom, .int .i64 b.t.ap, .int .u32 b.t.bits, .bool b.t.ng, .bool b.t.xn], .int .u32 b.t.va, .int .i64 (bits BinOp.and IntKind.i64 b.asid 255), .bool f, .int .i64 pick] w fun e w' => e = .returned (.int .i64 0) ∧ PH 73 95 [] w' A (keF X b b.t.va (bits BinOp.and IntKind.i64 b.asid 255) f pick).2 ∧ Turn A.S w w') := hidW (fun w f pick k1 k2 => by
    have := hkeep_any w A X b b.t.va (bits BinOp.and IntKind.i64 b.asid 255) f pick k1 k2 HB.out HB.out.va
    rw [show (keF X b b.t.va (bits BinOp.and IntKind.i64 b.asid 255) f pick).1 = 0 by unfold keF; rw [if_pos hov]] at this
    exact this)
  have HKb : Hid (∀ w f pick, PH 73 95 [] w B Y → TR w → Calls Tryd.prog 11 #[.pointer (some ⟨B.h, 0, none⟩), .agg #[.int .i64 b.asid, .int .i64 b.t.size, .int .u32 b.t.va, .int .u64 b.t.pa, .int .i64 b.t.dom, .int .i64 b.t.ap, .int .u32 b.t.bits, .bool b.t.ng, .bool b.t.xn], .int .u32 b.t.va, .int .i64 (bits BinOp.and IntKind.i64 b.asid 255), .bool f, .int .i64 pick] w fun e w' => e = .returned (.int .i64 0) ∧ PH 73 95 [] w' B (keF Y b b.t.va (bits BinOp.and IntKind.i64 b.asid 255) f pick).2 ∧ Turn B.S w w') := hidW (fun w f pick k1 k2 => by
    have := hkeep_any w B Y b b.t.va (bits BinOp.and IntKind.i64 b.asid 255) f pick k1 k2 HB.out HB.out.va
    rw [show (keF Y b b.t.va (bits BinOp.and IntKind.i64 b.asid 255) f pick).1 = 0 by unfold keF; rw [if_pos hov]] at this
    exact this)
  have HP : Hid (∀ f1 p1 f2 p2, PI (keF X b b.t.va (bits BinOp.and IntKind.i64 b.asid 255) f1 p1).2 (keF Y b b.t.va (bits BinOp.and IntKind.i64 b.asid 255) f2 p2).2 (K ++ [b])) := hidW (fun f1 p1 f2 p2 => ⟨HI.out.ia.keep b _ _ f1 p1, HI.out.ib.keep b _ _ f2 p2, HI.out.ua.keep b _ _ f1 p1, HI.out.ub.keep b _ _ f2 p2, List.pairwise_append.2 ⟨HI.out.ap, List.pairwise_singleton _ _, fun x hx y hy => by rw [List.mem_singleton.1 hy]; exact List.all_eq_true.1 hal x hx⟩⟩)
  clear hov
  have HRi : Hid (∀ w, TR w → Calls Tryd.prog 9 #[.agg #[.int .i64 b.asid, .int .i64 b.t.size, .int .u32 b.t.va, .int .u64 b.t.pa, .int .i64 b.t.dom, .int .i64 b.t.ap, .int .u32 b.t.bits, .bool b.t.ng, .bool b.t.xn]] w fun e w' => e = .returned (.bool true) ∧ Below w.heap.size w w') := hidW (fun w k1 => by have := tright_any b w k1 HB.out; rw [hr] at this; exact this)
  have HAp : Hid (∀ w x, QX W w A B X Y K (.slice a K.length cp) → x ∈ K → Calls Tryd.prog 10 #[.agg #[.int .i64 x.asid, .int .i64 x.t.size, .int .u32 x.t.va, .int .u64 x.t.pa, .int .i64 x.t.dom, .int .i64 x.t.ap, .int .u32 x.t.bits, .bool x.t.ng, .bool x.t.xn], .agg #[.int .i64 b.asid, .int .i64 b.t.size, .int .u32 b.t.va, .int .u64 b.t.pa, .int .i64 b.t.dom, .int .i64 b.t.ap, .int .u32 b.t.bits, .bool b.t.ng, .bool b.t.xn]] w fun e w' => e = .returned (.bool (apF x b)) ∧ Below w.heap.size w w') := hidW (fun w x h1 hx => apart_any x b w (HT.out _ h1.bel).tb (h1.kok x hx) HB.out)
  obtain ⟨e0, e1, e2, e3, e4, e5, e6, e7, e8⟩ := HC.out _ HX.out.bel
  go_wp2_with (fail)
  go_at_call 9
  refine (HRi.out _ (HT.out _ HX.out.bel)).mono ?_
  rintro e w1 ⟨rfl, hb⟩
  replace HX := hidW (HX.out.step hb)
  clear hb HRi e0 e1 e2 e3 e4 e5 e6 e7 e8
  go_wp2
  refine order_J (fun {_ _ d _ _} h => by cases d <;> exact hpan h) (fun w => QX W w A B X Y K (.slice a K.length cp)) (hidW (fun w w' h1 h2 => h1.step h2)) K b true a cp kb koff kn kcap k hk (by have := HKl.out; have := HL.out; omega) (hidW (fun w h1 => ⟨h1.rb, HC.out _ h1.bel⟩)) HAp _ HX ?_
  refine hidW ?_
  intros
  rename_i wq hX
  have HX := hidW hX
  clear hX HAp
  rw [hal, Bool.and_true]
  obtain ⟨e0, e1, e2, e3, e4, e5, e6, e7, e8⟩ := HC.out _ HX.out.bel
  obtain ⟨v', w8, hrn, ho, hT⟩ := appB _ _ _ K b HX.out.own HX.out.bel.size (by have := HKl.out; have := HL.out; omega)
  replace HX := hidW (HX.out.app ho hT HB.out)
  have HRn := hidW hrn
  clear ho hT hrn
  go_wp2_with (first | (at_builtin; refine wpList_append_eq rfl (.tmp 103) (.tmp 108) 24 rfl _ _ rfl rfl HRn.out ?_; clear HRn e0 e1 e2 e3 e4 e5 e6 e7 e8; obtain ⟨e0, e1, e2, e3, e4, e5, e6, e7, e8⟩ := HC.out _ HX.out.bel))
  clear e0 e1 e2 e3 e4 e5 e6 e7 e8
  replace HX := hidW HX.out.drew
  refine wp_region_held_drew (S := fun w' => w'.cell? ⟨kb, koff + k * 9, none⟩ = some (.int .i64 b.asid) ∧ w'.cell? ⟨kb, koff + k * 9 + 1, none⟩ = some (.int .i64 b.t.size) ∧ w'.cell? ⟨kb, koff + k * 9 + 2, none⟩ = some (.int .u32 b.t.va) ∧ w'.cell? ⟨kb, koff + k * 9 + 3, none⟩ = some (.int .u64 b.t.pa) ∧ w'.cell? ⟨kb, koff + k * 9 + 4, none⟩ = some (.int .i64 b.t.dom) ∧ w'.cell? ⟨kb, koff + k * 9 + 5, none⟩ = some (.int .i64 b.t.ap) ∧ w'.cell? ⟨kb, koff + k * 9 + 6, none⟩ = some (.int .u32 b.t.bits) ∧ w'.cell? ⟨kb, koff + k * 9 + 7, none⟩ = some (.bool b.t.ng) ∧ w'.cell? ⟨kb, koff + k * 9 + 8, none⟩ = some (.bool b.t.xn)) (by kernel_rfl) (HC.out _ HX.out.bel) (fun hHeld => ?_)
  refine wpAnyH_take (i := 0) (oi := { dst := some 116, op := Op.move (Operand.tmp 7), type := 25, pos := _, after := #[], guard := none }) (v := ?_) rfl (by kernel_rfl) (by kernel_rfl) (by kernel_rfl) (fun _ _ _ h => hpan h) (Or.inl ⟨by rfl, ?_⟩) (by assumption) ?_
  rotate_left
  · (intro w hSw; (try dsimp only at hSw); go_simp; try with_reducible rfl)
  simp only [Act.put, List.setIfInBounds_toArray, List.set_cons_zero, List.set_cons_succ]
  refine wpAnyH_take (i := 1) (oi := { dst := some 117, op := Op.move (Operand.tmp 2), type := 24, pos := _, after := #[], guard := none }) (v := ?_) rfl (by kernel_rfl) (by kernel_rfl) (by kernel_rfl) (fun _ _ _ h => hpan h) (Or.inl ⟨by rfl, ?_⟩) (by assumption) ?_
  rotate_left
  · (intro w hSw; (try dsimp only at hSw); go_simp; try with_reducible rfl)
  simp only [Act.put, List.setIfInBounds_toArray, List.set_cons_zero, List.set_cons_succ]
  refine wpAnyH_take (i := 2) (oi := { dst := some 118, op := Op.move (Operand.tmp 14), type := 3, pos := _, after := #[], guard := none }) (v := ?_) rfl (by kernel_rfl) (by kernel_rfl) (by kernel_rfl) (fun _ _ _ h => hpan h) (Or.inl ⟨by rfl, ?_⟩) (by assumption) ?_
  rotate_left
  · (intro w hSw; (try dsimp only at hSw); go_simp; try with_reducible rfl)
  simp only [Act.put, List.setIfInBounds_toArray, List.set_cons_zero, List.set_cons_succ]
  refine wpAnyH_take (i := 3) (oi := { dst := some 119, op := Op.indexAddr 24 (Operand.tmp 117) (Operand.tmp 118), type := 0, pos := _, after := #[{ on := 1, ground := Ground.data }, { on := 2, ground := Ground.data }], guard := none }) (v := ?_) rfl (by kernel_rfl) (by kernel_rfl) (by kernel_rfl) (fun _ _ _ h => hpan h) (Or.inl ⟨by rfl, ?_⟩) (by assumption) ?_
  rotate_left
  · (intro w hSw; (try dsimp only at hSw); go_simp; try with_reducible rfl)
  simp only [Act.put, List.setIfInBounds_toArray, List.set_cons_zero, List.set_cons_succ]
  refine wpAnyH_take (i := 4) (oi := { dst := some 120, op := Op.load 38 (Operand.tmp 119), type := 38, pos := _, after := #[{ on := 3, ground := Ground.data }], guard := none }) (v := ?_) rfl (by kernel_rfl) (by kernel_rfl) (by kernel_rfl) (fun _ _ _ h => hpan h) (Or.inl ⟨by rfl, ?_⟩) (by assumption) ?_
  rotate_left
  · (intro w hSw; (try dsimp only at hSw); go_simp; try with_reducible rfl)
  simp only [Act.put, List.setIfInBounds_toArray, List.set_cons_zero, List.set_cons_succ]
  refine wpAnyH_take (i := 5) (oi := { dst := some 121, op := Op.move (Operand.tmp 17), type := 31, pos := _, after := #[], guard := none }) (v := ?_) rfl (by kernel_rfl) (by kernel_rfl) (by kernel_rfl) (fun _ _ _ h => hpan h) (Or.inl ⟨by rfl, ?_⟩) (by assumption) ?_
  rotate_left
  · (intro w hSw; (try dsimp only at hSw); go_simp; try with_reducible rfl)
  simp only [Act.put, List.setIfInBounds_toArray, List.set_cons_zero, List.set_cons_succ]
  refine wpAnyH_take (i := 6) (oi := { dst := some 122, op := Op.move (Operand.tmp 2), type := 24, pos := _, after := #[], guard := none }) (v := ?_) rfl (by kernel_rfl) (by kernel_rfl) (by kernel_rfl) (fun _ _ _ h => hpan h) (Or.inl ⟨by rfl, ?_⟩) (by assumption) ?_
  rotate_left
  · (intro w hSw; (try dsimp only at hSw); go_simp; try with_reducible rfl)
  simp only [Act.put, List.setIfInBounds_toArray, List.set_cons_zero, List.set_cons_succ]
  refine wpAnyH_take (i := 7) (oi := { dst := some 123, op := Op.move (Operand.tmp 14), type := 3, pos := _, after := #[], guard := none }) (v := ?_) rfl (by kernel_rfl) (by kernel_rfl) (by kernel_rfl) (fun _ _ _ h => hpan h) (Or.inl ⟨by rfl, ?_⟩) (by assumption) ?_
  rotate_left
  · (intro w hSw; (try dsimp only at hSw); go_simp; try with_reducible rfl)
  simp only [Act.put, List.setIfInBounds_toArray, List.set_cons_zero, List.set_cons_succ]
  refine wpAnyH_take (i := 8) (oi := { dst := some 124, op := Op.indexAddr 24 (Operand.tmp 122) (Operand.tmp 123), type := 0, pos := _, after := #[{ on := 6, ground := Ground.data }, { on := 7, ground := Ground.data }], guard := none }) (v := ?_) rfl (by kernel_rfl) (by kernel_rfl) (by kernel_rfl) (fun _ _ _ h => hpan h) (Or.inl ⟨by rfl, ?_⟩) (by assumption) ?_
  rotate_left
  · (intro w hSw; (try dsimp only at hSw); go_simp; try with_reducible rfl)
  simp only [Act.put, List.setIfInBounds_toArray, List.set_cons_zero, List.set_cons_succ]
  refine wpAnyH_take (i := 9) (oi := { dst := some 125, op := Op.fieldAddr 38 (Operand.tmp 124) 0, type := 0, pos := _, after := #[{ on := 8, ground := Ground.data }], guard := none }) (v := ?_) rfl (by kernel_rfl) (by kernel_rfl) (by kernel_rfl) (fun _ _ _ h => hpan h) (Or.inl ⟨by rfl, ?_⟩) (by assumption) ?_
  rotate_left
  · (intro w hSw; (try dsimp only at hSw); go_simp; try with_reducible rfl)
  simp only [Act.put, List.setIfInBounds_toArray, List.set_cons_zero, List.set_cons_succ]
  refine wpAnyH_take (i := 10) (oi := { dst := some 126, op := Op.load 3 (Operand.tmp 125), type := 3, pos := _, after := #[{ on := 9, ground := Ground.data }], guard := none }) (v := ?_) rfl (by kernel_rfl) (by kernel_rfl) (by kernel_rfl) (fun _ _ _ h => hpan h) (Or.inl ⟨by rfl, ?_⟩) (by assumption) ?_
  rotate_left
  · (intro w hSw; (try dsimp only at hSw); go_simp; try with_reducible rfl)
  simp only [Act.put, List.setIfInBounds_toArray, List.set_cons_zero, List.set_cons_succ]
  refine wpAnyH_take (i := 11) (oi := { dst := some 127, op := Op.binOp BinOp.and 3 (Operand.tmp 126) (Operand.const (Value.int IntKind.i64 255)) 3, type := 3, pos := _, after := #[{ on := 10, ground := Ground.data }], guard := none }) (v := ?_) rfl (by kernel_rfl) (by kernel_rfl) (by kernel_rfl) (fun _ _ _ h => hpan h) (Or.inl ⟨by rfl, ?_⟩) (by assumption) ?_
  rotate_left
  · (intro w hSw; (try dsimp only at hSw); go_simp; try with_reducible rfl)
  simp only [Act.put, List.setIfInBounds_toArray, List.set_cons_zero, List.set_cons_succ]
  refine wpAnyH_take (i := 12) (oi := { dst := some 128, op := Op.move (Operand.tmp 14), type := 3, pos := _, after := #[], guard := none }) (v := ?_) rfl (by kernel_rfl) (by kernel_rfl) (by kernel_rfl) (fun _ _ _ h => hpan h) (Or.inl ⟨by rfl, ?_⟩) (by assumption) ?_
  rotate_left
  · (intro w hSw; (try dsimp only at hSw); go_simp; try with_reducible rfl)
  simp only [Act.put, List.setIfInBounds_toArray, List.set_cons_zero, List.set_cons_succ]
  refine wpAnyH_take (i := 13) (oi := { dst := some 129, op := Op.binOp BinOp.and 3 (Operand.tmp 128) (Operand.const (Value.int IntKind.i64 1)) 3, type := 3, pos := _, after := #[{ on := 12, ground := Ground.data }], guard := none }) (v := ?_) rfl (by kernel_rfl) (by kernel_rfl) (by kernel_rfl) (fun _ _ _ h => hpan h) (Or.inl ⟨by rfl, ?_⟩) (by assumption) ?_
  rotate_left
  · (intro w hSw; (try dsimp only at hSw); go_simp; try with_reducible rfl)
  simp only [Act.put, List.setIfInBounds_toArray, List.set_cons_zero, List.set_cons_succ]
  refine wpAnyH_take (i := 14) (oi := { dst := some 130, op := Op.binOp BinOp.eql 3 (Operand.tmp 129) (Operand.const (Value.int IntKind.i64 1)) 3, type := 4, pos := _, after := #[{ on := 13, ground := Ground.data }], guard := none }) (v := ?_) rfl (by kernel_rfl) (by kernel_rfl) (by kernel_rfl) (fun _ _ _ h => hpan h) (Or.inl ⟨by rfl, ?_⟩) (by assumption) ?_
  rotate_left
  · (intro w hSw; (try dsimp only at hSw); go_simp; try with_reducible rfl)
  simp only [Act.put, List.setIfInBounds_toArray, List.set_cons_zero, List.set_cons_succ]
  refine wpAnyH_take (i := 15) (oi := { dst := some 131, op := Op.move (Operand.tmp 14), type := 3, pos := _, after := #[], guard := none }) (v := ?_) rfl (by kernel_rfl) (by kernel_rfl) (by kernel_rfl) (fun _ _ _ h => hpan h) (Or.inl ⟨by rfl, ?_⟩) (by assumption) ?_
  rotate_left
  · (intro w hSw; (try dsimp only at hSw); go_simp; try with_reducible rfl)
  simp only [Act.put, List.setIfInBounds_toArray, List.set_cons_zero, List.set_cons_succ]
  refine wpAnyH_ready (rs := [16]) (by kernel_rfl) (by simp) ?_
  refine AllReadyH.cons (o := { dst := some 132, op := Op.call { callee := Callee.value (Operand.func 11), args := #[Operand.tmp 116, Operand.tmp 120, Operand.tmp 121, Operand.tmp 127, Operand.tmp 130, Operand.tmp 131], argTypes := #[25, 38, 31, 3, 4, 3] }, type := 26, pos := _, after := #[{ on := 0, ground := Ground.data }, { on := 4, ground := Ground.data }, { on := 5, ground := Ground.data }, { on := 11, ground := Ground.data }, { on := 14, ground := Ground.data }, { on := 15, ground := Ground.data }], guard := none }) rfl (fun K hK => ?_) AllReadyH.nil
  go_simp
  (go_at_call 11; first | with_reducible refine (HKa.out _ _ _ HX.out.pa (HT.out _ HX.out.bel)).mono ?_ | with_reducible refine (HKb.out _ _ _ HX.out.pb (HT.out _ HX.out.bel)).mono ?_); rintro e w9 ⟨rfl, hp, hT⟩; (first | replace HX := hidW (HX.out.turnA hp hT) | replace HX := hidW (HX.out.turnB hp hT)); clear hp hT; go_wp2_with fail
  refine hK.out _ _ ?_ (fun hHeld => ?_)
  · ((try dsimp only); with_reducible exact HC.out _ HX.out.bel)
  clear hK K
  try simp only [Act.put, List.setIfInBounds_toArray, List.set_cons_zero, List.set_cons_succ]
  refine wpAnyH_take (i := 17) (oi := { dst := some 133, op := Op.binOp BinOp.neq 26 (Operand.tmp 132) (Operand.const (Value.int IntKind.i64 0)) 26, type := 4, pos := _, after := #[{ on := 16, ground := Ground.data }], guard := none }) (v := ?_) rfl (by kernel_rfl) (by kernel_rfl) (by kernel_rfl) (fun _ _ _ h => hpan h) (Or.inl ⟨by rfl, ?_⟩) (by assumption) ?_
  rotate_left
  · (intro w hSw; (try dsimp only at hSw); go_simp; try with_reducible rfl)
  simp only [Act.put, List.setIfInBounds_toArray, List.set_cons_zero, List.set_cons_succ]
  refine wpAnyH_take (i := 18) (oi := { dst := some 134, op := Op.move (Operand.tmp 133), type := 4, pos := _, after := #[{ on := 17, ground := Ground.data }, { on := 16, ground := Ground.chain }], guard := none }) (v := ?_) rfl (by kernel_rfl) (by kernel_rfl) (by kernel_rfl) (fun _ _ _ h => hpan h) (Or.inl ⟨by rfl, ?_⟩) (by assumption) ?_
  rotate_left
  · (intro w hSw; (try dsimp only at hSw); go_simp; try with_reducible rfl)
  simp only [Act.put, List.setIfInBounds_toArray, List.set_cons_zero, List.set_cons_succ]
  refine wpAnyH_take (i := 19) (oi := { dst := some 135, op := Op.move (Operand.tmp 11), type := 25, pos := _, after := #[{ on := 18, ground := Ground.guard }], guard := some (18, false) }) (v := ?_) rfl (by kernel_rfl) (by kernel_rfl) (by kernel_rfl) (fun _ _ _ h => hpan h) (Or.inl ⟨by rfl, ?_⟩) (by assumption) ?_
  rotate_left
  · (intro w hSw; (try dsimp only at hSw); go_simp; try with_reducible rfl)
  simp only [Act.put, List.setIfInBounds_toArray, List.set_cons_zero, List.set_cons_succ]
  refine wpAnyH_take (i := 20) (oi := { dst := some 136, op := Op.move (Operand.tmp 2), type := 24, pos := _, after := #[{ on := 18, ground := Ground.guard }], guard := some (18, false) }) (v := ?_) rfl (by kernel_rfl) (by kernel_rfl) (by kernel_rfl) (fun _ _ _ h => hpan h) (Or.inl ⟨by rfl, ?_⟩) (by assumption) ?_
  rotate_left
  · (intro w hSw; (try dsimp only at hSw); go_simp; try with_reducible rfl)
  simp only [Act.put, List.setIfInBounds_toArray, List.set_cons_zero, List.set_cons_succ]
  refine wpAnyH_take (i := 21) (oi := { dst := some 137, op := Op.move (Operand.tmp 14), type := 3, pos := _, after := #[{ on := 18, ground := Ground.guard }], guard := some (18, false) }) (v := ?_) rfl (by kernel_rfl) (by kernel_rfl) (by kernel_rfl) (fun _ _ _ h => hpan h) (Or.inl ⟨by rfl, ?_⟩) (by assumption) ?_
  rotate_left
  · (intro w hSw; (try dsimp only at hSw); go_simp; try with_reducible rfl)
  simp only [Act.put, List.setIfInBounds_toArray, List.set_cons_zero, List.set_cons_succ]
  refine wpAnyH_take (i := 22) (oi := { dst := some 138, op := Op.indexAddr 24 (Operand.tmp 136) (Operand.tmp 137), type := 0, pos := _, after := #[{ on := 20, ground := Ground.data }, { on := 21, ground := Ground.data }, { on := 18, ground := Ground.guard }], guard := some (18, false) }) (v := ?_) rfl (by kernel_rfl) (by kernel_rfl) (by kernel_rfl) (fun _ _ _ h => hpan h) (Or.inl ⟨by rfl, ?_⟩) (by assumption) ?_
  rotate_left
  · (intro w hSw; (try dsimp only at hSw); go_simp; try with_reducible rfl)
  simp only [Act.put, List.setIfInBounds_toArray, List.set_cons_zero, List.set_cons_succ]
  refine wpAnyH_take (i := 23) (oi := { dst := some 139, op := Op.load 38 (Operand.tmp 138), type := 38, pos := _, after := #[{ on := 22, ground := Ground.data }, { on := 18, ground := Ground.guard }], guard := some (18, false) }) (v := ?_) rfl (by kernel_rfl) (by kernel_rfl) (by kernel_rfl) (fun _ _ _ h => hpan h) (Or.inl ⟨by rfl, ?_⟩) (by assumption) ?_
  rotate_left
  · (intro w hSw; (try dsimp only at hSw); go_simp; try with_reducible rfl)
  simp only [Act.put, List.setIfInBounds_toArray, List.set_cons_zero, List.set_cons_succ]
  refine wpAnyH_take (i := 24) (oi := { dst := some 140, op := Op.move (Operand.tmp 17), type := 31, pos := _, after := #[{ on := 18, ground := Ground.guard }], guard := some (18, false) }) (v := ?_) rfl (by kernel_rfl) (by kernel_rfl) (by kernel_rfl) (fun _ _ _ h => hpan h) (Or.inl ⟨by rfl, ?_⟩) (by assumption) ?_
  rotate_left
  · (intro w hSw; (try dsimp only at hSw); go_simp; try with_reducible rfl)
  simp only [Act.put, List.setIfInBounds_toArray, List.set_cons_zero, List.set_cons_succ]
  refine wpAnyH_take (i := 25) (oi := { dst := some 141, op := Op.move (Operand.tmp 2), type := 24, pos := _, after := #[{ on := 18, ground := Ground.guard }], guard := some (18, false) }) (v := ?_) rfl (by kernel_rfl) (by kernel_rfl) (by kernel_rfl) (fun _ _ _ h => hpan h) (Or.inl ⟨by rfl, ?_⟩) (by assumption) ?_
  rotate_left
  · (intro w hSw; (try dsimp only at hSw); go_simp; try with_reducible rfl)
  simp only [Act.put, List.setIfInBounds_toArray, List.set_cons_zero, List.set_cons_succ]
  refine wpAnyH_take (i := 26) (oi := { dst := some 142, op := Op.move (Operand.tmp 14), type := 3, pos := _, after := #[{ on := 18, ground := Ground.guard }], guard := some (18, false) }) (v := ?_) rfl (by kernel_rfl) (by kernel_rfl) (by kernel_rfl) (fun _ _ _ h => hpan h) (Or.inl ⟨by rfl, ?_⟩) (by assumption) ?_
  rotate_left
  · (intro w hSw; (try dsimp only at hSw); go_simp; try with_reducible rfl)
  simp only [Act.put, List.setIfInBounds_toArray, List.set_cons_zero, List.set_cons_succ]
  refine wpAnyH_take (i := 27) (oi := { dst := some 143, op := Op.indexAddr 24 (Operand.tmp 141) (Operand.tmp 142), type := 0, pos := _, after := #[{ on := 25, ground := Ground.data }, { on := 26, ground := Ground.data }, { on := 18, ground := Ground.guard }], guard := some (18, false) }) (v := ?_) rfl (by kernel_rfl) (by kernel_rfl) (by kernel_rfl) (fun _ _ _ h => hpan h) (Or.inl ⟨by rfl, ?_⟩) (by assumption) ?_
  rotate_left
  · (intro w hSw; (try dsimp only at hSw); go_simp; try with_reducible rfl)
  simp only [Act.put, List.setIfInBounds_toArray, List.set_cons_zero, List.set_cons_succ]
  refine wpAnyH_take (i := 28) (oi := { dst := some 144, op := Op.fieldAddr 38 (Operand.tmp 143) 0, type := 0, pos := _, after := #[{ on := 27, ground := Ground.data }, { on := 18, ground := Ground.guard }], guard := some (18, false) }) (v := ?_) rfl (by kernel_rfl) (by kernel_rfl) (by kernel_rfl) (fun _ _ _ h => hpan h) (Or.inl ⟨by rfl, ?_⟩) (by assumption) ?_
  rotate_left
  · (intro w hSw; (try dsimp only at hSw); go_simp; try with_reducible rfl)
  simp only [Act.put, List.setIfInBounds_toArray, List.set_cons_zero, List.set_cons_succ]
  refine wpAnyH_take (i := 29) (oi := { dst := some 145, op := Op.load 3 (Operand.tmp 144), type := 3, pos := _, after := #[{ on := 28, ground := Ground.data }, { on := 18, ground := Ground.guard }], guard := some (18, false) }) (v := ?_) rfl (by kernel_rfl) (by kernel_rfl) (by kernel_rfl) (fun _ _ _ h => hpan h) (Or.inl ⟨by rfl, ?_⟩) (by assumption) ?_
  rotate_left
  · (intro w hSw; (try dsimp only at hSw); go_simp; try with_reducible rfl)
  simp only [Act.put, List.setIfInBounds_toArray, List.set_cons_zero, List.set_cons_succ]
  refine wpAnyH_take (i := 30) (oi := { dst := some 146, op := Op.binOp BinOp.and 3 (Operand.tmp 145) (Operand.const (Value.int IntKind.i64 255)) 3, type := 3, pos := _, after := #[{ on := 29, ground := Ground.data }, { on := 18, ground := Ground.guard }], guard := some (18, false) }) (v := ?_) rfl (by kernel_rfl) (by kernel_rfl) (by kernel_rfl) (fun _ _ _ h => hpan h) (Or.inl ⟨by rfl, ?_⟩) (by assumption) ?_
  rotate_left
  · (intro w hSw; (try dsimp only at hSw); go_simp; try with_reducible rfl)
  simp only [Act.put, List.setIfInBounds_toArray, List.set_cons_zero, List.set_cons_succ]
  refine wpAnyH_take (i := 31) (oi := { dst := some 147, op := Op.move (Operand.tmp 14), type := 3, pos := _, after := #[{ on := 18, ground := Ground.guard }], guard := some (18, false) }) (v := ?_) rfl (by kernel_rfl) (by kernel_rfl) (by kernel_rfl) (fun _ _ _ h => hpan h) (Or.inl ⟨by rfl, ?_⟩) (by assumption) ?_
  rotate_left
  · (intro w hSw; (try dsimp only at hSw); go_simp; try with_reducible rfl)
  simp only [Act.put, List.setIfInBounds_toArray, List.set_cons_zero, List.set_cons_succ]
  refine wpAnyH_take (i := 32) (oi := { dst := some 148, op := Op.binOp BinOp.and 3 (Operand.tmp 147) (Operand.const (Value.int IntKind.i64 2)) 3, type := 3, pos := _, after := #[{ on := 31, ground := Ground.data }, { on := 18, ground := Ground.guard }], guard := some (18, false) }) (v := ?_) rfl (by kernel_rfl) (by kernel_rfl) (by kernel_rfl) (fun _ _ _ h => hpan h) (Or.inl ⟨by rfl, ?_⟩) (by assumption) ?_
  rotate_left
  · (intro w hSw; (try dsimp only at hSw); go_simp; try with_reducible rfl)
  simp only [Act.put, List.setIfInBounds_toArray, List.set_cons_zero, List.set_cons_succ]
  refine wpAnyH_take (i := 33) (oi := { dst := some 149, op := Op.binOp BinOp.eql 3 (Operand.tmp 148) (Operand.const (Value.int IntKind.i64 2)) 3, type := 4, pos := _, after := #[{ on := 32, ground := Ground.data }, { on := 18, ground := Ground.guard }], guard := some (18, false) }) (v := ?_) rfl (by kernel_rfl) (by kernel_rfl) (by kernel_rfl) (fun _ _ _ h => hpan h) (Or.inl ⟨by rfl, ?_⟩) (by assumption) ?_
  rotate_left
  · (intro w hSw; (try dsimp only at hSw); go_simp; try with_reducible rfl)
  simp only [Act.put, List.setIfInBounds_toArray, List.set_cons_zero, List.set_cons_succ]
  refine wpAnyH_take (i := 34) (oi := { dst := some 150, op := Op.move (Operand.tmp 14), type := 3, pos := _, after := #[{ on := 18, ground := Ground.guard }], guard := some (18, false) }) (v := ?_) rfl (by kernel_rfl) (by kernel_rfl) (by kernel_rfl) (fun _ _ _ h => hpan h) (Or.inl ⟨by rfl, ?_⟩) (by assumption) ?_
  rotate_left
  · (intro w hSw; (try dsimp only at hSw); go_simp; try with_reducible rfl)
  simp only [Act.put, List.setIfInBounds_toArray, List.set_cons_zero, List.set_cons_succ]
  refine wpAnyH_take (i := 35) (oi := { dst := some 151, op := Op.unOp UnOp.neg 3 (Operand.tmp 150), type := 3, pos := _, after := #[{ on := 34, ground := Ground.data }, { on := 18, ground := Ground.guard }], guard := some (18, false) }) (v := ?_) rfl (by kernel_rfl) (by kernel_rfl) (by kernel_rfl) (fun _ _ _ h => hpan h) (Or.inl ⟨by rfl, ?_⟩) (by assumption) ?_
  rotate_left
  · (intro w hSw; (try dsimp only at hSw); go_simp; try with_reducible rfl)
  simp only [Act.put, List.setIfInBounds_toArray, List.set_cons_zero, List.set_cons_succ]
  refine wpAnyH_ready (rs := [36]) (by kernel_rfl) (by simp) ?_
  refine AllReadyH.cons (o := { dst := some 152, op := Op.call { callee := Callee.value (Operand.func 11), args := #[Operand.tmp 135, Operand.tmp 139, Operand.tmp 140, Operand.tmp 146, Operand.tmp 149, Operand.tmp 151], argTypes := #[25, 38, 31, 3, 4, 3] }, type := 26, pos := _, after := #[{ on := 19, ground := Ground.data }, { on := 23, ground := Ground.data }, { on := 24, ground := Ground.data }, { on := 30, ground := Ground.data }, { on := 33, ground := Ground.data }, { on := 35, ground := Ground.data }, { on := 18, ground := Ground.chain }, { on := 18, ground := Ground.guard }], guard := some (18, false) }) rfl (fun K hK => ?_) AllReadyH.nil
  go_simp
  (go_at_call 11; first | with_reducible refine (HKa.out _ _ _ HX.out.pa (HT.out _ HX.out.bel)).mono ?_ | with_reducible refine (HKb.out _ _ _ HX.out.pb (HT.out _ HX.out.bel)).mono ?_); rintro e w9 ⟨rfl, hp, hT⟩; (first | replace HX := hidW (HX.out.turnA hp hT) | replace HX := hidW (HX.out.turnB hp hT)); clear hp hT; go_wp2_with fail
  refine hK.out _ _ ?_ (fun hHeld => ?_)
  · ((try dsimp only); with_reducible exact HC.out _ HX.out.bel)
  clear hK K
  try simp only [Act.put, List.setIfInBounds_toArray, List.set_cons_zero, List.set_cons_succ]
  refine wpAnyH_take (i := 37) (oi := { dst := some 153, op := Op.binOp BinOp.neq 26 (Operand.tmp 152) (Operand.const (Value.int IntKind.i64 0)) 26, type := 4, pos := _, after := #[{ on := 36, ground := Ground.data }, { on := 18, ground := Ground.guard }], guard := some (18, false) }) (v := ?_) rfl (by kernel_rfl) (by kernel_rfl) (by kernel_rfl) (fun _ _ _ h => hpan h) (Or.inl ⟨by rfl, ?_⟩) (by assumption) ?_
  rotate_left
  · (intro w hSw; (try dsimp only at hSw); go_simp; try with_reducible rfl)
  simp only [Act.put, List.setIfInBounds_toArray, List.set_cons_zero, List.set_cons_succ]
  refine wpAnyH_take (i := 38) (oi := { dst := some 154, op := Op.pick (Operand.tmp 134) (Operand.const (Value.bool true)) (Operand.tmp 153), type := 4, pos := _, after := #[{ on := 18, ground := Ground.data }, { on := 37, ground := Ground.data }], guard := none }) (v := ?_) rfl (by kernel_rfl) (by kernel_rfl) (by kernel_rfl) (fun _ _ _ h => hpan h) (Or.inl ⟨by rfl, ?_⟩) (by assumption) ?_
  rotate_left
  · (intro w hSw; (try dsimp only at hSw); go_simp; try with_reducible rfl)
  simp only [Act.put, List.setIfInBounds_toArray, List.set_cons_zero, List.set_cons_succ]
  refine wpAnyH_done (by kernel_rfl) ?_ _
  clear hHeld
  go_wp2
  exact HQ.out HX.out (HP.out _ _ _ _) (by have := HKl.out; simp; omega)
end Go.Proofs.YtbbnodhpafiplaaDoor
