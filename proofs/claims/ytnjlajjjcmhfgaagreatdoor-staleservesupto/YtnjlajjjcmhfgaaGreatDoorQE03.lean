import Derived.Test.YtnjlajjjcmhfgaaGreatDoorQE02
namespace Go.Proofs.YtnjlajjjcmhfgaaGreatDoor
open Go.RowKit
open Mm (Turn gr RM valV errV Byts setV RowAt)
set_option linter.unusedVariables false
set_option linter.unusedSimpArgs false
attribute [local go_sem] Oper.semAt_some
def svO (f : Func) : Code := lpC (blkC (sq2 (sq2 (blkC (sq1 (sq2 (lpC (blkC (sq2 (sq1 (sq2 (sq2 (sq2 (sq2 (sq2 (sq2 (sq2 (sq2 (sq2 (sq2 (sq2 (f.body.getD .skip))))))))))))))))))))))
set_option maxRecDepth 1000000 in
set_option maxHeartbeats 16000000 in
theorem sv_one {Q : Exit → Act → World → Prop} {v0 v1 v2 v3 v5 v6 v7 v8 v9 v10 v11 v12 v14 v16 v17 v18 v19 v20 v21 v23 v28 v29 v30 v31 v32 v33 v34 v35 v36 v37 v38 v39 v40 v41 v42 v43 v44 v45 v46 v47 v48 v49 v50 v51 v52 v53 v54 v55 v56 v57 v58 v59 v60 v61 v62 v63 v64 v65 v66 v67 v68 v69 v70 v71 v72 v73 v74 v75 v76 v77 v78 v79 v80 v81 v82 v83 v84 v85 v86 v87 v88 v89 v90 v91 v92 v93 v94 v95 v96 v97 v98 v99 v100 v101 v102 v103 v104 v105 v106 v107 v108 v109 v110 v111 v112 v113 v114 v115 v116 v117 v118 v119 v120 v121 v122 v123 v124 v125 v126 v127 v128 v129 v130 v131 v132 v133 v134 v135 v136 v137 v138 v139 v140 v141 v142 v143 v144 v145 v146 v147 v148 v149 v150 v151 v152 v153 v154 v155 v156 v157 v158 v159 v160 v161 v162 v163 v164 v165 v166 v167 v168 v169 v170 v171 v172 v173 v174 v175 v176 v177 v178 v179 v180 v181 v182 v183 v184 v185 v186 v187 v188 v189 v190 v191 v192 v193 v194 v195 v196 v197 v198 v199 v200 v201 v202 v203 v204 v205 v206 v207 v208 v209 v210 v211 v212 v213 v214 v215 v216 v217 v218 v219 v220 v221 v222 v223 v224 v225 : Value} (w : World) (x p tp bc ab ao na ca lb lo nl cl i k m : Nat) (iv : Value) (asid va : Int) (c : Ctx) (st : Bool) (b : Blo) (U : Tra) (Fl : Fa) (hi : i < na) (hk : k < nl) (hna : na ≤ 4611686018427387904) (hnl : nl ≤ 4611686018427387904) (HC : Hid (∀ ww, Below w.heap.size w ww → ww.cell? ⟨x, 4, none⟩ = some (.pointer (some ⟨p, 0, none⟩)) ∧ ww.cell? ⟨x, 5, none⟩ = some iv ∧ ww.cell? ⟨ab, ao + i, none⟩ = some (.int .i64 asid) ∧ ww.cell? ⟨lb, lo + k, none⟩ = some (.int .u32 va) ∧ ww.cell? ⟨bc, 0, none⟩ = some (.bool c.on) ∧ ww.cell? ⟨bc, 1, none⟩ = some (.bool c.tre) ∧ ww.cell? ⟨bc, 2, none⟩ = some (.bool c.afe) ∧ ww.cell? ⟨bc, 3, none⟩ = some (.int .i64 c.n) ∧ ww.cell? ⟨bc, 4, none⟩ = some (.bool c.pd0) ∧ ww.cell? ⟨bc, 5, none⟩ = some (.bool c.pd1) ∧ ww.cell? ⟨bc, 6, none⟩ = some (.int .u64 c.b0) ∧ ww.cell? ⟨bc, 7, none⟩ = some (.int .u64 c.b1) ∧ ww.cell? ⟨bc, 8, none⟩ = some (.int .u32 c.dacr) ∧ ww.cell? ⟨bc, 9, none⟩ = some (.int .u32 c.prrr) ∧ ww.cell? ⟨bc, 10, none⟩ = some (.int .u32 c.nmrr) ∧ ww.cell? ⟨bc, 11, none⟩ = some (.int .i64 c.asid))) (HSt : Hid (∀ ww, Below w.heap.size w ww → Calls Tryz.prog 30 #[.pointer (some ⟨p, 0, none⟩), iv, .int .i64 asid, .int .u32 va] ww fun e w' => e = .returned (.bool st) ∧ Below ww.heap.size ww w')) (HLk : Hid (∀ ww, Below w.heap.size w ww → Calls Tryz.prog 31 #[.pointer (some ⟨tp, 0, none⟩), .int .u32 va, .int .i64 asid] ww fun e w' => e = .returned (.tuple #[.agg #[.int .i64 b.asid, .int .i64 b.t.size, .int .u32 b.t.va, .int .u64 b.t.pa, .int .i64 b.t.dom, .int .i64 b.t.ap, .int .u32 b.t.bits, .bool b.t.ng, .bool b.t.xn], .int .i64 (m : Int)]) ∧ Below ww.heap.size ww w')) (HWk : Hid (∀ ww, Below w.heap.size w ww → Calls Tryz.prog 32 #[iv, .agg #[.bool c.on, .bool c.tre, .bool c.afe, .int .i64 c.n, .bool c.pd0, .bool c.pd1, .int .u64 c.b0, .int .u64 c.b1, .int .u32 c.dacr, .int .u32 c.prrr, .int .u32 c.nmrr, .int .i64 c.asid], .int .u32 va] ww fun e w' => e = .returned (.tuple #[.agg #[.int .i64 U.size, .int .u32 U.va, .int .u64 U.pa, .int .i64 U.dom, .int .i64 U.ap, .int .u32 U.bits, .bool U.ng, .bool U.xn], .agg #[.int .i64 Fl.k, .int .i64 Fl.l, .int .i64 Fl.d]]) ∧ Below ww.heap.size ww w')) (hm : st = false → m ≤ 1 ∧ (m = 1 → Fl = fZ ∧ b.t = U))  (hpan : ∀ {c : List PanicEntry} {a : Act} {d : Option Tmp} {v : Value} {w : World}, Q (.panic c) (a.put d v) w → Q (.panic c) a w)
    (HQ : Hid (∀ {u28 u29 u30 u31 u157 u158 u159 u160 u161 u162 u163 u164 u165 u166 u167 u168 u169 u170 u171 u172 u173 u174 u175 u176 u177 u178 u179 u180 u181 u182 u183 u184 u185 u186 u187 u188 u189 u190 u191 u192 u193 u194 u195 u196 u197 u198 u199 u200 u201 u202 u203 u204 u205 u206 u207 u208 u209 u210 u211 u212 u213 u214 u215 u216 u217 u218 u219 u220 u221 u222 u223 u224 u225 : Value} {w' : World}, Below w.heap.size w w' → Q .normal ⟨(v0 :: v1 :: v2 :: v3 :: (.slice (some ⟨ab, ao, none⟩) na ca) :: v5 :: v6 :: v7 :: v8 :: v9 :: v10 :: v11 :: v12 :: (.pointer (some ⟨x, 0, none⟩)) :: v14 :: (.pointer (some ⟨tp, 0, none⟩)) :: v16 :: v17 :: v18 :: v19 :: v20 :: v21 :: (.slice (some ⟨lb, lo, none⟩) nl cl) :: v23 :: (.int .i64 (i : Int)) :: (.pointer (some ⟨bc, 0, none⟩)) :: (.bool true) :: (.int .i64 ((k + 1 : Nat) : Int)) :: u28 :: u29 :: u30 :: u31 :: v32 :: v33 :: v34 :: v35 :: v36 :: v37 :: v38 :: v39 :: v40 :: v41 :: v42 :: v43 :: v44 :: v45 :: v46 :: v47 :: v48 :: v49 :: v50 :: v51 :: v52 :: v53 :: v54 :: v55 :: v56 :: v57 :: v58 :: v59 :: v60 :: v61 :: v62 :: v63 :: v64 :: v65 :: v66 :: v67 :: v68 :: v69 :: v70 :: v71 :: v72 :: v73 :: v74 :: v75 :: v76 :: v77 :: v78 :: v79 :: v80 :: v81 :: v82 :: v83 :: v84 :: v85 :: v86 :: v87 :: v88 :: v89 :: v90 :: v91 :: v92 :: v93 :: v94 :: v95 :: v96 :: v97 :: v98 :: v99 :: v100 :: v101 :: v102 :: v103 :: v104 :: v105 :: v106 :: v107 :: v108 :: v109 :: v110 :: v111 :: v112 :: v113 :: v114 :: v115 :: v116 :: v117 :: v118 :: v119 :: v120 :: v121 :: v122 :: v123 :: v124 :: v125 :: v126 :: v127 :: v128 :: v129 :: v130 :: v131 :: v132 :: v133 :: v134 :: v135 :: v136 :: v137 :: v138 :: v139 :: v140 :: v141 :: v142 :: v143 :: v144 :: v145 :: v146 :: v147 :: v148 :: v149 :: v150 :: v151 :: v152 :: v153 :: v154 :: v155 :: v156 :: u157 :: u158 :: u159 :: u160 :: u161 :: u162 :: u163 :: u164 :: u165 :: u166 :: u167 :: u168 :: u169 :: u170 :: u171 :: u172 :: u173 :: u174 :: u175 :: u176 :: u177 :: u178 :: u179 :: u180 :: u181 :: u182 :: u183 :: u184 :: u185 :: u186 :: u187 :: u188 :: u189 :: u190 :: u191 :: u192 :: u193 :: u194 :: u195 :: u196 :: u197 :: u198 :: u199 :: u200 :: u201 :: u202 :: u203 :: u204 :: u205 :: u206 :: u207 :: u208 :: u209 :: u210 :: u211 :: u212 :: u213 :: u214 :: u215 :: u216 :: u217 :: u218 :: u219 :: u220 :: u221 :: u222 :: u223 :: u224 :: u225 :: []).toArray, []⟩ w')) :
    (svO Tryz.f5).wp Tryz.prog Q ⟨(v0 :: v1 :: v2 :: v3 :: (.slice (some ⟨ab, ao, none⟩) na ca) :: v5 :: v6 :: v7 :: v8 :: v9 :: v10 :: v11 :: v12 :: (.pointer (some ⟨x, 0, none⟩)) :: v14 :: (.pointer (some ⟨tp, 0, none⟩)) :: v16 :: v17 :: v18 :: v19 :: v20 :: v21 :: (.slice (some ⟨lb, lo, none⟩) nl cl) :: v23 :: (.int .i64 (i : Int)) :: (.pointer (some ⟨bc, 0, none⟩)) :: (.bool true) :: (.int .i64 (k : Int)) :: v28 :: v29 :: v30 :: v31 :: v32 :: v33 :: v34 :: v35 :: v36 :: v37 :: v38 :: v39 :: v40 :: v41 :: v42 :: v43 :: v44 :: v45 :: v46 :: v47 :: v48 :: v49 :: v50 :: v51 :: v52 :: v53 :: v54 :: v55 :: v56 :: v57 :: v58 :: v59 :: v60 :: v61 :: v62 :: v63 :: v64 :: v65 :: v66 :: v67 :: v68 :: v69 :: v70 :: v71 :: v72 :: v73 :: v74 :: v75 :: v76 :: v77 :: v78 :: v79 :: v80 :: v81 :: v82 :: v83 :: v84 :: v85 :: v86 :: v87 :: v88 :: v89 :: v90 :: v91 :: v92 :: v93 :: v94 :: v95 :: v96 :: v97 :: v98 :: v99 :: v100 :: v101 :: v102 :: v103 :: v104 :: v105 :: v106 :: v107 :: v108 :: v109 :: v110 :: v111 :: v112 :: v113 :: v114 :: v115 :: v116 :: v117 :: v118 :: v119 :: v120 :: v121 :: v122 :: v123 :: v124 :: v125 :: v126 :: v127 :: v128 :: v129 :: v130 :: v131 :: v132 :: v133 :: v134 :: v135 :: v136 :: v137 :: v138 :: v139 :: v140 :: v141 :: v142 :: v143 :: v144 :: v145 :: v146 :: v147 :: v148 :: v149 :: v150 :: v151 :: v152 :: v153 :: v154 :: v155 :: v156 :: v157 :: v158 :: v159 :: v160 :: v161 :: v162 :: v163 :: v164 :: v165 :: v166 :: v167 :: v168 :: v169 :: v170 :: v171 :: v172 :: v173 :: v174 :: v175 :: v176 :: v177 :: v178 :: v179 :: v180 :: v181 :: v182 :: v183 :: v184 :: v185 :: v186 :: v187 :: v188 :: v189 :: v190 :: v191 :: v192 :: v193 :: v194 :: v195 :: v196 :: v197 :: v198 :: v199 :: v200 :: v201 :: v202 :: v203 :: v204 :: v205 :: v206 :: v207 :: v208 :: v209 :: v210 :: v211 :: v212 :: v213 :: v214 :: v215 :: v216 :: v217 :: v218 :: v219 :: v220 :: v221 :: v222 :: v223 :: v224 :: v225 :: []).toArray, []⟩ w := by
  conv => arg 2; whnf
  have hiz : (i : Int) < (na : Int) := by omega
  have hkz : (k : Int) < (nl : Int) := by omega
  have hd0 := below_drew (Below.refl w.heap.size w)
  have HJ := hidW (HC.out _ hd0)
  have HS1 := hidW (HSt.out _ hd0)
  clear HSt
  go_wp2_with fail
  refine wp_region_held_drew (S := fun ww => ww.cell? ⟨x, 4, none⟩ = some (.pointer (some ⟨p, 0, none⟩)) ∧ ww.cell? ⟨x, 5, none⟩ = some iv ∧ ww.cell? ⟨ab, ao + i, none⟩ = some (.int .i64 asid) ∧ ww.cell? ⟨lb, lo + k, none⟩ = some (.int .u32 va) ∧ ww.cell? ⟨bc, 0, none⟩ = some (.bool c.on) ∧ ww.cell? ⟨bc, 1, none⟩ = some (.bool c.tre) ∧ ww.cell? ⟨bc, 2, none⟩ = some (.bool c.afe) ∧ ww.cell? ⟨bc, 3, none⟩ = some (.int .i64 c.n) ∧ ww.cell? ⟨bc, 4, none⟩ = some (.bool c.pd0) ∧ ww.cell? ⟨bc, 5, none⟩ = some (.bool c.pd1) ∧ ww.cell? ⟨bc, 6, none⟩ = some (.int .u64 c.b0) ∧ ww.cell? ⟨bc, 7, none⟩ = some (.int .u64 c.b1) ∧ ww.cell? ⟨bc, 8, none⟩ = some (.int .u32 c.dacr) ∧ ww.cell? ⟨bc, 9, none⟩ = some (.int .u32 c.prrr) ∧ ww.cell? ⟨bc, 10, none⟩ = some (.int .u32 c.nmrr) ∧ ww.cell? ⟨bc, 11, none⟩ = some (.int .i64 c.asid)) (by kernel_rfl) ?_ (fun hHeld => ?_)
  · exact HJ.out
  refine wpAnyH_take (i := 0) (oi := { dst := some 166, op := Op.move (Operand.tmp 13), type := 28, pos := _, after := #[], guard := none }) (v := ?_) rfl (by kernel_rfl) (by kernel_rfl) (by kernel_rfl) (fun _ _ _ h => hpan h) (Or.inl ⟨by rfl, ?_⟩) (by assumption) ?_
  rotate_left
  · (intro w hSw; (try dsimp only at hSw); go_simp; try with_reducible rfl)
  simp only [Act.put, List.setIfInBounds_toArray, List.set_cons_zero, List.set_cons_succ]
  refine wpAnyH_take (i := 1) (oi := { dst := some 167, op := Op.nilCheck (Operand.tmp 166), type := 0, pos := _, after := #[{ on := 0, ground := Ground.data }], guard := none }) (v := ?_) rfl (by kernel_rfl) (by kernel_rfl) (by kernel_rfl) (fun _ _ _ h => hpan h) (Or.inl ⟨by rfl, ?_⟩) (by assumption) ?_
  rotate_left
  · (intro w hSw; (try dsimp only at hSw); go_simp; try with_reducible rfl)
  simp only [Act.put, List.setIfInBounds_toArray, List.set_cons_zero, List.set_cons_succ]
  refine wpAnyH_take (i := 2) (oi := { dst := some 168, op := Op.fieldAddr 54 (Operand.tmp 167) 1, type := 0, pos := _, after := #[{ on := 1, ground := Ground.data }], guard := none }) (v := ?_) rfl (by kernel_rfl) (by kernel_rfl) (by kernel_rfl) (fun _ _ _ h => hpan h) (Or.inl ⟨by rfl, ?_⟩) (by assumption) ?_
  rotate_left
  · (intro w hSw; (try dsimp only at hSw); go_simp; try with_reducible rfl)
  simp only [Act.put, List.setIfInBounds_toArray, List.set_cons_zero, List.set_cons_succ]
  refine wpAnyH_take (i := 3) (oi := { dst := some 169, op := Op.load 49 (Operand.tmp 168), type := 49, pos := _, after := #[{ on := 2, ground := Ground.data }], guard := none }) (v := ?_) rfl (by kernel_rfl) (by kernel_rfl) (by kernel_rfl) (fun _ _ _ h => hpan h) (Or.inl ⟨by rfl, ?_⟩) (by assumption) ?_
  rotate_left
  · (intro w hSw; (try dsimp only at hSw); go_simp; try with_reducible rfl)
  simp only [Act.put, List.setIfInBounds_toArray, List.set_cons_zero, List.set_cons_succ]
  refine wpAnyH_take (i := 4) (oi := { dst := some 170, op := Op.move (Operand.tmp 13), type := 28, pos := _, after := #[], guard := none }) (v := ?_) rfl (by kernel_rfl) (by kernel_rfl) (by kernel_rfl) (fun _ _ _ h => hpan h) (Or.inl ⟨by rfl, ?_⟩) (by assumption) ?_
  rotate_left
  · (intro w hSw; (try dsimp only at hSw); go_simp; try with_reducible rfl)
  simp only [Act.put, List.setIfInBounds_toArray, List.set_cons_zero, List.set_cons_succ]
  refine wpAnyH_take (i := 5) (oi := { dst := some 171, op := Op.nilCheck (Operand.tmp 170), type := 0, pos := _, after := #[{ on := 4, ground := Ground.data }], guard := none }) (v := ?_) rfl (by kernel_rfl) (by kernel_rfl) (by kernel_rfl) (fun _ _ _ h => hpan h) (Or.inl ⟨by rfl, ?_⟩) (by assumption) ?_
  rotate_left
  · (intro w hSw; (try dsimp only at hSw); go_simp; try with_reducible rfl)
  simp only [Act.put, List.setIfInBounds_toArray, List.set_cons_zero, List.set_cons_succ]
  refine wpAnyH_take (i := 6) (oi := { dst := some 172, op := Op.fieldAddr 54 (Operand.tmp 171) 2, type := 0, pos := _, after := #[{ on := 5, ground := Ground.data }], guard := none }) (v := ?_) rfl (by kernel_rfl) (by kernel_rfl) (by kernel_rfl) (fun _ _ _ h => hpan h) (Or.inl ⟨by rfl, ?_⟩) (by assumption) ?_
  rotate_left
  · (intro w hSw; (try dsimp only at hSw); go_simp; try with_reducible rfl)
  simp only [Act.put, List.setIfInBounds_toArray, List.set_cons_zero, List.set_cons_succ]
  refine wpAnyH_take (i := 7) (oi := { dst := some 173, op := Op.load 51 (Operand.tmp 172), type := 51, pos := _, after := #[{ on := 6, ground := Ground.data }], guard := none }) (v := ?_) rfl (by kernel_rfl) (by kernel_rfl) (by kernel_rfl) (fun _ _ _ h => hpan h) (Or.inl ⟨by rfl, ?_⟩) (by assumption) ?_
  rotate_left
  · (intro w hSw; (try dsimp only at hSw); go_simp; try with_reducible rfl)
  simp only [Act.put, List.setIfInBounds_toArray, List.set_cons_zero, List.set_cons_succ]
  refine wpAnyH_take (i := 8) (oi := { dst := some 174, op := Op.move (Operand.tmp 4), type := 77, pos := _, after := #[], guard := none }) (v := ?_) rfl (by kernel_rfl) (by kernel_rfl) (by kernel_rfl) (fun _ _ _ h => hpan h) (Or.inl ⟨by rfl, ?_⟩) (by assumption) ?_
  rotate_left
  · (intro w hSw; (try dsimp only at hSw); go_simp; try with_reducible rfl)
  simp only [Act.put, List.setIfInBounds_toArray, List.set_cons_zero, List.set_cons_succ]
  refine wpAnyH_take (i := 9) (oi := { dst := some 175, op := Op.move (Operand.tmp 24), type := 3, pos := _, after := #[], guard := none }) (v := ?_) rfl (by kernel_rfl) (by kernel_rfl) (by kernel_rfl) (fun _ _ _ h => hpan h) (Or.inl ⟨by rfl, ?_⟩) (by assumption) ?_
  rotate_left
  · (intro w hSw; (try dsimp only at hSw); go_simp; try with_reducible rfl)
  simp only [Act.put, List.setIfInBounds_toArray, List.set_cons_zero, List.set_cons_succ]
  refine wpAnyH_take (i := 10) (oi := { dst := some 176, op := Op.indexAddr 77 (Operand.tmp 174) (Operand.tmp 175), type := 0, pos := _, after := #[{ on := 8, ground := Ground.data }, { on := 9, ground := Ground.data }], guard := none }) (v := ?_) rfl (by kernel_rfl) (by kernel_rfl) (by kernel_rfl) (fun _ _ _ h => hpan h) (Or.inl ⟨by rfl, ?_⟩) (by assumption) ?_
  rotate_left
  · (intro w hSw; (try dsimp only at hSw); go_simp; try with_reducible rfl)
  simp only [Act.put, List.setIfInBounds_toArray, List.set_cons_zero, List.set_cons_succ]
  refine wpAnyH_take (i := 11) (oi := { dst := some 177, op := Op.load 3 (Operand.tmp 176), type := 3, pos := _, after := #[{ on := 10, ground := Ground.data }], guard := none }) (v := ?_) rfl (by kernel_rfl) (by kernel_rfl) (by kernel_rfl) (fun _ _ _ h => hpan h) (Or.inl ⟨by rfl, ?_⟩) (by assumption) ?_
  rotate_left
  · (intro w hSw; (try dsimp only at hSw); go_simp; try with_reducible rfl)
  simp only [Act.put, List.setIfInBounds_toArray, List.set_cons_zero, List.set_cons_succ]
  refine wpAnyH_take (i := 12) (oi := { dst := some 178, op := Op.move (Operand.tmp 22), type := 23, pos := _, after := #[], guard := none }) (v := ?_) rfl (by kernel_rfl) (by kernel_rfl) (by kernel_rfl) (fun _ _ _ h => hpan h) (Or.inl ⟨by rfl, ?_⟩) (by assumption) ?_
  rotate_left
  · (intro w hSw; (try dsimp only at hSw); go_simp; try with_reducible rfl)
  simp only [Act.put, List.setIfInBounds_toArray, List.set_cons_zero, List.set_cons_succ]
  refine wpAnyH_take (i := 13) (oi := { dst := some 179, op := Op.move (Operand.tmp 27), type := 3, pos := _, after := #[], guard := none }) (v := ?_) rfl (by kernel_rfl) (by kernel_rfl) (by kernel_rfl) (fun _ _ _ h => hpan h) (Or.inl ⟨by rfl, ?_⟩) (by assumption) ?_
  rotate_left
  · (intro w hSw; (try dsimp only at hSw); go_simp; try with_reducible rfl)
  simp only [Act.put, List.setIfInBounds_toArray, List.set_cons_zero, List.set_cons_succ]
  refine wpAnyH_take (i := 14) (oi := { dst := some 180, op := Op.indexAddr 23 (Operand.tmp 178) (Operand.tmp 179), type := 0, pos := _, after := #[{ on := 12, ground := Ground.data }, { on := 13, ground := Ground.data }], guard := none }) (v := ?_) rfl (by kernel_rfl) (by kernel_rfl) (by kernel_rfl) (fun _ _ _ h => hpan h) (Or.inl ⟨by rfl, ?_⟩) (by assumption) ?_
  rotate_left
  · (intro w hSw; (try dsimp only at hSw); go_simp; try with_reducible rfl)
  simp only [Act.put, List.setIfInBounds_toArray, List.set_cons_zero, List.set_cons_succ]
  refine wpAnyH_take (i := 15) (oi := { dst := some 181, op := Op.load 32 (Operand.tmp 180), type := 32, pos := _, after := #[{ on := 14, ground := Ground.data }], guard := none }) (v := ?_) rfl (by kernel_rfl) (by kernel_rfl) (by kernel_rfl) (fun _ _ _ h => hpan h) (Or.inl ⟨by rfl, ?_⟩) (by assumption) ?_
  rotate_left
  · (intro w hSw; (try dsimp only at hSw); go_simp; try with_reducible rfl)
  simp only [Act.put, List.setIfInBounds_toArray, List.set_cons_zero, List.set_cons_succ]
  refine wpAnyH_ready (rs := [16]) (by kernel_rfl) (by simp) ?_
  refine AllReadyH.cons (o := { dst := some 182, op := Op.call { callee := Callee.value (Operand.func 30), args := #[Operand.tmp 169, Operand.tmp 173, Operand.tmp 177, Operand.tmp 181], argTypes := #[49, 51, 3, 32] }, type := 4, pos := _, after := #[{ on := 3, ground := Ground.data }, { on := 7, ground := Ground.data }, { on := 11, ground := Ground.data }, { on := 15, ground := Ground.data }], guard := none }) rfl (fun K hK => ?_) AllReadyH.nil
  go_simp
  (go_at_call 30; refine HS1.out.mono ?_; rintro e w1 ⟨rfl, g1⟩; have HB0 := hidW (Below.step hd0 g1); have HJ := hidW (HC.out _ HB0.out); clear g1)
  refine hK.out _ _ ?_ (fun hHeld => ?_)
  · ((try dsimp only); with_reducible exact HJ.out)
  clear hK K
  try simp only [Act.put, List.setIfInBounds_toArray, List.set_cons_zero, List.set_cons_succ]
  refine wpAnyH_done (by kernel_rfl) ?_ _
  cases st with
  | true =>
    clear hm HLk HWk HS1 hHeld
    go_wp2
    exact HQ.out HB0.out
  | false =>
    have hm2 := hm rfl
    clear hm HS1 hHeld
    have HLk1 : Hid (∀ ww, Below w1.heap.size w1 ww → Calls Tryz.prog 31 #[.pointer (some ⟨tp, 0, none⟩), .int .u32 va, .int .i64 asid] ww fun e w' => e = .returned (.tuple #[.agg #[.int .i64 b.asid, .int .i64 b.t.size, .int .u32 b.t.va, .int .u64 b.t.pa, .int .i64 b.t.dom, .int .i64 b.t.ap, .int .u32 b.t.bits, .bool b.t.ng, .bool b.t.xn], .int .i64 (m : Int)]) ∧ Below ww.heap.size ww w') := fun ww hb => HLk.out ww (Below.step HB0.out hb)
    have hS1 : ∀ ww, Below w1.heap.size w1 ww → ww.cell? ⟨x, 4, none⟩ = some (.pointer (some ⟨p, 0, none⟩)) ∧ ww.cell? ⟨x, 5, none⟩ = some iv ∧ ww.cell? ⟨ab, ao + i, none⟩ = some (.int .i64 asid) ∧ ww.cell? ⟨lb, lo + k, none⟩ = some (.int .u32 va) ∧ ww.cell? ⟨bc, 0, none⟩ = some (.bool c.on) ∧ ww.cell? ⟨bc, 1, none⟩ = some (.bool c.tre) ∧ ww.cell? ⟨bc, 2, none⟩ = some (.bool c.afe) ∧ ww.cell? ⟨bc, 3, none⟩ = some (.int .i64 c.n) ∧ ww.cell? ⟨bc, 4, none⟩ = some (.bool c.pd0) ∧ ww.cell? ⟨bc, 5, none⟩ = some (.bool c.pd1) ∧ ww.cell? ⟨bc, 6, none⟩ = some (.int .u64 c.b0) ∧ ww.cell? ⟨bc, 7, none⟩ = some (.int .u64 c.b1) ∧ ww.cell? ⟨bc, 8, none⟩ = some (.int .u32 c.dacr) ∧ ww.cell? ⟨bc, 9, none⟩ = some (.int .u32 c.prrr) ∧ ww.cell? ⟨bc, 10, none⟩ = some (.int .u32 c.nmrr) ∧ ww.cell? ⟨bc, 11, none⟩ = some (.int .i64 c.asid) := fun ww hb => HC.out ww (Below.step HB0.out hb)
    have HM := hidW hm2
    clear hm2 HLk HJ
    go_wp2_with fail
    have HB1 := hidW (Below.refl w1.heap.size w1)
    have hs1 := HB1.out.size
    go_cut [28, 29] from 183 to 195 (fun s1 s2 wx => ∃ b1, s1 = .pointer (some ⟨b1, 0, none⟩) ∧ s2 = .int .i64 (m : Int) ∧ Hid (Got1 w1 wx b1 45 ([.int .i64 b.asid, .int .i64 b.t.size, .int .u32 b.t.va, .int .u64 b.t.pa, .int .i64 b.t.dom, .int .i64 b.t.ap, .int .u32 b.t.bits, .bool b.t.ng, .bool b.t.xn])))
    case first =>
      go_region_held3 (fun w' => w'.cell? ⟨x, 4, none⟩ = some (.pointer (some ⟨p, 0, none⟩)) ∧ w'.cell? ⟨x, 5, none⟩ = some iv ∧ w'.cell? ⟨ab, ao + i, none⟩ = some (.int .i64 asid) ∧ w'.cell? ⟨lb, lo + k, none⟩ = some (.int .u32 va) ∧ w'.cell? ⟨bc, 0, none⟩ = some (.bool c.on) ∧ w'.cell? ⟨bc, 1, none⟩ = some (.bool c.tre) ∧ w'.cell? ⟨bc, 2, none⟩ = some (.bool c.afe) ∧ w'.cell? ⟨bc, 3, none⟩ = some (.int .i64 c.n) ∧ w'.cell? ⟨bc, 4, none⟩ = some (.bool c.pd0) ∧ w'.cell? ⟨bc, 5, none⟩ = some (.bool c.pd1) ∧ w'.cell? ⟨bc, 6, none⟩ = some (.int .u64 c.b0) ∧ w'.cell? ⟨bc, 7, none⟩ = some (.int .u64 c.b1) ∧ w'.cell? ⟨bc, 8, none⟩ = some (.int .u32 c.dacr) ∧ w'.cell? ⟨bc, 9, none⟩ = some (.int .u32 c.prrr) ∧ w'.cell? ⟨bc, 10, none⟩ = some (.int .u32 c.nmrr) ∧ w'.cell? ⟨bc, 11, none⟩ = some (.int .i64 c.asid)) (exact hS1 _ (by ((repeat (first | (with_reducible refine Below.setCell ?_ (by first | exact Nat.le_refl _ | (dsimp only; omega)) _) | (with_reducible refine Below.alloc ?_ (by first | omega | (simp; omega) | simp) _) | (with_reducible refine below_drew ?_))); (first | (with_reducible exact HB1.out) | (with_reducible exact Below.refl _ _))))) (first | (go_at_call 31; refine (HLk1.out _ (by ((repeat (first | (with_reducible refine Below.setCell ?_ (by first | exact Nat.le_refl _ | (dsimp only; omega)) _) | (with_reducible refine Below.alloc ?_ (by first | omega | (simp; omega) | simp) _) | (with_reducible refine below_drew ?_))); (first | (with_reducible exact HB1.out) | (with_reducible exact Below.refl _ _))))).mono ?_; rintro e w9 ⟨rfl, hb⟩; (try (have hA : Bl w9 (w1.heap.size) 45 [.int .i64 0, .int .i64 0, .int .u32 0, .int .u64 0, .int .i64 0, .int .i64 0, .int .u32 0, .bool false, .bool false] := (by first | (with_reducible exact Bl.below ((Bl.new w1 45 [.int .i64 0, .int .i64 0, .int .u32 0, .int .u64 0, .int .i64 0, .int .i64 0, .int .u32 0, .bool false, .bool false]).drew) hb) | (with_reducible exact Bl.below (Bl.new w1 45 [.int .i64 0, .int .i64 0, .int .u32 0, .int .u64 0, .int .i64 0, .int .i64 0, .int .u32 0, .bool false, .bool false]) hb)); have cA := hA.cell; have gA := hA.frozen; have lA := hA.lt)); have HB2 : Hid (Below w1.heap.size w1 w9) := Below.step (by ((repeat (first | (with_reducible refine Below.setCell ?_ (by first | exact Nat.le_refl _ | (dsimp only; omega)) _) | (with_reducible refine Below.alloc ?_ (by first | omega | (simp; omega) | simp) _) | (with_reducible refine below_drew ?_))); (first | (with_reducible exact HB1.out) | (with_reducible exact Below.refl _ _)))) hb; have HB1 := HB2; have hs1 := HB1.out.size; clear hb))
      all_goals
        go_wp2_with fail
        go_meet
        first
          | (with_reducible exact ⟨_, rfl, rfl, hidW (gb1 HB1.out _ _)⟩)
          | (with_reducible exact ⟨_, rfl, rfl, hidW (gbB HB1.out _ _ (Nat.le_refl _) hA)⟩)
    case rest =>
      obtain ⟨b1, rfl, rfl, HG⟩ := hcut
      have HBc := hidW (Below.step HB0.out HG.out.bel)
      have HWk1 : Hid (∀ ww, Below wc.heap.size wc ww → Calls Tryz.prog 32 #[iv, .agg #[.bool c.on, .bool c.tre, .bool c.afe, .int .i64 c.n, .bool c.pd0, .bool c.pd1, .int .u64 c.b0, .int .u64 c.b1, .int .u32 c.dacr, .int .u32 c.prrr, .int .u32 c.nmrr, .int .i64 c.asid], .int .u32 va] ww fun e w' => e = .returned (.tuple #[.agg #[.int .i64 U.size, .int .u32 U.va, .int .u64 U.pa, .int .i64 U.dom, .int .i64 U.ap, .int .u32 U.bits, .bool U.ng, .bool U.xn], .agg #[.int .i64 Fl.k, .int .i64 Fl.l, .int .i64 Fl.d]]) ∧ Below ww.heap.size ww w') := fun ww hb => HWk.out ww (Below.step HBc.out hb)
      have hS2 : ∀ ww, Below wc.heap.size wc ww → ww.cell? ⟨x, 4, none⟩ = some (.pointer (some ⟨p, 0, none⟩)) ∧ ww.cell? ⟨x, 5, none⟩ = some iv ∧ ww.cell? ⟨ab, ao + i, none⟩ = some (.int .i64 asid) ∧ ww.cell? ⟨lb, lo + k, none⟩ = some (.int .u32 va) ∧ ww.cell? ⟨bc, 0, none⟩ = some (.bool c.on) ∧ ww.cell? ⟨bc, 1, none⟩ = some (.bool c.tre) ∧ ww.cell? ⟨bc, 2, none⟩ = some (.bool c.afe) ∧ ww.cell? ⟨bc, 3, none⟩ = some (.int .i64 c.n) ∧ ww.cell? ⟨bc, 4, none⟩ = some (.bool c.pd0) ∧ ww.cell? ⟨bc, 5, none⟩ = some (.bool c.pd1) ∧ ww.cell? ⟨bc, 6, none⟩ = some (.int .u64 c.b0) ∧ ww.cell? ⟨bc, 7, none⟩ = some (.int .u64 c.b1) ∧ ww.cell? ⟨bc, 8, none⟩ = some (.int .u32 c.dacr) ∧ ww.cell? ⟨bc, 9, none⟩ = some (.int .u32 c.prrr) ∧ ww.cell? ⟨bc, 10, none⟩ = some (.int .u32 c.nmrr) ∧ ww.cell? ⟨bc, 11, none⟩ = some (.int .i64 c.asid) := fun ww hb => HC.out ww (Below.step HBc.out hb)
      have HBx := hidW HG.out.B
      clear HWk HLk1 hS1 HG
      go_wp2_with fail
      have HB1 := hidW (Below.refl wc.heap.size wc)
      have hs1 := HB1.out.size
      go_cut [30, 31] from 196 to 208 (fun s1 s2 wx => ∃ b1 b2, s1 = .pointer (some ⟨b1, 0, none⟩) ∧ s2 = .pointer (some ⟨b2, 0, none⟩) ∧ Hid (Got wc wx b1 b2 (U) (Fl)))
      case first =>
        go_region_held3 (fun w' => w'.cell? ⟨x, 4, none⟩ = some (.pointer (some ⟨p, 0, none⟩)) ∧ w'.cell? ⟨x, 5, none⟩ = some iv ∧ w'.cell? ⟨ab, ao + i, none⟩ = some (.int .i64 asid) ∧ w'.cell? ⟨lb, lo + k, none⟩ = some (.int .u32 va) ∧ w'.cell? ⟨bc, 0, none⟩ = some (.bool c.on) ∧ w'.cell? ⟨bc, 1, none⟩ = some (.bool c.tre) ∧ w'.cell? ⟨bc, 2, none⟩ = some (.bool c.afe) ∧ w'.cell? ⟨bc, 3, none⟩ = some (.int .i64 c.n) ∧ w'.cell? ⟨bc, 4, none⟩ = some (.bool c.pd0) ∧ w'.cell? ⟨bc, 5, none⟩ = some (.bool c.pd1) ∧ w'.cell? ⟨bc, 6, none⟩ = some (.int .u64 c.b0) ∧ w'.cell? ⟨bc, 7, none⟩ = some (.int .u64 c.b1) ∧ w'.cell? ⟨bc, 8, none⟩ = some (.int .u32 c.dacr) ∧ w'.cell? ⟨bc, 9, none⟩ = some (.int .u32 c.prrr) ∧ w'.cell? ⟨bc, 10, none⟩ = some (.int .u32 c.nmrr) ∧ w'.cell? ⟨bc, 11, none⟩ = some (.int .i64 c.asid)) (exact hS2 _ (by ((repeat (first | (with_reducible refine Below.setCell ?_ (by first | exact Nat.le_refl _ | (dsimp only; omega)) _) | (with_reducible refine Below.alloc ?_ (by first | omega | (simp; omega) | simp) _) | (with_reducible refine below_drew ?_))); (first | (with_reducible exact HB1.out) | (with_reducible exact Below.refl _ _))))) (first | (go_at_call 32; refine (HWk1.out _ (by ((repeat (first | (with_reducible refine Below.setCell ?_ (by first | exact Nat.le_refl _ | (dsimp only; omega)) _) | (with_reducible refine Below.alloc ?_ (by first | omega | (simp; omega) | simp) _) | (with_reducible refine below_drew ?_))); (first | (with_reducible exact HB1.out) | (with_reducible exact Below.refl _ _))))).mono ?_; rintro e w1 ⟨rfl, hb⟩; (try (have hA : Bl w1 (wc.heap.size) 43 [.int .i64 0, .int .u32 0, .int .u64 0, .int .i64 0, .int .i64 0, .int .u32 0, .bool false, .bool false] := (by first | (with_reducible exact Bl.below ((Bl.new wc 43 [.int .i64 0, .int .u32 0, .int .u64 0, .int .i64 0, .int .i64 0, .int .u32 0, .bool false, .bool false]).drew) hb) | (with_reducible exact Bl.below (((Bl.new wc 43 [.int .i64 0, .int .u32 0, .int .u64 0, .int .i64 0, .int .i64 0, .int .u32 0, .bool false, .bool false]).below (below_new _ _)).drew) hb)); have cA := hA.cell; have gA := hA.frozen; have lA := hA.lt)); (try (have hB : Bl w1 (wc.heap.size) 88 [.int .i64 0, .int .i64 0, .int .i64 0] := (by first | (with_reducible exact Bl.below ((Bl.new wc 88 [.int .i64 0, .int .i64 0, .int .i64 0]).drew) hb) | (with_reducible exact Bl.below (((Bl.new wc 88 [.int .i64 0, .int .i64 0, .int .i64 0]).below (below_new _ _)).drew) hb)); have cB := hB.cell; have gB := hB.frozen; have lB := hB.lt)); (try (have hC : Bl w1 (wc.heap.size + 1) 43 [.int .i64 0, .int .u32 0, .int .u64 0, .int .i64 0, .int .i64 0, .int .u32 0, .bool false, .bool false] := (by first | (with_reducible exact Bl.below ((Bl.new1 wc _ 43 [.int .i64 0, .int .u32 0, .int .u64 0, .int .i64 0, .int .i64 0, .int .u32 0, .bool false, .bool false]).drew) hb)); have cC := hC.cell; have gC := hC.frozen; have lC := hC.lt)); (try (have hD : Bl w1 (wc.heap.size + 1) 88 [.int .i64 0, .int .i64 0, .int .i64 0] := (by first | (with_reducible exact Bl.below ((Bl.new1 wc _ 88 [.int .i64 0, .int .i64 0, .int .i64 0]).drew) hb)); have cD := hD.cell; have gD := hD.frozen; have lD := hD.lt)); have HB2 : Hid (Below wc.heap.size wc w1) := Below.step (by ((repeat (first | (with_reducible refine Below.setCell ?_ (by first | exact Nat.le_refl _ | (dsimp only; omega)) _) | (with_reducible refine Below.alloc ?_ (by first | omega | (simp; omega) | simp) _) | (with_reducible refine below_drew ?_))); (first | (with_reducible exact HB1.out) | (with_reducible exact Below.refl _ _)))) hb; have HB1 := HB2; have hs1 := HB1.out.size; clear hb))
        all_goals
          go_wp2_with fail
          go_meet
          first
            | (with_reducible exact ⟨_, _, rfl, rfl, hidW (got1 HB1.out _ _)⟩)
            | (with_reducible exact ⟨_, _, rfl, rfl, hidW (got2 HB1.out _ _)⟩)
            | (with_reducible exact ⟨_, _, rfl, rfl, hidW (got3 HB1.out _ _ _ (Nat.le_refl _) hA)⟩)
            | (with_reducible exact ⟨_, _, rfl, rfl, hidW (got4 HB1.out _ _ _ (Nat.le_refl _) hB)⟩)
            | (with_reducible exact ⟨_, _, rfl, rfl, hidW (got5 HB1.out _ _ _ _ (Nat.le_refl _) (Nat.le_succ _) (Nat.ne_of_lt (Nat.lt_succ_self _)) hA hD)⟩)
            | (with_reducible exact ⟨_, _, rfl, rfl, hidW (got5 HB1.out _ _ _ _ (Nat.le_succ _) (Nat.le_refl _) (Nat.ne_of_gt (Nat.lt_succ_self _)) hC hB)⟩)
      case rest =>
        obtain ⟨b3, b4, rfl, rfl, HGt⟩ := hcut
        rename_i wd
        have HBd := hidW (Below.step HBc.out HGt.out.bel)
        have cT := HGt.out.T.cell
        have cF := HGt.out.F.cell
        have cB := (HBx.out.below HGt.out.bel).cell
        have hmz : m = 0 ∨ m = 1 := by have := HM.out.1; omega
        clear hS2 HWk1
        rcases hmz with rfl | rfl
        · clear cT cF cB
          go_wp2
          exact HQ.out HBd.out
        · obtain ⟨eF, eT⟩ := HM.out.2 rfl
          have qF : ∀ w, (Op.equalIn 10000 88 (.agg #[.int .i64 Fl.k, .int .i64 Fl.l, .int .i64 Fl.d]) (.agg #[.int .i64 0, .int .i64 0, .int .i64 0])).run Tryz.prog w = .ok true w := fun w => by
            have := eqF Fl fZ w
            rw [eF] at this ⊢
            exact this
          have qT : ∀ w, (Op.equalIn 10000 43 (.agg #[.int .i64 (b.t).size, .int .u32 (b.t).va, .int .u64 (b.t).pa, .int .i64 (b.t).dom, .int .i64 (b.t).ap, .int .u32 (b.t).bits, .bool (b.t).ng, .bool (b.t).xn]) (.agg #[.int .i64 U.size, .int .u32 U.va, .int .u64 U.pa, .int .i64 U.dom, .int .i64 U.ap, .int .u32 U.bits, .bool U.ng, .bool U.xn])).run Tryz.prog w = .ok true w := fun w => by
            have := eqT b.t U w
            rw [eT, Tra.same_self] at this
            rw [eT]
            exact this
          clear eF eT HM
          go_wp2
          exact HQ.out HBd.out
end Go.Proofs.YtnjlajjjcmhfgaaGreatDoor
