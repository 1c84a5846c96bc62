import Derived.Test.YtnjlajjjcmhfgaaGreatDoorQF03
namespace Go.Proofs.YtnjlajjjcmhfgaaGreatDoor
open Go.RowKit Go.Shelf
open Mm (Turn gr RM valV errV Byts setV RowAt)
set_option linter.unusedVariables false
set_option linter.unusedSimpArgs false
attribute [local go_sem] Oper.semAt_some
theorem gb1d (w : World) (T : TypeId) (l : List Value) : Got1 w (w.alloc (.cells l.toArray T)).drew w.heap.size T l := ⟨below_drew (below_new _ _), (Bl.new w T l).drew, Nat.le_refl _⟩
def putE (D T : Code) : Code → Code
  | .seq a (.seq (.seq r (.cond t (.seq x (.seq y (.cond u _ z))) s)) _) => .seq a (.seq (.seq r (.cond t (.seq x (.seq y (.cond u D z))) s)) T)
  | c => c
theorem seE_eq : seE Tryz.f3 = putE (seD Tryz.f3) (seT Tryz.f3) (seE Tryz.f3) := by kernel_rfl
set_option maxRecDepth 1000000 in
set_option maxHeartbeats 16000000 in
theorem seen_e1n {Q : Exit → Act → World → Prop} {v0 v1 v3 v4 v7 v10 v11 v12 v13 v14 v15 v16 v17 v18 v19 v20 v21 v22 v23 v24 v25 v26 v27 v28 v29 v30 v31 v32 v33 v34 v35 v36 v37 v38 v39 v40 v41 v42 v43 v44 v45 v46 v47 v48 v49 v50 v51 v52 v53 v54 v55 v56 v57 v58 v59 v60 v61 v62 v63 v64 v65 v66 v67 v68 v69 v70 v71 v72 v73 v74 v75 v76 v77 v78 v79 v80 v81 v82 v83 v84 v85 v86 v87 v88 v89 v90 v91 v92 v93 v94 v95 v96 v97 v98 v99 v100 v101 v102 v103 v104 v105 v106 v107 v108 v109 v110 v111 v112 v113 v114 v115 v116 v117 v118 v119 v120 v121 v122 v123 v124 v125 v126 v127 v128 v129 v130 v131 v132 v133 v134 v135 v136 v137 v138 v139 v140 v141 v142 v143 v144 v145 v146 v147 v148 v149 v150 v151 v152 v153 v154 v155 v156 v157 v158 v159 v160 v161 v162 v163 v164 v165 v166 v167 v168 v169 v170 v171 v172 v173 v174 v175 v176 v177 v178 v179 v180 v181 v182 v183 v184 v185 v186 v187 v188 v189 v190 v191 v192 v193 v194 v195 v196 : Value} (W0 w : World) (x p kb jb b5 b6 : Nat) (wv iv : Value) (f : Int) (vp vw vc : Value) (σ : Pst) (Ds : List Nat) (bv : Value) (B : List Blo) (b2 b8 nc : Nat) (o : Oq) (h : SmX W0 w x p kb jb b5 b6 wv iv f vp vw vc σ Ds bv B) (h8 : Bl w b8 37 ([.int .i64 o.kind, .int .i64 o.nr, .int .i64 o.d.kind, .int .u32 o.d.va, .int .i64 o.d.asid, .int .u64 o.pa, .int .u32 o.w, .int .i64 o.asid, .int .u32 o.va])) (hb8 : b8 ≠ b6 ∧ bv.ownBlock ≠ some b8) (hW : TS W0) (hs : Sml σ) (hl : σ.K.length ≤ 1099511627776) (hlB : B.length ≤ 1099511627776) (cb co cc j : Nat) (c : Ctx) (hvc : vc = .slice (some ⟨cb, co, none⟩) nc cc) (h2 : Bl w b2 26 [.int .i64 f, vp, vw, vc]) (hctx : ∀ ww, Below w.heap.size w ww → ww.cell? ⟨cb, co + j * 12, none⟩ = some (.bool c.on) ∧ ww.cell? ⟨cb, co + j * 12 + 1, none⟩ = some (.bool c.tre) ∧ ww.cell? ⟨cb, co + j * 12 + 2, none⟩ = some (.bool c.afe) ∧ ww.cell? ⟨cb, co + j * 12 + 3, none⟩ = some (.int .i64 c.n) ∧ ww.cell? ⟨cb, co + j * 12 + 4, none⟩ = some (.bool c.pd0) ∧ ww.cell? ⟨cb, co + j * 12 + 5, none⟩ = some (.bool c.pd1) ∧ ww.cell? ⟨cb, co + j * 12 + 6, none⟩ = some (.int .u64 c.b0) ∧ ww.cell? ⟨cb, co + j * 12 + 7, none⟩ = some (.int .u64 c.b1) ∧ ww.cell? ⟨cb, co + j * 12 + 8, none⟩ = some (.int .u32 c.dacr) ∧ ww.cell? ⟨cb, co + j * 12 + 9, none⟩ = some (.int .u32 c.prrr) ∧ ww.cell? ⟨cb, co + j * 12 + 10, none⟩ = some (.int .u32 c.nmrr) ∧ ww.cell? ⟨cb, co + j * 12 + 11, none⟩ = some (.int .i64 c.asid)) (hnr : -9223372036854775808 ≤ o.nr ∧ o.nr ≤ 9223372036854775807) (hj : (j : Int) = o.nr % (nc : Int)) (hnc : 0 < nc) (hnc2 : nc ≤ 1048576) (hc : c.Ok) (hk2 : (o.kind == 2) = false) (hk1 : (o.kind == 1) = true) (hb : Bk σ.K B) (hno : ¬ seO c = true) (hpan : ∀ {c : List PanicEntry} {a : Act} {d : Option Tmp} {v : Value} {w : World}, Q (.panic c) (a.put d v) w → Q (.panic c) a w)
    (HQ : Hid (∀ {u10 u11 u12 u13 u14 u15 u16 u17 u18 u19 u44 u45 u46 u47 u48 u49 u50 u51 u52 u53 u54 u55 u56 u57 u58 u59 u60 u61 u62 u63 u64 u65 u66 u67 u68 u69 u70 u71 u72 u73 u74 u75 u76 u77 u78 u79 u80 u81 u82 u83 u84 u85 u86 u87 u88 u89 u90 u91 u92 u93 u94 u95 u96 u97 u98 u99 u100 u101 u102 u103 u104 u105 u106 u107 u108 u109 u110 u111 u112 u113 u114 u115 u116 u117 u118 u119 u120 u121 u122 u123 u124 u125 u126 u127 u128 u129 u130 u131 u132 u133 u134 u135 u136 u137 u138 u139 u140 u141 u142 u143 u144 u145 u146 u147 u148 u149 u150 u151 u152 u153 u154 u155 u156 u157 u158 u159 u160 u161 u162 u163 u164 u165 u166 u167 u168 u169 u170 u171 u172 u173 u174 u175 u176 u177 u178 u179 u180 u181 u182 u183 u184 u185 u186 u187 u188 u189 u190 u191 u192 u193 u194 u195 u196 : Value} {Y : World} {Ds' : List Nat} {bv' : Value} {B' : List Blo}, SnX W0 Y x p kb jb b5 b6 wv iv f vp vw vc σ Ds' bv' B' → Q .normal ⟨(v0 :: v1 :: (.pointer (some ⟨b2, 0, none⟩)) :: v3 :: v4 :: (.pointer (some ⟨b5, 0, none⟩)) :: (.pointer (some ⟨b6, 0, none⟩)) :: v7 :: (.pointer (some ⟨b8, 0, none⟩)) :: (.int .i64 (nc : Int)) :: u10 :: u11 :: u12 :: u13 :: u14 :: u15 :: u16 :: u17 :: u18 :: u19 :: v20 :: v21 :: v22 :: v23 :: v24 :: v25 :: v26 :: v27 :: v28 :: v29 :: v30 :: v31 :: v32 :: v33 :: v34 :: v35 :: v36 :: v37 :: v38 :: v39 :: v40 :: v41 :: v42 :: v43 :: u44 :: u45 :: u46 :: u47 :: u48 :: u49 :: u50 :: u51 :: u52 :: u53 :: u54 :: u55 :: u56 :: u57 :: u58 :: u59 :: u60 :: u61 :: u62 :: u63 :: u64 :: u65 :: u66 :: u67 :: u68 :: u69 :: u70 :: u71 :: u72 :: u73 :: u74 :: u75 :: u76 :: u77 :: u78 :: u79 :: u80 :: u81 :: u82 :: u83 :: u84 :: u85 :: u86 :: u87 :: u88 :: u89 :: u90 :: u91 :: u92 :: u93 :: u94 :: u95 :: u96 :: u97 :: u98 :: u99 :: u100 :: u101 :: u102 :: u103 :: u104 :: u105 :: u106 :: u107 :: u108 :: u109 :: u110 :: u111 :: u112 :: u113 :: u114 :: u115 :: u116 :: u117 :: u118 :: u119 :: u120 :: u121 :: u122 :: u123 :: u124 :: u125 :: u126 :: u127 :: u128 :: u129 :: u130 :: u131 :: u132 :: u133 :: u134 :: u135 :: u136 :: u137 :: u138 :: u139 :: u140 :: u141 :: u142 :: u143 :: u144 :: u145 :: u146 :: u147 :: u148 :: u149 :: u150 :: u151 :: u152 :: u153 :: u154 :: u155 :: u156 :: u157 :: u158 :: u159 :: u160 :: u161 :: u162 :: u163 :: u164 :: u165 :: u166 :: u167 :: u168 :: u169 :: u170 :: u171 :: u172 :: u173 :: u174 :: u175 :: u176 :: u177 :: u178 :: u179 :: u180 :: u181 :: u182 :: u183 :: u184 :: u185 :: u186 :: u187 :: u188 :: u189 :: u190 :: u191 :: u192 :: u193 :: u194 :: u195 :: u196 :: []).toArray, Ds'.map mk⟩ Y)) :
    (seE Tryz.f3).wp Tryz.prog Q ⟨(v0 :: v1 :: (.pointer (some ⟨b2, 0, none⟩)) :: v3 :: v4 :: (.pointer (some ⟨b5, 0, none⟩)) :: (.pointer (some ⟨b6, 0, none⟩)) :: v7 :: (.pointer (some ⟨b8, 0, none⟩)) :: (.int .i64 (nc : Int)) :: v10 :: v11 :: v12 :: v13 :: v14 :: v15 :: v16 :: v17 :: v18 :: v19 :: v20 :: v21 :: v22 :: v23 :: v24 :: v25 :: v26 :: v27 :: v28 :: v29 :: v30 :: v31 :: v32 :: v33 :: v34 :: v35 :: v36 :: v37 :: v38 :: v39 :: v40 :: v41 :: v42 :: v43 :: v44 :: v45 :: v46 :: v47 :: v48 :: v49 :: v50 :: v51 :: v52 :: v53 :: v54 :: v55 :: v56 :: v57 :: v58 :: v59 :: v60 :: v61 :: v62 :: v63 :: v64 :: v65 :: v66 :: v67 :: v68 :: v69 :: v70 :: v71 :: v72 :: v73 :: v74 :: v75 :: v76 :: v77 :: v78 :: v79 :: v80 :: v81 :: v82 :: v83 :: v84 :: v85 :: v86 :: v87 :: v88 :: v89 :: v90 :: v91 :: v92 :: v93 :: v94 :: v95 :: v96 :: v97 :: v98 :: v99 :: v100 :: v101 :: v102 :: v103 :: v104 :: v105 :: v106 :: v107 :: v108 :: v109 :: v110 :: v111 :: v112 :: v113 :: v114 :: v115 :: v116 :: v117 :: v118 :: v119 :: v120 :: v121 :: v122 :: v123 :: v124 :: v125 :: v126 :: v127 :: v128 :: v129 :: v130 :: v131 :: v132 :: v133 :: v134 :: v135 :: v136 :: v137 :: v138 :: v139 :: v140 :: v141 :: v142 :: v143 :: v144 :: v145 :: v146 :: v147 :: v148 :: v149 :: v150 :: v151 :: v152 :: v153 :: v154 :: v155 :: v156 :: v157 :: v158 :: v159 :: v160 :: v161 :: v162 :: v163 :: v164 :: v165 :: v166 :: v167 :: v168 :: v169 :: v170 :: v171 :: v172 :: v173 :: v174 :: v175 :: v176 :: v177 :: v178 :: v179 :: v180 :: v181 :: v182 :: v183 :: v184 :: v185 :: v186 :: v187 :: v188 :: v189 :: v190 :: v191 :: v192 :: v193 :: v194 :: v195 :: v196 :: []).toArray, Ds.map mk⟩ w := by
  have HBk := hidW hb
  clear hb
  have H := hidW h
  have c0 := h8.cell 0
  simp only [List.getElem?_cons_zero] at c0
  have hz0 : (0 : Int) < (nc : Int) := by omega
  have r1 := rem_wrap (a := o.nr) hz0
  have r2 := rem_rng (a := o.nr) hz0
  have hj0 : 0 ≤ (j : Int) := by omega
  have hjn : (j : Int) < (nc : Int) := by rw [hj]; exact Int.emod_lt_of_pos _ hz0
  rw [← hj] at r1
  generalize hqq : o.nr.tmod nc = q at *
  obtain ⟨r, hr⟩ : ∃ r : Int, r = q + nc := ⟨_, rfl⟩
  have hw1 : IntKind.i64.wrap (q + nc) = r := by rw [IntKind.wrap_i64]; omega
  have hrm : r.tmod nc = (j : Int) := by
    rw [Int.tmod_eq_emod_of_nonneg (by omega)]
    by_cases hneg : q < 0
    · rw [hr, r1.1 hneg]
      exact Int.emod_eq_of_lt hj0 hjn
    · rw [hr, r1.2 hneg, Int.add_emod_right]
      exact Int.emod_eq_of_lt hj0 hjn
  have hnz : ¬ (nc : Int) = 0 := by omega
  have hnzn : ¬ nc = 0 := by omega
  have HH : Hid (∀ ww, Below w.heap.size w ww → ww.cell? ⟨b2, 3, none⟩ = some (.slice (some ⟨cb, co, none⟩) nc cc) ∧ ww.cell? ⟨b8, 1, none⟩ = some (.int .i64 o.nr) ∧ ww.cell? ⟨cb, co + j * 12, none⟩ = some (.bool c.on) ∧ ww.cell? ⟨cb, co + j * 12 + 1, none⟩ = some (.bool c.tre) ∧ ww.cell? ⟨cb, co + j * 12 + 2, none⟩ = some (.bool c.afe) ∧ ww.cell? ⟨cb, co + j * 12 + 3, none⟩ = some (.int .i64 c.n) ∧ ww.cell? ⟨cb, co + j * 12 + 4, none⟩ = some (.bool c.pd0) ∧ ww.cell? ⟨cb, co + j * 12 + 5, none⟩ = some (.bool c.pd1) ∧ ww.cell? ⟨cb, co + j * 12 + 6, none⟩ = some (.int .u64 c.b0) ∧ ww.cell? ⟨cb, co + j * 12 + 7, none⟩ = some (.int .u64 c.b1) ∧ ww.cell? ⟨cb, co + j * 12 + 8, none⟩ = some (.int .u32 c.dacr) ∧ ww.cell? ⟨cb, co + j * 12 + 9, none⟩ = some (.int .u32 c.prrr) ∧ ww.cell? ⟨cb, co + j * 12 + 10, none⟩ = some (.int .u32 c.nmrr) ∧ ww.cell? ⟨cb, co + j * 12 + 11, none⟩ = some (.int .i64 c.asid)) := fun ww hb => by
    have q2 := h2.below hb
    rw [hvc] at q2
    exact ⟨q2.cell 3, (h8.below hb).cell 1, hctx ww hb⟩
  have hS1 : ∀ ww, Below w.heap.size w ww → ww.cell? ⟨b2, 3, none⟩ = some (.slice (some ⟨cb, co, none⟩) nc cc) ∧ ww.cell? ⟨b8, 1, none⟩ = some (.int .i64 o.nr) ∧ ww.cell? ⟨cb, co + j * 12, none⟩ = some (.bool c.on) ∧ ww.cell? ⟨cb, co + j * 12 + 1, none⟩ = some (.bool c.tre) ∧ ww.cell? ⟨cb, co + j * 12 + 2, none⟩ = some (.bool c.afe) ∧ ww.cell? ⟨cb, co + j * 12 + 3, none⟩ = some (.int .i64 c.n) ∧ ww.cell? ⟨cb, co + j * 12 + 4, none⟩ = some (.bool c.pd0) ∧ ww.cell? ⟨cb, co + j * 12 + 5, none⟩ = some (.bool c.pd1) ∧ ww.cell? ⟨cb, co + j * 12 + 6, none⟩ = some (.int .u64 c.b0) ∧ ww.cell? ⟨cb, co + j * 12 + 7, none⟩ = some (.int .u64 c.b1) ∧ ww.cell? ⟨cb, co + j * 12 + 8, none⟩ = some (.int .u32 c.dacr) ∧ ww.cell? ⟨cb, co + j * 12 + 9, none⟩ = some (.int .u32 c.prrr) ∧ ww.cell? ⟨cb, co + j * 12 + 10, none⟩ = some (.int .u32 c.nmrr) ∧ ww.cell? ⟨cb, co + j * 12 + 11, none⟩ = some (.int .i64 c.asid) := HH.out
  clear h h8 h2 hctx hj r1 r2 hr
  conv => arg 2; whnf
  refine wp_cut 2 _ (seT Tryz.f3) (by kernel_rfl) (fun C hC => ?_)
  have HC := hidW hC
  clear hC
  simp only [putTail]
  go_wp2_with fail
  have HB1 := hidW (Below.refl w.heap.size w)
  have hs1 := HB1.out.size
  go_cut [12] from 76 to 87 (fun s1 wx => ∃ b1, s1 = .pointer (some ⟨b1, 0, none⟩) ∧ Hid (Got1 w wx b1 47 ([.bool c.on, .bool c.tre, .bool c.afe, .int .i64 c.n, .bool c.pd0, .bool c.pd1, .int .u64 c.b0, .int .u64 c.b1, .int .u32 c.dacr, .int .u32 c.prrr, .int .u32 c.nmrr, .int .i64 c.asid])))
  case first =>
    refine wp_region_held_drew (S := fun ww => ww.cell? ⟨b2, 3, none⟩ = some (.slice (some ⟨cb, co, none⟩) nc cc) ∧ ww.cell? ⟨b8, 1, none⟩ = some (.int .i64 o.nr) ∧ ww.cell? ⟨cb, co + j * 12, none⟩ = some (.bool c.on) ∧ ww.cell? ⟨cb, co + j * 12 + 1, none⟩ = some (.bool c.tre) ∧ ww.cell? ⟨cb, co + j * 12 + 2, none⟩ = some (.bool c.afe) ∧ ww.cell? ⟨cb, co + j * 12 + 3, none⟩ = some (.int .i64 c.n) ∧ ww.cell? ⟨cb, co + j * 12 + 4, none⟩ = some (.bool c.pd0) ∧ ww.cell? ⟨cb, co + j * 12 + 5, none⟩ = some (.bool c.pd1) ∧ ww.cell? ⟨cb, co + j * 12 + 6, none⟩ = some (.int .u64 c.b0) ∧ ww.cell? ⟨cb, co + j * 12 + 7, none⟩ = some (.int .u64 c.b1) ∧ ww.cell? ⟨cb, co + j * 12 + 8, none⟩ = some (.int .u32 c.dacr) ∧ ww.cell? ⟨cb, co + j * 12 + 9, none⟩ = some (.int .u32 c.prrr) ∧ ww.cell? ⟨cb, co + j * 12 + 10, none⟩ = some (.int .u32 c.nmrr) ∧ ww.cell? ⟨cb, co + j * 12 + 11, none⟩ = some (.int .i64 c.asid)) (by kernel_rfl) ?_ (fun hHeld => ?_)
    · exact hS1 _ (below_drew (Below.refl _ _))
    refine wpAnyH_take (i := 0) (oi := { dst := some 76, op := Op.fieldAddr 26 (Operand.tmp 2) 3, type := 0, pos := _, after := #[], guard := none }) (v := ?_) rfl (by kernel_rfl) (by kernel_rfl) (by kernel_rfl) (fun _ _ _ h => hpan h) (Or.inl ⟨by rfl, ?_⟩) (by assumption) ?_
    rotate_left
    · (intro w hSw; (try dsimp only at hSw); go_simp; try with_reducible rfl)
    simp only [Act.put, List.setIfInBounds_toArray, List.set_cons_zero, List.set_cons_succ]
    refine wpAnyH_take (i := 1) (oi := { dst := some 77, op := Op.load 24 (Operand.tmp 76), type := 24, pos := _, after := #[{ on := 0, ground := Ground.data }], guard := none }) (v := ?_) rfl (by kernel_rfl) (by kernel_rfl) (by kernel_rfl) (fun _ _ _ h => hpan h) (Or.inl ⟨by rfl, ?_⟩) (by assumption) ?_
    rotate_left
    · (intro w hSw; (try dsimp only at hSw); go_simp; try with_reducible rfl)
    simp only [Act.put, List.setIfInBounds_toArray, List.set_cons_zero, List.set_cons_succ]
    refine wpAnyH_take (i := 2) (oi := { dst := some 78, op := Op.fieldAddr 37 (Operand.tmp 8) 1, type := 0, pos := _, after := #[], guard := none }) (v := ?_) rfl (by kernel_rfl) (by kernel_rfl) (by kernel_rfl) (fun _ _ _ h => hpan h) (Or.inl ⟨by rfl, ?_⟩) (by assumption) ?_
    rotate_left
    · (intro w hSw; (try dsimp only at hSw); go_simp; try with_reducible rfl)
    simp only [Act.put, List.setIfInBounds_toArray, List.set_cons_zero, List.set_cons_succ]
    refine wpAnyH_take (i := 3) (oi := { dst := some 79, op := Op.load 3 (Operand.tmp 78), type := 3, pos := _, after := #[{ on := 2, ground := Ground.data }], guard := none }) (v := ?_) rfl (by kernel_rfl) (by kernel_rfl) (by kernel_rfl) (fun _ _ _ h => hpan h) (Or.inl ⟨by rfl, ?_⟩) (by assumption) ?_
    rotate_left
    · (intro w hSw; (try dsimp only at hSw); go_simp; try with_reducible rfl)
    simp only [Act.put, List.setIfInBounds_toArray, List.set_cons_zero, List.set_cons_succ]
    refine wpAnyH_take (i := 4) (oi := { dst := some 80, op := Op.move (Operand.tmp 9), type := 3, pos := _, after := #[], guard := none }) (v := ?_) rfl (by kernel_rfl) (by kernel_rfl) (by kernel_rfl) (fun _ _ _ h => hpan h) (Or.inl ⟨by rfl, ?_⟩) (by assumption) ?_
    rotate_left
    · (intro w hSw; (try dsimp only at hSw); go_simp; try with_reducible rfl)
    simp only [Act.put, List.setIfInBounds_toArray, List.set_cons_zero, List.set_cons_succ]
    refine wpAnyH_take (i := 5) (oi := { dst := some 81, op := Op.binOp BinOp.rem 3 (Operand.tmp 79) (Operand.tmp 80) 3, type := 3, pos := _, after := #[{ on := 3, ground := Ground.data }, { on := 4, ground := Ground.data }], guard := none }) (v := ?_) rfl (by kernel_rfl) (by kernel_rfl) (by kernel_rfl) (fun _ _ _ h => hpan h) (Or.inl ⟨by rfl, ?_⟩) (by assumption) ?_
    rotate_left
    · (intro w hSw; (try dsimp only at hSw); go_simp; try with_reducible rfl)
    simp only [Act.put, List.setIfInBounds_toArray, List.set_cons_zero, List.set_cons_succ]
    refine wpAnyH_take (i := 6) (oi := { dst := some 82, op := Op.move (Operand.tmp 9), type := 3, pos := _, after := #[], guard := none }) (v := ?_) rfl (by kernel_rfl) (by kernel_rfl) (by kernel_rfl) (fun _ _ _ h => hpan h) (Or.inl ⟨by rfl, ?_⟩) (by assumption) ?_
    rotate_left
    · (intro w hSw; (try dsimp only at hSw); go_simp; try with_reducible rfl)
    simp only [Act.put, List.setIfInBounds_toArray, List.set_cons_zero, List.set_cons_succ]
    refine wpAnyH_take (i := 7) (oi := { dst := some 83, op := Op.binOp BinOp.add 3 (Operand.tmp 81) (Operand.tmp 82) 3, type := 3, pos := _, after := #[{ on := 5, ground := Ground.data }, { on := 6, ground := Ground.data }], guard := none }) (v := ?_) rfl (by kernel_rfl) (by kernel_rfl) (by kernel_rfl) (fun _ _ _ h => hpan h) (Or.inl ⟨by rfl, ?_⟩) (by assumption) ?_
    rotate_left
    · (intro w hSw; (try dsimp only at hSw); go_simp; try with_reducible rfl)
    simp only [Act.put, List.setIfInBounds_toArray, List.set_cons_zero, List.set_cons_succ]
    refine wpAnyH_take (i := 8) (oi := { dst := some 84, op := Op.move (Operand.tmp 9), type := 3, pos := _, after := #[], guard := none }) (v := ?_) rfl (by kernel_rfl) (by kernel_rfl) (by kernel_rfl) (fun _ _ _ h => hpan h) (Or.inl ⟨by rfl, ?_⟩) (by assumption) ?_
    rotate_left
    · (intro w hSw; (try dsimp only at hSw); go_simp; try with_reducible rfl)
    simp only [Act.put, List.setIfInBounds_toArray, List.set_cons_zero, List.set_cons_succ]
    refine wpAnyH_take (i := 9) (oi := { dst := some 85, op := Op.binOp BinOp.rem 3 (Operand.tmp 83) (Operand.tmp 84) 3, type := 3, pos := _, after := #[{ on := 7, ground := Ground.data }, { on := 8, ground := Ground.data }], guard := none }) (v := ?_) rfl (by kernel_rfl) (by kernel_rfl) (by kernel_rfl) (fun _ _ _ h => hpan h) (Or.inl ⟨by rfl, ?_⟩) (by assumption) ?_
    rotate_left
    · (intro w hSw; (try dsimp only at hSw); go_simp; try with_reducible rfl)
    simp only [Act.put, List.setIfInBounds_toArray, List.set_cons_zero, List.set_cons_succ]
    refine wpAnyH_take (i := 10) (oi := { dst := some 86, op := Op.indexAddr 24 (Operand.tmp 77) (Operand.tmp 85), type := 0, pos := _, after := #[{ on := 1, ground := Ground.data }, { on := 9, ground := Ground.data }], guard := none }) (v := ?_) rfl (by kernel_rfl) (by kernel_rfl) (by kernel_rfl) (fun _ _ _ h => hpan h) (Or.inl ⟨by rfl, ?_⟩) (by assumption) ?_
    rotate_left
    · (intro w hSw; (try dsimp only at hSw); go_simp; try with_reducible rfl)
    simp only [Act.put, List.setIfInBounds_toArray, List.set_cons_zero, List.set_cons_succ]
    refine wpAnyH_take (i := 11) (oi := { dst := some 87, op := Op.load 47 (Operand.tmp 86), type := 47, pos := _, after := #[{ on := 10, ground := Ground.data }], guard := none }) (v := ?_) rfl (by kernel_rfl) (by kernel_rfl) (by kernel_rfl) (fun _ _ _ h => hpan h) (Or.inl ⟨by rfl, ?_⟩) (by assumption) ?_
    rotate_left
    · (intro w hSw; (try dsimp only at hSw); go_simp; try with_reducible rfl)
    simp only [Act.put, List.setIfInBounds_toArray, List.set_cons_zero, List.set_cons_succ]
    refine wpAnyH_ready (rs := [12]) (by kernel_rfl) (by simp) ?_
    refine AllReadyH.cons (o := { dst := some 12, op := Op.alloc 47, type := 0, pos := _, after := #[], guard := none }) rfl (fun K hK => ?_) AllReadyH.nil
    go_simp
    skip
    refine hK.out _ _ ?_ (fun hHeld => ?_)
    · ((try dsimp only); with_reducible exact hS1 _ (by ((repeat (first | (with_reducible refine Below.setCell ?_ (by first | exact Nat.le_refl _ | (dsimp only; omega)) _) | (with_reducible refine Below.alloc ?_ (by first | omega | (simp; omega) | simp) _) | (with_reducible refine below_drew ?_))); (first | (with_reducible exact HB1.out) | (with_reducible exact Below.refl _ _)))))
    clear hK K
    try simp only [Act.put, List.setIfInBounds_toArray, List.set_cons_zero, List.set_cons_succ]
    refine wpAnyH_ready (rs := [13]) (by kernel_rfl) (by simp) ?_
    refine AllReadyH.cons (o := { dst := none, op := Op.store 47 (Operand.tmp 12) (Operand.tmp 87), type := 0, pos := _, after := #[{ on := 12, ground := Ground.data }, { on := 11, ground := Ground.data }, { on := 0, ground := Ground.phase }, { on := 1, ground := Ground.phase }, { on := 2, ground := Ground.phase }, { on := 3, ground := Ground.phase }, { on := 4, ground := Ground.phase }, { on := 5, ground := Ground.phase }, { on := 6, ground := Ground.phase }, { on := 7, ground := Ground.phase }, { on := 8, ground := Ground.phase }, { on := 9, ground := Ground.phase }, { on := 10, ground := Ground.phase }, { on := 11, ground := Ground.phase }, { on := 12, ground := Ground.phase }], guard := none }) rfl (fun K hK => ?_) AllReadyH.nil
    go_simp
    skip
    refine hK.out _ _ ?_ (fun hHeld => ?_)
    · ((try dsimp only); with_reducible exact hS1 _ (by ((repeat (first | (with_reducible refine Below.setCell ?_ (by first | exact Nat.le_refl _ | (dsimp only; omega)) _) | (with_reducible refine Below.alloc ?_ (by first | omega | (simp; omega) | simp) _) | (with_reducible refine below_drew ?_))); (first | (with_reducible exact HB1.out) | (with_reducible exact Below.refl _ _)))))
    clear hK K
    try simp only [Act.put, List.setIfInBounds_toArray, List.set_cons_zero, List.set_cons_succ]
    refine wpAnyH_done (by kernel_rfl) ?_ _
    go_wp2_with fail
    go_meet
    exact ⟨_, rfl, hidW (gb1d w _ [.bool c.on, .bool c.tre, .bool c.afe, .int .i64 c.n, .bool c.pd0, .bool c.pd1, .int .u64 c.b0, .int .u64 c.b1, .int .u32 c.dacr, .int .u32 c.prrr, .int .u32 c.nmrr, .int .i64 c.asid])⟩
  case rest =>
    obtain ⟨b12, rfl, HG⟩ := hcut
    have q12 := HG.out.B.cell
    have HN := hidW (H.out.below hW HG.out.bel)
    have hcase : c.on = false ∨ (c.on = true ∧ c.asid < 0) ∨ (c.on = true ∧ ¬ c.asid < 0 ∧ 255 < c.asid) := by
      cases hon : c.on with
      | false => exact .inl rfl
      | true =>
        refine .inr ?_
        rcases Int.lt_or_le c.asid 0 with h | h
        · exact .inl ⟨rfl, h⟩
        · refine .inr ⟨rfl, by omega, ?_⟩
          rcases Int.lt_or_le 255 c.asid with h' | h'
          · exact h'
          · exact absurd ((seO_iff c).2 ⟨hon, h, h'⟩) hno
    clear hno HG hS1 HH
    rcases hcase with h1 | ⟨h1, h2⟩ | ⟨h1, h2, h3⟩
    · go_wp2_with fail
      refine HC.out _ _ ?_
      refine seen_tail _ W0 _ x p kb jb b5 b6 wv iv f vp vw vc σ Ds bv B ⟨HN.out, HBk.out⟩ hW hs hl (by exact fun h => hpan h) (hidW ?_)
      intros
      rename_i Y9 hY9
      exact HQ.out hY9
    · have h2' : ¬ 0 ≤ c.asid := by omega
      go_wp2_with fail
      refine HC.out _ _ ?_
      refine seen_tail _ W0 _ x p kb jb b5 b6 wv iv f vp vw vc σ Ds bv B ⟨HN.out, HBk.out⟩ hW hs hl (by exact fun h => hpan h) (hidW ?_)
      intros
      rename_i Y9 hY9
      exact HQ.out hY9
    · have h2' : 0 ≤ c.asid := by omega
      have h3' : ¬ c.asid ≤ 255 := by omega
      go_wp2_with fail
      refine HC.out _ _ ?_
      refine seen_tail _ W0 _ x p kb jb b5 b6 wv iv f vp vw vc σ Ds bv B ⟨HN.out, HBk.out⟩ hW hs hl (by exact fun h => hpan h) (hidW ?_)
      intros
      rename_i Y9 hY9
      exact HQ.out hY9
set_option maxRecDepth 1000000 in
set_option maxHeartbeats 16000000 in
theorem seen_e1y {Q : Exit → Act → World → Prop} {v0 v1 v3 v4 v7 v10 v11 v12 v13 v14 v15 v16 v17 v18 v19 v20 v21 v22 v23 v24 v25 v26 v27 v28 v29 v30 v31 v32 v33 v34 v35 v36 v37 v38 v39 v40 v41 v42 v43 v44 v45 v46 v47 v48 v49 v50 v51 v52 v53 v54 v55 v56 v57 v58 v59 v60 v61 v62 v63 v64 v65 v66 v67 v68 v69 v70 v71 v72 v73 v74 v75 v76 v77 v78 v79 v80 v81 v82 v83 v84 v85 v86 v87 v88 v89 v90 v91 v92 v93 v94 v95 v96 v97 v98 v99 v100 v101 v102 v103 v104 v105 v106 v107 v108 v109 v110 v111 v112 v113 v114 v115 v116 v117 v118 v119 v120 v121 v122 v123 v124 v125 v126 v127 v128 v129 v130 v131 v132 v133 v134 v135 v136 v137 v138 v139 v140 v141 v142 v143 v144 v145 v146 v147 v148 v149 v150 v151 v152 v153 v154 v155 v156 v157 v158 v159 v160 v161 v162 v163 v164 v165 v166 v167 v168 v169 v170 v171 v172 v173 v174 v175 v176 v177 v178 v179 v180 v181 v182 v183 v184 v185 v186 v187 v188 v189 v190 v191 v192 v193 v194 v195 v196 : Value} (W0 w : World) (x p kb jb b5 b6 : Nat) (wv iv : Value) (f : Int) (vp vw vc : Value) (σ : Pst) (Ds : List Nat) (bv : Value) (B : List Blo) (b2 b8 nc : Nat) (o : Oq) (h : SmX W0 w x p kb jb b5 b6 wv iv f vp vw vc σ Ds bv B) (h8 : Bl w b8 37 ([.int .i64 o.kind, .int .i64 o.nr, .int .i64 o.d.kind, .int .u32 o.d.va, .int .i64 o.d.asid, .int .u64 o.pa, .int .u32 o.w, .int .i64 o.asid, .int .u32 o.va])) (hb8 : b8 ≠ b6 ∧ bv.ownBlock ≠ some b8) (hW : TS W0) (hs : Sml σ) (hl : σ.K.length ≤ 1099511627776) (hlB : B.length ≤ 1099511627776) (cb co cc j : Nat) (c : Ctx) (hvc : vc = .slice (some ⟨cb, co, none⟩) nc cc) (h2 : Bl w b2 26 [.int .i64 f, vp, vw, vc]) (hctx : ∀ ww, Below w.heap.size w ww → ww.cell? ⟨cb, co + j * 12, none⟩ = some (.bool c.on) ∧ ww.cell? ⟨cb, co + j * 12 + 1, none⟩ = some (.bool c.tre) ∧ ww.cell? ⟨cb, co + j * 12 + 2, none⟩ = some (.bool c.afe) ∧ ww.cell? ⟨cb, co + j * 12 + 3, none⟩ = some (.int .i64 c.n) ∧ ww.cell? ⟨cb, co + j * 12 + 4, none⟩ = some (.bool c.pd0) ∧ ww.cell? ⟨cb, co + j * 12 + 5, none⟩ = some (.bool c.pd1) ∧ ww.cell? ⟨cb, co + j * 12 + 6, none⟩ = some (.int .u64 c.b0) ∧ ww.cell? ⟨cb, co + j * 12 + 7, none⟩ = some (.int .u64 c.b1) ∧ ww.cell? ⟨cb, co + j * 12 + 8, none⟩ = some (.int .u32 c.dacr) ∧ ww.cell? ⟨cb, co + j * 12 + 9, none⟩ = some (.int .u32 c.prrr) ∧ ww.cell? ⟨cb, co + j * 12 + 10, none⟩ = some (.int .u32 c.nmrr) ∧ ww.cell? ⟨cb, co + j * 12 + 11, none⟩ = some (.int .i64 c.asid)) (hnr : -9223372036854775808 ≤ o.nr ∧ o.nr ≤ 9223372036854775807) (hj : (j : Int) = o.nr % (nc : Int)) (hnc : 0 < nc) (hnc2 : nc ≤ 1048576) (hc : c.Ok) (hk2 : (o.kind == 2) = false) (hk1 : (o.kind == 1) = true) (hb : Bk σ.K (bkA c.asid (blL σ.mem.mo c) B)) (hO : seO c = true) (hJ : σ.J c.asid = some c) (hFz : ∀ t ∈ blL σ.mem.mo c, Fz t) (hDs : ∀ t ∈ blL σ.mem.mo c, ((diL σ.mem.mo σ.K σ.J).any fun y => y.asid == c.asid && y.b.same (tgB c.asid t)) = !smF σ.mem.mo c t) (hpan : ∀ {c : List PanicEntry} {a : Act} {d : Option Tmp} {v : Value} {w : World}, Q (.panic c) (a.put d v) w → Q (.panic c) a w)
    (HQ : Hid (∀ {u10 u11 u12 u13 u14 u15 u16 u17 u18 u19 u44 u45 u46 u47 u48 u49 u50 u51 u52 u53 u54 u55 u56 u57 u58 u59 u60 u61 u62 u63 u64 u65 u66 u67 u68 u69 u70 u71 u72 u73 u74 u75 u76 u77 u78 u79 u80 u81 u82 u83 u84 u85 u86 u87 u88 u89 u90 u91 u92 u93 u94 u95 u96 u97 u98 u99 u100 u101 u102 u103 u104 u105 u106 u107 u108 u109 u110 u111 u112 u113 u114 u115 u116 u117 u118 u119 u120 u121 u122 u123 u124 u125 u126 u127 u128 u129 u130 u131 u132 u133 u134 u135 u136 u137 u138 u139 u140 u141 u142 u143 u144 u145 u146 u147 u148 u149 u150 u151 u152 u153 u154 u155 u156 u157 u158 u159 u160 u161 u162 u163 u164 u165 u166 u167 u168 u169 u170 u171 u172 u173 u174 u175 u176 u177 u178 u179 u180 u181 u182 u183 u184 u185 u186 u187 u188 u189 u190 u191 u192 u193 u194 u195 u196 : Value} {Y : World} {Ds' : List Nat} {bv' : Value} {B' : List Blo}, SnX W0 Y x p kb jb b5 b6 wv iv f vp vw vc σ Ds' bv' B' → Q .normal ⟨(v0 :: v1 :: (.pointer (some ⟨b2, 0, none⟩)) :: v3 :: v4 :: (.pointer (some ⟨b5, 0, none⟩)) :: (.pointer (some ⟨b6, 0, none⟩)) :: v7 :: (.pointer (some ⟨b8, 0, none⟩)) :: (.int .i64 (nc : Int)) :: u10 :: u11 :: u12 :: u13 :: u14 :: u15 :: u16 :: u17 :: u18 :: u19 :: v20 :: v21 :: v22 :: v23 :: v24 :: v25 :: v26 :: v27 :: v28 :: v29 :: v30 :: v31 :: v32 :: v33 :: v34 :: v35 :: v36 :: v37 :: v38 :: v39 :: v40 :: v41 :: v42 :: v43 :: u44 :: u45 :: u46 :: u47 :: u48 :: u49 :: u50 :: u51 :: u52 :: u53 :: u54 :: u55 :: u56 :: u57 :: u58 :: u59 :: u60 :: u61 :: u62 :: u63 :: u64 :: u65 :: u66 :: u67 :: u68 :: u69 :: u70 :: u71 :: u72 :: u73 :: u74 :: u75 :: u76 :: u77 :: u78 :: u79 :: u80 :: u81 :: u82 :: u83 :: u84 :: u85 :: u86 :: u87 :: u88 :: u89 :: u90 :: u91 :: u92 :: u93 :: u94 :: u95 :: u96 :: u97 :: u98 :: u99 :: u100 :: u101 :: u102 :: u103 :: u104 :: u105 :: u106 :: u107 :: u108 :: u109 :: u110 :: u111 :: u112 :: u113 :: u114 :: u115 :: u116 :: u117 :: u118 :: u119 :: u120 :: u121 :: u122 :: u123 :: u124 :: u125 :: u126 :: u127 :: u128 :: u129 :: u130 :: u131 :: u132 :: u133 :: u134 :: u135 :: u136 :: u137 :: u138 :: u139 :: u140 :: u141 :: u142 :: u143 :: u144 :: u145 :: u146 :: u147 :: u148 :: u149 :: u150 :: u151 :: u152 :: u153 :: u154 :: u155 :: u156 :: u157 :: u158 :: u159 :: u160 :: u161 :: u162 :: u163 :: u164 :: u165 :: u166 :: u167 :: u168 :: u169 :: u170 :: u171 :: u172 :: u173 :: u174 :: u175 :: u176 :: u177 :: u178 :: u179 :: u180 :: u181 :: u182 :: u183 :: u184 :: u185 :: u186 :: u187 :: u188 :: u189 :: u190 :: u191 :: u192 :: u193 :: u194 :: u195 :: u196 :: []).toArray, Ds'.map mk⟩ Y)) :
    (seE Tryz.f3).wp Tryz.prog Q ⟨(v0 :: v1 :: (.pointer (some ⟨b2, 0, none⟩)) :: v3 :: v4 :: (.pointer (some ⟨b5, 0, none⟩)) :: (.pointer (some ⟨b6, 0, none⟩)) :: v7 :: (.pointer (some ⟨b8, 0, none⟩)) :: (.int .i64 (nc : Int)) :: v10 :: v11 :: v12 :: v13 :: v14 :: v15 :: v16 :: v17 :: v18 :: v19 :: v20 :: v21 :: v22 :: v23 :: v24 :: v25 :: v26 :: v27 :: v28 :: v29 :: v30 :: v31 :: v32 :: v33 :: v34 :: v35 :: v36 :: v37 :: v38 :: v39 :: v40 :: v41 :: v42 :: v43 :: v44 :: v45 :: v46 :: v47 :: v48 :: v49 :: v50 :: v51 :: v52 :: v53 :: v54 :: v55 :: v56 :: v57 :: v58 :: v59 :: v60 :: v61 :: v62 :: v63 :: v64 :: v65 :: v66 :: v67 :: v68 :: v69 :: v70 :: v71 :: v72 :: v73 :: v74 :: v75 :: v76 :: v77 :: v78 :: v79 :: v80 :: v81 :: v82 :: v83 :: v84 :: v85 :: v86 :: v87 :: v88 :: v89 :: v90 :: v91 :: v92 :: v93 :: v94 :: v95 :: v96 :: v97 :: v98 :: v99 :: v100 :: v101 :: v102 :: v103 :: v104 :: v105 :: v106 :: v107 :: v108 :: v109 :: v110 :: v111 :: v112 :: v113 :: v114 :: v115 :: v116 :: v117 :: v118 :: v119 :: v120 :: v121 :: v122 :: v123 :: v124 :: v125 :: v126 :: v127 :: v128 :: v129 :: v130 :: v131 :: v132 :: v133 :: v134 :: v135 :: v136 :: v137 :: v138 :: v139 :: v140 :: v141 :: v142 :: v143 :: v144 :: v145 :: v146 :: v147 :: v148 :: v149 :: v150 :: v151 :: v152 :: v153 :: v154 :: v155 :: v156 :: v157 :: v158 :: v159 :: v160 :: v161 :: v162 :: v163 :: v164 :: v165 :: v166 :: v167 :: v168 :: v169 :: v170 :: v171 :: v172 :: v173 :: v174 :: v175 :: v176 :: v177 :: v178 :: v179 :: v180 :: v181 :: v182 :: v183 :: v184 :: v185 :: v186 :: v187 :: v188 :: v189 :: v190 :: v191 :: v192 :: v193 :: v194 :: v195 :: v196 :: []).toArray, Ds.map mk⟩ w := by
  have HBk := hidW hb
  have HFz := hidW hFz
  have HDs := hidW hDs
  have HJ := hidW hJ
  clear hb hFz hDs hJ
  obtain ⟨hon, ha0, ha1⟩ := (seO_iff c).1 hO
  have HON := hidW hon
  clear hO hon
  have H := hidW h
  have c0 := h8.cell 0
  simp only [List.getElem?_cons_zero] at c0
  have hz0 : (0 : Int) < (nc : Int) := by omega
  have r1 := rem_wrap (a := o.nr) hz0
  have r2 := rem_rng (a := o.nr) hz0
  have hj0 : 0 ≤ (j : Int) := by omega
  have hjn : (j : Int) < (nc : Int) := by rw [hj]; exact Int.emod_lt_of_pos _ hz0
  rw [← hj] at r1
  generalize hqq : o.nr.tmod nc = q at *
  obtain ⟨r, hr⟩ : ∃ r : Int, r = q + nc := ⟨_, rfl⟩
  have hw1 : IntKind.i64.wrap (q + nc) = r := by rw [IntKind.wrap_i64]; omega
  have hrm : r.tmod nc = (j : Int) := by
    rw [Int.tmod_eq_emod_of_nonneg (by omega)]
    by_cases hneg : q < 0
    · rw [hr, r1.1 hneg]
      exact Int.emod_eq_of_lt hj0 hjn
    · rw [hr, r1.2 hneg, Int.add_emod_right]
      exact Int.emod_eq_of_lt hj0 hjn
  have hnz : ¬ (nc : Int) = 0 := by omega
  have hnzn : ¬ nc = 0 := by omega
  have HH : Hid (∀ ww, Below w.heap.size w ww → ww.cell? ⟨b2, 3, none⟩ = some (.slice (some ⟨cb, co, none⟩) nc cc) ∧ ww.cell? ⟨b8, 1, none⟩ = some (.int .i64 o.nr) ∧ ww.cell? ⟨cb, co + j * 12, none⟩ = some (.bool c.on) ∧ ww.cell? ⟨cb, co + j * 12 + 1, none⟩ = some (.bool c.tre) ∧ ww.cell? ⟨cb, co + j * 12 + 2, none⟩ = some (.bool c.afe) ∧ ww.cell? ⟨cb, co + j * 12 + 3, none⟩ = some (.int .i64 c.n) ∧ ww.cell? ⟨cb, co + j * 12 + 4, none⟩ = some (.bool c.pd0) ∧ ww.cell? ⟨cb, co + j * 12 + 5, none⟩ = some (.bool c.pd1) ∧ ww.cell? ⟨cb, co + j * 12 + 6, none⟩ = some (.int .u64 c.b0) ∧ ww.cell? ⟨cb, co + j * 12 + 7, none⟩ = some (.int .u64 c.b1) ∧ ww.cell? ⟨cb, co + j * 12 + 8, none⟩ = some (.int .u32 c.dacr) ∧ ww.cell? ⟨cb, co + j * 12 + 9, none⟩ = some (.int .u32 c.prrr) ∧ ww.cell? ⟨cb, co + j * 12 + 10, none⟩ = some (.int .u32 c.nmrr) ∧ ww.cell? ⟨cb, co + j * 12 + 11, none⟩ = some (.int .i64 c.asid)) := fun ww hb => by
    have q2 := h2.below hb
    rw [hvc] at q2
    exact ⟨q2.cell 3, (h8.below hb).cell 1, hctx ww hb⟩
  have hS1 : ∀ ww, Below w.heap.size w ww → ww.cell? ⟨b2, 3, none⟩ = some (.slice (some ⟨cb, co, none⟩) nc cc) ∧ ww.cell? ⟨b8, 1, none⟩ = some (.int .i64 o.nr) ∧ ww.cell? ⟨cb, co + j * 12, none⟩ = some (.bool c.on) ∧ ww.cell? ⟨cb, co + j * 12 + 1, none⟩ = some (.bool c.tre) ∧ ww.cell? ⟨cb, co + j * 12 + 2, none⟩ = some (.bool c.afe) ∧ ww.cell? ⟨cb, co + j * 12 + 3, none⟩ = some (.int .i64 c.n) ∧ ww.cell? ⟨cb, co + j * 12 + 4, none⟩ = some (.bool c.pd0) ∧ ww.cell? ⟨cb, co + j * 12 + 5, none⟩ = some (.bool c.pd1) ∧ ww.cell? ⟨cb, co + j * 12 + 6, none⟩ = some (.int .u64 c.b0) ∧ ww.cell? ⟨cb, co + j * 12 + 7, none⟩ = some (.int .u64 c.b1) ∧ ww.cell? ⟨cb, co + j * 12 + 8, none⟩ = some (.int .u32 c.dacr) ∧ ww.cell? ⟨cb, co + j * 12 + 9, none⟩ = some (.int .u32 c.prrr) ∧ ww.cell? ⟨cb, co + j * 12 + 10, none⟩ = some (.int .u32 c.nmrr) ∧ ww.cell? ⟨cb, co + j * 12 + 11, none⟩ = some (.int .i64 c.asid) := HH.out
  clear h h8 h2 hctx hj r1 r2 hr
  rw [seE_eq]
  generalize hI : seD Tryz.f3 = CD
  generalize hT : seT Tryz.f3 = CT
  have HI := hidW hI
  have HT := hidW hT
  clear hI hT
  conv => arg 2; whnf
  go_wp2_with fail
  have HB1 := hidW (Below.refl w.heap.size w)
  have hs1 := HB1.out.size
  go_cut [12] from 76 to 87 (fun s1 wx => ∃ b1, s1 = .pointer (some ⟨b1, 0, none⟩) ∧ Hid (Got1 w wx b1 47 ([.bool c.on, .bool c.tre, .bool c.afe, .int .i64 c.n, .bool c.pd0, .bool c.pd1, .int .u64 c.b0, .int .u64 c.b1, .int .u32 c.dacr, .int .u32 c.prrr, .int .u32 c.nmrr, .int .i64 c.asid])))
  case first =>
    refine wp_region_held_drew (S := fun ww => ww.cell? ⟨b2, 3, none⟩ = some (.slice (some ⟨cb, co, none⟩) nc cc) ∧ ww.cell? ⟨b8, 1, none⟩ = some (.int .i64 o.nr) ∧ ww.cell? ⟨cb, co + j * 12, none⟩ = some (.bool c.on) ∧ ww.cell? ⟨cb, co + j * 12 + 1, none⟩ = some (.bool c.tre) ∧ ww.cell? ⟨cb, co + j * 12 + 2, none⟩ = some (.bool c.afe) ∧ ww.cell? ⟨cb, co + j * 12 + 3, none⟩ = some (.int .i64 c.n) ∧ ww.cell? ⟨cb, co + j * 12 + 4, none⟩ = some (.bool c.pd0) ∧ ww.cell? ⟨cb, co + j * 12 + 5, none⟩ = some (.bool c.pd1) ∧ ww.cell? ⟨cb, co + j * 12 + 6, none⟩ = some (.int .u64 c.b0) ∧ ww.cell? ⟨cb, co + j * 12 + 7, none⟩ = some (.int .u64 c.b1) ∧ ww.cell? ⟨cb, co + j * 12 + 8, none⟩ = some (.int .u32 c.dacr) ∧ ww.cell? ⟨cb, co + j * 12 + 9, none⟩ = some (.int .u32 c.prrr) ∧ ww.cell? ⟨cb, co + j * 12 + 10, none⟩ = some (.int .u32 c.nmrr) ∧ ww.cell? ⟨cb, co + j * 12 + 11, none⟩ = some (.int .i64 c.asid)) (by kernel_rfl) ?_ (fun hHeld => ?_)
    · exact hS1 _ (below_drew (Below.refl _ _))
    refine wpAnyH_take (i := 0) (oi := { dst := some 76, op := Op.fieldAddr 26 (Operand.tmp 2) 3, type := 0, pos := _, after := #[], guard := none }) (v := ?_) rfl (by kernel_rfl) (by kernel_rfl) (by kernel_rfl) (fun _ _ _ h => hpan h) (Or.inl ⟨by rfl, ?_⟩) (by assumption) ?_
    rotate_left
    · (intro w hSw; (try dsimp only at hSw); go_simp; try with_reducible rfl)
    simp only [Act.put, List.setIfInBounds_toArray, List.set_cons_zero, List.set_cons_succ]
    refine wpAnyH_take (i := 1) (oi := { dst := some 77, op := Op.load 24 (Operand.tmp 76), type := 24, pos := _, after := #[{ on := 0, ground := Ground.data }], guard := none }) (v := ?_) rfl (by kernel_rfl) (by kernel_rfl) (by kernel_rfl) (fun _ _ _ h => hpan h) (Or.inl ⟨by rfl, ?_⟩) (by assumption) ?_
    rotate_left
    · (intro w hSw; (try dsimp only at hSw); go_simp; try with_reducible rfl)
    simp only [Act.put, List.setIfInBounds_toArray, List.set_cons_zero, List.set_cons_succ]
    refine wpAnyH_take (i := 2) (oi := { dst := some 78, op := Op.fieldAddr 37 (Operand.tmp 8) 1, type := 0, pos := _, after := #[], guard := none }) (v := ?_) rfl (by kernel_rfl) (by kernel_rfl) (by kernel_rfl) (fun _ _ _ h => hpan h) (Or.inl ⟨by rfl, ?_⟩) (by assumption) ?_
    rotate_left
    · (intro w hSw; (try dsimp only at hSw); go_simp; try with_reducible rfl)
    simp only [Act.put, List.setIfInBounds_toArray, List.set_cons_zero, List.set_cons_succ]
    refine wpAnyH_take (i := 3) (oi := { dst := some 79, op := Op.load 3 (Operand.tmp 78), type := 3, pos := _, after := #[{ on := 2, ground := Ground.data }], guard := none }) (v := ?_) rfl (by kernel_rfl) (by kernel_rfl) (by kernel_rfl) (fun _ _ _ h => hpan h) (Or.inl ⟨by rfl, ?_⟩) (by assumption) ?_
    rotate_left
    · (intro w hSw; (try dsimp only at hSw); go_simp; try with_reducible rfl)
    simp only [Act.put, List.setIfInBounds_toArray, List.set_cons_zero, List.set_cons_succ]
    refine wpAnyH_take (i := 4) (oi := { dst := some 80, op := Op.move (Operand.tmp 9), type := 3, pos := _, after := #[], guard := none }) (v := ?_) rfl (by kernel_rfl) (by kernel_rfl) (by kernel_rfl) (fun _ _ _ h => hpan h) (Or.inl ⟨by rfl, ?_⟩) (by assumption) ?_
    rotate_left
    · (intro w hSw; (try dsimp only at hSw); go_simp; try with_reducible rfl)
    simp only [Act.put, List.setIfInBounds_toArray, List.set_cons_zero, List.set_cons_succ]
    refine wpAnyH_take (i := 5) (oi := { dst := some 81, op := Op.binOp BinOp.rem 3 (Operand.tmp 79) (Operand.tmp 80) 3, type := 3, pos := _, after := #[{ on := 3, ground := Ground.data }, { on := 4, ground := Ground.data }], guard := none }) (v := ?_) rfl (by kernel_rfl) (by kernel_rfl) (by kernel_rfl) (fun _ _ _ h => hpan h) (Or.inl ⟨by rfl, ?_⟩) (by assumption) ?_
    rotate_left
    · (intro w hSw; (try dsimp only at hSw); go_simp; try with_reducible rfl)
    simp only [Act.put, List.setIfInBounds_toArray, List.set_cons_zero, List.set_cons_succ]
    refine wpAnyH_take (i := 6) (oi := { dst := some 82, op := Op.move (Operand.tmp 9), type := 3, pos := _, after := #[], guard := none }) (v := ?_) rfl (by kernel_rfl) (by kernel_rfl) (by kernel_rfl) (fun _ _ _ h => hpan h) (Or.inl ⟨by rfl, ?_⟩) (by assumption) ?_
    rotate_left
    · (intro w hSw; (try dsimp only at hSw); go_simp; try with_reducible rfl)
    simp only [Act.put, List.setIfInBounds_toArray, List.set_cons_zero, List.set_cons_succ]
    refine wpAnyH_take (i := 7) (oi := { dst := some 83, op := Op.binOp BinOp.add 3 (Operand.tmp 81) (Operand.tmp 82) 3, type := 3, pos := _, after := #[{ on := 5, ground := Ground.data }, { on := 6, ground := Ground.data }], guard := none }) (v := ?_) rfl (by kernel_rfl) (by kernel_rfl) (by kernel_rfl) (fun _ _ _ h => hpan h) (Or.inl ⟨by rfl, ?_⟩) (by assumption) ?_
    rotate_left
    · (intro w hSw; (try dsimp only at hSw); go_simp; try with_reducible rfl)
    simp only [Act.put, List.setIfInBounds_toArray, List.set_cons_zero, List.set_cons_succ]
    refine wpAnyH_take (i := 8) (oi := { dst := some 84, op := Op.move (Operand.tmp 9), type := 3, pos := _, after := #[], guard := none }) (v := ?_) rfl (by kernel_rfl) (by kernel_rfl) (by kernel_rfl) (fun _ _ _ h => hpan h) (Or.inl ⟨by rfl, ?_⟩) (by assumption) ?_
    rotate_left
    · (intro w hSw; (try dsimp only at hSw); go_simp; try with_reducible rfl)
    simp only [Act.put, List.setIfInBounds_toArray, List.set_cons_zero, List.set_cons_succ]
    refine wpAnyH_take (i := 9) (oi := { dst := some 85, op := Op.binOp BinOp.rem 3 (Operand.tmp 83) (Operand.tmp 84) 3, type := 3, pos := _, after := #[{ on := 7, ground := Ground.data }, { on := 8, ground := Ground.data }], guard := none }) (v := ?_) rfl (by kernel_rfl) (by kernel_rfl) (by kernel_rfl) (fun _ _ _ h => hpan h) (Or.inl ⟨by rfl, ?_⟩) (by assumption) ?_
    rotate_left
    · (intro w hSw; (try dsimp only at hSw); go_simp; try with_reducible rfl)
    simp only [Act.put, List.setIfInBounds_toArray, List.set_cons_zero, List.set_cons_succ]
    refine wpAnyH_take (i := 10) (oi := { dst := some 86, op := Op.indexAddr 24 (Operand.tmp 77) (Operand.tmp 85), type := 0, pos := _, after := #[{ on := 1, ground := Ground.data }, { on := 9, ground := Ground.data }], guard := none }) (v := ?_) rfl (by kernel_rfl) (by kernel_rfl) (by kernel_rfl) (fun _ _ _ h => hpan h) (Or.inl ⟨by rfl, ?_⟩) (by assumption) ?_
    rotate_left
    · (intro w hSw; (try dsimp only at hSw); go_simp; try with_reducible rfl)
    simp only [Act.put, List.setIfInBounds_toArray, List.set_cons_zero, List.set_cons_succ]
    refine wpAnyH_take (i := 11) (oi := { dst := some 87, op := Op.load 47 (Operand.tmp 86), type := 47, pos := _, after := #[{ on := 10, ground := Ground.data }], guard := none }) (v := ?_) rfl (by kernel_rfl) (by kernel_rfl) (by kernel_rfl) (fun _ _ _ h => hpan h) (Or.inl ⟨by rfl, ?_⟩) (by assumption) ?_
    rotate_left
    · (intro w hSw; (try dsimp only at hSw); go_simp; try with_reducible rfl)
    simp only [Act.put, List.setIfInBounds_toArray, List.set_cons_zero, List.set_cons_succ]
    refine wpAnyH_ready (rs := [12]) (by kernel_rfl) (by simp) ?_
    refine AllReadyH.cons (o := { dst := some 12, op := Op.alloc 47, type := 0, pos := _, after := #[], guard := none }) rfl (fun K hK => ?_) AllReadyH.nil
    go_simp
    skip
    refine hK.out _ _ ?_ (fun hHeld => ?_)
    · ((try dsimp only); with_reducible exact hS1 _ (by ((repeat (first | (with_reducible refine Below.setCell ?_ (by first | exact Nat.le_refl _ | (dsimp only; omega)) _) | (with_reducible refine Below.alloc ?_ (by first | omega | (simp; omega) | simp) _) | (with_reducible refine below_drew ?_))); (first | (with_reducible exact HB1.out) | (with_reducible exact Below.refl _ _)))))
    clear hK K
    try simp only [Act.put, List.setIfInBounds_toArray, List.set_cons_zero, List.set_cons_succ]
    refine wpAnyH_ready (rs := [13]) (by kernel_rfl) (by simp) ?_
    refine AllReadyH.cons (o := { dst := none, op := Op.store 47 (Operand.tmp 12) (Operand.tmp 87), type := 0, pos := _, after := #[{ on := 12, ground := Ground.data }, { on := 11, ground := Ground.data }, { on := 0, ground := Ground.phase }, { on := 1, ground := Ground.phase }, { on := 2, ground := Ground.phase }, { on := 3, ground := Ground.phase }, { on := 4, ground := Ground.phase }, { on := 5, ground := Ground.phase }, { on := 6, ground := Ground.phase }, { on := 7, ground := Ground.phase }, { on := 8, ground := Ground.phase }, { on := 9, ground := Ground.phase }, { on := 10, ground := Ground.phase }, { on := 11, ground := Ground.phase }, { on := 12, ground := Ground.phase }], guard := none }) rfl (fun K hK => ?_) AllReadyH.nil
    go_simp
    skip
    refine hK.out _ _ ?_ (fun hHeld => ?_)
    · ((try dsimp only); with_reducible exact hS1 _ (by ((repeat (first | (with_reducible refine Below.setCell ?_ (by first | exact Nat.le_refl _ | (dsimp only; omega)) _) | (with_reducible refine Below.alloc ?_ (by first | omega | (simp; omega) | simp) _) | (with_reducible refine below_drew ?_))); (first | (with_reducible exact HB1.out) | (with_reducible exact Below.refl _ _)))))
    clear hK K
    try simp only [Act.put, List.setIfInBounds_toArray, List.set_cons_zero, List.set_cons_succ]
    refine wpAnyH_done (by kernel_rfl) ?_ _
    go_wp2_with fail
    go_meet
    exact ⟨_, rfl, hidW (gb1d w _ [.bool c.on, .bool c.tre, .bool c.afe, .int .i64 c.n, .bool c.pd0, .bool c.pd1, .int .u64 c.b0, .int .u64 c.b1, .int .u32 c.dacr, .int .u32 c.prrr, .int .u32 c.nmrr, .int .i64 c.asid])⟩
  case rest =>
    obtain ⟨b12, rfl, HG⟩ := hcut
    have q12 := HG.out.B.cell
    have HN := hidW (H.out.below hW HG.out.bel)
    have H12 := hidW HG.out.B
    have hon := HON.out
    clear HG hS1 HH
    go_wp2_with fail
    clear hon
    rw [← HI.out]
    refine seen_D _ W0 _ x p kb jb wv iv f vp vw vc σ _ b5 b6 b12 bv B c HN.out.sg HN.out.hG hW HN.out.rd HN.out.h5 H12.out hs HJ.out hlB hc ⟨ha0, ha1⟩ HFz.out HDs.out (by exact fun h => hpan h) (hidW ?_)
    intros
    rename_i D' Y bv' hD' hK hR
    have HZ := hidW (HN.out.next (Ds' := D' :: Ds) hW hR (.inr ⟨D', rfl, hD', hK⟩))
    clear hD' hK hR q12
    go_wp2_with fail
    rw [← HT.out]
    refine seen_tail _ W0 _ x p kb jb b5 b6 wv iv f vp vw vc σ (D' :: Ds) bv' _ ⟨HZ.out, HBk.out⟩ hW hs hl (by exact fun h => hpan h) (hidW ?_)
    intros
    rename_i Y9 hY9
    exact HQ.out hY9
end Go.Proofs.YtnjlajjjcmhfgaaGreatDoor
