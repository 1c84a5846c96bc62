import Derived.Test.YtnjlajjjcmhfgaaGreatDoorQE04
namespace Go.Proofs.YtnjlajjjcmhfgaaGreatDoor
open Go.RowKit
open Mm (Turn gr RM valV errV Byts setV RowAt)
set_option linter.unusedVariables false
set_option linter.unusedSimpArgs false
attribute [local go_sem] Oper.semAt_some
def svU (f : Func) : Code := lpC (blkC (sq2 (sq1 (sq2 (sq2 (sq2 (sq2 (sq2 (sq2 (sq2 (sq2 (sq2 (sq2 (sq2 (f.body.getD .skip)))))))))))))))
set_option maxRecDepth 1000000 in
set_option maxHeartbeats 16000000 in
theorem sv_outer {Q : Exit → Act → World → Prop} {v0 v1 v2 v3 v5 v6 v7 v8 v9 v10 v11 v12 v14 v16 v17 v18 v19 v20 v21 v23 v25 v26 v27 v28 v29 v30 v31 v32 v33 v34 v35 v36 v37 v38 v39 v40 v41 v42 v43 v44 v45 v46 v47 v48 v49 v50 v51 v52 v53 v54 v55 v56 v57 v58 v59 v60 v61 v62 v63 v64 v65 v66 v67 v68 v69 v70 v71 v72 v73 v74 v75 v76 v77 v78 v79 v80 v81 v82 v83 v84 v85 v86 v87 v88 v89 v90 v91 v92 v93 v94 v95 v96 v97 v98 v99 v100 v101 v102 v103 v104 v105 v106 v107 v108 v109 v110 v111 v112 v113 v114 v115 v116 v117 v118 v119 v120 v121 v122 v123 v124 v125 v126 v127 v128 v129 v130 v131 v132 v133 v134 v135 v136 v137 v138 v139 v140 v141 v142 v143 v144 v145 v146 v147 v148 v149 v150 v151 v152 v153 v154 v155 v156 v157 v158 v159 v160 v161 v162 v163 v164 v165 v166 v167 v168 v169 v170 v171 v172 v173 v174 v175 v176 v177 v178 v179 v180 v181 v182 v183 v184 v185 v186 v187 v188 v189 v190 v191 v192 v193 v194 v195 v196 v197 v198 v199 v200 v201 v202 v203 v204 v205 v206 v207 v208 v209 v210 v211 v212 v213 v214 v215 v216 v217 v218 v219 v220 v221 v222 v223 v224 v225 : Value} (W0 w : World) (x p kb jb : Nat) (wv iv : Value) (f : Int) (vp vw vc : Value) (σ : Pst) (tp tg : Nat) (L : List Slo) (na ca nl cl : Nat) (aa la : Option Addr) (asl al : List Int) (hx : SgX (fun _ => False) W0 w x p kb jb wv iv f vp vw vc σ) (hp : PT 133 w tp tg L) (hs : Sml σ) (hv : Srv σ.K L) (ha : Sli eI 1 w (.slice aa na ca) asl) (hal : Sli e32 1 w (.slice la nl cl) al) (las : asl.length = na) (lal : al.length = nl) (hna : na ≤ 4611686018427387904) (hnl : nl ≤ 4611686018427387904) (ras : ∀ a ∈ asl, -9223372036854775808 ≤ a ∧ a ≤ 9223372036854775807) (ral : ∀ a ∈ al, (0 : Int) ≤ a ∧ a < 4294967296) (hpan : ∀ {c : List PanicEntry} {a : Act} {d : Option Tmp} {v : Value} {w : World}, Q (.panic c) (a.put d v) w → Q (.panic c) a w)
    (HQ : Hid (∀ {u12 u24 u25 u26 u27 u28 u29 u30 u31 u139 u140 u141 u142 u143 u144 u145 u146 u147 u148 u149 u150 u151 u152 u153 u154 u155 u156 u157 u158 u159 u160 u161 u162 u163 u164 u165 u166 u167 u168 u169 u170 u171 u172 u173 u174 u175 u176 u177 u178 u179 u180 u181 u182 u183 u184 u185 u186 u187 u188 u189 u190 u191 u192 u193 u194 u195 u196 u197 u198 u199 u200 u201 u202 u203 u204 u205 u206 u207 u208 u209 u210 u211 u212 u213 u214 u215 u216 u217 u218 u219 u220 u221 u222 u223 u224 u225 : Value} {w' : World}, Below w.heap.size w w' → Q (.exit 4) ⟨(v0 :: v1 :: v2 :: v3 :: (.slice aa na ca) :: v5 :: v6 :: v7 :: v8 :: v9 :: v10 :: v11 :: u12 :: (.pointer (some ⟨x, 0, none⟩)) :: v14 :: (.pointer (some ⟨tp, 0, none⟩)) :: v16 :: v17 :: v18 :: v19 :: v20 :: v21 :: (.slice la nl cl) :: v23 :: u24 :: u25 :: u26 :: u27 :: u28 :: u29 :: u30 :: u31 :: v32 :: v33 :: v34 :: v35 :: v36 :: v37 :: v38 :: v39 :: v40 :: v41 :: v42 :: v43 :: v44 :: v45 :: v46 :: v47 :: v48 :: v49 :: v50 :: v51 :: v52 :: v53 :: v54 :: v55 :: v56 :: v57 :: v58 :: v59 :: v60 :: v61 :: v62 :: v63 :: v64 :: v65 :: v66 :: v67 :: v68 :: v69 :: v70 :: v71 :: v72 :: v73 :: v74 :: v75 :: v76 :: v77 :: v78 :: v79 :: v80 :: v81 :: v82 :: v83 :: v84 :: v85 :: v86 :: v87 :: v88 :: v89 :: v90 :: v91 :: v92 :: v93 :: v94 :: v95 :: v96 :: v97 :: v98 :: v99 :: v100 :: v101 :: v102 :: v103 :: v104 :: v105 :: v106 :: v107 :: v108 :: v109 :: v110 :: v111 :: v112 :: v113 :: v114 :: v115 :: v116 :: v117 :: v118 :: v119 :: v120 :: v121 :: v122 :: v123 :: v124 :: v125 :: v126 :: v127 :: v128 :: v129 :: v130 :: v131 :: v132 :: v133 :: v134 :: v135 :: v136 :: v137 :: v138 :: u139 :: u140 :: u141 :: u142 :: u143 :: u144 :: u145 :: u146 :: u147 :: u148 :: u149 :: u150 :: u151 :: u152 :: u153 :: u154 :: u155 :: u156 :: u157 :: u158 :: u159 :: u160 :: u161 :: u162 :: u163 :: u164 :: u165 :: u166 :: u167 :: u168 :: u169 :: u170 :: u171 :: u172 :: u173 :: u174 :: u175 :: u176 :: u177 :: u178 :: u179 :: u180 :: u181 :: u182 :: u183 :: u184 :: u185 :: u186 :: u187 :: u188 :: u189 :: u190 :: u191 :: u192 :: u193 :: u194 :: u195 :: u196 :: u197 :: u198 :: u199 :: u200 :: u201 :: u202 :: u203 :: u204 :: u205 :: u206 :: u207 :: u208 :: u209 :: u210 :: u211 :: u212 :: u213 :: u214 :: u215 :: u216 :: u217 :: u218 :: u219 :: u220 :: u221 :: u222 :: u223 :: u224 :: u225 :: []).toArray, []⟩ w')) :
    (Code.loop (svU Tryz.f5)).wp Tryz.prog Q ⟨(v0 :: v1 :: v2 :: v3 :: (.slice aa na ca) :: v5 :: v6 :: v7 :: v8 :: v9 :: v10 :: v11 :: v12 :: (.pointer (some ⟨x, 0, none⟩)) :: v14 :: (.pointer (some ⟨tp, 0, none⟩)) :: v16 :: v17 :: v18 :: v19 :: v20 :: v21 :: (.slice la nl cl) :: v23 :: (.int .i64 0) :: v25 :: v26 :: v27 :: v28 :: v29 :: v30 :: v31 :: v32 :: v33 :: v34 :: v35 :: v36 :: v37 :: v38 :: v39 :: v40 :: v41 :: v42 :: v43 :: v44 :: v45 :: v46 :: v47 :: v48 :: v49 :: v50 :: v51 :: v52 :: v53 :: v54 :: v55 :: v56 :: v57 :: v58 :: v59 :: v60 :: v61 :: v62 :: v63 :: v64 :: v65 :: v66 :: v67 :: v68 :: v69 :: v70 :: v71 :: v72 :: v73 :: v74 :: v75 :: v76 :: v77 :: v78 :: v79 :: v80 :: v81 :: v82 :: v83 :: v84 :: v85 :: v86 :: v87 :: v88 :: v89 :: v90 :: v91 :: v92 :: v93 :: v94 :: v95 :: v96 :: v97 :: v98 :: v99 :: v100 :: v101 :: v102 :: v103 :: v104 :: v105 :: v106 :: v107 :: v108 :: v109 :: v110 :: v111 :: v112 :: v113 :: v114 :: v115 :: v116 :: v117 :: v118 :: v119 :: v120 :: v121 :: v122 :: v123 :: v124 :: v125 :: v126 :: v127 :: v128 :: v129 :: v130 :: v131 :: v132 :: v133 :: v134 :: v135 :: v136 :: v137 :: v138 :: v139 :: v140 :: v141 :: v142 :: v143 :: v144 :: v145 :: v146 :: v147 :: v148 :: v149 :: v150 :: v151 :: v152 :: v153 :: v154 :: v155 :: v156 :: v157 :: v158 :: v159 :: v160 :: v161 :: v162 :: v163 :: v164 :: v165 :: v166 :: v167 :: v168 :: v169 :: v170 :: v171 :: v172 :: v173 :: v174 :: v175 :: v176 :: v177 :: v178 :: v179 :: v180 :: v181 :: v182 :: v183 :: v184 :: v185 :: v186 :: v187 :: v188 :: v189 :: v190 :: v191 :: v192 :: v193 :: v194 :: v195 :: v196 :: v197 :: v198 :: v199 :: v200 :: v201 :: v202 :: v203 :: v204 :: v205 :: v206 :: v207 :: v208 :: v209 :: v210 :: v211 :: v212 :: v213 :: v214 :: v215 :: v216 :: v217 :: v218 :: v219 :: v220 :: v221 :: v222 :: v223 :: v224 :: v225 :: []).toArray, []⟩ w := by
  have HX := hidW hx
  have HP := hidW hp
  have HS := hidW hs
  have HV := hidW hv
  have HA := hidW ha
  have HAl := hidW hal
  have HRs := hidW ras
  have HRl := hidW ral
  have HLa := hidW las
  have HLl := hidW lal
  clear hx hp hs hv ha hal ras ral las lal
  conv => arg 2; arg 1; whnf
  go_loopw [24] (fun i wr => ∃ k : Nat, k ≤ na ∧ i = .int .i64 k ∧ Hid (Below w.heap.size w wr)) (fun i _ => na - (intOf i).toNat)
  case atStart => exact ⟨0, Nat.zero_le _, rfl, Below.refl _ _⟩
  case round =>
    obtain ⟨k, hk, rfl, HK⟩ := hrel
    by_cases hlt : k < na
    · obtain ⟨asid, hv⟩ : ∃ a, asl[k]? = some a := ⟨_, List.getElem?_eq_getElem (by rw [HLa.out]; omega)⟩
      have hra := HRs.out asid (List.mem_of_getElem? hv)
      obtain ⟨ab, ao, rfl, _, _⟩ := HA.out.one (Below.refl _ _) hv (c := .int .i64 asid) rfl
      have hcell : ∀ ww, Below w.heap.size w ww → ww.cell? ⟨ab, ao + k, none⟩ = some (.int .i64 asid) := fun ww hb => by
        obtain ⟨_, _, e1, _, d1⟩ := HA.out.one hb hv (c := .int .i64 asid) rfl
        cases e1
        exact d1
      have HCe := hidW hcell
      have hkz : (k : Int) < (na : Int) := by omega
      have HJu := hidW (fun ww (hb : Below wr.heap.size wr ww) => (HX.out.below (Below.step HK.out hb)).tk.judge asid hra)
      have hS1 : ∀ ww, Below wr.heap.size wr ww → ww.cell? ⟨x, 4, none⟩ = some (.pointer (some ⟨p, 0, none⟩)) ∧ ww.cell? ⟨ab, ao + k, none⟩ = some (.int .i64 asid) := fun ww hb => ⟨(HX.out.below (Below.step HK.out hb)).box.cell 4, hcell ww (Below.step HK.out hb)⟩
      have HRa := hidW hra
      have HGe := hidW (show ∀ c, σ.J asid = some c → jd σ.J asid = c ∧ c.Ok ∧ (σ.J asid).isSome = true from fun c hc => ⟨jd_some hc, (HS.out.ok.j asid c hc).2.2.1, by rw [hc]; rfl⟩)
      have HGn := hidW (show σ.J asid = none → (σ.J asid).isSome = false from fun hc => by rw [hc]; rfl)
      clear hv hra hcell
      generalize hcc : jd σ.J asid = c at *
      generalize hoo : (σ.J asid).isSome = ok at *
      clear hcc hoo
      go_wp2_with fail
      have HB1 := hidW (Below.refl wr.heap.size wr)
      have hs1 := HB1.out.size
      go_cut [25, 26] from 145 to 156 (fun s1 s2 wx => ∃ b1, s1 = .pointer (some ⟨b1, 0, none⟩) ∧ s2 = .bool ok ∧ Hid (Got1 wr wx b1 47 ([.bool c.on, .bool c.tre, .bool c.afe, .int .i64 c.n, .bool c.pd0, .bool c.pd1, .int .u64 c.b0, .int .u64 c.b1, .int .u32 c.dacr, .int .u32 c.prrr, .int .u32 c.nmrr, .int .i64 c.asid])))
      case first =>
        go_region_held3 (fun w' => w'.cell? ⟨x, 4, none⟩ = some (.pointer (some ⟨p, 0, none⟩)) ∧ w'.cell? ⟨ab, ao + k, none⟩ = some (.int .i64 asid)) (exact hS1 _ (by ((repeat (first | (with_reducible refine Below.setCell ?_ (by first | exact Nat.le_refl _ | (dsimp only; omega)) _) | (with_reducible refine Below.alloc ?_ (by first | omega | (simp; omega) | simp) _) | (with_reducible refine below_drew ?_))); (first | (with_reducible exact HB1.out) | (with_reducible exact Below.refl _ _))))) (first | (go_at_call 19; refine (HJu.out _ (by ((repeat (first | (with_reducible refine Below.setCell ?_ (by first | exact Nat.le_refl _ | (dsimp only; omega)) _) | (with_reducible refine Below.alloc ?_ (by first | omega | (simp; omega) | simp) _) | (with_reducible refine below_drew ?_))); (first | (with_reducible exact HB1.out) | (with_reducible exact Below.refl _ _))))).mono ?_; rintro e w9 ⟨rfl, hb⟩; (try (have hA : Bl w9 (wr.heap.size) 47 zC := (by first | (with_reducible exact Bl.below ((Bl.new wr 47 zC).drew) hb) | (with_reducible exact Bl.below (Bl.new wr 47 zC) hb)); have cA := hA.cell; have gA := hA.frozen; have lA := hA.lt)); have HB2 : Hid (Below wr.heap.size wr w9) := Below.step (by ((repeat (first | (with_reducible refine Below.setCell ?_ (by first | exact Nat.le_refl _ | (dsimp only; omega)) _) | (with_reducible refine Below.alloc ?_ (by first | omega | (simp; omega) | simp) _) | (with_reducible refine below_drew ?_))); (first | (with_reducible exact HB1.out) | (with_reducible exact Below.refl _ _)))) hb; have HB1 := HB2; have hs1 := HB1.out.size; clear hb))
        all_goals
          go_wp2_with fail
          go_meet
          first
            | (with_reducible exact ⟨_, rfl, rfl, hidW (gb1 HB1.out _ _)⟩)
            | (with_reducible exact ⟨_, rfl, rfl, hidW (gbC HB1.out _ _ (Nat.le_refl _) hA)⟩)
      case rest =>
        obtain ⟨bc, rfl, rfl, HG⟩ := hcut
        have HBc := hidW (Below.step HK.out HG.out.bel)
        have HBx := hidW HG.out.B
        clear HJu hS1 HG
        go_wp2_with fail
        cases hj : σ.J asid with
        | none =>
          have e := HGn.out hj
          subst e
          refine sv_inner0 wc x tp bc ab ao na ca nl cl k la hnl (hidW ?_)
          intros
          go_wp2
          go_roundw
          case rel => exact ⟨k + 1, by omega, by go_num, HBc.out⟩
          case measure => simp [intOf]; omega
        | some c' =>
          obtain ⟨e1, e2, e3⟩ := HGe.out c' hj
          subst e1 e3
          refine sv_inner wc x p tp bc ab ao na ca nl cl k la iv asid al c (stF σ.mem.mo σ.K σ.J asid) (fun va => lkF L va asid) (wk σ.mem.mo c) hlt hna hnl HLl.out (hidW (HAl.out.below HBc.out)) (hidW fun ww hb => ?_) (hidW fun va hva ww hb => ?_) (hidW fun va hva ww hb => ?_) (hidW fun va hva ww hb => ?_) (hidW fun va hva hst => ?_) (fun h => hpan h) (hidW ?_)
          · have hb1 := Below.step HBc.out hb
            have h1 := HX.out.below hb1
            have h2 := HBx.out.below hb
            exact ⟨h1.box.cell 4, h1.box.cell 5, HCe.out ww hb1, h2.cell 0, h2.cell 1, h2.cell 2, h2.cell 3, h2.cell 4, h2.cell 5, h2.cell 6, h2.cell 7, h2.cell 8, h2.cell 9, h2.cell 10, h2.cell 11⟩
          · exact (HX.out.below (Below.step HBc.out hb)).tk.stale asid va HRa.out (HRl.out va hva)
          · exact look_any ww tp tg L va asid (HP.out.below (Below.step HBc.out hb)) (HX.out.below (Below.step HBc.out hb)).ts.r.tb (HRl.out va hva)
          · obtain ⟨S, m1, m2⟩ := (HX.out.below (Below.step HBc.out hb)).mem
            exact walk_pure c va ww m1.mem (HX.out.below (Below.step HBc.out hb)).ts.tw e2 (HRl.out va hva)
          · have h3 := HV.out.look (J := σ.J) HS.out.ok.ok (Mst.mok HS.out.mok) e2 hj (HRl.out va hva) hst
            refine ⟨h3.1, fun h => ?_⟩
            have h4 := h3.2 h
            rw [h4]
            exact ⟨rfl, rfl⟩
          · intros
            rename_i w2 hb2
            go_wp2
            go_roundw
            case rel => exact ⟨k + 1, by omega, by go_num, Below.step HBc.out hb2⟩
            case measure => simp [intOf]; omega
    · obtain rfl : k = na := by omega
      go_wp2
      exact HQ.out HK.out
end Go.Proofs.YtnjlajjjcmhfgaaGreatDoor
