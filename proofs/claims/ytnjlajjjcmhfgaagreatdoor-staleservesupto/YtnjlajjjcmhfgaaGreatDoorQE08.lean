import Derived.Test.YtnjlajjjcmhfgaaGreatDoorQE05
import Derived.Test.YtnjlajjjcmhfgaaGreatDoorQE06
import Derived.Test.YtnjlajjjcmhfgaaGreatDoorQE07
namespace Go.Proofs.YtnjlajjjcmhfgaaGreatDoor
open Go.RowKit
open Mm (Turn gr RM valV errV Byts setV RowAt)
set_option linter.unusedVariables false
set_option linter.unusedSimpArgs false
attribute [local go_sem] Oper.semAt_some
def svR (f : Func) : Code := sq2 (sq2 (sq2 (sq2 (sq2 (f.body.getD .skip)))))
set_option maxRecDepth 1000000 in
set_option maxHeartbeats 16000000 in
theorem sv_rest {Q : Exit → Act → World → Prop} {v0 v1 v2 v6 v7 v8 v9 v10 v11 v12 v15 v16 v17 v18 v19 v20 v21 v22 v23 v24 v25 v26 v27 v28 v29 v30 v31 v32 v33 v34 v35 v36 v37 v38 v39 v40 v41 v42 v43 v44 v45 v46 v47 v48 v49 v50 v51 v52 v53 v54 v55 v56 v57 v58 v59 v60 v61 v62 v63 v64 v65 v66 v67 v68 v69 v70 v71 v72 v73 v74 v75 v76 v77 v78 v79 v80 v81 v82 v83 v84 v85 v86 v87 v88 v89 v90 v91 v92 v93 v94 v95 v96 v97 v98 v99 v100 v101 v102 v103 v104 v105 v106 v107 v108 v109 v110 v111 v112 v113 v114 v115 v116 v117 v118 v119 v120 v121 v122 v123 v124 v125 v126 v127 v128 v129 v130 v131 v132 v133 v134 v135 v136 v137 v138 v139 v140 v141 v142 v143 v144 v145 v146 v147 v148 v149 v150 v151 v152 v153 v154 v155 v156 v157 v158 v159 v160 v161 v162 v163 v164 v165 v166 v167 v168 v169 v170 v171 v172 v173 v174 v175 v176 v177 v178 v179 v180 v181 v182 v183 v184 v185 v186 v187 v188 v189 v190 v191 v192 v193 v194 v195 v196 v197 v198 v199 v200 v201 v202 v203 v204 v205 v206 v207 v208 v209 v210 v211 v212 v213 v214 v215 v216 v217 v218 v219 v220 v221 v222 v223 v224 v225 : Value} (W : World) (W0 w : World) (x p kb jb : Nat) (wv iv : Value) (f : Int) (vp vw vc : Value) (σ : Pst) (n np cp na ca nv cv : Nat) (pa aa va : Option Addr) (ps asl vas : List Int) (hx : SgX (fun _ => False) W0 w x p kb jb wv iv f vp vw vc σ) (hs : Sml σ) (hpi : Sli eI 1 w (.slice pa np cp) ps) (ha : Sli eI 1 w (.slice aa na ca) asl) (hva : Sli e32 1 w (.slice va nv cv) vas) (lps : ps.length = np) (las : asl.length = na) (lva : vas.length = nv) (hnp : np ≤ 4611686018427387904) (hna : na ≤ 4611686018427387904) (hnv : (nv + 2 * σ.K.length) * 4 ≤ 140737488355328) (rps : ∀ a ∈ ps, -9223372036854775808 ≤ a ∧ a ≤ 9223372036854775807) (ras : ∀ a ∈ asl, -9223372036854775808 ≤ a ∧ a ≤ 9223372036854775807) (rva : ∀ a ∈ vas, (0 : Int) ≤ a ∧ a < 4294967296) (hn : 1 ≤ n ∧ n ≤ 64) (hb : Below W.heap.size W W0) (hq : Q = (bodyPost Tryz.prog Tryz.f5 fun e w' => e = .returned (.bool true) ∧ Below W.heap.size W w')) :
    (svR Tryz.f5).wp Tryz.prog Q ⟨(v0 :: v1 :: v2 :: (.slice pa np cp) :: (.slice aa na ca) :: (.slice va nv cv) :: v6 :: v7 :: v8 :: v9 :: v10 :: v11 :: v12 :: (.pointer (some ⟨x, 0, none⟩)) :: (.int .i64 (n : Int)) :: v15 :: v16 :: v17 :: v18 :: v19 :: v20 :: v21 :: v22 :: v23 :: v24 :: v25 :: v26 :: v27 :: v28 :: v29 :: v30 :: v31 :: v32 :: v33 :: v34 :: v35 :: v36 :: v37 :: v38 :: v39 :: v40 :: v41 :: v42 :: v43 :: v44 :: v45 :: v46 :: v47 :: v48 :: v49 :: v50 :: v51 :: v52 :: v53 :: v54 :: v55 :: v56 :: v57 :: v58 :: v59 :: v60 :: v61 :: v62 :: v63 :: v64 :: v65 :: v66 :: v67 :: v68 :: v69 :: v70 :: v71 :: v72 :: v73 :: v74 :: v75 :: v76 :: v77 :: v78 :: v79 :: v80 :: v81 :: v82 :: v83 :: v84 :: v85 :: v86 :: v87 :: v88 :: v89 :: v90 :: v91 :: v92 :: v93 :: v94 :: v95 :: v96 :: v97 :: v98 :: v99 :: v100 :: v101 :: v102 :: v103 :: v104 :: v105 :: v106 :: v107 :: v108 :: v109 :: v110 :: v111 :: v112 :: v113 :: v114 :: v115 :: v116 :: v117 :: v118 :: v119 :: v120 :: v121 :: v122 :: v123 :: v124 :: v125 :: v126 :: v127 :: v128 :: v129 :: v130 :: v131 :: v132 :: v133 :: v134 :: v135 :: v136 :: v137 :: v138 :: v139 :: v140 :: v141 :: v142 :: v143 :: v144 :: v145 :: v146 :: v147 :: v148 :: v149 :: v150 :: v151 :: v152 :: v153 :: v154 :: v155 :: v156 :: v157 :: v158 :: v159 :: v160 :: v161 :: v162 :: v163 :: v164 :: v165 :: v166 :: v167 :: v168 :: v169 :: v170 :: v171 :: v172 :: v173 :: v174 :: v175 :: v176 :: v177 :: v178 :: v179 :: v180 :: v181 :: v182 :: v183 :: v184 :: v185 :: v186 :: v187 :: v188 :: v189 :: v190 :: v191 :: v192 :: v193 :: v194 :: v195 :: v196 :: v197 :: v198 :: v199 :: v200 :: v201 :: v202 :: v203 :: v204 :: v205 :: v206 :: v207 :: v208 :: v209 :: v210 :: v211 :: v212 :: v213 :: v214 :: v215 :: v216 :: v217 :: v218 :: v219 :: v220 :: v221 :: v222 :: v223 :: v224 :: v225 :: []).toArray, []⟩ w := by
  have HX := hidW hx
  have HS := hidW hs
  have HPi := hidW hpi
  have HA := hidW ha
  have HVa := hidW hva
  have HB := hidW hb
  have HLp := hidW lps
  have HLa := hidW las
  have HLv := hidW lva
  have HRp := hidW rps
  have HRa := hidW ras
  have HRv := hidW rva
  have HLen := hidW hnv
  have HN := hidW (fun w => no_any 0 w)
  have HNe := hidW (new_yes n w hn.1 hn.2)
  clear hx hs hpi ha hva hb lps las lva rps ras rva hnv
  subst hq
  conv => arg 2; whnf
  go_wp2_with fail
  go_at_call 27
  refine HNe.out.mono ?_
  rintro e w1 ⟨rfl, g1, g2⟩
  have HP1 := hidW g1
  have HB1 := hidW g2
  have HX1 := hidW (HX.out.below g2)
  have c4 := HX1.out.box.cell 4
  simp only [List.getElem?_cons_succ, List.getElem?_cons_zero] at c4
  have HKn := hidW (HX1.out.tk.known HS.out.known)
  clear g1 g2 HNe
  go_wp2_with (first
    | (go_at_call 21; refine (HN.out _).mono ?_; rintro e w2 ⟨rfl, rfl⟩))
  go_at_call 20
  refine HKn.out.mono ?_
  rintro e w3 ⟨v, rfl, hL, hb3⟩
  obtain ⟨ka, ck, rfl⟩ := hL.form
  have hz : w.heap.size < w1.heap.size := HP1.out.row.lt
  have HL3 := hidW hL
  have HB3 := hidW (Below.step HB1.out hb3)
  have HP3 := hidW (HP1.out.below hb3)
  have HTB : Hid (∀ ww, Turn (· = w.heap.size) w3 ww → Below w.heap.size w ww) := fun ww hT => HB3.out.trans (hT.to (fun b hb => by rw [hb]; exact Nat.le_refl _) HB3.out.size)
  have hnk : σ.K.length ≤ 4611686018427387904 := by have := HS.out.known; omega
  clear hL hb3 HKn HP1 c4
  generalize hk0 : σ.K.length = nk at *
  have HLk := hidW hk0
  clear hk0
  go_wp2_with fail
  refine sv_picks w3 (w.heap.size + 1) w.heap.size n np cp nk ck pa ka ps σ.K (List.replicate n sZ) HP3.out (Srv.zeros _ _) HS.out.ok.ok (hidW fun ww hT => (HX.out.below (HTB.out ww hT)).ts.r) (hidW fun ww hT => HPi.out.below (HTB.out ww hT)) (hidW fun ww hT => ?_) HLp.out HLk.out hnp hnk HRp.out hn (fun {_ _ d _ _} h => by cases d <;> exact h) (hidW ?_)
  · have := Sli.of (k := 9) (fun _ => rfl) (HL3.out.turn hT (fun g hg => by rw [hg]; exact hz))
    exact this
  intros
  rename_i w5 L5 hP5 hV5 hT5
  have HB5 := hidW (HTB.out _ hT5)
  have HP5 := hidW hP5
  have HV5 := hidW hV5
  have HK5 : Hid (Sli encB 9 w5 (.slice ka nk ck) σ.K) := by
    have := Sli.of (k := 9) (fun _ => rfl) (HL3.out.turn hT5 (fun g hg => by rw [hg]; exact hz))
    exact this
  have hbn : Below w5.heap.size w5 (w5.alloc (.cells #[] 32)) := below_new _ _
  obtain ⟨v', w6, hr, ho, hT6, _⟩ := appW (w5.alloc (.cells #[] 32)) w5.heap.size (.slice (some ⟨w5.heap.size, 0, none⟩) 0 0) (.slice va nv cv) [] vas nv (World.ownsRow_lit w5 #[] 0 (Nat.le_refl _) (Nat.zero_le _) (by simp)) (by have := ((HVa.out.below HB5.out).below hbn).src; rw [HLv.out] at this; exact this) HLv.out (by simp) (by simp only [List.length_nil, Nat.zero_add]; have := HLen.out; omega)
  have HB6 : Hid (Below w5.heap.size w5 w6) := hbn.trans (hT6.to (fun b hb => by cases hb; exact Nat.le_refl _) (by simp))
  have HO6 : Hid (w6.ownsRow w5.heap.size 32 1 v' vas.length (encW vas)) := hidW (by simpa using ho)
  clear hP5 hV5 hT5 hbn ho hT6 HL3 HTB HP3 HB3
  go_wp2_with (at_builtin; refine Lib.wpList_append_run _ rfl _ _ 23 23 rfl _ _ rfl rfl _ _ (hr _) ?_; clear hr)
  refine sv_all w5 w6 nk ck ka v' σ.K vas HS.out.ok.ok HB6.out HK5.out HLk.out HO6.out (by rw [HLv.out]; exact HLen.out) (fun {_ _ d _ _} h => by cases d <;> exact h) (hidW ?_)
  intros
  rename_i v7 w7 hB7 hO7
  have hS7 := own_sli hO7
  obtain ⟨la, cl, rfl⟩ := hS7.form
  have HB7 := hidW (Below.step HB5.out hB7)
  have HP7 := hidW (HP5.out.below hB7)
  have HS7 := hidW hS7
  have HLl : Hid ((vas ++ endL σ.K).length = nv + 2 * nk) := by show _ = _; rw [List.length_append, endL_len, HLv.out, HLk.out]
  have HRl : Hid (∀ a ∈ vas ++ endL σ.K, (0 : Int) ≤ a ∧ a < 4294967296) := fun a ha => by
    rcases List.mem_append.1 ha with h | h
    · exact HRv.out a h
    · exact endL_rng HS.out.ok.ok a h
  clear hB7 hO7 hS7 HO6 HB6 HK5 HP5
  rw [HLl.out] at HS7
  have hnl : nv + 2 * nk ≤ 4611686018427387904 := by have := HLen.out; omega
  rw [HLl.out]
  generalize nv + 2 * nk = nl at *
  go_wp2_with fail
  refine sv_outer W0 w7 x p kb jb wv iv f vp vw vc σ (w.heap.size + 1) w.heap.size L5 na ca nl cl aa la asl (vas ++ endL σ.K) (HX.out.below HB7.out) HP7.out HS.out HV5.out (HA.out.below HB7.out) HS7.out HLa.out HLl.out hna hnl HRa.out HRl.out (fun {_ _ d _ _} h => by cases d <;> exact h) (hidW ?_)
  intros
  rename_i w8 hB8
  have HB8 := hidW (Below.step HB.out (HX.out.below (Below.step HB7.out hB8)).bel)
  clear hB8
  go_wp2
  go_ret
  exact ⟨rfl, HB8.out⟩
set_option maxRecDepth 1000000 in
set_option maxHeartbeats 16000000 in
theorem law_serves (W : World) (hT : TS W) (f : Int) (vp vw vc : Value) (pas ws : List Int) (cs : List Ctx) (hs : Scn W vp vw vc pas ws cs) (vs : Value) (ops : List Oq) (hv : Sli encQ 9 W vs ops) (ho : ∀ o ∈ ops, o.Ok) (pl : Int) (hpl : -9223372036854775808 ≤ pl ∧ pl ≤ 9223372036854775807) (v3 v4 v5 : Value) (ps asl vas : List Int) (hps : Sli eI 1 W v3 ps) (has : Sli eI 1 W v4 asl) (hvas : Sli e32 1 W v5 vas) (rps : ∀ a ∈ ps, -9223372036854775808 ≤ a ∧ a ≤ 9223372036854775807) (ras : ∀ a ∈ asl, -9223372036854775808 ≤ a ∧ a ≤ 9223372036854775807) (rva : ∀ a ∈ vas, (0 : Int) ≤ a ∧ a < 4294967296) (hbk : pas.length + 11 * ops.length ≤ 1048576) (hb1 : ps.length ≤ 1048576) (hb2 : asl.length ≤ 1048576) (hb3 : vas.length ≤ 1048576) :
    Calls Tryz.prog 5 #[.agg #[.int .i64 f, vp, vw, vc], vs, .int .i64 pl, v3, v4, v5] W fun e w' => e = .returned (.bool true) ∧ Below W.heap.size W w' := by
  have hsm := hs.small f ho hbk
  have hcl : ((Pst.first f (pas.zip ws)).run cs ops).K.length * 56 ≤ 140737488355328 := hsm.known
  have HS := hidW hsm
  have HCl := hidW hcl
  have hb0 : Below W.heap.size W (W.alloc (.cells #[.int .i64 f, vp, vw, vc] 26)) := below_new _ _
  have HSt := hidW (stage_any _ (hT.below hb0) f vp vw vc pas ws cs (hs.below hb0) vs ops (hv.below hb0) ho (by omega))
  have HB0 := hidW hb0
  have HP := hidW hps
  have HA := hidW has
  have HV := hidW hvas
  have HR1 := hidW rps
  have HR2 := hidW ras
  have HR3 := hidW rva
  have hq := places_rng pl hpl
  obtain ⟨ap, cp, rfl⟩ := hs.p.form
  obtain ⟨aw, cw, rfl⟩ := hs.w.form
  obtain ⟨ac, cc, rfl⟩ := hs.c.form
  obtain ⟨av, cv, rfl⟩ := hv.form
  obtain ⟨a3, c3, rfl⟩ := hps.form
  obtain ⟨a4, c4, rfl⟩ := has.form
  obtain ⟨a5, c5, rfl⟩ := hvas.form
  clear hT hs hv ho hb0 hbk hps has hvas rps ras rva hsm hcl
  generalize (Pst.first f (pas.zip ws)).run cs ops = σ at *
  generalize hqq : pl.tmod 16 = q at *
  have hw1 : IntKind.i64.wrap (1 + q) = 1 + q := by rw [IntKind.wrap_i64]; omega
  go_enter Tryz.func5, Tryz.ntmps5
  refine wp_cut 5 _ (svR Tryz.f5) (by kernel_rfl) (fun C hC => ?_)
  have HC := hidW hC
  clear hC
  simp only [putTail]
  go_wp2_with fail
  generalize W.alloc (.cells #[.int .i64 f, .slice ap pas.length cp, .slice aw ws.length cw, .slice ac cs.length cc] 26) = W0 at *
  go_at_call 9
  refine HSt.out.mono ?_
  rintro e w1 ⟨x, p, kb, jb, wv, iv, rfl, hx⟩
  have HX := hidW hx
  have HLv := hidW (live_any w1 hx.ts)
  clear hx HSt
  by_cases hneg : 1 + q < 1
  · obtain ⟨n, hn⟩ : ∃ n : Nat, (n : Int) = 2 - (1 + q) := ⟨(2 - (1 + q)).toNat, by omega⟩
    have hw2 : IntKind.i64.wrap (2 - (1 + q)) = 2 - (1 + q) := by rw [IntKind.wrap_i64]; omega
    go_wp2_with (first
      | (go_at_call 10; refine HLv.out.mono ?_; rintro e w2 ⟨rfl, gl⟩; have HX2 := hidW (HX.out.below gl); clear gl))
    refine HC.out _ _ ?_
    rw [← hn]
    exact sv_rest W W0 _ x p kb jb wv iv f _ _ _ σ n _ c3 _ c4 _ c5 a3 a4 a5 ps asl vas HX2.out HS.out (HP.out.below (Below.step HB0.out HX2.out.bel)) (HA.out.below (Below.step HB0.out HX2.out.bel)) (HV.out.below (Below.step HB0.out HX2.out.bel)) rfl rfl rfl (by omega) (by omega) (by have := HCl.out; omega) HR1.out HR2.out HR3.out (by omega) HB0.out rfl
  · obtain ⟨n, hn⟩ : ∃ n : Nat, (n : Int) = 1 + q := ⟨(1 + q).toNat, by omega⟩
    go_wp2_with (first
      | (go_at_call 10; refine HLv.out.mono ?_; rintro e w2 ⟨rfl, gl⟩; have HX2 := hidW (HX.out.below gl); clear gl))
    refine HC.out _ _ ?_
    rw [← hn]
    exact sv_rest W W0 _ x p kb jb wv iv f _ _ _ σ n _ c3 _ c4 _ c5 a3 a4 a5 ps asl vas HX2.out HS.out (HP.out.below (Below.step HB0.out HX2.out.bel)) (HA.out.below (Below.step HB0.out HX2.out.bel)) (HV.out.below (Below.step HB0.out HX2.out.bel)) rfl rfl rfl (by omega) (by omega) (by have := HCl.out; omega) HR1.out HR2.out HR3.out (by omega) HB0.out rfl
end Go.Proofs.YtnjlajjjcmhfgaaGreatDoor
