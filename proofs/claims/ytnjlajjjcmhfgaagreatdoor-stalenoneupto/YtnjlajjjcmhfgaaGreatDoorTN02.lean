import Derived.Test.YtnjlajjjcmhfgaaGreatDoorTN01
namespace Go.Proofs.YtnjlajjjcmhfgaaGreatDoor
open Go.RowKit
open List (setIfInBounds_toArray set_cons_zero set_cons_succ)
open Mm (Turn gr RM valV errV Byts setV RowAt)
set_option linter.unusedVariables false
set_option linter.unusedSimpArgs false
attribute [local go_sem] Oper.semAt_some
def noD (f:Func):Code:=lpC (blkC (sq2 (sq1 (sq2 (blkC (sq1 (sq2 (lpC (blkC (sq2 (sq1 (sq2 (sq2 (sq2 (sq2 (f.body.getD .skip))))))))))))))))
set_option maxRecDepth 1000000 in
set_option maxHeartbeats 16000000 in
theorem no_dirts {Q:Exit→Act→World→Prop} {v0 v1 v2 v3 v4 v5 v10 v11 v12 v13 v14 v15 v16 v17 v18 v19 v20 v21 v22 v23 v24 v25 v26 v27 v28 v29 v30 v31 v32 v33 v34 v35 v36 v37 v38 v39 v40 v41 v42 v43 v44 v45 v46 v47 v48 v49 v50 v51 v52 v53 v54 v55 v56 v57 v58 v59 v60 v61 v62 v63 v64 v65 v66 v67 v68 v69 v70 v71 v72 v73 v74 v75 v76 v77 v78 v79 v80 v81 v82 v83 v84 v85 v86 v87 v88 v89 v90 v91 v92 v93 v94 v95 v96 v97 v98 v99 v100 v101 v102 v103 v104 v105 v106 v107 v108 v109 v110 v111 v112 v113 v114 v115 v116 v117 v118 v119 v120 v121 v122 v123 v124 v125 v126 v127 v128 v129 v130 v131 v132 v133 v134 v135 v136 v137 v138 v139 v140 v141 v142 v143 v144 v145 v146 v147 v148 v149 v150 v151 v152 v153 v154 v155 v156 v157 v158 v159 v160 v161 v162 v163 v164 v165 v166 v167 v168 v169 v170 v171 v172 v173 v174 v175 v176 v177 v178 v179 v180 v181 v182 v183 v184 v185 v186 v187 v188 v189 v190 v191 v192 v193 v194 v195 v196 v197 v198 v199 v200 v201 v202 v203 v204 v205 v206 v207 v208 v209 v210 v211 v212 v213 v214 v215 v216 v217 v218 v219 v220 v221 v222 v223 v224 v225 v226 v227 v228 v229 v230 v231 v232 v233 v234 v235 v236 v237 v238 v239 v240 v241 v242 v243 v244 v245 v246 v247 v248 v249 v250 v251 v252 v253 v254 v255 v256 v257 v258 v259 v260 v261 v262 v263 v264 v265 v266 v267 v268 v269 v270 v271 v272 v273 v274 v275 v276 v277 v278 v279 v280 v281 v282:Value} (w:World) (da la:Option Addr) (nd cd nl cl:Nat) (a:Int) (L:List Dir) (R:List Rm) (hd:L.length=nd) (hl:R.length=nl) (hnd:nd≤4611686018427387904) (hnl:nl≤4611686018427387904) (HD:Hid (Sli encD 10 w (.slice da nd cd) L)) (HS:Hid (Sli Bs.encR 2 w (.slice la nl cl) R)) (HA:Hid (∀o∈L,o.asid=a→KOk o.b∧R.any (mtF (o.b.t.va / 4096) (o.b.t.va / 4096+byN o.b.t.size / 4096-1))=true∧ovF o.b o.b.t.va a=true)) (HT:Hid (TR w)) (hpan:∀ {c:List PanicEntry} {a:Act} {d:Option Tmp} {v:Value} {w:World},Q (.panic c) (a.put d v) w→Q (.panic c) a w)
    (HQ:Hid (∀ {u4 u9 u10 u11 u12 u13 u47 u48 u49 u50 u51 u52 u53 u54 u55 u56 u57 u58 u59 u60 u61 u62 u63 u64 u65 u66 u67 u68 u69 u70 u71 u72 u73 u74 u75 u76 u77 u78 u79 u80 u81 u82 u83 u84 u85 u86 u87 u88 u89 u90 u91 u92 u93 u94 u95 u96 u97 u98 u99 u100 u101 u102 u103 u104 u105 u106 u107 u108 u109 u110 u111 u112 u113 u114 u115 u116 u117 u118 u119 u120 u121 u122:Value} {w':World},Below w.heap.size w w'→Q (.exit 2) ⟨(v0::v1::v2::v3::u4::v5::(.slice da nd cd)::(.int .i64 a)::(.slice la nl cl)::u9::u10::u11::u12::u13::v14::v15::v16::v17::v18::v19::v20::v21::v22::v23::v24::v25::v26::v27::v28::v29::v30::v31::v32::v33::v34::v35::v36::v37::v38::v39::v40::v41::v42::v43::v44::v45::v46::u47::u48::u49::u50::u51::u52::u53::u54::u55::u56::u57::u58::u59::u60::u61::u62::u63::u64::u65::u66::u67::u68::u69::u70::u71::u72::u73::u74::u75::u76::u77::u78::u79::u80::u81::u82::u83::u84::u85::u86::u87::u88::u89::u90::u91::u92::u93::u94::u95::u96::u97::u98::u99::u100::u101::u102::u103::u104::u105::u106::u107::u108::u109::u110::u111::u112::u113::u114::u115::u116::u117::u118::u119::u120::u121::u122::v123::v124::v125::v126::v127::v128::v129::v130::v131::v132::v133::v134::v135::v136::v137::v138::v139::v140::v141::v142::v143::v144::v145::v146::v147::v148::v149::v150::v151::v152::v153::v154::v155::v156::v157::v158::v159::v160::v161::v162::v163::v164::v165::v166::v167::v168::v169::v170::v171::v172::v173::v174::v175::v176::v177::v178::v179::v180::v181::v182::v183::v184::v185::v186::v187::v188::v189::v190::v191::v192::v193::v194::v195::v196::v197::v198::v199::v200::v201::v202::v203::v204::v205::v206::v207::v208::v209::v210::v211::v212::v213::v214::v215::v216::v217::v218::v219::v220::v221::v222::v223::v224::v225::v226::v227::v228::v229::v230::v231::v232::v233::v234::v235::v236::v237::v238::v239::v240::v241::v242::v243::v244::v245::v246::v247::v248::v249::v250::v251::v252::v253::v254::v255::v256::v257::v258::v259::v260::v261::v262::v263::v264::v265::v266::v267::v268::v269::v270::v271::v272::v273::v274::v275::v276::v277::v278::v279::v280::v281::v282::[]).toArray,[]⟩ w')) :
    (Code.loop (noD Tryz.f6)).wp Tryz.prog Q ⟨(v0::v1::v2::v3::v4::v5::(.slice da nd cd)::(.int .i64 a)::(.slice la nl cl)::(.int .i64 0)::v10::v11::v12::v13::v14::v15::v16::v17::v18::v19::v20::v21::v22::v23::v24::v25::v26::v27::v28::v29::v30::v31::v32::v33::v34::v35::v36::v37::v38::v39::v40::v41::v42::v43::v44::v45::v46::v47::v48::v49::v50::v51::v52::v53::v54::v55::v56::v57::v58::v59::v60::v61::v62::v63::v64::v65::v66::v67::v68::v69::v70::v71::v72::v73::v74::v75::v76::v77::v78::v79::v80::v81::v82::v83::v84::v85::v86::v87::v88::v89::v90::v91::v92::v93::v94::v95::v96::v97::v98::v99::v100::v101::v102::v103::v104::v105::v106::v107::v108::v109::v110::v111::v112::v113::v114::v115::v116::v117::v118::v119::v120::v121::v122::v123::v124::v125::v126::v127::v128::v129::v130::v131::v132::v133::v134::v135::v136::v137::v138::v139::v140::v141::v142::v143::v144::v145::v146::v147::v148::v149::v150::v151::v152::v153::v154::v155::v156::v157::v158::v159::v160::v161::v162::v163::v164::v165::v166::v167::v168::v169::v170::v171::v172::v173::v174::v175::v176::v177::v178::v179::v180::v181::v182::v183::v184::v185::v186::v187::v188::v189::v190::v191::v192::v193::v194::v195::v196::v197::v198::v199::v200::v201::v202::v203::v204::v205::v206::v207::v208::v209::v210::v211::v212::v213::v214::v215::v216::v217::v218::v219::v220::v221::v222::v223::v224::v225::v226::v227::v228::v229::v230::v231::v232::v233::v234::v235::v236::v237::v238::v239::v240::v241::v242::v243::v244::v245::v246::v247::v248::v249::v250::v251::v252::v253::v254::v255::v256::v257::v258::v259::v260::v261::v262::v263::v264::v265::v266::v267::v268::v269::v270::v271::v272::v273::v274::v275::v276::v277::v278::v279::v280::v281::v282::[]).toArray,[]⟩ w:=by
  have HLN:=hidW hd
  have HLR:=hidW hl
  clear hd hl
  conv=>arg 2; arg 1; whnf
  go_loopw [9] (fun i wr=>∃k:Nat,k≤nd∧i= .int .i64 k∧Hid (Below w.heap.size w wr)) (fun i _=>nd-(intOf i).toNat)
  case atStart=>exact ⟨0,Nat.zero_le _,rfl,Below.refl _ _⟩
  case round =>
    obtain ⟨k,hk,rfl,HK⟩:=hrel
    by_cases hlt:k<nd
    · obtain ⟨o,hq⟩:∃o,L[k]? =some o:=⟨_,List.getElem?_eq_getElem (by rw [HLN.out]; omega)⟩
      have hAo:=HA.out o (List.mem_of_getElem? hq)
      obtain ⟨b1,o1,rfl,_,_⟩:=HD.out.dir (Below.refl _ _) hq
      have HH:Hid (∀ww,Below w.heap.size w ww→ww.cell? ⟨b1,o1+k*10,none⟩=some (.int .i64 o.asid)∧ww.cell? ⟨b1,o1+k*10+1,none⟩=some (.int .i64 o.b.asid)∧ww.cell? ⟨b1,o1+k*10+2,none⟩=some (.int .i64 o.b.t.size)∧ww.cell? ⟨b1,o1+k*10+3,none⟩=some (.int .u32 o.b.t.va)∧ww.cell? ⟨b1,o1+k*10+4,none⟩=some (.int .u64 o.b.t.pa)∧ww.cell? ⟨b1,o1+k*10+5,none⟩=some (.int .i64 o.b.t.dom)∧ww.cell? ⟨b1,o1+k*10+6,none⟩=some (.int .i64 o.b.t.ap)∧ww.cell? ⟨b1,o1+k*10+7,none⟩=some (.int .u32 o.b.t.bits)∧ww.cell? ⟨b1,o1+k*10+8,none⟩=some (.bool o.b.t.ng)∧ww.cell? ⟨b1,o1+k*10+9,none⟩=some (.bool o.b.t.xn)):=fun ww hb=>by
        obtain ⟨_,_,e1,_,h1⟩:=HD.out.dir hb hq
        cases e1
        exact h1
      have hkz:(k:Int)<(nd:Int):=by omega
      obtain ⟨x0,x1,x2,x3,x4,x5,x6,x7,x8,x9⟩:=HH.out wr HK.out
      clear hq
      by_cases ha:o.asid=a
      · obtain ⟨hko,hm,hov⟩:=hAo ha
        have hv:=hko.ok.va
        have hsz:1≤o.b.t.size∧o.b.t.size≤4:=by have:=hko.sz; omega
        have hby:4096≤byN o.b.t.size∧byN o.b.t.size≤16777216:=by rcases hko.sz with e|e|e|e <;>rw [e] <;>decide
        have HBy:=hidW (fun ww=>lbytes_any ww o.b hsz)
        have HOv:=hidW (fun ww (hb:Below w.heap.size w ww)=>over_any o.b o.b.t.va a ww (HT.out.below hb) hko.ok hv)
        rw [hov] at HOv
        have HM:=hidW hm
        have w1:IntKind.u64.wrap o.b.t.va=o.b.t.va:=by rw [IntKind.wrap_u64]; omega
        have td1:o.b.t.va.tdiv 4096=o.b.t.va / 4096:=Int.tdiv_eq_ediv_of_nonneg hv.1
        have w2:IntKind.u64.wrap (o.b.t.va / 4096)=o.b.t.va / 4096:=by rw [IntKind.wrap_u64]; omega
        have td2:(byN o.b.t.size).tdiv 4096=byN o.b.t.size / 4096:=Int.tdiv_eq_ediv_of_nonneg (by omega)
        have w3:IntKind.u64.wrap (byN o.b.t.size / 4096)=byN o.b.t.size / 4096:=by rw [IntKind.wrap_u64]; omega
        have w4:IntKind.u64.wrap (o.b.t.va / 4096+byN o.b.t.size / 4096)=o.b.t.va / 4096+byN o.b.t.size / 4096:=by rw [IntKind.wrap_u64]; omega
        have w5:IntKind.u64.wrap (o.b.t.va / 4096+byN o.b.t.size / 4096-1)=o.b.t.va / 4096+byN o.b.t.size / 4096-1:=by rw [IntKind.wrap_u64]; omega
        clear hAo hko hm hov hv hsz hby
        subst ha
        go_wp2_with fail
        go_at_call 26
        refine (HBy.out _).mono ?_
        rintro e wa ⟨rfl,ga⟩
        have HBa:=hidW (Below.step HK.out ga)
        clear ga HBy x0 x1 x2 x3 x4 x5 x6 x7 x8 x9
        go_wp2_with fail
        refine no_met wa la nl cl _ _ R HLR.out hnl (hidW (HS.out.below HBa.out)) (hidW ?_)
        intros
        rw [HM.out]
        clear w1 w2 w3 w4 w5 td1 td2 HM
        have HBd:Hid (Below w.heap.size w wa.drew):=below_drew HBa.out
        have HJ:=hidW (HH.out _ HBd.out)
        go_wp2_with fail
        refine wp_region_held_drew (S:=fun ww=>ww.cell? ⟨b1,o1+k*10,none⟩=some (.int .i64 o.asid)∧ww.cell? ⟨b1,o1+k*10+1,none⟩=some (.int .i64 o.b.asid)∧ww.cell? ⟨b1,o1+k*10+2,none⟩=some (.int .i64 o.b.t.size)∧ww.cell? ⟨b1,o1+k*10+3,none⟩=some (.int .u32 o.b.t.va)∧ww.cell? ⟨b1,o1+k*10+4,none⟩=some (.int .u64 o.b.t.pa)∧ww.cell? ⟨b1,o1+k*10+5,none⟩=some (.int .i64 o.b.t.dom)∧ww.cell? ⟨b1,o1+k*10+6,none⟩=some (.int .i64 o.b.t.ap)∧ww.cell? ⟨b1,o1+k*10+7,none⟩=some (.int .u32 o.b.t.bits)∧ww.cell? ⟨b1,o1+k*10+8,none⟩=some (.bool o.b.t.ng)∧ww.cell? ⟨b1,o1+k*10+9,none⟩=some (.bool o.b.t.xn)) (by kernel_rfl) ?_ (fun hHeld=> ?_)
        · exact HJ.out
        refine wpAnyH_take (i:=0) (oi:=⟨some 104,.move (.tmp 12),4,_,#[],none⟩) (v:=?_) rfl (by kernel_rfl) (by kernel_rfl) (by kernel_rfl) (fun _ _ _ h=>hpan h) (Or.inl ⟨by rfl,?_⟩) (by assumption) ?_
        rotate_left
        · (intro w hSw; (try dsimp only at hSw); go_simp; try with_reducible rfl)
        simp only [Act.put,setIfInBounds_toArray,set_cons_zero,set_cons_succ]
        refine wpAnyH_take (i:=1) (oi:=⟨some 105,.unOp UnOp.not 4 (.tmp 104),4,_,#[⟨0,.data⟩],none⟩) (v:=?_) rfl (by kernel_rfl) (by kernel_rfl) (by kernel_rfl) (fun _ _ _ h=>hpan h) (Or.inl ⟨by rfl,?_⟩) (by assumption) ?_
        rotate_left
        · (intro w hSw; (try dsimp only at hSw); go_simp; try with_reducible rfl)
        simp only [Act.put,setIfInBounds_toArray,set_cons_zero,set_cons_succ]
        refine wpAnyH_take (i:=2) (oi:=⟨some 106,.move (.tmp 105),4,_,#[⟨1,.data⟩],none⟩) (v:=?_) rfl (by kernel_rfl) (by kernel_rfl) (by kernel_rfl) (fun _ _ _ h=>hpan h) (Or.inl ⟨by rfl,?_⟩) (by assumption) ?_
        rotate_left
        · (intro w hSw; (try dsimp only at hSw); go_simp; try with_reducible rfl)
        simp only [Act.put,setIfInBounds_toArray,set_cons_zero,set_cons_succ]
        refine wpAnyH_take (i:=3) (oi:=⟨some 107,.move (.tmp 6),48,_,#[⟨2,.guard⟩],some (2,false)⟩) (v:=?_) rfl (by kernel_rfl) (by kernel_rfl) (by kernel_rfl) (fun _ _ _ h=>hpan h) (Or.inl ⟨by rfl,?_⟩) (by assumption) ?_
        rotate_left
        · (intro w hSw; (try dsimp only at hSw); go_simp; try with_reducible rfl)
        simp only [Act.put,setIfInBounds_toArray,set_cons_zero,set_cons_succ]
        refine wpAnyH_take (i:=4) (oi:=⟨some 108,.move (.tmp 9),3,_,#[⟨2,.guard⟩],some (2,false)⟩) (v:=?_) rfl (by kernel_rfl) (by kernel_rfl) (by kernel_rfl) (fun _ _ _ h=>hpan h) (Or.inl ⟨by rfl,?_⟩) (by assumption) ?_
        rotate_left
        · (intro w hSw; (try dsimp only at hSw); go_simp; try with_reducible rfl)
        simp only [Act.put,setIfInBounds_toArray,set_cons_zero,set_cons_succ]
        refine wpAnyH_take (i:=5) (oi:=⟨some 109,.indexAddr 48 (.tmp 107) (.tmp 108),0,_,#[⟨3,.data⟩,⟨4,.data⟩,⟨2,.guard⟩],some (2,false)⟩) (v:=?_) rfl (by kernel_rfl) (by kernel_rfl) (by kernel_rfl) (fun _ _ _ h=>hpan h) (Or.inl ⟨by rfl,?_⟩) (by assumption) ?_
        rotate_left
        · (intro w hSw; (try dsimp only at hSw); go_simp; try with_reducible rfl)
        simp only [Act.put,setIfInBounds_toArray,set_cons_zero,set_cons_succ]
        refine wpAnyH_take (i:=6) (oi:=⟨some 110,.fieldAddr 74 (.tmp 109) 1,0,_,#[⟨5,.data⟩,⟨2,.guard⟩],some (2,false)⟩) (v:=?_) rfl (by kernel_rfl) (by kernel_rfl) (by kernel_rfl) (fun _ _ _ h=>hpan h) (Or.inl ⟨by rfl,?_⟩) (by assumption) ?_
        rotate_left
        · (intro w hSw; (try dsimp only at hSw); go_simp; try with_reducible rfl)
        simp only [Act.put,setIfInBounds_toArray,set_cons_zero,set_cons_succ]
        refine wpAnyH_take (i:=7) (oi:=⟨some 111,.load 45 (.tmp 110),45,_,#[⟨6,.data⟩,⟨2,.guard⟩],some (2,false)⟩) (v:=?_) rfl (by kernel_rfl) (by kernel_rfl) (by kernel_rfl) (fun _ _ _ h=>hpan h) (Or.inl ⟨by rfl,?_⟩) (by assumption) ?_
        rotate_left
        · (intro w hSw; (try dsimp only at hSw); go_simp; try with_reducible rfl)
        simp only [Act.put,setIfInBounds_toArray,set_cons_zero,set_cons_succ]
        refine wpAnyH_take (i:=8) (oi:=⟨some 112,.move (.tmp 6),48,_,#[⟨2,.guard⟩],some (2,false)⟩) (v:=?_) rfl (by kernel_rfl) (by kernel_rfl) (by kernel_rfl) (fun _ _ _ h=>hpan h) (Or.inl ⟨by rfl,?_⟩) (by assumption) ?_
        rotate_left
        · (intro w hSw; (try dsimp only at hSw); go_simp; try with_reducible rfl)
        simp only [Act.put,setIfInBounds_toArray,set_cons_zero,set_cons_succ]
        refine wpAnyH_take (i:=9) (oi:=⟨some 113,.move (.tmp 9),3,_,#[⟨2,.guard⟩],some (2,false)⟩) (v:=?_) rfl (by kernel_rfl) (by kernel_rfl) (by kernel_rfl) (fun _ _ _ h=>hpan h) (Or.inl ⟨by rfl,?_⟩) (by assumption) ?_
        rotate_left
        · (intro w hSw; (try dsimp only at hSw); go_simp; try with_reducible rfl)
        simp only [Act.put,setIfInBounds_toArray,set_cons_zero,set_cons_succ]
        refine wpAnyH_take (i:=10) (oi:=⟨some 114,.indexAddr 48 (.tmp 112) (.tmp 113),0,_,#[⟨8,.data⟩,⟨9,.data⟩,⟨2,.guard⟩],some (2,false)⟩) (v:=?_) rfl (by kernel_rfl) (by kernel_rfl) (by kernel_rfl) (fun _ _ _ h=>hpan h) (Or.inl ⟨by rfl,?_⟩) (by assumption) ?_
        rotate_left
        · (intro w hSw; (try dsimp only at hSw); go_simp; try with_reducible rfl)
        simp only [Act.put,setIfInBounds_toArray,set_cons_zero,set_cons_succ]
        refine wpAnyH_take (i:=11) (oi:=⟨some 115,.fieldAddr 74 (.tmp 114) 1,0,_,#[⟨10,.data⟩,⟨2,.guard⟩],some (2,false)⟩) (v:=?_) rfl (by kernel_rfl) (by kernel_rfl) (by kernel_rfl) (fun _ _ _ h=>hpan h) (Or.inl ⟨by rfl,?_⟩) (by assumption) ?_
        rotate_left
        · (intro w hSw; (try dsimp only at hSw); go_simp; try with_reducible rfl)
        simp only [Act.put,setIfInBounds_toArray,set_cons_zero,set_cons_succ]
        refine wpAnyH_take (i:=12) (oi:=⟨some 116,.fieldAddr 45 (.tmp 115) 1,0,_,#[⟨11,.data⟩,⟨2,.guard⟩],some (2,false)⟩) (v:=?_) rfl (by kernel_rfl) (by kernel_rfl) (by kernel_rfl) (fun _ _ _ h=>hpan h) (Or.inl ⟨by rfl,?_⟩) (by assumption) ?_
        rotate_left
        · (intro w hSw; (try dsimp only at hSw); go_simp; try with_reducible rfl)
        simp only [Act.put,setIfInBounds_toArray,set_cons_zero,set_cons_succ]
        refine wpAnyH_take (i:=13) (oi:=⟨some 117,.fieldAddr 43 (.tmp 116) 1,0,_,#[⟨12,.data⟩,⟨2,.guard⟩],some (2,false)⟩) (v:=?_) rfl (by kernel_rfl) (by kernel_rfl) (by kernel_rfl) (fun _ _ _ h=>hpan h) (Or.inl ⟨by rfl,?_⟩) (by assumption) ?_
        rotate_left
        · (intro w hSw; (try dsimp only at hSw); go_simp; try with_reducible rfl)
        simp only [Act.put,setIfInBounds_toArray,set_cons_zero,set_cons_succ]
        refine wpAnyH_take (i:=14) (oi:=⟨some 118,.load 32 (.tmp 117),32,_,#[⟨13,.data⟩,⟨2,.guard⟩],some (2,false)⟩) (v:=?_) rfl (by kernel_rfl) (by kernel_rfl) (by kernel_rfl) (fun _ _ _ h=>hpan h) (Or.inl ⟨by rfl,?_⟩) (by assumption) ?_
        rotate_left
        · (intro w hSw; (try dsimp only at hSw); go_simp; try with_reducible rfl)
        simp only [Act.put,setIfInBounds_toArray,set_cons_zero,set_cons_succ]
        refine wpAnyH_take (i:=15) (oi:=⟨some 119,.move (.tmp 7),3,_,#[⟨2,.guard⟩],some (2,false)⟩) (v:=?_) rfl (by kernel_rfl) (by kernel_rfl) (by kernel_rfl) (fun _ _ _ h=>hpan h) (Or.inl ⟨by rfl,?_⟩) (by assumption) ?_
        rotate_left
        · (intro w hSw; (try dsimp only at hSw); go_simp; try with_reducible rfl)
        simp only [Act.put,setIfInBounds_toArray,set_cons_zero,set_cons_succ]
        refine wpAnyH_ready (rs:=[16]) (by kernel_rfl) (by simp) ?_
        refine AllReadyH.cons (o:=⟨some 120,.call ⟨.value (.func 34),#[.tmp 111,.tmp 118,.tmp 119],#[45,32,3]⟩,4,_,#[⟨7,.data⟩,⟨14,.data⟩,⟨15,.data⟩,⟨2,.chain⟩,⟨2,.guard⟩],some (2,false)⟩) rfl (fun K hK=> ?_) AllReadyH.nil
        go_simp
        (go_at_call 34; refine (HOv.out _ HBd.out).mono ?_; rintro e wb ⟨rfl,gb⟩; have HBb:=hidW (Below.step HBd.out gb); have HJ:=hidW (HH.out _ HBb.out); clear gb)
        refine hK.out _ _ ?_ (fun hHeld=> ?_)
        · ((try dsimp only); with_reducible exact HJ.out)
        clear hK K
        try simp only [Act.put,setIfInBounds_toArray,set_cons_zero,set_cons_succ]
        refine wpAnyH_take (i:=17) (oi:=⟨some 121,.unOp UnOp.not 4 (.tmp 120),4,_,#[⟨16,.data⟩,⟨2,.guard⟩],some (2,false)⟩) (v:=?_) rfl (by kernel_rfl) (by kernel_rfl) (by kernel_rfl) (fun _ _ _ h=>hpan h) (Or.inl ⟨by rfl,?_⟩) (by assumption) ?_
        rotate_left
        · (intro w hSw; (try dsimp only at hSw); go_simp; try with_reducible rfl)
        simp only [Act.put,setIfInBounds_toArray,set_cons_zero,set_cons_succ]
        refine wpAnyH_take (i:=18) (oi:=⟨some 122,.pick (.tmp 106) (.const (Value.bool true)) (.tmp 121),4,_,#[⟨2,.data⟩,⟨17,.data⟩],none⟩) (v:=?_) rfl (by kernel_rfl) (by kernel_rfl) (by kernel_rfl) (fun _ _ _ h=>hpan h) (Or.inl ⟨by rfl,?_⟩) (by assumption) ?_
        rotate_left
        · (intro w hSw; (try dsimp only at hSw); go_simp; try with_reducible rfl)
        simp only [Act.put,setIfInBounds_toArray,set_cons_zero,set_cons_succ]
        refine wpAnyH_done (by kernel_rfl) ?_ _
        clear HOv HJ hHeld
        go_wp2
        go_roundw
        case rel=>exact ⟨k+1,by omega,by go_num,HBb⟩
        case measure=>simp [intOf]; omega
      · clear hAo
        go_wp2
        go_roundw
        case rel=>exact ⟨k+1,by omega,by go_num,HK⟩
        case measure=>simp [intOf]; omega
    · obtain rfl:k=nd:=by omega
      go_wp2
      exact HQ.out HK.out
end Go.Proofs.YtnjlajjjcmhfgaaGreatDoor
