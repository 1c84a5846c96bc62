import Derived.Test.YtnjlajjjcmhfgaaGreatDoorTN04
import Derived.Test.YtnjlajjjcmhfgaaGreatDoorTN05
namespace Go.Proofs.YtnjlajjjcmhfgaaGreatDoor
open Go.RowKit
open Mm (Turn gr RM valV errV Byts setV RowAt)
set_option linter.unusedVariables false
set_option linter.unusedSimpArgs false
attribute [local go_sem] Oper.semAt_some
set_option maxRecDepth 1000000 in
set_option maxHeartbeats 64000000 in
theorem no_one {Q:Exit→Act→World→Prop} {v0 v1 v2 v3 v4 v9 v10 v11 v12 v13 v15 v16 v17 v18 v19 v20 v21 v22 v23 v24 v25 v26 v27 v28 v29 v30 v31 v32 v33 v34 v35 v36 v37 v38 v39 v40 v41 v42 v43 v44 v45 v46 v47 v48 v49 v50 v51 v52 v53 v54 v55 v56 v57 v58 v59 v60 v61 v62 v63 v64 v65 v66 v67 v68 v69 v70 v71 v72 v73 v74 v75 v76 v77 v78 v79 v80 v81 v82 v83 v84 v85 v86 v87 v88 v89 v90 v91 v92 v93 v94 v95 v96 v97 v98 v99 v100 v101 v102 v103 v104 v105 v106 v107 v108 v109 v110 v111 v112 v113 v114 v115 v116 v117 v118 v119 v120 v121 v122 v123 v124 v125 v126 v127 v128 v129 v130 v131 v132 v133 v134 v135 v136 v137 v138 v139 v140 v141 v142 v143 v144 v145 v146 v147 v148 v149 v150 v151 v152 v153 v154 v155 v156 v157 v158 v159 v160 v161 v162 v163 v164 v165 v166 v167 v168 v169 v170 v171 v172 v173 v174 v175 v176 v177 v178 v179 v180 v181 v182 v183 v184 v185 v186 v187 v188 v189 v190 v191 v192 v193 v194 v195 v196 v197 v198 v199 v200 v201 v202 v203 v204 v205 v206 v207 v208 v209 v210 v211 v212 v213 v214 v215 v216 v217 v218 v219 v220 v221 v222 v223 v224 v225 v226 v227 v228 v229 v230 v231 v232 v233 v234 v235 v236 v237 v238 v239 v240 v241 v242 v243 v244 v245 v246 v247 v248 v249 v250 v251 v252 v253 v254 v255 v256 v257 v258 v259 v260 v261 v262 v263 v264 v265 v266 v267 v268 v269 v270 v271 v272 v273 v274 v275 v276 v277 v278 v279 v280 v281 v282:Value} (w:World) (x p nd cd lb lo nl cl k:Nat) (da:Option Addr) (iv:Value) (a:Int) (r:Rm) (hk:k<nl) (hnl:nl≤4611686018427387904) (hr:0≤r.lo∧r.lo≤r.hi∧r.hi<1048576) (HC:Hid (∀ww,Below w.heap.size w ww→ww.cell? ⟨x,4,none⟩=some (.pointer (some ⟨p,0,none⟩))∧ww.cell? ⟨x,5,none⟩=some iv∧ww.cell? ⟨lb,lo+k*2,none⟩=some (.int .u64 r.lo)∧ww.cell? ⟨lb,lo+k*2+1,none⟩=some (.int .u64 r.hi))) (hprev:k=0∨∃j,∃s:Rm,k=j+1∧0≤s.hi∧s.hi+1<r.lo∧w.cell? ⟨lb,lo+j*2+1,none⟩=some (.int .u64 s.hi)) (HIn:Hid (∀va,(va=r.lo∨va=r.hi)→∀ww,Below w.heap.size w ww→Calls Tryz.prog 35 #[.slice da nd cd,.int .i64 a,.int .u64 va] ww fun e w'=>e= .returned (.bool true)∧Below ww.heap.size ww w')) (HSt:Hid (∀va,(va=r.lo*4096∨va=r.hi*4096+4095)→∀ww,Below w.heap.size w ww→Calls Tryz.prog 30 #[.pointer (some ⟨p,0,none⟩),iv,.int .i64 a,.int .u32 va] ww fun e w'=>e= .returned (.bool true)∧Below ww.heap.size ww w')) (HSf:Hid (∀va,((va=r.lo*4096-1∧0<r.lo)∨(va=r.hi*4096+4096∧r.hi+1<1048576))→∀ww,Below w.heap.size w ww→Calls Tryz.prog 30 #[.pointer (some ⟨p,0,none⟩),iv,.int .i64 a,.int .u32 va] ww fun e w'=>e= .returned (.bool false)∧Below ww.heap.size ww w')) (hpan:∀ {c:List PanicEntry} {a:Act} {d:Option Tmp} {v:Value} {w:World},Q (.panic c) (a.put d v) w→Q (.panic c) a w)
    (HQ:Hid (∀ {u123 u124 u125 u126 u127 u128 u129 u130 u131 u132 u133 u134 u135 u136 u137 u138 u139 u140 u141 u142 u143 u144 u145 u146 u147 u148 u149 u150 u151 u152 u153 u154 u155 u156 u157 u158 u159 u160 u161 u162 u163 u164 u165 u166 u167 u168 u169 u170 u171 u172 u173 u174 u175 u176 u177 u178 u179 u180 u181 u182 u183 u184 u185 u186 u187 u188 u189 u190 u191 u192 u193 u194 u195 u196 u197 u198 u199 u200 u201 u202 u203 u204 u205 u206 u207 u208 u209 u210 u211 u212 u213 u214 u215 u216 u217 u218 u219 u220 u221 u222 u223 u224 u225 u226 u227 u228 u229 u230 u231 u232 u233 u234 u235 u236 u237 u238 u239 u240 u241 u242 u243 u244 u245 u246 u247 u248 u249 u250 u251 u252 u253 u254 u255 u256 u257 u258 u259 u260 u261 u262 u263 u264 u265 u266 u267 u268 u269 u270 u271 u272 u273 u274 u275 u276 u277 u278 u279 u280 u281 u282:Value} {w':World},Below w.heap.size w w'→Q .normal ⟨(v0::v1::v2::v3::v4::(.pointer (some ⟨x,0,none⟩))::(.slice da nd cd)::(.int .i64 a)::(.slice (some ⟨lb,lo,none⟩) nl cl)::v9::v10::v11::v12::v13::(.int .i64 ((k+1:Nat):Int))::v15::v16::v17::v18::v19::v20::v21::v22::v23::v24::v25::v26::v27::v28::v29::v30::v31::v32::v33::v34::v35::v36::v37::v38::v39::v40::v41::v42::v43::v44::v45::v46::v47::v48::v49::v50::v51::v52::v53::v54::v55::v56::v57::v58::v59::v60::v61::v62::v63::v64::v65::v66::v67::v68::v69::v70::v71::v72::v73::v74::v75::v76::v77::v78::v79::v80::v81::v82::v83::v84::v85::v86::v87::v88::v89::v90::v91::v92::v93::v94::v95::v96::v97::v98::v99::v100::v101::v102::v103::v104::v105::v106::v107::v108::v109::v110::v111::v112::v113::v114::v115::v116::v117::v118::v119::v120::v121::v122::u123::u124::u125::u126::u127::u128::u129::u130::u131::u132::u133::u134::u135::u136::u137::u138::u139::u140::u141::u142::u143::u144::u145::u146::u147::u148::u149::u150::u151::u152::u153::u154::u155::u156::u157::u158::u159::u160::u161::u162::u163::u164::u165::u166::u167::u168::u169::u170::u171::u172::u173::u174::u175::u176::u177::u178::u179::u180::u181::u182::u183::u184::u185::u186::u187::u188::u189::u190::u191::u192::u193::u194::u195::u196::u197::u198::u199::u200::u201::u202::u203::u204::u205::u206::u207::u208::u209::u210::u211::u212::u213::u214::u215::u216::u217::u218::u219::u220::u221::u222::u223::u224::u225::u226::u227::u228::u229::u230::u231::u232::u233::u234::u235::u236::u237::u238::u239::u240::u241::u242::u243::u244::u245::u246::u247::u248::u249::u250::u251::u252::u253::u254::u255::u256::u257::u258::u259::u260::u261::u262::u263::u264::u265::u266::u267::u268::u269::u270::u271::u272::u273::u274::u275::u276::u277::u278::u279::u280::u281::u282::[]).toArray,[]⟩ w')) :
    (noR Tryz.f6).wp Tryz.prog Q ⟨(v0::v1::v2::v3::v4::(.pointer (some ⟨x,0,none⟩))::(.slice da nd cd)::(.int .i64 a)::(.slice (some ⟨lb,lo,none⟩) nl cl)::v9::v10::v11::v12::v13::(.int .i64 (k:Int))::v15::v16::v17::v18::v19::v20::v21::v22::v23::v24::v25::v26::v27::v28::v29::v30::v31::v32::v33::v34::v35::v36::v37::v38::v39::v40::v41::v42::v43::v44::v45::v46::v47::v48::v49::v50::v51::v52::v53::v54::v55::v56::v57::v58::v59::v60::v61::v62::v63::v64::v65::v66::v67::v68::v69::v70::v71::v72::v73::v74::v75::v76::v77::v78::v79::v80::v81::v82::v83::v84::v85::v86::v87::v88::v89::v90::v91::v92::v93::v94::v95::v96::v97::v98::v99::v100::v101::v102::v103::v104::v105::v106::v107::v108::v109::v110::v111::v112::v113::v114::v115::v116::v117::v118::v119::v120::v121::v122::v123::v124::v125::v126::v127::v128::v129::v130::v131::v132::v133::v134::v135::v136::v137::v138::v139::v140::v141::v142::v143::v144::v145::v146::v147::v148::v149::v150::v151::v152::v153::v154::v155::v156::v157::v158::v159::v160::v161::v162::v163::v164::v165::v166::v167::v168::v169::v170::v171::v172::v173::v174::v175::v176::v177::v178::v179::v180::v181::v182::v183::v184::v185::v186::v187::v188::v189::v190::v191::v192::v193::v194::v195::v196::v197::v198::v199::v200::v201::v202::v203::v204::v205::v206::v207::v208::v209::v210::v211::v212::v213::v214::v215::v216::v217::v218::v219::v220::v221::v222::v223::v224::v225::v226::v227::v228::v229::v230::v231::v232::v233::v234::v235::v236::v237::v238::v239::v240::v241::v242::v243::v244::v245::v246::v247::v248::v249::v250::v251::v252::v253::v254::v255::v256::v257::v258::v259::v260::v261::v262::v263::v264::v265::v266::v267::v268::v269::v270::v271::v272::v273::v274::v275::v276::v277::v278::v279::v280::v281::v282::[]).toArray,[]⟩ w:=by
  conv=>arg 2; whnf
  have hkz:(k:Int)<(nl:Int):=by omega
  have hk0:(0:Int)≤(k:Int):=by omega
  obtain ⟨x0,x1,x2,x3⟩:=HC.out w (Below.refl _ _)
  have g1:¬r.hi<r.lo:=by omega
  have g2:¬1048576≤r.hi:=by omega
  have hg1:decide (r.hi<r.lo)=false:=decide_eq_false g1
  have hg2:decide ((1048576:Int)≤r.hi)=false:=decide_eq_false g2
  have HBq:Hid (∀q,Below w.heap.size w (w.drewN q)):=fun q=>below_drewN (Below.refl _ _) q
  go_wp2_with fail
  rcases hprev with he|⟨j,s,he,hs0,hs1,hcs⟩
  case' inl =>
    have hz:decide ((0:Int)<(k:Int))=false:=decide_eq_false (by omega)
    have hzn:decide (0<k)=false:=decide_eq_false (by omega)
    clear he
  case' inr =>
    have hz:(0:Int)<(k:Int):=by omega
    have hz1:decide ((0:Int)<(k:Int))=true:=decide_eq_true hz
    have hzn:0<k:=by omega
    have hzn1:decide (0<k)=true:=decide_eq_true hzn
    have wj:IntKind.i64.wrap ((k:Int)-1)=(j:Int):=by rw [IntKind.wrap_i64]; omega
    have hj0:(0:Int)≤(j:Int):=by omega
    have hjn:(j:Int)<(nl:Int):=by omega
    have ws:IntKind.u64.wrap (s.hi+1)=s.hi+1:=by rw [IntKind.wrap_u64]; omega
    have g3:¬r.lo≤s.hi+1:=by omega
    have hg3:decide (r.lo≤s.hi+1)=false:=decide_eq_false g3
    clear he hs0 hs1
  all_goals
    go_quiet (fail)
    go_wp2_with fail
    refine wp_at (HBq.out _) (fun w2 hb2=> ?_)
    have HBx:=hidW hb2
    clear hb2
    refine no_r27 w2 x p nd cd lb lo nl cl k da iv a r hk hnl hr (hidW fun ww hb=>HC.out ww (Below.step HBx.out hb)) (hidW fun va hva ww hb=>HIn.out va hva ww (Below.step HBx.out hb)) (hidW fun va hva ww hb=>HSt.out va hva ww (Below.step HBx.out hb)) (fun _ _ _ h=>hpan h) (hidW ?_)
    intros
    rename_i w3 hb3
    have HBy:=hidW (Below.step HBx.out hb3)
    clear hb3 HIn HSt HBx
    go_wp2_with fail
    refine no_r29 w3 x p nd cd lb lo nl cl k da iv a r hk hnl hr (hidW fun ww hb=>HC.out ww (Below.step HBy.out hb)) (hidW fun va hva ww hb=>HSf.out va hva ww (Below.step HBy.out hb)) (fun _ _ _ h=>hpan h) (hidW ?_)
    intros
    rename_i w4 hb4
    have HBz:=hidW (Below.step HBy.out hb4)
    clear hb4 HSf HBy
    go_wp2
    exact HQ.out HBz.out
end Go.Proofs.YtnjlajjjcmhfgaaGreatDoor
namespace Go.Proofs.YtnjlajjjcmhfgaaGreatDoor
open Go.RowKit
open Mm (Turn gr RM valV errV Byts setV RowAt)
set_option linter.unusedVariables false
set_option linter.unusedSimpArgs false
attribute [local go_sem] Oper.semAt_some
set_option maxRecDepth 1000000 in
set_option maxHeartbeats 16000000 in
theorem no_rooms {Q:Exit→Act→World→Prop} {v0 v1 v2 v3 v4 v9 v10 v11 v12 v13 v15 v16 v17 v18 v19 v20 v21 v22 v23 v24 v25 v26 v27 v28 v29 v30 v31 v32 v33 v34 v35 v36 v37 v38 v39 v40 v41 v42 v43 v44 v45 v46 v47 v48 v49 v50 v51 v52 v53 v54 v55 v56 v57 v58 v59 v60 v61 v62 v63 v64 v65 v66 v67 v68 v69 v70 v71 v72 v73 v74 v75 v76 v77 v78 v79 v80 v81 v82 v83 v84 v85 v86 v87 v88 v89 v90 v91 v92 v93 v94 v95 v96 v97 v98 v99 v100 v101 v102 v103 v104 v105 v106 v107 v108 v109 v110 v111 v112 v113 v114 v115 v116 v117 v118 v119 v120 v121 v122 v123 v124 v125 v126 v127 v128 v129 v130 v131 v132 v133 v134 v135 v136 v137 v138 v139 v140 v141 v142 v143 v144 v145 v146 v147 v148 v149 v150 v151 v152 v153 v154 v155 v156 v157 v158 v159 v160 v161 v162 v163 v164 v165 v166 v167 v168 v169 v170 v171 v172 v173 v174 v175 v176 v177 v178 v179 v180 v181 v182 v183 v184 v185 v186 v187 v188 v189 v190 v191 v192 v193 v194 v195 v196 v197 v198 v199 v200 v201 v202 v203 v204 v205 v206 v207 v208 v209 v210 v211 v212 v213 v214 v215 v216 v217 v218 v219 v220 v221 v222 v223 v224 v225 v226 v227 v228 v229 v230 v231 v232 v233 v234 v235 v236 v237 v238 v239 v240 v241 v242 v243 v244 v245 v246 v247 v248 v249 v250 v251 v252 v253 v254 v255 v256 v257 v258 v259 v260 v261 v262 v263 v264 v265 v266 v267 v268 v269 v270 v271 v272 v273 v274 v275 v276 v277 v278 v279 v280 v281 v282:Value} (w:World) (x p nd cd nl cl:Nat) (da la:Option Addr) (iv:Value) (a:Int) (R:List Rm) (hl:R.length=nl) (hnl:nl≤4611686018427387904) (HS:Hid (Sli Bs.encR 2 w (.slice la nl cl) R)) (HG:Hid (∀r∈R,0≤r.lo∧r.lo≤r.hi∧r.hi<1048576)) (HN:Hid (∀(k:Nat) s r,R[k]? =some s→R[k+1]? =some r→s.hi+1<r.lo)) (HC:Hid (∀ww,Below w.heap.size w ww→ww.cell? ⟨x,4,none⟩=some (.pointer (some ⟨p,0,none⟩))∧ww.cell? ⟨x,5,none⟩=some iv)) (HIn:Hid (∀r∈R,∀va,(va=r.lo∨va=r.hi)→∀ww,Below w.heap.size w ww→Calls Tryz.prog 35 #[.slice da nd cd,.int .i64 a,.int .u64 va] ww fun e w'=>e= .returned (.bool true)∧Below ww.heap.size ww w')) (HSt:Hid (∀r∈R,∀va,(va=r.lo*4096∨va=r.hi*4096+4095)→∀ww,Below w.heap.size w ww→Calls Tryz.prog 30 #[.pointer (some ⟨p,0,none⟩),iv,.int .i64 a,.int .u32 va] ww fun e w'=>e= .returned (.bool true)∧Below ww.heap.size ww w')) (HSf:Hid (∀r∈R,∀va,((va=r.lo*4096-1∧0<r.lo)∨(va=r.hi*4096+4096∧r.hi+1<1048576))→∀ww,Below w.heap.size w ww→Calls Tryz.prog 30 #[.pointer (some ⟨p,0,none⟩),iv,.int .i64 a,.int .u32 va] ww fun e w'=>e= .returned (.bool false)∧Below ww.heap.size ww w')) (hpan:∀ {c:List PanicEntry} {a:Act} {d:Option Tmp} {v:Value} {w:World},Q (.panic c) (a.put d v) w→Q (.panic c) a w)
    (HQ:Hid (∀ {u4 u14 u123 u124 u125 u126 u127 u128 u129 u130 u131 u132 u133 u134 u135 u136 u137 u138 u139 u140 u141 u142 u143 u144 u145 u146 u147 u148 u149 u150 u151 u152 u153 u154 u155 u156 u157 u158 u159 u160 u161 u162 u163 u164 u165 u166 u167 u168 u169 u170 u171 u172 u173 u174 u175 u176 u177 u178 u179 u180 u181 u182 u183 u184 u185 u186 u187 u188 u189 u190 u191 u192 u193 u194 u195 u196 u197 u198 u199 u200 u201 u202 u203 u204 u205 u206 u207 u208 u209 u210 u211 u212 u213 u214 u215 u216 u217 u218 u219 u220 u221 u222 u223 u224 u225 u226 u227 u228 u229 u230 u231 u232 u233 u234 u235 u236 u237 u238 u239 u240 u241 u242 u243 u244 u245 u246 u247 u248 u249 u250 u251 u252 u253 u254 u255 u256 u257 u258 u259 u260 u261 u262 u263 u264 u265 u266 u267 u268 u269 u270 u271 u272 u273 u274 u275 u276 u277 u278 u279 u280 u281 u282:Value} {w':World},Below w.heap.size w w'→Q (.exit 6) ⟨(v0::v1::v2::v3::u4::(.pointer (some ⟨x,0,none⟩))::(.slice da nd cd)::(.int .i64 a)::(.slice la nl cl)::v9::v10::v11::v12::v13::u14::v15::v16::v17::v18::v19::v20::v21::v22::v23::v24::v25::v26::v27::v28::v29::v30::v31::v32::v33::v34::v35::v36::v37::v38::v39::v40::v41::v42::v43::v44::v45::v46::v47::v48::v49::v50::v51::v52::v53::v54::v55::v56::v57::v58::v59::v60::v61::v62::v63::v64::v65::v66::v67::v68::v69::v70::v71::v72::v73::v74::v75::v76::v77::v78::v79::v80::v81::v82::v83::v84::v85::v86::v87::v88::v89::v90::v91::v92::v93::v94::v95::v96::v97::v98::v99::v100::v101::v102::v103::v104::v105::v106::v107::v108::v109::v110::v111::v112::v113::v114::v115::v116::v117::v118::v119::v120::v121::v122::u123::u124::u125::u126::u127::u128::u129::u130::u131::u132::u133::u134::u135::u136::u137::u138::u139::u140::u141::u142::u143::u144::u145::u146::u147::u148::u149::u150::u151::u152::u153::u154::u155::u156::u157::u158::u159::u160::u161::u162::u163::u164::u165::u166::u167::u168::u169::u170::u171::u172::u173::u174::u175::u176::u177::u178::u179::u180::u181::u182::u183::u184::u185::u186::u187::u188::u189::u190::u191::u192::u193::u194::u195::u196::u197::u198::u199::u200::u201::u202::u203::u204::u205::u206::u207::u208::u209::u210::u211::u212::u213::u214::u215::u216::u217::u218::u219::u220::u221::u222::u223::u224::u225::u226::u227::u228::u229::u230::u231::u232::u233::u234::u235::u236::u237::u238::u239::u240::u241::u242::u243::u244::u245::u246::u247::u248::u249::u250::u251::u252::u253::u254::u255::u256::u257::u258::u259::u260::u261::u262::u263::u264::u265::u266::u267::u268::u269::u270::u271::u272::u273::u274::u275::u276::u277::u278::u279::u280::u281::u282::[]).toArray,[]⟩ w')) :
    (Code.loop (noR Tryz.f6)).wp Tryz.prog Q ⟨(v0::v1::v2::v3::v4::(.pointer (some ⟨x,0,none⟩))::(.slice da nd cd)::(.int .i64 a)::(.slice la nl cl)::v9::v10::v11::v12::v13::(.int .i64 0)::v15::v16::v17::v18::v19::v20::v21::v22::v23::v24::v25::v26::v27::v28::v29::v30::v31::v32::v33::v34::v35::v36::v37::v38::v39::v40::v41::v42::v43::v44::v45::v46::v47::v48::v49::v50::v51::v52::v53::v54::v55::v56::v57::v58::v59::v60::v61::v62::v63::v64::v65::v66::v67::v68::v69::v70::v71::v72::v73::v74::v75::v76::v77::v78::v79::v80::v81::v82::v83::v84::v85::v86::v87::v88::v89::v90::v91::v92::v93::v94::v95::v96::v97::v98::v99::v100::v101::v102::v103::v104::v105::v106::v107::v108::v109::v110::v111::v112::v113::v114::v115::v116::v117::v118::v119::v120::v121::v122::v123::v124::v125::v126::v127::v128::v129::v130::v131::v132::v133::v134::v135::v136::v137::v138::v139::v140::v141::v142::v143::v144::v145::v146::v147::v148::v149::v150::v151::v152::v153::v154::v155::v156::v157::v158::v159::v160::v161::v162::v163::v164::v165::v166::v167::v168::v169::v170::v171::v172::v173::v174::v175::v176::v177::v178::v179::v180::v181::v182::v183::v184::v185::v186::v187::v188::v189::v190::v191::v192::v193::v194::v195::v196::v197::v198::v199::v200::v201::v202::v203::v204::v205::v206::v207::v208::v209::v210::v211::v212::v213::v214::v215::v216::v217::v218::v219::v220::v221::v222::v223::v224::v225::v226::v227::v228::v229::v230::v231::v232::v233::v234::v235::v236::v237::v238::v239::v240::v241::v242::v243::v244::v245::v246::v247::v248::v249::v250::v251::v252::v253::v254::v255::v256::v257::v258::v259::v260::v261::v262::v263::v264::v265::v266::v267::v268::v269::v270::v271::v272::v273::v274::v275::v276::v277::v278::v279::v280::v281::v282::[]).toArray,[]⟩ w:=by
  have HLN:=hidW hl
  clear hl
  conv=>arg 2; arg 1; whnf
  go_loopw [14] (fun i wr=>∃k:Nat,k≤nl∧i= .int .i64 k∧Hid (Below w.heap.size w wr)) (fun i _=>nl-(intOf i).toNat)
  case atStart=>exact ⟨0,Nat.zero_le _,rfl,Below.refl _ _⟩
  case round =>
    obtain ⟨k,hk,rfl,HK⟩:=hrel
    by_cases hlt:k<nl
    · obtain ⟨r,hq⟩:∃r,R[k]? =some r:=⟨_,List.getElem?_eq_getElem (by rw [HLN.out]; omega)⟩
      have hmem:=List.mem_of_getElem? hq
      obtain ⟨lb,lo,rfl,_,_⟩:=HS.out.room (Below.refl _ _) hq
      have hcell:∀ww,Below w.heap.size w ww→ww.cell? ⟨lb,lo+k*2,none⟩=some (.int .u64 r.lo)∧ww.cell? ⟨lb,lo+k*2+1,none⟩=some (.int .u64 r.hi):=fun ww hb=>by
        obtain ⟨_,_,e1,_,h1⟩:=HS.out.room hb hq
        cases e1
        exact h1
      have hprev:k=0∨∃j,∃s:Rm,k=j+1∧0≤s.hi∧s.hi+1<r.lo∧wr.cell? ⟨lb,lo+j*2+1,none⟩=some (.int .u64 s.hi):=by
        cases k with
        | zero=>exact .inl rfl
        | succ j =>
          obtain ⟨s,hs⟩:∃s,R[j]? =some s:=⟨_,List.getElem?_eq_getElem (by rw [HLN.out]; omega)⟩
          have h1:=HG.out s (List.mem_of_getElem? hs)
          refine .inr ⟨j,s,rfl,by omega,HN.out j s r hs hq,?_⟩
          obtain ⟨_,_,e1,_,h2⟩:=HS.out.room HK.out hs
          cases e1
          exact h2.2
      refine no_one wr x p nd cd lb lo nl cl k da iv a r hlt hnl (HG.out r hmem) (hidW fun ww hb=> ?_) hprev (hidW fun va hva ww hb=>HIn.out r hmem va hva ww (Below.step HK.out hb)) (hidW fun va hva ww hb=>HSt.out r hmem va hva ww (Below.step HK.out hb)) (hidW fun va hva ww hb=>HSf.out r hmem va hva ww (Below.step HK.out hb)) (fun h=>hpan h) (hidW ?_)
      · have h1:=HC.out ww (Below.step HK.out hb)
        have h2:=hcell ww (Below.step HK.out hb)
        exact ⟨h1.1,h1.2,h2.1,h2.2⟩
      · intros
        rename_i w2 hb2
        go_roundw
        case rel =>
          (repeat apply Exists.intro)
          refine ⟨?_,rfl⟩
          exact ⟨k+1,by omega,rfl,Below.step HK.out hb2⟩
        case measure=>simp [intOf]; omega
    · obtain rfl:k=nl:=by omega
      go_wp2
      exact HQ.out HK.out
end Go.Proofs.YtnjlajjjcmhfgaaGreatDoor
