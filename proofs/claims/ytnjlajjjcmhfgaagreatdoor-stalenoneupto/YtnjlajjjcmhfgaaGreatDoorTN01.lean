import Derived.Test.YtnjlajjjcmhfgaaGreatDoorTN03
import Derived.Test.YtnjlajjjcmhfgaaGreatDoorTA26
namespace Go.Proofs.YtnjlajjjcmhfgaaGreatDoor
open Go.RowKit
open Mm (Turn gr RM valV errV Byts setV RowAt)
set_option linter.unusedVariables false
set_option linter.unusedSimpArgs false
attribute [local go_sem] Oper.semAt_some
def mtF (lo hi:Int) (r:Rm):Bool:=decide (r.lo≤hi) && decide (lo≤r.hi)
def noM (f:Func):Code:=lpC (blkC (sq2 (sq1 (sq2 (sq2 (sq2 (sq2 (blkC (sq1 (sq2 (lpC (blkC (sq2 (sq1 (sq2 (blkC (sq1 (sq2 (lpC (blkC (sq2 (sq1 (sq2 (sq2 (sq2 (sq2 (f.body.getD .skip)))))))))))))))))))))))))))
set_option maxRecDepth 1000000 in
set_option maxHeartbeats 16000000 in
theorem no_met {Q:Exit→Act→World→Prop} {v0 v1 v2 v3 v4 v5 v6 v7 v9 v14 v15 v16 v17 v18 v19 v20 v21 v22 v23 v24 v25 v26 v27 v28 v29 v30 v31 v32 v33 v34 v35 v36 v37 v38 v39 v40 v41 v42 v43 v44 v45 v46 v47 v48 v49 v50 v51 v52 v53 v54 v55 v56 v57 v58 v59 v60 v61 v62 v63 v64 v65 v66 v67 v68 v69 v70 v71 v72 v73 v74 v75 v76 v77 v78 v79 v80 v81 v82 v83 v84 v85 v86 v87 v88 v89 v90 v91 v92 v93 v94 v95 v96 v97 v98 v99 v100 v101 v102 v103 v104 v105 v106 v107 v108 v109 v110 v111 v112 v113 v114 v115 v116 v117 v118 v119 v120 v121 v122 v123 v124 v125 v126 v127 v128 v129 v130 v131 v132 v133 v134 v135 v136 v137 v138 v139 v140 v141 v142 v143 v144 v145 v146 v147 v148 v149 v150 v151 v152 v153 v154 v155 v156 v157 v158 v159 v160 v161 v162 v163 v164 v165 v166 v167 v168 v169 v170 v171 v172 v173 v174 v175 v176 v177 v178 v179 v180 v181 v182 v183 v184 v185 v186 v187 v188 v189 v190 v191 v192 v193 v194 v195 v196 v197 v198 v199 v200 v201 v202 v203 v204 v205 v206 v207 v208 v209 v210 v211 v212 v213 v214 v215 v216 v217 v218 v219 v220 v221 v222 v223 v224 v225 v226 v227 v228 v229 v230 v231 v232 v233 v234 v235 v236 v237 v238 v239 v240 v241 v242 v243 v244 v245 v246 v247 v248 v249 v250 v251 v252 v253 v254 v255 v256 v257 v258 v259 v260 v261 v262 v263 v264 v265 v266 v267 v268 v269 v270 v271 v272 v273 v274 v275 v276 v277 v278 v279 v280 v281 v282:Value} (w:World) (la:Option Addr) (nl cl:Nat) (lo hi:Int) (R:List Rm) (hl:R.length=nl) (hnl:nl≤4611686018427387904) (HS:Hid (Sli Bs.encR 2 w (.slice la nl cl) R))
    (HQ:Hid (∀ {u13 u79 u80 u81 u82 u83 u84 u85 u86 u87 u88 u89 u90 u91 u92 u93 u94 u95 u96 u97 u98 u99 u100 u101 u102 u103:Value},Q (.exit 4) ⟨(v0::v1::v2::v3::v4::v5::v6::v7::(.slice la nl cl)::v9::(.int .u64 lo)::(.int .u64 hi)::(.bool (R.any (mtF lo hi)))::u13::v14::v15::v16::v17::v18::v19::v20::v21::v22::v23::v24::v25::v26::v27::v28::v29::v30::v31::v32::v33::v34::v35::v36::v37::v38::v39::v40::v41::v42::v43::v44::v45::v46::v47::v48::v49::v50::v51::v52::v53::v54::v55::v56::v57::v58::v59::v60::v61::v62::v63::v64::v65::v66::v67::v68::v69::v70::v71::v72::v73::v74::v75::v76::v77::v78::u79::u80::u81::u82::u83::u84::u85::u86::u87::u88::u89::u90::u91::u92::u93::u94::u95::u96::u97::u98::u99::u100::u101::u102::u103::v104::v105::v106::v107::v108::v109::v110::v111::v112::v113::v114::v115::v116::v117::v118::v119::v120::v121::v122::v123::v124::v125::v126::v127::v128::v129::v130::v131::v132::v133::v134::v135::v136::v137::v138::v139::v140::v141::v142::v143::v144::v145::v146::v147::v148::v149::v150::v151::v152::v153::v154::v155::v156::v157::v158::v159::v160::v161::v162::v163::v164::v165::v166::v167::v168::v169::v170::v171::v172::v173::v174::v175::v176::v177::v178::v179::v180::v181::v182::v183::v184::v185::v186::v187::v188::v189::v190::v191::v192::v193::v194::v195::v196::v197::v198::v199::v200::v201::v202::v203::v204::v205::v206::v207::v208::v209::v210::v211::v212::v213::v214::v215::v216::v217::v218::v219::v220::v221::v222::v223::v224::v225::v226::v227::v228::v229::v230::v231::v232::v233::v234::v235::v236::v237::v238::v239::v240::v241::v242::v243::v244::v245::v246::v247::v248::v249::v250::v251::v252::v253::v254::v255::v256::v257::v258::v259::v260::v261::v262::v263::v264::v265::v266::v267::v268::v269::v270::v271::v272::v273::v274::v275::v276::v277::v278::v279::v280::v281::v282::[]).toArray,[]⟩ w)) :
    (Code.loop (noM Tryz.f6)).wp Tryz.prog Q ⟨(v0::v1::v2::v3::v4::v5::v6::v7::(.slice la nl cl)::v9::(.int .u64 lo)::(.int .u64 hi)::(.bool false)::(.int .i64 0)::v14::v15::v16::v17::v18::v19::v20::v21::v22::v23::v24::v25::v26::v27::v28::v29::v30::v31::v32::v33::v34::v35::v36::v37::v38::v39::v40::v41::v42::v43::v44::v45::v46::v47::v48::v49::v50::v51::v52::v53::v54::v55::v56::v57::v58::v59::v60::v61::v62::v63::v64::v65::v66::v67::v68::v69::v70::v71::v72::v73::v74::v75::v76::v77::v78::v79::v80::v81::v82::v83::v84::v85::v86::v87::v88::v89::v90::v91::v92::v93::v94::v95::v96::v97::v98::v99::v100::v101::v102::v103::v104::v105::v106::v107::v108::v109::v110::v111::v112::v113::v114::v115::v116::v117::v118::v119::v120::v121::v122::v123::v124::v125::v126::v127::v128::v129::v130::v131::v132::v133::v134::v135::v136::v137::v138::v139::v140::v141::v142::v143::v144::v145::v146::v147::v148::v149::v150::v151::v152::v153::v154::v155::v156::v157::v158::v159::v160::v161::v162::v163::v164::v165::v166::v167::v168::v169::v170::v171::v172::v173::v174::v175::v176::v177::v178::v179::v180::v181::v182::v183::v184::v185::v186::v187::v188::v189::v190::v191::v192::v193::v194::v195::v196::v197::v198::v199::v200::v201::v202::v203::v204::v205::v206::v207::v208::v209::v210::v211::v212::v213::v214::v215::v216::v217::v218::v219::v220::v221::v222::v223::v224::v225::v226::v227::v228::v229::v230::v231::v232::v233::v234::v235::v236::v237::v238::v239::v240::v241::v242::v243::v244::v245::v246::v247::v248::v249::v250::v251::v252::v253::v254::v255::v256::v257::v258::v259::v260::v261::v262::v263::v264::v265::v266::v267::v268::v269::v270::v271::v272::v273::v274::v275::v276::v277::v278::v279::v280::v281::v282::[]).toArray,[]⟩ w:=by
  have HLN:=hidW hl
  clear hl
  conv=>arg 2; arg 1; whnf
  go_loopw [12,13] (fun m i wr=>∃k:Nat,k≤nl∧i= .int .i64 k∧m= .bool ((R.take k).any (mtF lo hi))∧Hid (w=wr)) (fun _ i _=>nl-(intOf i).toNat)
  case atStart=>exact ⟨0,Nat.zero_le _,rfl,rfl,rfl⟩
  case round =>
    obtain ⟨k,hk,rfl,rfl,HK⟩:=hrel
    have e:=HK.out
    subst e
    by_cases hlt:k<nl
    · obtain ⟨o,hq⟩:∃o,R[k]? =some o:=⟨_,List.getElem?_eq_getElem (by rw [HLN.out]; omega)⟩
      obtain ⟨b1,o1,rfl,_,x0,x1⟩:=HS.out.room (Below.refl _ _) hq
      have hkz:(k:Int)<(nl:Int):=by omega
      have ha:=any_take (g:=mtF lo hi) hq
      generalize (R.take k).any (mtF lo hi)=m at *
      clear hq HK
      cases m with
      | true =>
        rw [Bool.true_or] at ha
        clear x0 x1
        go_wp2
        go_roundw
        case rel=>exact ⟨k+1,by omega,by go_num,by rw [ha],by first|exact hidW trivial|exact rfl⟩
        case measure=>simp [intOf]; omega
      | false =>
        rw [Bool.false_or,mtF] at ha
        by_cases h1:o.lo≤hi
        · have hd1:decide (o.lo≤hi)=true:=decide_eq_true h1
          rw [hd1,Bool.true_and] at ha
          go_wp2
          go_roundw
          case rel=>exact ⟨k+1,by omega,by go_num,by rw [ha],by first|exact hidW trivial|exact rfl⟩
          case measure=>simp [intOf]; omega
        · have hd1:decide (o.lo≤hi)=false:=decide_eq_false h1
          rw [hd1,Bool.false_and] at ha
          go_wp2
          go_roundw
          case rel=>exact ⟨k+1,by omega,by go_num,by rw [ha],by first|exact hidW trivial|exact rfl⟩
          case measure=>simp [intOf]; omega
    · obtain rfl:k=nl:=by omega
      have e:R.take k=R:=List.take_of_length_le (by rw [HLN.out]; omega)
      rw [e]
      clear e
      go_wp2
      exact HQ.out
end Go.Proofs.YtnjlajjjcmhfgaaGreatDoor
