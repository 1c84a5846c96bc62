import Derived.Test.YtnjlajjjcmhfgaaGreatDoorTN03
namespace Go.Proofs.YtnjlajjjcmhfgaaGreatDoor
open Go.RowKit
open List (setIfInBounds_toArray set_cons_zero set_cons_succ)
open Mm (Turn gr RM valV errV Byts setV RowAt)
set_option linter.unusedVariables false
set_option linter.unusedSimpArgs false
attribute [local go_sem] Oper.semAt_some
set_option maxRecDepth 1000000 in
set_option maxHeartbeats 64000000 in
theorem no_r29 {Q:Exit→Act→World→Prop} {v0 v1 v2 v3 v4 v9 v10 v11 v12 v13 v15 v16 v17 v18 v19 v20 v21 v22 v23 v24 v25 v26 v27 v28 v29 v30 v31 v32 v33 v34 v35 v36 v37 v38 v39 v40 v41 v42 v43 v44 v45 v46 v47 v48 v49 v50 v51 v52 v53 v54 v55 v56 v57 v58 v59 v60 v61 v62 v63 v64 v65 v66 v67 v68 v69 v70 v71 v72 v73 v74 v75 v76 v77 v78 v79 v80 v81 v82 v83 v84 v85 v86 v87 v88 v89 v90 v91 v92 v93 v94 v95 v96 v97 v98 v99 v100 v101 v102 v103 v104 v105 v106 v107 v108 v109 v110 v111 v112 v113 v114 v115 v116 v117 v118 v119 v120 v121 v122 v123 v124 v125 v126 v127 v128 v129 v130 v131 v132 v133 v134 v135 v136 v137 v138 v139 v140 v141 v142 v143 v144 v145 v146 v147 v148 v149 v150 v151 v152 v153 v154 v155 v156 v157 v158 v159 v160 v161 v162 v163 v164 v165 v166 v167 v168 v169 v170 v171 v172 v173 v174 v175 v176 v177 v178 v179 v180 v181 v182 v183 v184 v185 v186 v187 v188 v189 v190 v191 v192 v193 v194 v195 v196 v197 v198 v199 v200 v201 v202 v203 v204 v205 v206 v207 v208 v209 v210 v211 v212 v213 v214 v215 v216 v217 v218 v219 v220 v221 v222 v223 v224 v225 v226 v227 v228 v229 v230 v231 v232 v233 v234 v235 v236 v237 v238 v239 v240 v241 v242 v243 v244 v245 v246 v247 v248 v249 v250 v251 v252 v253 v254 v255 v256 v257 v258 v259 v260 v261 v262 v263 v264 v265 v266 v267 v268 v269 v270 v271 v272 v273 v274 v275 v276 v277 v278 v279 v280 v281 v282:Value} (w:World) (x p nd cd lb lo nl cl k:Nat) (da:Option Addr) (iv:Value) (a:Int) (r:Rm) (hk:k<nl) (hnl:nl≤4611686018427387904) (hr:0≤r.lo∧r.lo≤r.hi∧r.hi<1048576) (HC:Hid (∀ww,Below w.heap.size w ww→ww.cell? ⟨x,4,none⟩=some (.pointer (some ⟨p,0,none⟩))∧ww.cell? ⟨x,5,none⟩=some iv∧ww.cell? ⟨lb,lo+k*2,none⟩=some (.int .u64 r.lo)∧ww.cell? ⟨lb,lo+k*2+1,none⟩=some (.int .u64 r.hi))) (HSf:Hid (∀va,((va=r.lo*4096-1∧0<r.lo)∨(va=r.hi*4096+4096∧r.hi+1<1048576))→∀ww,Below w.heap.size w ww→Calls Tryz.prog 30 #[.pointer (some ⟨p,0,none⟩),iv,.int .i64 a,.int .u32 va] ww fun e w'=>e= .returned (.bool false)∧Below ww.heap.size ww w')) (hpan:∀ {d:Option Tmp} {v:Value} (c:List PanicEntry) (a:Act) (w:World),Q (.panic c) (a.put d v) w→Q (.panic c) a w)
    (HQ:Hid (∀ {u228 u229 u230 u231 u232 u233 u234 u235 u236 u237 u238 u239 u240 u241 u242 u243 u244 u245 u246 u247 u248 u249 u250 u251 u252 u253 u254 u255 u256 u257 u258 u259 u260 u261 u262 u263 u264 u265 u266 u267 u268 u269 u270 u271 u272 u273 u274 u275 u276 u277 u278 u279 u280 u281:Value} {w':World},Below w.heap.size w w'→Q .normal ⟨(v0::v1::v2::v3::v4::(.pointer (some ⟨x,0,none⟩))::(.slice da nd cd)::(.int .i64 a)::(.slice (some ⟨lb,lo,none⟩) nl cl)::v9::v10::v11::v12::v13::(.int .i64 (k:Int))::v15::v16::v17::v18::v19::v20::v21::v22::v23::v24::v25::v26::v27::v28::v29::v30::v31::v32::v33::v34::v35::v36::v37::v38::v39::v40::v41::v42::v43::v44::v45::v46::v47::v48::v49::v50::v51::v52::v53::v54::v55::v56::v57::v58::v59::v60::v61::v62::v63::v64::v65::v66::v67::v68::v69::v70::v71::v72::v73::v74::v75::v76::v77::v78::v79::v80::v81::v82::v83::v84::v85::v86::v87::v88::v89::v90::v91::v92::v93::v94::v95::v96::v97::v98::v99::v100::v101::v102::v103::v104::v105::v106::v107::v108::v109::v110::v111::v112::v113::v114::v115::v116::v117::v118::v119::v120::v121::v122::v123::v124::v125::v126::v127::v128::v129::v130::v131::v132::v133::v134::v135::v136::v137::v138::v139::v140::v141::v142::v143::v144::v145::v146::v147::v148::v149::v150::v151::v152::v153::v154::v155::v156::v157::v158::v159::v160::v161::v162::v163::v164::v165::v166::v167::v168::v169::v170::v171::v172::v173::v174::v175::v176::v177::v178::v179::v180::v181::v182::v183::v184::v185::v186::v187::v188::v189::v190::v191::v192::v193::v194::v195::v196::v197::v198::v199::v200::v201::v202::v203::v204::v205::v206::v207::v208::v209::v210::v211::v212::v213::v214::v215::v216::v217::v218::v219::v220::v221::v222::v223::v224::v225::v226::v227::u228::u229::u230::u231::u232::u233::u234::u235::u236::u237::u238::u239::u240::u241::u242::u243::u244::u245::u246::u247::u248::u249::u250::u251::u252::u253::u254::u255::u256::u257::u258::u259::u260::u261::u262::u263::u264::u265::u266::u267::u268::u269::u270::u271::u272::u273::u274::u275::u276::u277::u278::u279::u280::u281::(.bool false)::[]).toArray,[]⟩ w')) :
    (noE Tryz.f6).wp Tryz.prog Q ⟨(v0::v1::v2::v3::v4::(.pointer (some ⟨x,0,none⟩))::(.slice da nd cd)::(.int .i64 a)::(.slice (some ⟨lb,lo,none⟩) nl cl)::v9::v10::v11::v12::v13::(.int .i64 (k:Int))::v15::v16::v17::v18::v19::v20::v21::v22::v23::v24::v25::v26::v27::v28::v29::v30::v31::v32::v33::v34::v35::v36::v37::v38::v39::v40::v41::v42::v43::v44::v45::v46::v47::v48::v49::v50::v51::v52::v53::v54::v55::v56::v57::v58::v59::v60::v61::v62::v63::v64::v65::v66::v67::v68::v69::v70::v71::v72::v73::v74::v75::v76::v77::v78::v79::v80::v81::v82::v83::v84::v85::v86::v87::v88::v89::v90::v91::v92::v93::v94::v95::v96::v97::v98::v99::v100::v101::v102::v103::v104::v105::v106::v107::v108::v109::v110::v111::v112::v113::v114::v115::v116::v117::v118::v119::v120::v121::v122::v123::v124::v125::v126::v127::v128::v129::v130::v131::v132::v133::v134::v135::v136::v137::v138::v139::v140::v141::v142::v143::v144::v145::v146::v147::v148::v149::v150::v151::v152::v153::v154::v155::v156::v157::v158::v159::v160::v161::v162::v163::v164::v165::v166::v167::v168::v169::v170::v171::v172::v173::v174::v175::v176::v177::v178::v179::v180::v181::v182::v183::v184::v185::v186::v187::v188::v189::v190::v191::v192::v193::v194::v195::v196::v197::v198::v199::v200::v201::v202::v203::v204::v205::v206::v207::v208::v209::v210::v211::v212::v213::v214::v215::v216::v217::v218::v219::v220::v221::v222::v223::v224::v225::v226::v227::v228::v229::v230::v231::v232::v233::v234::v235::v236::v237::v238::v239::v240::v241::v242::v243::v244::v245::v246::v247::v248::v249::v250::v251::v252::v253::v254::v255::v256::v257::v258::v259::v260::v261::v262::v263::v264::v265::v266::v267::v268::v269::v270::v271::v272::v273::v274::v275::v276::v277::v278::v279::v280::v281::v282::[]).toArray,[]⟩ w:=by
  conv=>arg 2; whnf
  have hkz:(k:Int)<(nl:Int):=by omega
  have hk0:(0:Int)≤(k:Int):=by omega
  have HBx:Hid (Below w.heap.size w w.drew):=below_drew (Below.refl _ _)
  have HJ:=hidW (HC.out _ HBx.out)
  have wl1:IntKind.u64.wrap (r.lo*4096)=r.lo*4096:=by rw [IntKind.wrap_u64]; omega
  have wh1:IntKind.u64.wrap (r.hi*4096)=r.hi*4096:=by rw [IntKind.wrap_u64]; omega
  have wm1:IntKind.u64.wrap (r.hi+1)=r.hi+1:=by rw [IntKind.wrap_u64]; omega
  have wm2:IntKind.u64.wrap (r.hi*4096+4096)=r.hi*4096+4096:=by rw [IntKind.wrap_u64]; omega
  have hcs:(0<r.lo∧decide (0<r.lo)=true∧IntKind.u64.wrap (r.lo*4096-1)=r.lo*4096-1∧IntKind.u32.wrap (r.lo*4096-1)=r.lo*4096-1)∨(decide (0<r.lo)=false∧decide (0<r.lo)=false∧True∧True):=by
    by_cases h:0<r.lo
    · exact .inl ⟨h,decide_eq_true h,by rw [IntKind.wrap_u64]; omega,by rw [IntKind.wrap_u32]; omega⟩
    · exact .inr ⟨decide_eq_false h,decide_eq_false h,trivial,trivial⟩
  have hcs2:(r.hi+1<1048576∧decide (r.hi+1<1048576)=true∧IntKind.u32.wrap (r.hi*4096+4096)=r.hi*4096+4096)∨(decide (r.hi+1<1048576)=false∧decide (r.hi+1<1048576)=false∧True):=by
    by_cases h:r.hi+1<1048576
    · exact .inl ⟨h,decide_eq_true h,by rw [IntKind.wrap_u32]; omega⟩
    · exact .inr ⟨decide_eq_false h,decide_eq_false h,trivial⟩
  clear hr
  rcases hcs with ⟨q1,q2,q3,q4⟩|⟨q1,q2,q3,q4⟩
  all_goals
    rcases hcs2 with ⟨q5,q6,q7⟩|⟨q5,q6,q7⟩
    all_goals
      refine wp_region_held_drew (S:=fun ww=>ww.cell? ⟨x,4,none⟩=some (.pointer (some ⟨p,0,none⟩))∧ww.cell? ⟨x,5,none⟩=some iv∧ww.cell? ⟨lb,lo+k*2,none⟩=some (.int .u64 r.lo)∧ww.cell? ⟨lb,lo+k*2+1,none⟩=some (.int .u64 r.hi)) (by kernel_rfl) ?_ (fun hHeld=> ?_)
      · exact HJ.out
      refine wpAnyH_take (i:=0) (oi:=⟨some 228,.move (.tmp 8),92,_,#[],none⟩) (v:=?_) rfl (by kernel_rfl) (by kernel_rfl) (by kernel_rfl) hpan (Or.inl ⟨by rfl,?_⟩) (by assumption) ?_
      rotate_left
      · (intro w hSw; (try dsimp only at hSw); go_simp; try with_reducible rfl)
      simp only [Act.put,setIfInBounds_toArray,set_cons_zero,set_cons_succ]
      refine wpAnyH_take (i:=1) (oi:=⟨some 229,.move (.tmp 14),3,_,#[],none⟩) (v:=?_) rfl (by kernel_rfl) (by kernel_rfl) (by kernel_rfl) hpan (Or.inl ⟨by rfl,?_⟩) (by assumption) ?_
      rotate_left
      · (intro w hSw; (try dsimp only at hSw); go_simp; try with_reducible rfl)
      simp only [Act.put,setIfInBounds_toArray,set_cons_zero,set_cons_succ]
      refine wpAnyH_take (i:=2) (oi:=⟨some 230,.indexAddr 92 (.tmp 228) (.tmp 229),0,_,#[⟨0,.data⟩,⟨1,.data⟩],none⟩) (v:=?_) rfl (by kernel_rfl) (by kernel_rfl) (by kernel_rfl) hpan (Or.inl ⟨by rfl,?_⟩) (by assumption) ?_
      rotate_left
      · (intro w hSw; (try dsimp only at hSw); go_simp; try with_reducible rfl)
      simp only [Act.put,setIfInBounds_toArray,set_cons_zero,set_cons_succ]
      refine wpAnyH_take (i:=3) (oi:=⟨some 231,.fieldAddr 95 (.tmp 230) 0,0,_,#[⟨2,.data⟩],none⟩) (v:=?_) rfl (by kernel_rfl) (by kernel_rfl) (by kernel_rfl) hpan (Or.inl ⟨by rfl,?_⟩) (by assumption) ?_
      rotate_left
      · (intro w hSw; (try dsimp only at hSw); go_simp; try with_reducible rfl)
      simp only [Act.put,setIfInBounds_toArray,set_cons_zero,set_cons_succ]
      refine wpAnyH_take (i:=4) (oi:=⟨some 232,.load 35 (.tmp 231),35,_,#[⟨3,.data⟩],none⟩) (v:=?_) rfl (by kernel_rfl) (by kernel_rfl) (by kernel_rfl) hpan (Or.inl ⟨by rfl,?_⟩) (by assumption) ?_
      rotate_left
      · (intro w hSw; (try dsimp only at hSw); go_simp; try with_reducible rfl)
      simp only [Act.put,setIfInBounds_toArray,set_cons_zero,set_cons_succ]
      refine wpAnyH_take (i:=5) (oi:=⟨some 233,.binOp BinOp.gtr 35 (.tmp 232) (.const (Value.int IntKind.u64 0)) 35,4,_,#[⟨4,.data⟩],none⟩) (v:=?_) rfl (by kernel_rfl) (by kernel_rfl) (by kernel_rfl) hpan (Or.inl ⟨by rfl,?_⟩) (by assumption) ?_
      rotate_left
      · (intro w hSw; (try dsimp only at hSw); go_simp; try with_reducible rfl)
      simp only [Act.put,setIfInBounds_toArray,set_cons_zero,set_cons_succ]
      refine wpAnyH_take (i:=6) (oi:=⟨some 234,.move (.tmp 233),4,_,#[⟨5,.data⟩],none⟩) (v:=?_) rfl (by kernel_rfl) (by kernel_rfl) (by kernel_rfl) hpan (Or.inl ⟨by rfl,?_⟩) (by assumption) ?_
      rotate_left
      · (intro w hSw; (try dsimp only at hSw); go_simp; try with_reducible rfl)
      simp only [Act.put,setIfInBounds_toArray,set_cons_zero,set_cons_succ]
      first
        | (refine wpAnyH_take (i:=7) (oi:=⟨some 235,.move (.tmp 5),28,_,#[⟨6,.guard⟩],some (6,true)⟩) (v:=undef) rfl (by kernel_rfl) (by kernel_rfl) (by kernel_rfl) hpan (Or.inr ⟨?_,rfl⟩) (by assumption) ?_; (focus rfl); simp only [Act.put,setIfInBounds_toArray,set_cons_zero,set_cons_succ])
        | (refine wpAnyH_take (i:=7) (oi:=⟨some 235,.move (.tmp 5),28,_,#[⟨6,.guard⟩],some (6,true)⟩) (v:=?_) rfl (by kernel_rfl) (by kernel_rfl) (by kernel_rfl) hpan (Or.inl ⟨by rfl,?_⟩) (by assumption) ?_; rotate_left; (focus (intro w hSw; (try dsimp only at hSw); go_simp; try with_reducible rfl)); simp only [Act.put,setIfInBounds_toArray,set_cons_zero,set_cons_succ])
      first
        | (refine wpAnyH_take (i:=8) (oi:=⟨some 236,.nilCheck (.tmp 235),0,_,#[⟨7,.data⟩,⟨6,.guard⟩],some (6,true)⟩) (v:=undef) rfl (by kernel_rfl) (by kernel_rfl) (by kernel_rfl) hpan (Or.inr ⟨?_,rfl⟩) (by assumption) ?_; (focus rfl); simp only [Act.put,setIfInBounds_toArray,set_cons_zero,set_cons_succ])
        | (refine wpAnyH_take (i:=8) (oi:=⟨some 236,.nilCheck (.tmp 235),0,_,#[⟨7,.data⟩,⟨6,.guard⟩],some (6,true)⟩) (v:=?_) rfl (by kernel_rfl) (by kernel_rfl) (by kernel_rfl) hpan (Or.inl ⟨by rfl,?_⟩) (by assumption) ?_; rotate_left; (focus (intro w hSw; (try dsimp only at hSw); go_simp; try with_reducible rfl)); simp only [Act.put,setIfInBounds_toArray,set_cons_zero,set_cons_succ])
      first
        | (refine wpAnyH_take (i:=9) (oi:=⟨some 237,.fieldAddr 54 (.tmp 236) 1,0,_,#[⟨8,.data⟩,⟨6,.guard⟩],some (6,true)⟩) (v:=undef) rfl (by kernel_rfl) (by kernel_rfl) (by kernel_rfl) hpan (Or.inr ⟨?_,rfl⟩) (by assumption) ?_; (focus rfl); simp only [Act.put,setIfInBounds_toArray,set_cons_zero,set_cons_succ])
        | (refine wpAnyH_take (i:=9) (oi:=⟨some 237,.fieldAddr 54 (.tmp 236) 1,0,_,#[⟨8,.data⟩,⟨6,.guard⟩],some (6,true)⟩) (v:=?_) rfl (by kernel_rfl) (by kernel_rfl) (by kernel_rfl) hpan (Or.inl ⟨by rfl,?_⟩) (by assumption) ?_; rotate_left; (focus (intro w hSw; (try dsimp only at hSw); go_simp; try with_reducible rfl)); simp only [Act.put,setIfInBounds_toArray,set_cons_zero,set_cons_succ])
      first
        | (refine wpAnyH_take (i:=10) (oi:=⟨some 238,.load 49 (.tmp 237),49,_,#[⟨9,.data⟩,⟨6,.guard⟩],some (6,true)⟩) (v:=undef) rfl (by kernel_rfl) (by kernel_rfl) (by kernel_rfl) hpan (Or.inr ⟨?_,rfl⟩) (by assumption) ?_; (focus rfl); simp only [Act.put,setIfInBounds_toArray,set_cons_zero,set_cons_succ])
        | (refine wpAnyH_take (i:=10) (oi:=⟨some 238,.load 49 (.tmp 237),49,_,#[⟨9,.data⟩,⟨6,.guard⟩],some (6,true)⟩) (v:=?_) rfl (by kernel_rfl) (by kernel_rfl) (by kernel_rfl) hpan (Or.inl ⟨by rfl,?_⟩) (by assumption) ?_; rotate_left; (focus (intro w hSw; (try dsimp only at hSw); go_simp; try with_reducible rfl)); simp only [Act.put,setIfInBounds_toArray,set_cons_zero,set_cons_succ])
      first
        | (refine wpAnyH_take (i:=11) (oi:=⟨some 239,.move (.tmp 5),28,_,#[⟨6,.guard⟩],some (6,true)⟩) (v:=undef) rfl (by kernel_rfl) (by kernel_rfl) (by kernel_rfl) hpan (Or.inr ⟨?_,rfl⟩) (by assumption) ?_; (focus rfl); simp only [Act.put,setIfInBounds_toArray,set_cons_zero,set_cons_succ])
        | (refine wpAnyH_take (i:=11) (oi:=⟨some 239,.move (.tmp 5),28,_,#[⟨6,.guard⟩],some (6,true)⟩) (v:=?_) rfl (by kernel_rfl) (by kernel_rfl) (by kernel_rfl) hpan (Or.inl ⟨by rfl,?_⟩) (by assumption) ?_; rotate_left; (focus (intro w hSw; (try dsimp only at hSw); go_simp; try with_reducible rfl)); simp only [Act.put,setIfInBounds_toArray,set_cons_zero,set_cons_succ])
      first
        | (refine wpAnyH_take (i:=12) (oi:=⟨some 240,.nilCheck (.tmp 239),0,_,#[⟨11,.data⟩,⟨6,.guard⟩],some (6,true)⟩) (v:=undef) rfl (by kernel_rfl) (by kernel_rfl) (by kernel_rfl) hpan (Or.inr ⟨?_,rfl⟩) (by assumption) ?_; (focus rfl); simp only [Act.put,setIfInBounds_toArray,set_cons_zero,set_cons_succ])
        | (refine wpAnyH_take (i:=12) (oi:=⟨some 240,.nilCheck (.tmp 239),0,_,#[⟨11,.data⟩,⟨6,.guard⟩],some (6,true)⟩) (v:=?_) rfl (by kernel_rfl) (by kernel_rfl) (by kernel_rfl) hpan (Or.inl ⟨by rfl,?_⟩) (by assumption) ?_; rotate_left; (focus (intro w hSw; (try dsimp only at hSw); go_simp; try with_reducible rfl)); simp only [Act.put,setIfInBounds_toArray,set_cons_zero,set_cons_succ])
      first
        | (refine wpAnyH_take (i:=13) (oi:=⟨some 241,.fieldAddr 54 (.tmp 240) 2,0,_,#[⟨12,.data⟩,⟨6,.guard⟩],some (6,true)⟩) (v:=undef) rfl (by kernel_rfl) (by kernel_rfl) (by kernel_rfl) hpan (Or.inr ⟨?_,rfl⟩) (by assumption) ?_; (focus rfl); simp only [Act.put,setIfInBounds_toArray,set_cons_zero,set_cons_succ])
        | (refine wpAnyH_take (i:=13) (oi:=⟨some 241,.fieldAddr 54 (.tmp 240) 2,0,_,#[⟨12,.data⟩,⟨6,.guard⟩],some (6,true)⟩) (v:=?_) rfl (by kernel_rfl) (by kernel_rfl) (by kernel_rfl) hpan (Or.inl ⟨by rfl,?_⟩) (by assumption) ?_; rotate_left; (focus (intro w hSw; (try dsimp only at hSw); go_simp; try with_reducible rfl)); simp only [Act.put,setIfInBounds_toArray,set_cons_zero,set_cons_succ])
      first
        | (refine wpAnyH_take (i:=14) (oi:=⟨some 242,.load 51 (.tmp 241),51,_,#[⟨13,.data⟩,⟨6,.guard⟩],some (6,true)⟩) (v:=undef) rfl (by kernel_rfl) (by kernel_rfl) (by kernel_rfl) hpan (Or.inr ⟨?_,rfl⟩) (by assumption) ?_; (focus rfl); simp only [Act.put,setIfInBounds_toArray,set_cons_zero,set_cons_succ])
        | (refine wpAnyH_take (i:=14) (oi:=⟨some 242,.load 51 (.tmp 241),51,_,#[⟨13,.data⟩,⟨6,.guard⟩],some (6,true)⟩) (v:=?_) rfl (by kernel_rfl) (by kernel_rfl) (by kernel_rfl) hpan (Or.inl ⟨by rfl,?_⟩) (by assumption) ?_; rotate_left; (focus (intro w hSw; (try dsimp only at hSw); go_simp; try with_reducible rfl)); simp only [Act.put,setIfInBounds_toArray,set_cons_zero,set_cons_succ])
      first
        | (refine wpAnyH_take (i:=15) (oi:=⟨some 243,.move (.tmp 7),3,_,#[⟨6,.guard⟩],some (6,true)⟩) (v:=undef) rfl (by kernel_rfl) (by kernel_rfl) (by kernel_rfl) hpan (Or.inr ⟨?_,rfl⟩) (by assumption) ?_; (focus rfl); simp only [Act.put,setIfInBounds_toArray,set_cons_zero,set_cons_succ])
        | (refine wpAnyH_take (i:=15) (oi:=⟨some 243,.move (.tmp 7),3,_,#[⟨6,.guard⟩],some (6,true)⟩) (v:=?_) rfl (by kernel_rfl) (by kernel_rfl) (by kernel_rfl) hpan (Or.inl ⟨by rfl,?_⟩) (by assumption) ?_; rotate_left; (focus (intro w hSw; (try dsimp only at hSw); go_simp; try with_reducible rfl)); simp only [Act.put,setIfInBounds_toArray,set_cons_zero,set_cons_succ])
      first
        | (refine wpAnyH_take (i:=16) (oi:=⟨some 244,.move (.tmp 8),92,_,#[⟨6,.guard⟩],some (6,true)⟩) (v:=undef) rfl (by kernel_rfl) (by kernel_rfl) (by kernel_rfl) hpan (Or.inr ⟨?_,rfl⟩) (by assumption) ?_; (focus rfl); simp only [Act.put,setIfInBounds_toArray,set_cons_zero,set_cons_succ])
        | (refine wpAnyH_take (i:=16) (oi:=⟨some 244,.move (.tmp 8),92,_,#[⟨6,.guard⟩],some (6,true)⟩) (v:=?_) rfl (by kernel_rfl) (by kernel_rfl) (by kernel_rfl) hpan (Or.inl ⟨by rfl,?_⟩) (by assumption) ?_; rotate_left; (focus (intro w hSw; (try dsimp only at hSw); go_simp; try with_reducible rfl)); simp only [Act.put,setIfInBounds_toArray,set_cons_zero,set_cons_succ])
      first
        | (refine wpAnyH_take (i:=17) (oi:=⟨some 245,.move (.tmp 14),3,_,#[⟨6,.guard⟩],some (6,true)⟩) (v:=undef) rfl (by kernel_rfl) (by kernel_rfl) (by kernel_rfl) hpan (Or.inr ⟨?_,rfl⟩) (by assumption) ?_; (focus rfl); simp only [Act.put,setIfInBounds_toArray,set_cons_zero,set_cons_succ])
        | (refine wpAnyH_take (i:=17) (oi:=⟨some 245,.move (.tmp 14),3,_,#[⟨6,.guard⟩],some (6,true)⟩) (v:=?_) rfl (by kernel_rfl) (by kernel_rfl) (by kernel_rfl) hpan (Or.inl ⟨by rfl,?_⟩) (by assumption) ?_; rotate_left; (focus (intro w hSw; (try dsimp only at hSw); go_simp; try with_reducible rfl)); simp only [Act.put,setIfInBounds_toArray,set_cons_zero,set_cons_succ])
      first
        | (refine wpAnyH_take (i:=18) (oi:=⟨some 246,.indexAddr 92 (.tmp 244) (.tmp 245),0,_,#[⟨16,.data⟩,⟨17,.data⟩,⟨6,.guard⟩],some (6,true)⟩) (v:=undef) rfl (by kernel_rfl) (by kernel_rfl) (by kernel_rfl) hpan (Or.inr ⟨?_,rfl⟩) (by assumption) ?_; (focus rfl); simp only [Act.put,setIfInBounds_toArray,set_cons_zero,set_cons_succ])
        | (refine wpAnyH_take (i:=18) (oi:=⟨some 246,.indexAddr 92 (.tmp 244) (.tmp 245),0,_,#[⟨16,.data⟩,⟨17,.data⟩,⟨6,.guard⟩],some (6,true)⟩) (v:=?_) rfl (by kernel_rfl) (by kernel_rfl) (by kernel_rfl) hpan (Or.inl ⟨by rfl,?_⟩) (by assumption) ?_; rotate_left; (focus (intro w hSw; (try dsimp only at hSw); go_simp; try with_reducible rfl)); simp only [Act.put,setIfInBounds_toArray,set_cons_zero,set_cons_succ])
      first
        | (refine wpAnyH_take (i:=19) (oi:=⟨some 247,.fieldAddr 95 (.tmp 246) 0,0,_,#[⟨18,.data⟩,⟨6,.guard⟩],some (6,true)⟩) (v:=undef) rfl (by kernel_rfl) (by kernel_rfl) (by kernel_rfl) hpan (Or.inr ⟨?_,rfl⟩) (by assumption) ?_; (focus rfl); simp only [Act.put,setIfInBounds_toArray,set_cons_zero,set_cons_succ])
        | (refine wpAnyH_take (i:=19) (oi:=⟨some 247,.fieldAddr 95 (.tmp 246) 0,0,_,#[⟨18,.data⟩,⟨6,.guard⟩],some (6,true)⟩) (v:=?_) rfl (by kernel_rfl) (by kernel_rfl) (by kernel_rfl) hpan (Or.inl ⟨by rfl,?_⟩) (by assumption) ?_; rotate_left; (focus (intro w hSw; (try dsimp only at hSw); go_simp; try with_reducible rfl)); simp only [Act.put,setIfInBounds_toArray,set_cons_zero,set_cons_succ])
      first
        | (refine wpAnyH_take (i:=20) (oi:=⟨some 248,.load 35 (.tmp 247),35,_,#[⟨19,.data⟩,⟨6,.guard⟩],some (6,true)⟩) (v:=undef) rfl (by kernel_rfl) (by kernel_rfl) (by kernel_rfl) hpan (Or.inr ⟨?_,rfl⟩) (by assumption) ?_; (focus rfl); simp only [Act.put,setIfInBounds_toArray,set_cons_zero,set_cons_succ])
        | (refine wpAnyH_take (i:=20) (oi:=⟨some 248,.load 35 (.tmp 247),35,_,#[⟨19,.data⟩,⟨6,.guard⟩],some (6,true)⟩) (v:=?_) rfl (by kernel_rfl) (by kernel_rfl) (by kernel_rfl) hpan (Or.inl ⟨by rfl,?_⟩) (by assumption) ?_; rotate_left; (focus (intro w hSw; (try dsimp only at hSw); go_simp; try with_reducible rfl)); simp only [Act.put,setIfInBounds_toArray,set_cons_zero,set_cons_succ])
      first
        | (refine wpAnyH_take (i:=21) (oi:=⟨some 249,.binOp BinOp.mul 35 (.tmp 248) (.const (Value.int IntKind.u64 4096)) 35,35,_,#[⟨20,.data⟩,⟨6,.guard⟩],some (6,true)⟩) (v:=undef) rfl (by kernel_rfl) (by kernel_rfl) (by kernel_rfl) hpan (Or.inr ⟨?_,rfl⟩) (by assumption) ?_; (focus rfl); simp only [Act.put,setIfInBounds_toArray,set_cons_zero,set_cons_succ])
        | (refine wpAnyH_take (i:=21) (oi:=⟨some 249,.binOp BinOp.mul 35 (.tmp 248) (.const (Value.int IntKind.u64 4096)) 35,35,_,#[⟨20,.data⟩,⟨6,.guard⟩],some (6,true)⟩) (v:=?_) rfl (by kernel_rfl) (by kernel_rfl) (by kernel_rfl) hpan (Or.inl ⟨by rfl,?_⟩) (by assumption) ?_; rotate_left; (focus (intro w hSw; (try dsimp only at hSw); go_simp; try with_reducible rfl)); simp only [Act.put,setIfInBounds_toArray,set_cons_zero,set_cons_succ])
      first
        | (refine wpAnyH_take (i:=22) (oi:=⟨some 250,.binOp BinOp.sub 35 (.tmp 249) (.const (Value.int IntKind.u64 1)) 35,35,_,#[⟨21,.data⟩,⟨6,.guard⟩],some (6,true)⟩) (v:=undef) rfl (by kernel_rfl) (by kernel_rfl) (by kernel_rfl) hpan (Or.inr ⟨?_,rfl⟩) (by assumption) ?_; (focus rfl); simp only [Act.put,setIfInBounds_toArray,set_cons_zero,set_cons_succ])
        | (refine wpAnyH_take (i:=22) (oi:=⟨some 250,.binOp BinOp.sub 35 (.tmp 249) (.const (Value.int IntKind.u64 1)) 35,35,_,#[⟨21,.data⟩,⟨6,.guard⟩],some (6,true)⟩) (v:=?_) rfl (by kernel_rfl) (by kernel_rfl) (by kernel_rfl) hpan (Or.inl ⟨by rfl,?_⟩) (by assumption) ?_; rotate_left; (focus (intro w hSw; (try dsimp only at hSw); go_simp; try with_reducible rfl)); simp only [Act.put,setIfInBounds_toArray,set_cons_zero,set_cons_succ])
      first
        | (refine wpAnyH_take (i:=23) (oi:=⟨some 251,.convert 35 32 (.tmp 250),32,_,#[⟨22,.data⟩,⟨6,.guard⟩],some (6,true)⟩) (v:=undef) rfl (by kernel_rfl) (by kernel_rfl) (by kernel_rfl) hpan (Or.inr ⟨?_,rfl⟩) (by assumption) ?_; (focus rfl); simp only [Act.put,setIfInBounds_toArray,set_cons_zero,set_cons_succ])
        | (refine wpAnyH_take (i:=23) (oi:=⟨some 251,.convert 35 32 (.tmp 250),32,_,#[⟨22,.data⟩,⟨6,.guard⟩],some (6,true)⟩) (v:=?_) rfl (by kernel_rfl) (by kernel_rfl) (by kernel_rfl) hpan (Or.inl ⟨by rfl,?_⟩) (by assumption) ?_; rotate_left; (focus (intro w hSw; (try dsimp only at hSw); go_simp; try with_reducible rfl)); simp only [Act.put,setIfInBounds_toArray,set_cons_zero,set_cons_succ])
      first
        | (refine wpAnyH_take (i:=24) (oi:=⟨some 252,.call ⟨.value (.func 30),#[.tmp 238,.tmp 242,.tmp 243,.tmp 251],#[49,51,3,32]⟩,4,_,#[⟨10,.data⟩,⟨14,.data⟩,⟨15,.data⟩,⟨23,.data⟩,⟨6,.chain⟩,⟨6,.guard⟩],some (6,true)⟩) (v:=undef) rfl (by kernel_rfl) (by kernel_rfl) (by kernel_rfl) hpan (Or.inr ⟨?_,rfl⟩) (by assumption) ?_; (focus rfl); simp only [Act.put,setIfInBounds_toArray,set_cons_zero,set_cons_succ])
        | (refine wpAnyH_ready (rs:=[24]) (by kernel_rfl) (by simp) ?_; refine AllReadyH.cons (o:=⟨some 252,.call ⟨.value (.func 30),#[.tmp 238,.tmp 242,.tmp 243,.tmp 251],#[49,51,3,32]⟩,4,_,#[⟨10,.data⟩,⟨14,.data⟩,⟨15,.data⟩,⟨23,.data⟩,⟨6,.chain⟩,⟨6,.guard⟩],some (6,true)⟩) rfl (fun K hK=> ?_) AllReadyH.nil; go_simp; (go_at_call 30; refine (HSf.out _ (by first|exact Or.inl ⟨by with_reducible rfl,q1⟩|exact Or.inr ⟨by with_reducible rfl,q5⟩) _ HBx.out).mono ?_; rintro e w3 ⟨rfl,g3⟩; replace HBx:=hidW (Below.step HBx.out g3); have HJ:=hidW (HC.out _ HBx.out); clear g3); refine hK.out _ _ ?_ (fun hHeld=> ?_); (focus ((try dsimp only); with_reducible exact HJ.out)); clear hK K; try simp only [Act.put,setIfInBounds_toArray,set_cons_zero,set_cons_succ])
      refine wpAnyH_take (i:=25) (oi:=⟨some 253,.pick (.tmp 234) (.tmp 252) (.const (Value.bool false)),4,_,#[⟨6,.data⟩,⟨24,.data⟩],none⟩) (v:=?_) rfl (by kernel_rfl) (by kernel_rfl) (by kernel_rfl) hpan (Or.inl ⟨by rfl,?_⟩) (by assumption) ?_
      rotate_left
      · (intro w hSw; (try dsimp only at hSw); go_simp; try with_reducible rfl)
      simp only [Act.put,setIfInBounds_toArray,set_cons_zero,set_cons_succ]
      refine wpAnyH_take (i:=26) (oi:=⟨some 254,.move (.tmp 253),4,_,#[⟨25,.data⟩,⟨24,.chain⟩],none⟩) (v:=?_) rfl (by kernel_rfl) (by kernel_rfl) (by kernel_rfl) hpan (Or.inl ⟨by rfl,?_⟩) (by assumption) ?_
      rotate_left
      · (intro w hSw; (try dsimp only at hSw); go_simp; try with_reducible rfl)
      simp only [Act.put,setIfInBounds_toArray,set_cons_zero,set_cons_succ]
      refine wpAnyH_take (i:=27) (oi:=⟨some 255,.move (.tmp 8),92,_,#[⟨26,.guard⟩],some (26,false)⟩) (v:=?_) rfl (by kernel_rfl) (by kernel_rfl) (by kernel_rfl) hpan (Or.inl ⟨by rfl,?_⟩) (by assumption) ?_
      rotate_left
      · (intro w hSw; (try dsimp only at hSw); go_simp; try with_reducible rfl)
      simp only [Act.put,setIfInBounds_toArray,set_cons_zero,set_cons_succ]
      refine wpAnyH_take (i:=28) (oi:=⟨some 256,.move (.tmp 14),3,_,#[⟨26,.guard⟩],some (26,false)⟩) (v:=?_) rfl (by kernel_rfl) (by kernel_rfl) (by kernel_rfl) hpan (Or.inl ⟨by rfl,?_⟩) (by assumption) ?_
      rotate_left
      · (intro w hSw; (try dsimp only at hSw); go_simp; try with_reducible rfl)
      simp only [Act.put,setIfInBounds_toArray,set_cons_zero,set_cons_succ]
      refine wpAnyH_take (i:=29) (oi:=⟨some 257,.indexAddr 92 (.tmp 255) (.tmp 256),0,_,#[⟨27,.data⟩,⟨28,.data⟩,⟨26,.guard⟩],some (26,false)⟩) (v:=?_) rfl (by kernel_rfl) (by kernel_rfl) (by kernel_rfl) hpan (Or.inl ⟨by rfl,?_⟩) (by assumption) ?_
      rotate_left
      · (intro w hSw; (try dsimp only at hSw); go_simp; try with_reducible rfl)
      simp only [Act.put,setIfInBounds_toArray,set_cons_zero,set_cons_succ]
      refine wpAnyH_take (i:=30) (oi:=⟨some 258,.fieldAddr 95 (.tmp 257) 1,0,_,#[⟨29,.data⟩,⟨26,.guard⟩],some (26,false)⟩) (v:=?_) rfl (by kernel_rfl) (by kernel_rfl) (by kernel_rfl) hpan (Or.inl ⟨by rfl,?_⟩) (by assumption) ?_
      rotate_left
      · (intro w hSw; (try dsimp only at hSw); go_simp; try with_reducible rfl)
      simp only [Act.put,setIfInBounds_toArray,set_cons_zero,set_cons_succ]
      refine wpAnyH_take (i:=31) (oi:=⟨some 259,.load 35 (.tmp 258),35,_,#[⟨30,.data⟩,⟨26,.guard⟩],some (26,false)⟩) (v:=?_) rfl (by kernel_rfl) (by kernel_rfl) (by kernel_rfl) hpan (Or.inl ⟨by rfl,?_⟩) (by assumption) ?_
      rotate_left
      · (intro w hSw; (try dsimp only at hSw); go_simp; try with_reducible rfl)
      simp only [Act.put,setIfInBounds_toArray,set_cons_zero,set_cons_succ]
      refine wpAnyH_take (i:=32) (oi:=⟨some 260,.binOp BinOp.add 35 (.tmp 259) (.const (Value.int IntKind.u64 1)) 35,35,_,#[⟨31,.data⟩,⟨26,.guard⟩],some (26,false)⟩) (v:=?_) rfl (by kernel_rfl) (by kernel_rfl) (by kernel_rfl) hpan (Or.inl ⟨by rfl,?_⟩) (by assumption) ?_
      rotate_left
      · (intro w hSw; (try dsimp only at hSw); go_simp; try with_reducible rfl)
      simp only [Act.put,setIfInBounds_toArray,set_cons_zero,set_cons_succ]
      refine wpAnyH_take (i:=33) (oi:=⟨some 261,.binOp BinOp.lss 35 (.tmp 260) (.const (Value.int IntKind.u64 1048576)) 35,4,_,#[⟨32,.data⟩,⟨26,.guard⟩],some (26,false)⟩) (v:=?_) rfl (by kernel_rfl) (by kernel_rfl) (by kernel_rfl) hpan (Or.inl ⟨by rfl,?_⟩) (by assumption) ?_
      rotate_left
      · (intro w hSw; (try dsimp only at hSw); go_simp; try with_reducible rfl)
      simp only [Act.put,setIfInBounds_toArray,set_cons_zero,set_cons_succ]
      refine wpAnyH_take (i:=34) (oi:=⟨some 262,.move (.tmp 261),4,_,#[⟨33,.data⟩,⟨26,.chain⟩,⟨26,.guard⟩],some (26,false)⟩) (v:=?_) rfl (by kernel_rfl) (by kernel_rfl) (by kernel_rfl) hpan (Or.inl ⟨by rfl,?_⟩) (by assumption) ?_
      rotate_left
      · (intro w hSw; (try dsimp only at hSw); go_simp; try with_reducible rfl)
      simp only [Act.put,setIfInBounds_toArray,set_cons_zero,set_cons_succ]
      first
        | (refine wpAnyH_take (i:=35) (oi:=⟨some 263,.move (.tmp 5),28,_,#[⟨34,.guard⟩],some (34,true)⟩) (v:=undef) rfl (by kernel_rfl) (by kernel_rfl) (by kernel_rfl) hpan (Or.inr ⟨?_,rfl⟩) (by assumption) ?_; (focus rfl); simp only [Act.put,setIfInBounds_toArray,set_cons_zero,set_cons_succ])
        | (refine wpAnyH_take (i:=35) (oi:=⟨some 263,.move (.tmp 5),28,_,#[⟨34,.guard⟩],some (34,true)⟩) (v:=?_) rfl (by kernel_rfl) (by kernel_rfl) (by kernel_rfl) hpan (Or.inl ⟨by rfl,?_⟩) (by assumption) ?_; rotate_left; (focus (intro w hSw; (try dsimp only at hSw); go_simp; try with_reducible rfl)); simp only [Act.put,setIfInBounds_toArray,set_cons_zero,set_cons_succ])
      first
        | (refine wpAnyH_take (i:=36) (oi:=⟨some 264,.nilCheck (.tmp 263),0,_,#[⟨35,.data⟩,⟨34,.guard⟩],some (34,true)⟩) (v:=undef) rfl (by kernel_rfl) (by kernel_rfl) (by kernel_rfl) hpan (Or.inr ⟨?_,rfl⟩) (by assumption) ?_; (focus rfl); simp only [Act.put,setIfInBounds_toArray,set_cons_zero,set_cons_succ])
        | (refine wpAnyH_take (i:=36) (oi:=⟨some 264,.nilCheck (.tmp 263),0,_,#[⟨35,.data⟩,⟨34,.guard⟩],some (34,true)⟩) (v:=?_) rfl (by kernel_rfl) (by kernel_rfl) (by kernel_rfl) hpan (Or.inl ⟨by rfl,?_⟩) (by assumption) ?_; rotate_left; (focus (intro w hSw; (try dsimp only at hSw); go_simp; try with_reducible rfl)); simp only [Act.put,setIfInBounds_toArray,set_cons_zero,set_cons_succ])
      first
        | (refine wpAnyH_take (i:=37) (oi:=⟨some 265,.fieldAddr 54 (.tmp 264) 1,0,_,#[⟨36,.data⟩,⟨34,.guard⟩],some (34,true)⟩) (v:=undef) rfl (by kernel_rfl) (by kernel_rfl) (by kernel_rfl) hpan (Or.inr ⟨?_,rfl⟩) (by assumption) ?_; (focus rfl); simp only [Act.put,setIfInBounds_toArray,set_cons_zero,set_cons_succ])
        | (refine wpAnyH_take (i:=37) (oi:=⟨some 265,.fieldAddr 54 (.tmp 264) 1,0,_,#[⟨36,.data⟩,⟨34,.guard⟩],some (34,true)⟩) (v:=?_) rfl (by kernel_rfl) (by kernel_rfl) (by kernel_rfl) hpan (Or.inl ⟨by rfl,?_⟩) (by assumption) ?_; rotate_left; (focus (intro w hSw; (try dsimp only at hSw); go_simp; try with_reducible rfl)); simp only [Act.put,setIfInBounds_toArray,set_cons_zero,set_cons_succ])
      first
        | (refine wpAnyH_take (i:=38) (oi:=⟨some 266,.load 49 (.tmp 265),49,_,#[⟨37,.data⟩,⟨34,.guard⟩],some (34,true)⟩) (v:=undef) rfl (by kernel_rfl) (by kernel_rfl) (by kernel_rfl) hpan (Or.inr ⟨?_,rfl⟩) (by assumption) ?_; (focus rfl); simp only [Act.put,setIfInBounds_toArray,set_cons_zero,set_cons_succ])
        | (refine wpAnyH_take (i:=38) (oi:=⟨some 266,.load 49 (.tmp 265),49,_,#[⟨37,.data⟩,⟨34,.guard⟩],some (34,true)⟩) (v:=?_) rfl (by kernel_rfl) (by kernel_rfl) (by kernel_rfl) hpan (Or.inl ⟨by rfl,?_⟩) (by assumption) ?_; rotate_left; (focus (intro w hSw; (try dsimp only at hSw); go_simp; try with_reducible rfl)); simp only [Act.put,setIfInBounds_toArray,set_cons_zero,set_cons_succ])
      first
        | (refine wpAnyH_take (i:=39) (oi:=⟨some 267,.move (.tmp 5),28,_,#[⟨34,.guard⟩],some (34,true)⟩) (v:=undef) rfl (by kernel_rfl) (by kernel_rfl) (by kernel_rfl) hpan (Or.inr ⟨?_,rfl⟩) (by assumption) ?_; (focus rfl); simp only [Act.put,setIfInBounds_toArray,set_cons_zero,set_cons_succ])
        | (refine wpAnyH_take (i:=39) (oi:=⟨some 267,.move (.tmp 5),28,_,#[⟨34,.guard⟩],some (34,true)⟩) (v:=?_) rfl (by kernel_rfl) (by kernel_rfl) (by kernel_rfl) hpan (Or.inl ⟨by rfl,?_⟩) (by assumption) ?_; rotate_left; (focus (intro w hSw; (try dsimp only at hSw); go_simp; try with_reducible rfl)); simp only [Act.put,setIfInBounds_toArray,set_cons_zero,set_cons_succ])
      first
        | (refine wpAnyH_take (i:=40) (oi:=⟨some 268,.nilCheck (.tmp 267),0,_,#[⟨39,.data⟩,⟨34,.guard⟩],some (34,true)⟩) (v:=undef) rfl (by kernel_rfl) (by kernel_rfl) (by kernel_rfl) hpan (Or.inr ⟨?_,rfl⟩) (by assumption) ?_; (focus rfl); simp only [Act.put,setIfInBounds_toArray,set_cons_zero,set_cons_succ])
        | (refine wpAnyH_take (i:=40) (oi:=⟨some 268,.nilCheck (.tmp 267),0,_,#[⟨39,.data⟩,⟨34,.guard⟩],some (34,true)⟩) (v:=?_) rfl (by kernel_rfl) (by kernel_rfl) (by kernel_rfl) hpan (Or.inl ⟨by rfl,?_⟩) (by assumption) ?_; rotate_left; (focus (intro w hSw; (try dsimp only at hSw); go_simp; try with_reducible rfl)); simp only [Act.put,setIfInBounds_toArray,set_cons_zero,set_cons_succ])
      first
        | (refine wpAnyH_take (i:=41) (oi:=⟨some 269,.fieldAddr 54 (.tmp 268) 2,0,_,#[⟨40,.data⟩,⟨34,.guard⟩],some (34,true)⟩) (v:=undef) rfl (by kernel_rfl) (by kernel_rfl) (by kernel_rfl) hpan (Or.inr ⟨?_,rfl⟩) (by assumption) ?_; (focus rfl); simp only [Act.put,setIfInBounds_toArray,set_cons_zero,set_cons_succ])
        | (refine wpAnyH_take (i:=41) (oi:=⟨some 269,.fieldAddr 54 (.tmp 268) 2,0,_,#[⟨40,.data⟩,⟨34,.guard⟩],some (34,true)⟩) (v:=?_) rfl (by kernel_rfl) (by kernel_rfl) (by kernel_rfl) hpan (Or.inl ⟨by rfl,?_⟩) (by assumption) ?_; rotate_left; (focus (intro w hSw; (try dsimp only at hSw); go_simp; try with_reducible rfl)); simp only [Act.put,setIfInBounds_toArray,set_cons_zero,set_cons_succ])
      first
        | (refine wpAnyH_take (i:=42) (oi:=⟨some 270,.load 51 (.tmp 269),51,_,#[⟨41,.data⟩,⟨34,.guard⟩],some (34,true)⟩) (v:=undef) rfl (by kernel_rfl) (by kernel_rfl) (by kernel_rfl) hpan (Or.inr ⟨?_,rfl⟩) (by assumption) ?_; (focus rfl); simp only [Act.put,setIfInBounds_toArray,set_cons_zero,set_cons_succ])
        | (refine wpAnyH_take (i:=42) (oi:=⟨some 270,.load 51 (.tmp 269),51,_,#[⟨41,.data⟩,⟨34,.guard⟩],some (34,true)⟩) (v:=?_) rfl (by kernel_rfl) (by kernel_rfl) (by kernel_rfl) hpan (Or.inl ⟨by rfl,?_⟩) (by assumption) ?_; rotate_left; (focus (intro w hSw; (try dsimp only at hSw); go_simp; try with_reducible rfl)); simp only [Act.put,setIfInBounds_toArray,set_cons_zero,set_cons_succ])
      first
        | (refine wpAnyH_take (i:=43) (oi:=⟨some 271,.move (.tmp 7),3,_,#[⟨34,.guard⟩],some (34,true)⟩) (v:=undef) rfl (by kernel_rfl) (by kernel_rfl) (by kernel_rfl) hpan (Or.inr ⟨?_,rfl⟩) (by assumption) ?_; (focus rfl); simp only [Act.put,setIfInBounds_toArray,set_cons_zero,set_cons_succ])
        | (refine wpAnyH_take (i:=43) (oi:=⟨some 271,.move (.tmp 7),3,_,#[⟨34,.guard⟩],some (34,true)⟩) (v:=?_) rfl (by kernel_rfl) (by kernel_rfl) (by kernel_rfl) hpan (Or.inl ⟨by rfl,?_⟩) (by assumption) ?_; rotate_left; (focus (intro w hSw; (try dsimp only at hSw); go_simp; try with_reducible rfl)); simp only [Act.put,setIfInBounds_toArray,set_cons_zero,set_cons_succ])
      first
        | (refine wpAnyH_take (i:=44) (oi:=⟨some 272,.move (.tmp 8),92,_,#[⟨34,.guard⟩],some (34,true)⟩) (v:=undef) rfl (by kernel_rfl) (by kernel_rfl) (by kernel_rfl) hpan (Or.inr ⟨?_,rfl⟩) (by assumption) ?_; (focus rfl); simp only [Act.put,setIfInBounds_toArray,set_cons_zero,set_cons_succ])
        | (refine wpAnyH_take (i:=44) (oi:=⟨some 272,.move (.tmp 8),92,_,#[⟨34,.guard⟩],some (34,true)⟩) (v:=?_) rfl (by kernel_rfl) (by kernel_rfl) (by kernel_rfl) hpan (Or.inl ⟨by rfl,?_⟩) (by assumption) ?_; rotate_left; (focus (intro w hSw; (try dsimp only at hSw); go_simp; try with_reducible rfl)); simp only [Act.put,setIfInBounds_toArray,set_cons_zero,set_cons_succ])
      first
        | (refine wpAnyH_take (i:=45) (oi:=⟨some 273,.move (.tmp 14),3,_,#[⟨34,.guard⟩],some (34,true)⟩) (v:=undef) rfl (by kernel_rfl) (by kernel_rfl) (by kernel_rfl) hpan (Or.inr ⟨?_,rfl⟩) (by assumption) ?_; (focus rfl); simp only [Act.put,setIfInBounds_toArray,set_cons_zero,set_cons_succ])
        | (refine wpAnyH_take (i:=45) (oi:=⟨some 273,.move (.tmp 14),3,_,#[⟨34,.guard⟩],some (34,true)⟩) (v:=?_) rfl (by kernel_rfl) (by kernel_rfl) (by kernel_rfl) hpan (Or.inl ⟨by rfl,?_⟩) (by assumption) ?_; rotate_left; (focus (intro w hSw; (try dsimp only at hSw); go_simp; try with_reducible rfl)); simp only [Act.put,setIfInBounds_toArray,set_cons_zero,set_cons_succ])
      first
        | (refine wpAnyH_take (i:=46) (oi:=⟨some 274,.indexAddr 92 (.tmp 272) (.tmp 273),0,_,#[⟨44,.data⟩,⟨45,.data⟩,⟨34,.guard⟩],some (34,true)⟩) (v:=undef) rfl (by kernel_rfl) (by kernel_rfl) (by kernel_rfl) hpan (Or.inr ⟨?_,rfl⟩) (by assumption) ?_; (focus rfl); simp only [Act.put,setIfInBounds_toArray,set_cons_zero,set_cons_succ])
        | (refine wpAnyH_take (i:=46) (oi:=⟨some 274,.indexAddr 92 (.tmp 272) (.tmp 273),0,_,#[⟨44,.data⟩,⟨45,.data⟩,⟨34,.guard⟩],some (34,true)⟩) (v:=?_) rfl (by kernel_rfl) (by kernel_rfl) (by kernel_rfl) hpan (Or.inl ⟨by rfl,?_⟩) (by assumption) ?_; rotate_left; (focus (intro w hSw; (try dsimp only at hSw); go_simp; try with_reducible rfl)); simp only [Act.put,setIfInBounds_toArray,set_cons_zero,set_cons_succ])
      first
        | (refine wpAnyH_take (i:=47) (oi:=⟨some 275,.fieldAddr 95 (.tmp 274) 1,0,_,#[⟨46,.data⟩,⟨34,.guard⟩],some (34,true)⟩) (v:=undef) rfl (by kernel_rfl) (by kernel_rfl) (by kernel_rfl) hpan (Or.inr ⟨?_,rfl⟩) (by assumption) ?_; (focus rfl); simp only [Act.put,setIfInBounds_toArray,set_cons_zero,set_cons_succ])
        | (refine wpAnyH_take (i:=47) (oi:=⟨some 275,.fieldAddr 95 (.tmp 274) 1,0,_,#[⟨46,.data⟩,⟨34,.guard⟩],some (34,true)⟩) (v:=?_) rfl (by kernel_rfl) (by kernel_rfl) (by kernel_rfl) hpan (Or.inl ⟨by rfl,?_⟩) (by assumption) ?_; rotate_left; (focus (intro w hSw; (try dsimp only at hSw); go_simp; try with_reducible rfl)); simp only [Act.put,setIfInBounds_toArray,set_cons_zero,set_cons_succ])
      first
        | (refine wpAnyH_take (i:=48) (oi:=⟨some 276,.load 35 (.tmp 275),35,_,#[⟨47,.data⟩,⟨34,.guard⟩],some (34,true)⟩) (v:=undef) rfl (by kernel_rfl) (by kernel_rfl) (by kernel_rfl) hpan (Or.inr ⟨?_,rfl⟩) (by assumption) ?_; (focus rfl); simp only [Act.put,setIfInBounds_toArray,set_cons_zero,set_cons_succ])
        | (refine wpAnyH_take (i:=48) (oi:=⟨some 276,.load 35 (.tmp 275),35,_,#[⟨47,.data⟩,⟨34,.guard⟩],some (34,true)⟩) (v:=?_) rfl (by kernel_rfl) (by kernel_rfl) (by kernel_rfl) hpan (Or.inl ⟨by rfl,?_⟩) (by assumption) ?_; rotate_left; (focus (intro w hSw; (try dsimp only at hSw); go_simp; try with_reducible rfl)); simp only [Act.put,setIfInBounds_toArray,set_cons_zero,set_cons_succ])
      first
        | (refine wpAnyH_take (i:=49) (oi:=⟨some 277,.binOp BinOp.mul 35 (.tmp 276) (.const (Value.int IntKind.u64 4096)) 35,35,_,#[⟨48,.data⟩,⟨34,.guard⟩],some (34,true)⟩) (v:=undef) rfl (by kernel_rfl) (by kernel_rfl) (by kernel_rfl) hpan (Or.inr ⟨?_,rfl⟩) (by assumption) ?_; (focus rfl); simp only [Act.put,setIfInBounds_toArray,set_cons_zero,set_cons_succ])
        | (refine wpAnyH_take (i:=49) (oi:=⟨some 277,.binOp BinOp.mul 35 (.tmp 276) (.const (Value.int IntKind.u64 4096)) 35,35,_,#[⟨48,.data⟩,⟨34,.guard⟩],some (34,true)⟩) (v:=?_) rfl (by kernel_rfl) (by kernel_rfl) (by kernel_rfl) hpan (Or.inl ⟨by rfl,?_⟩) (by assumption) ?_; rotate_left; (focus (intro w hSw; (try dsimp only at hSw); go_simp; try with_reducible rfl)); simp only [Act.put,setIfInBounds_toArray,set_cons_zero,set_cons_succ])
      first
        | (refine wpAnyH_take (i:=50) (oi:=⟨some 278,.binOp BinOp.add 35 (.tmp 277) (.const (Value.int IntKind.u64 4096)) 35,35,_,#[⟨49,.data⟩,⟨34,.guard⟩],some (34,true)⟩) (v:=undef) rfl (by kernel_rfl) (by kernel_rfl) (by kernel_rfl) hpan (Or.inr ⟨?_,rfl⟩) (by assumption) ?_; (focus rfl); simp only [Act.put,setIfInBounds_toArray,set_cons_zero,set_cons_succ])
        | (refine wpAnyH_take (i:=50) (oi:=⟨some 278,.binOp BinOp.add 35 (.tmp 277) (.const (Value.int IntKind.u64 4096)) 35,35,_,#[⟨49,.data⟩,⟨34,.guard⟩],some (34,true)⟩) (v:=?_) rfl (by kernel_rfl) (by kernel_rfl) (by kernel_rfl) hpan (Or.inl ⟨by rfl,?_⟩) (by assumption) ?_; rotate_left; (focus (intro w hSw; (try dsimp only at hSw); go_simp; try with_reducible rfl)); simp only [Act.put,setIfInBounds_toArray,set_cons_zero,set_cons_succ])
      first
        | (refine wpAnyH_take (i:=51) (oi:=⟨some 279,.convert 35 32 (.tmp 278),32,_,#[⟨50,.data⟩,⟨34,.guard⟩],some (34,true)⟩) (v:=undef) rfl (by kernel_rfl) (by kernel_rfl) (by kernel_rfl) hpan (Or.inr ⟨?_,rfl⟩) (by assumption) ?_; (focus rfl); simp only [Act.put,setIfInBounds_toArray,set_cons_zero,set_cons_succ])
        | (refine wpAnyH_take (i:=51) (oi:=⟨some 279,.convert 35 32 (.tmp 278),32,_,#[⟨50,.data⟩,⟨34,.guard⟩],some (34,true)⟩) (v:=?_) rfl (by kernel_rfl) (by kernel_rfl) (by kernel_rfl) hpan (Or.inl ⟨by rfl,?_⟩) (by assumption) ?_; rotate_left; (focus (intro w hSw; (try dsimp only at hSw); go_simp; try with_reducible rfl)); simp only [Act.put,setIfInBounds_toArray,set_cons_zero,set_cons_succ])
      first
        | (refine wpAnyH_take (i:=52) (oi:=⟨some 280,.call ⟨.value (.func 30),#[.tmp 266,.tmp 270,.tmp 271,.tmp 279],#[49,51,3,32]⟩,4,_,#[⟨38,.data⟩,⟨42,.data⟩,⟨43,.data⟩,⟨51,.data⟩,⟨34,.chain⟩,⟨34,.guard⟩],some (34,true)⟩) (v:=undef) rfl (by kernel_rfl) (by kernel_rfl) (by kernel_rfl) hpan (Or.inr ⟨?_,rfl⟩) (by assumption) ?_; (focus rfl); simp only [Act.put,setIfInBounds_toArray,set_cons_zero,set_cons_succ])
        | (refine wpAnyH_ready (rs:=[52]) (by kernel_rfl) (by simp) ?_; refine AllReadyH.cons (o:=⟨some 280,.call ⟨.value (.func 30),#[.tmp 266,.tmp 270,.tmp 271,.tmp 279],#[49,51,3,32]⟩,4,_,#[⟨38,.data⟩,⟨42,.data⟩,⟨43,.data⟩,⟨51,.data⟩,⟨34,.chain⟩,⟨34,.guard⟩],some (34,true)⟩) rfl (fun K hK=> ?_) AllReadyH.nil; go_simp; (go_at_call 30; refine (HSf.out _ (by first|exact Or.inl ⟨by with_reducible rfl,q1⟩|exact Or.inr ⟨by with_reducible rfl,q5⟩) _ HBx.out).mono ?_; rintro e w3 ⟨rfl,g3⟩; replace HBx:=hidW (Below.step HBx.out g3); have HJ:=hidW (HC.out _ HBx.out); clear g3); refine hK.out _ _ ?_ (fun hHeld=> ?_); (focus ((try dsimp only); with_reducible exact HJ.out)); clear hK K; try simp only [Act.put,setIfInBounds_toArray,set_cons_zero,set_cons_succ])
      refine wpAnyH_take (i:=53) (oi:=⟨some 281,.pick (.tmp 262) (.tmp 280) (.const (Value.bool false)),4,_,#[⟨34,.data⟩,⟨52,.data⟩,⟨26,.guard⟩],some (26,false)⟩) (v:=?_) rfl (by kernel_rfl) (by kernel_rfl) (by kernel_rfl) hpan (Or.inl ⟨by rfl,?_⟩) (by assumption) ?_
      rotate_left
      · (intro w hSw; (try dsimp only at hSw); go_simp; try with_reducible rfl)
      simp only [Act.put,setIfInBounds_toArray,set_cons_zero,set_cons_succ]
      refine wpAnyH_take (i:=54) (oi:=⟨some 282,.pick (.tmp 254) (.const (Value.bool true)) (.tmp 281),4,_,#[⟨26,.data⟩,⟨53,.data⟩],none⟩) (v:=?_) rfl (by kernel_rfl) (by kernel_rfl) (by kernel_rfl) hpan (Or.inl ⟨by rfl,?_⟩) (by assumption) ?_
      rotate_left
      · (intro w hSw; (try dsimp only at hSw); go_simp; try with_reducible rfl)
      simp only [Act.put,setIfInBounds_toArray,set_cons_zero,set_cons_succ]
      refine wpAnyH_done (by kernel_rfl) ?_ _
      first
        | exact HQ.out HBx.out
        | (go_wp2; exact HQ.out HBx.out)
end Go.Proofs.YtnjlajjjcmhfgaaGreatDoor
