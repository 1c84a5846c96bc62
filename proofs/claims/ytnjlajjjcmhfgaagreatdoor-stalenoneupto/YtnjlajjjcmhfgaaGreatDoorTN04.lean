import Derived.Test.YtnjlajjjcmhfgaaGreatDoorTN03
namespace Go.Proofs.YtnjlajjjcmhfgaaGreatDoor
open Go.RowKit
open List (setIfInBounds_toArray set_cons_zero set_cons_succ)
open Mm (Turn gr RM valV errV Byts setV RowAt)
set_option linter.unusedVariables false
set_option linter.unusedSimpArgs false
attribute [local go_sem] Oper.semAt_some
set_option maxRecDepth 1000000 in
set_option maxHeartbeats 64000000 in
theorem no_r27 {Q:Exit→Act→World→Prop} {v0 v1 v2 v3 v4 v9 v10 v11 v12 v13 v15 v16 v17 v18 v19 v20 v21 v22 v23 v24 v25 v26 v27 v28 v29 v30 v31 v32 v33 v34 v35 v36 v37 v38 v39 v40 v41 v42 v43 v44 v45 v46 v47 v48 v49 v50 v51 v52 v53 v54 v55 v56 v57 v58 v59 v60 v61 v62 v63 v64 v65 v66 v67 v68 v69 v70 v71 v72 v73 v74 v75 v76 v77 v78 v79 v80 v81 v82 v83 v84 v85 v86 v87 v88 v89 v90 v91 v92 v93 v94 v95 v96 v97 v98 v99 v100 v101 v102 v103 v104 v105 v106 v107 v108 v109 v110 v111 v112 v113 v114 v115 v116 v117 v118 v119 v120 v121 v122 v123 v124 v125 v126 v127 v128 v129 v130 v131 v132 v133 v134 v135 v136 v137 v138 v139 v140 v141 v142 v143 v144 v145 v146 v147 v148 v149 v150 v151 v152 v153 v154 v155 v156 v157 v158 v159 v160 v161 v162 v163 v164 v165 v166 v167 v168 v169 v170 v171 v172 v173 v174 v175 v176 v177 v178 v179 v180 v181 v182 v183 v184 v185 v186 v187 v188 v189 v190 v191 v192 v193 v194 v195 v196 v197 v198 v199 v200 v201 v202 v203 v204 v205 v206 v207 v208 v209 v210 v211 v212 v213 v214 v215 v216 v217 v218 v219 v220 v221 v222 v223 v224 v225 v226 v227 v228 v229 v230 v231 v232 v233 v234 v235 v236 v237 v238 v239 v240 v241 v242 v243 v244 v245 v246 v247 v248 v249 v250 v251 v252 v253 v254 v255 v256 v257 v258 v259 v260 v261 v262 v263 v264 v265 v266 v267 v268 v269 v270 v271 v272 v273 v274 v275 v276 v277 v278 v279 v280 v281 v282:Value} (w:World) (x p nd cd lb lo nl cl k:Nat) (da:Option Addr) (iv:Value) (a:Int) (r:Rm) (hk:k<nl) (hnl:nl≤4611686018427387904) (hr:0≤r.lo∧r.lo≤r.hi∧r.hi<1048576) (HC:Hid (∀ww,Below w.heap.size w ww→ww.cell? ⟨x,4,none⟩=some (.pointer (some ⟨p,0,none⟩))∧ww.cell? ⟨x,5,none⟩=some iv∧ww.cell? ⟨lb,lo+k*2,none⟩=some (.int .u64 r.lo)∧ww.cell? ⟨lb,lo+k*2+1,none⟩=some (.int .u64 r.hi))) (HIn:Hid (∀va,(va=r.lo∨va=r.hi)→∀ww,Below w.heap.size w ww→Calls Tryz.prog 35 #[.slice da nd cd,.int .i64 a,.int .u64 va] ww fun e w'=>e= .returned (.bool true)∧Below ww.heap.size ww w')) (HSt:Hid (∀va,(va=r.lo*4096∨va=r.hi*4096+4095)→∀ww,Below w.heap.size w ww→Calls Tryz.prog 30 #[.pointer (some ⟨p,0,none⟩),iv,.int .i64 a,.int .u32 va] ww fun e w'=>e= .returned (.bool true)∧Below ww.heap.size ww w')) (hpan:∀ {d:Option Tmp} {v:Value} (c:List PanicEntry) (a:Act) (w:World),Q (.panic c) (a.put d v) w→Q (.panic c) a w)
    (HQ:Hid (∀ {u167 u168 u169 u170 u171 u172 u173 u174 u175 u176 u177 u178 u179 u180 u181 u182 u183 u184 u185 u186 u187 u188 u189 u190 u191 u192 u193 u194 u195 u196 u197 u198 u199 u200 u201 u202 u203 u204 u205 u206 u207 u208 u209 u210 u211 u212 u213 u214 u215 u216 u217 u218 u219 u220 u221 u222 u223 u224 u225 u226:Value} {w':World},Below w.heap.size w w'→Q .normal ⟨(v0::v1::v2::v3::v4::(.pointer (some ⟨x,0,none⟩))::(.slice da nd cd)::(.int .i64 a)::(.slice (some ⟨lb,lo,none⟩) nl cl)::v9::v10::v11::v12::v13::(.int .i64 (k:Int))::v15::v16::v17::v18::v19::v20::v21::v22::v23::v24::v25::v26::v27::v28::v29::v30::v31::v32::v33::v34::v35::v36::v37::v38::v39::v40::v41::v42::v43::v44::v45::v46::v47::v48::v49::v50::v51::v52::v53::v54::v55::v56::v57::v58::v59::v60::v61::v62::v63::v64::v65::v66::v67::v68::v69::v70::v71::v72::v73::v74::v75::v76::v77::v78::v79::v80::v81::v82::v83::v84::v85::v86::v87::v88::v89::v90::v91::v92::v93::v94::v95::v96::v97::v98::v99::v100::v101::v102::v103::v104::v105::v106::v107::v108::v109::v110::v111::v112::v113::v114::v115::v116::v117::v118::v119::v120::v121::v122::v123::v124::v125::v126::v127::v128::v129::v130::v131::v132::v133::v134::v135::v136::v137::v138::v139::v140::v141::v142::v143::v144::v145::v146::v147::v148::v149::v150::v151::v152::v153::v154::v155::v156::v157::v158::v159::v160::v161::v162::v163::v164::v165::v166::u167::u168::u169::u170::u171::u172::u173::u174::u175::u176::u177::u178::u179::u180::u181::u182::u183::u184::u185::u186::u187::u188::u189::u190::u191::u192::u193::u194::u195::u196::u197::u198::u199::u200::u201::u202::u203::u204::u205::u206::u207::u208::u209::u210::u211::u212::u213::u214::u215::u216::u217::u218::u219::u220::u221::u222::u223::u224::u225::u226::(.bool false)::v228::v229::v230::v231::v232::v233::v234::v235::v236::v237::v238::v239::v240::v241::v242::v243::v244::v245::v246::v247::v248::v249::v250::v251::v252::v253::v254::v255::v256::v257::v258::v259::v260::v261::v262::v263::v264::v265::v266::v267::v268::v269::v270::v271::v272::v273::v274::v275::v276::v277::v278::v279::v280::v281::v282::[]).toArray,[]⟩ w')) :
    (noB Tryz.f6).wp Tryz.prog Q ⟨(v0::v1::v2::v3::v4::(.pointer (some ⟨x,0,none⟩))::(.slice da nd cd)::(.int .i64 a)::(.slice (some ⟨lb,lo,none⟩) nl cl)::v9::v10::v11::v12::v13::(.int .i64 (k:Int))::v15::v16::v17::v18::v19::v20::v21::v22::v23::v24::v25::v26::v27::v28::v29::v30::v31::v32::v33::v34::v35::v36::v37::v38::v39::v40::v41::v42::v43::v44::v45::v46::v47::v48::v49::v50::v51::v52::v53::v54::v55::v56::v57::v58::v59::v60::v61::v62::v63::v64::v65::v66::v67::v68::v69::v70::v71::v72::v73::v74::v75::v76::v77::v78::v79::v80::v81::v82::v83::v84::v85::v86::v87::v88::v89::v90::v91::v92::v93::v94::v95::v96::v97::v98::v99::v100::v101::v102::v103::v104::v105::v106::v107::v108::v109::v110::v111::v112::v113::v114::v115::v116::v117::v118::v119::v120::v121::v122::v123::v124::v125::v126::v127::v128::v129::v130::v131::v132::v133::v134::v135::v136::v137::v138::v139::v140::v141::v142::v143::v144::v145::v146::v147::v148::v149::v150::v151::v152::v153::v154::v155::v156::v157::v158::v159::v160::v161::v162::v163::v164::v165::v166::v167::v168::v169::v170::v171::v172::v173::v174::v175::v176::v177::v178::v179::v180::v181::v182::v183::v184::v185::v186::v187::v188::v189::v190::v191::v192::v193::v194::v195::v196::v197::v198::v199::v200::v201::v202::v203::v204::v205::v206::v207::v208::v209::v210::v211::v212::v213::v214::v215::v216::v217::v218::v219::v220::v221::v222::v223::v224::v225::v226::v227::v228::v229::v230::v231::v232::v233::v234::v235::v236::v237::v238::v239::v240::v241::v242::v243::v244::v245::v246::v247::v248::v249::v250::v251::v252::v253::v254::v255::v256::v257::v258::v259::v260::v261::v262::v263::v264::v265::v266::v267::v268::v269::v270::v271::v272::v273::v274::v275::v276::v277::v278::v279::v280::v281::v282::[]).toArray,[]⟩ w:=by
  conv=>arg 2; whnf
  have hkz:(k:Int)<(nl:Int):=by omega
  have hk0:(0:Int)≤(k:Int):=by omega
  have HBx:Hid (Below w.heap.size w w.drew):=below_drew (Below.refl _ _)
  have HJ:=hidW (HC.out _ HBx.out)
  have wl1:IntKind.u64.wrap (r.lo*4096)=r.lo*4096:=by rw [IntKind.wrap_u64]; omega
  have wl2:IntKind.u32.wrap (r.lo*4096)=r.lo*4096:=by rw [IntKind.wrap_u32]; omega
  have wh1:IntKind.u64.wrap (r.hi*4096)=r.hi*4096:=by rw [IntKind.wrap_u64]; omega
  have wh2:IntKind.u64.wrap (r.hi*4096+4095)=r.hi*4096+4095:=by rw [IntKind.wrap_u64]; omega
  have wh3:IntKind.u32.wrap (r.hi*4096+4095)=r.hi*4096+4095:=by rw [IntKind.wrap_u32]; omega
  refine wp_region_held_drew (S:=fun ww=>ww.cell? ⟨x,4,none⟩=some (.pointer (some ⟨p,0,none⟩))∧ww.cell? ⟨x,5,none⟩=some iv∧ww.cell? ⟨lb,lo+k*2,none⟩=some (.int .u64 r.lo)∧ww.cell? ⟨lb,lo+k*2+1,none⟩=some (.int .u64 r.hi)) (by kernel_rfl) ?_ (fun hHeld=> ?_)
  · exact HJ.out
  refine wpAnyH_take (i:=0) (oi:=⟨some 167,.move (.tmp 6),48,_,#[],none⟩) (v:=?_) rfl (by kernel_rfl) (by kernel_rfl) (by kernel_rfl) hpan (Or.inl ⟨by rfl,?_⟩) (by assumption) ?_
  rotate_left
  · (intro w hSw; (try dsimp only at hSw); go_simp; try with_reducible rfl)
  simp only [Act.put,setIfInBounds_toArray,set_cons_zero,set_cons_succ]
  refine wpAnyH_take (i:=1) (oi:=⟨some 168,.move (.tmp 7),3,_,#[],none⟩) (v:=?_) rfl (by kernel_rfl) (by kernel_rfl) (by kernel_rfl) hpan (Or.inl ⟨by rfl,?_⟩) (by assumption) ?_
  rotate_left
  · (intro w hSw; (try dsimp only at hSw); go_simp; try with_reducible rfl)
  simp only [Act.put,setIfInBounds_toArray,set_cons_zero,set_cons_succ]
  refine wpAnyH_take (i:=2) (oi:=⟨some 169,.move (.tmp 8),92,_,#[],none⟩) (v:=?_) rfl (by kernel_rfl) (by kernel_rfl) (by kernel_rfl) hpan (Or.inl ⟨by rfl,?_⟩) (by assumption) ?_
  rotate_left
  · (intro w hSw; (try dsimp only at hSw); go_simp; try with_reducible rfl)
  simp only [Act.put,setIfInBounds_toArray,set_cons_zero,set_cons_succ]
  refine wpAnyH_take (i:=3) (oi:=⟨some 170,.move (.tmp 14),3,_,#[],none⟩) (v:=?_) rfl (by kernel_rfl) (by kernel_rfl) (by kernel_rfl) hpan (Or.inl ⟨by rfl,?_⟩) (by assumption) ?_
  rotate_left
  · (intro w hSw; (try dsimp only at hSw); go_simp; try with_reducible rfl)
  simp only [Act.put,setIfInBounds_toArray,set_cons_zero,set_cons_succ]
  refine wpAnyH_take (i:=4) (oi:=⟨some 171,.indexAddr 92 (.tmp 169) (.tmp 170),0,_,#[⟨2,.data⟩,⟨3,.data⟩],none⟩) (v:=?_) rfl (by kernel_rfl) (by kernel_rfl) (by kernel_rfl) hpan (Or.inl ⟨by rfl,?_⟩) (by assumption) ?_
  rotate_left
  · (intro w hSw; (try dsimp only at hSw); go_simp; try with_reducible rfl)
  simp only [Act.put,setIfInBounds_toArray,set_cons_zero,set_cons_succ]
  refine wpAnyH_take (i:=5) (oi:=⟨some 172,.fieldAddr 95 (.tmp 171) 0,0,_,#[⟨4,.data⟩],none⟩) (v:=?_) rfl (by kernel_rfl) (by kernel_rfl) (by kernel_rfl) hpan (Or.inl ⟨by rfl,?_⟩) (by assumption) ?_
  rotate_left
  · (intro w hSw; (try dsimp only at hSw); go_simp; try with_reducible rfl)
  simp only [Act.put,setIfInBounds_toArray,set_cons_zero,set_cons_succ]
  refine wpAnyH_take (i:=6) (oi:=⟨some 173,.load 35 (.tmp 172),35,_,#[⟨5,.data⟩],none⟩) (v:=?_) rfl (by kernel_rfl) (by kernel_rfl) (by kernel_rfl) hpan (Or.inl ⟨by rfl,?_⟩) (by assumption) ?_
  rotate_left
  · (intro w hSw; (try dsimp only at hSw); go_simp; try with_reducible rfl)
  simp only [Act.put,setIfInBounds_toArray,set_cons_zero,set_cons_succ]
  refine wpAnyH_ready (rs:=[7]) (by kernel_rfl) (by simp) ?_
  refine AllReadyH.cons (o:=⟨some 174,.call ⟨.value (.func 35),#[.tmp 167,.tmp 168,.tmp 173],#[48,3,35]⟩,4,_,#[⟨0,.data⟩,⟨1,.data⟩,⟨6,.data⟩],none⟩) rfl (fun K hK=> ?_) AllReadyH.nil
  go_simp
  (go_at_call 35; refine (HIn.out _ (by first|(left; with_reducible rfl)|(right; with_reducible rfl)) _ HBx.out).mono ?_; rintro e w3 ⟨rfl,g3⟩; replace HBx:=hidW (Below.step HBx.out g3); have HJ:=hidW (HC.out _ HBx.out); clear g3)
  refine hK.out _ _ ?_ (fun hHeld=> ?_)
  · ((try dsimp only); with_reducible exact HJ.out)
  clear hK K
  try simp only [Act.put,setIfInBounds_toArray,set_cons_zero,set_cons_succ]
  refine wpAnyH_take (i:=8) (oi:=⟨some 175,.unOp UnOp.not 4 (.tmp 174),4,_,#[⟨7,.data⟩],none⟩) (v:=?_) rfl (by kernel_rfl) (by kernel_rfl) (by kernel_rfl) hpan (Or.inl ⟨by rfl,?_⟩) (by assumption) ?_
  rotate_left
  · (intro w hSw; (try dsimp only at hSw); go_simp; try with_reducible rfl)
  simp only [Act.put,setIfInBounds_toArray,set_cons_zero,set_cons_succ]
  refine wpAnyH_take (i:=9) (oi:=⟨some 176,.move (.tmp 175),4,_,#[⟨8,.data⟩,⟨7,.chain⟩],none⟩) (v:=?_) rfl (by kernel_rfl) (by kernel_rfl) (by kernel_rfl) hpan (Or.inl ⟨by rfl,?_⟩) (by assumption) ?_
  rotate_left
  · (intro w hSw; (try dsimp only at hSw); go_simp; try with_reducible rfl)
  simp only [Act.put,setIfInBounds_toArray,set_cons_zero,set_cons_succ]
  refine wpAnyH_take (i:=10) (oi:=⟨some 177,.move (.tmp 6),48,_,#[⟨9,.guard⟩],some (9,false)⟩) (v:=?_) rfl (by kernel_rfl) (by kernel_rfl) (by kernel_rfl) hpan (Or.inl ⟨by rfl,?_⟩) (by assumption) ?_
  rotate_left
  · (intro w hSw; (try dsimp only at hSw); go_simp; try with_reducible rfl)
  simp only [Act.put,setIfInBounds_toArray,set_cons_zero,set_cons_succ]
  refine wpAnyH_take (i:=11) (oi:=⟨some 178,.move (.tmp 7),3,_,#[⟨9,.guard⟩],some (9,false)⟩) (v:=?_) rfl (by kernel_rfl) (by kernel_rfl) (by kernel_rfl) hpan (Or.inl ⟨by rfl,?_⟩) (by assumption) ?_
  rotate_left
  · (intro w hSw; (try dsimp only at hSw); go_simp; try with_reducible rfl)
  simp only [Act.put,setIfInBounds_toArray,set_cons_zero,set_cons_succ]
  refine wpAnyH_take (i:=12) (oi:=⟨some 179,.move (.tmp 8),92,_,#[⟨9,.guard⟩],some (9,false)⟩) (v:=?_) rfl (by kernel_rfl) (by kernel_rfl) (by kernel_rfl) hpan (Or.inl ⟨by rfl,?_⟩) (by assumption) ?_
  rotate_left
  · (intro w hSw; (try dsimp only at hSw); go_simp; try with_reducible rfl)
  simp only [Act.put,setIfInBounds_toArray,set_cons_zero,set_cons_succ]
  refine wpAnyH_take (i:=13) (oi:=⟨some 180,.move (.tmp 14),3,_,#[⟨9,.guard⟩],some (9,false)⟩) (v:=?_) rfl (by kernel_rfl) (by kernel_rfl) (by kernel_rfl) hpan (Or.inl ⟨by rfl,?_⟩) (by assumption) ?_
  rotate_left
  · (intro w hSw; (try dsimp only at hSw); go_simp; try with_reducible rfl)
  simp only [Act.put,setIfInBounds_toArray,set_cons_zero,set_cons_succ]
  refine wpAnyH_take (i:=14) (oi:=⟨some 181,.indexAddr 92 (.tmp 179) (.tmp 180),0,_,#[⟨12,.data⟩,⟨13,.data⟩,⟨9,.guard⟩],some (9,false)⟩) (v:=?_) rfl (by kernel_rfl) (by kernel_rfl) (by kernel_rfl) hpan (Or.inl ⟨by rfl,?_⟩) (by assumption) ?_
  rotate_left
  · (intro w hSw; (try dsimp only at hSw); go_simp; try with_reducible rfl)
  simp only [Act.put,setIfInBounds_toArray,set_cons_zero,set_cons_succ]
  refine wpAnyH_take (i:=15) (oi:=⟨some 182,.fieldAddr 95 (.tmp 181) 1,0,_,#[⟨14,.data⟩,⟨9,.guard⟩],some (9,false)⟩) (v:=?_) rfl (by kernel_rfl) (by kernel_rfl) (by kernel_rfl) hpan (Or.inl ⟨by rfl,?_⟩) (by assumption) ?_
  rotate_left
  · (intro w hSw; (try dsimp only at hSw); go_simp; try with_reducible rfl)
  simp only [Act.put,setIfInBounds_toArray,set_cons_zero,set_cons_succ]
  refine wpAnyH_take (i:=16) (oi:=⟨some 183,.load 35 (.tmp 182),35,_,#[⟨15,.data⟩,⟨9,.guard⟩],some (9,false)⟩) (v:=?_) rfl (by kernel_rfl) (by kernel_rfl) (by kernel_rfl) hpan (Or.inl ⟨by rfl,?_⟩) (by assumption) ?_
  rotate_left
  · (intro w hSw; (try dsimp only at hSw); go_simp; try with_reducible rfl)
  simp only [Act.put,setIfInBounds_toArray,set_cons_zero,set_cons_succ]
  refine wpAnyH_ready (rs:=[17]) (by kernel_rfl) (by simp) ?_
  refine AllReadyH.cons (o:=⟨some 184,.call ⟨.value (.func 35),#[.tmp 177,.tmp 178,.tmp 183],#[48,3,35]⟩,4,_,#[⟨10,.data⟩,⟨11,.data⟩,⟨16,.data⟩,⟨9,.chain⟩,⟨9,.guard⟩],some (9,false)⟩) rfl (fun K hK=> ?_) AllReadyH.nil
  go_simp
  (go_at_call 35; refine (HIn.out _ (by first|(left; with_reducible rfl)|(right; with_reducible rfl)) _ HBx.out).mono ?_; rintro e w3 ⟨rfl,g3⟩; replace HBx:=hidW (Below.step HBx.out g3); have HJ:=hidW (HC.out _ HBx.out); clear g3)
  refine hK.out _ _ ?_ (fun hHeld=> ?_)
  · ((try dsimp only); with_reducible exact HJ.out)
  clear hK K
  try simp only [Act.put,setIfInBounds_toArray,set_cons_zero,set_cons_succ]
  refine wpAnyH_take (i:=18) (oi:=⟨some 185,.unOp UnOp.not 4 (.tmp 184),4,_,#[⟨17,.data⟩,⟨9,.guard⟩],some (9,false)⟩) (v:=?_) rfl (by kernel_rfl) (by kernel_rfl) (by kernel_rfl) hpan (Or.inl ⟨by rfl,?_⟩) (by assumption) ?_
  rotate_left
  · (intro w hSw; (try dsimp only at hSw); go_simp; try with_reducible rfl)
  simp only [Act.put,setIfInBounds_toArray,set_cons_zero,set_cons_succ]
  refine wpAnyH_take (i:=19) (oi:=⟨some 186,.pick (.tmp 176) (.const (Value.bool true)) (.tmp 185),4,_,#[⟨9,.data⟩,⟨18,.data⟩],none⟩) (v:=?_) rfl (by kernel_rfl) (by kernel_rfl) (by kernel_rfl) hpan (Or.inl ⟨by rfl,?_⟩) (by assumption) ?_
  rotate_left
  · (intro w hSw; (try dsimp only at hSw); go_simp; try with_reducible rfl)
  simp only [Act.put,setIfInBounds_toArray,set_cons_zero,set_cons_succ]
  refine wpAnyH_take (i:=20) (oi:=⟨some 187,.move (.tmp 186),4,_,#[⟨19,.data⟩,⟨17,.chain⟩],none⟩) (v:=?_) rfl (by kernel_rfl) (by kernel_rfl) (by kernel_rfl) hpan (Or.inl ⟨by rfl,?_⟩) (by assumption) ?_
  rotate_left
  · (intro w hSw; (try dsimp only at hSw); go_simp; try with_reducible rfl)
  simp only [Act.put,setIfInBounds_toArray,set_cons_zero,set_cons_succ]
  refine wpAnyH_take (i:=21) (oi:=⟨some 188,.move (.tmp 5),28,_,#[⟨20,.guard⟩],some (20,false)⟩) (v:=?_) rfl (by kernel_rfl) (by kernel_rfl) (by kernel_rfl) hpan (Or.inl ⟨by rfl,?_⟩) (by assumption) ?_
  rotate_left
  · (intro w hSw; (try dsimp only at hSw); go_simp; try with_reducible rfl)
  simp only [Act.put,setIfInBounds_toArray,set_cons_zero,set_cons_succ]
  refine wpAnyH_take (i:=22) (oi:=⟨some 189,.nilCheck (.tmp 188),0,_,#[⟨21,.data⟩,⟨20,.guard⟩],some (20,false)⟩) (v:=?_) rfl (by kernel_rfl) (by kernel_rfl) (by kernel_rfl) hpan (Or.inl ⟨by rfl,?_⟩) (by assumption) ?_
  rotate_left
  · (intro w hSw; (try dsimp only at hSw); go_simp; try with_reducible rfl)
  simp only [Act.put,setIfInBounds_toArray,set_cons_zero,set_cons_succ]
  refine wpAnyH_take (i:=23) (oi:=⟨some 190,.fieldAddr 54 (.tmp 189) 1,0,_,#[⟨22,.data⟩,⟨20,.guard⟩],some (20,false)⟩) (v:=?_) rfl (by kernel_rfl) (by kernel_rfl) (by kernel_rfl) hpan (Or.inl ⟨by rfl,?_⟩) (by assumption) ?_
  rotate_left
  · (intro w hSw; (try dsimp only at hSw); go_simp; try with_reducible rfl)
  simp only [Act.put,setIfInBounds_toArray,set_cons_zero,set_cons_succ]
  refine wpAnyH_take (i:=24) (oi:=⟨some 191,.load 49 (.tmp 190),49,_,#[⟨23,.data⟩,⟨20,.guard⟩],some (20,false)⟩) (v:=?_) rfl (by kernel_rfl) (by kernel_rfl) (by kernel_rfl) hpan (Or.inl ⟨by rfl,?_⟩) (by assumption) ?_
  rotate_left
  · (intro w hSw; (try dsimp only at hSw); go_simp; try with_reducible rfl)
  simp only [Act.put,setIfInBounds_toArray,set_cons_zero,set_cons_succ]
  refine wpAnyH_take (i:=25) (oi:=⟨some 192,.move (.tmp 5),28,_,#[⟨20,.guard⟩],some (20,false)⟩) (v:=?_) rfl (by kernel_rfl) (by kernel_rfl) (by kernel_rfl) hpan (Or.inl ⟨by rfl,?_⟩) (by assumption) ?_
  rotate_left
  · (intro w hSw; (try dsimp only at hSw); go_simp; try with_reducible rfl)
  simp only [Act.put,setIfInBounds_toArray,set_cons_zero,set_cons_succ]
  refine wpAnyH_take (i:=26) (oi:=⟨some 193,.nilCheck (.tmp 192),0,_,#[⟨25,.data⟩,⟨20,.guard⟩],some (20,false)⟩) (v:=?_) rfl (by kernel_rfl) (by kernel_rfl) (by kernel_rfl) hpan (Or.inl ⟨by rfl,?_⟩) (by assumption) ?_
  rotate_left
  · (intro w hSw; (try dsimp only at hSw); go_simp; try with_reducible rfl)
  simp only [Act.put,setIfInBounds_toArray,set_cons_zero,set_cons_succ]
  refine wpAnyH_take (i:=27) (oi:=⟨some 194,.fieldAddr 54 (.tmp 193) 2,0,_,#[⟨26,.data⟩,⟨20,.guard⟩],some (20,false)⟩) (v:=?_) rfl (by kernel_rfl) (by kernel_rfl) (by kernel_rfl) hpan (Or.inl ⟨by rfl,?_⟩) (by assumption) ?_
  rotate_left
  · (intro w hSw; (try dsimp only at hSw); go_simp; try with_reducible rfl)
  simp only [Act.put,setIfInBounds_toArray,set_cons_zero,set_cons_succ]
  refine wpAnyH_take (i:=28) (oi:=⟨some 195,.load 51 (.tmp 194),51,_,#[⟨27,.data⟩,⟨20,.guard⟩],some (20,false)⟩) (v:=?_) rfl (by kernel_rfl) (by kernel_rfl) (by kernel_rfl) hpan (Or.inl ⟨by rfl,?_⟩) (by assumption) ?_
  rotate_left
  · (intro w hSw; (try dsimp only at hSw); go_simp; try with_reducible rfl)
  simp only [Act.put,setIfInBounds_toArray,set_cons_zero,set_cons_succ]
  refine wpAnyH_take (i:=29) (oi:=⟨some 196,.move (.tmp 7),3,_,#[⟨20,.guard⟩],some (20,false)⟩) (v:=?_) rfl (by kernel_rfl) (by kernel_rfl) (by kernel_rfl) hpan (Or.inl ⟨by rfl,?_⟩) (by assumption) ?_
  rotate_left
  · (intro w hSw; (try dsimp only at hSw); go_simp; try with_reducible rfl)
  simp only [Act.put,setIfInBounds_toArray,set_cons_zero,set_cons_succ]
  refine wpAnyH_take (i:=30) (oi:=⟨some 197,.move (.tmp 8),92,_,#[⟨20,.guard⟩],some (20,false)⟩) (v:=?_) rfl (by kernel_rfl) (by kernel_rfl) (by kernel_rfl) hpan (Or.inl ⟨by rfl,?_⟩) (by assumption) ?_
  rotate_left
  · (intro w hSw; (try dsimp only at hSw); go_simp; try with_reducible rfl)
  simp only [Act.put,setIfInBounds_toArray,set_cons_zero,set_cons_succ]
  refine wpAnyH_take (i:=31) (oi:=⟨some 198,.move (.tmp 14),3,_,#[⟨20,.guard⟩],some (20,false)⟩) (v:=?_) rfl (by kernel_rfl) (by kernel_rfl) (by kernel_rfl) hpan (Or.inl ⟨by rfl,?_⟩) (by assumption) ?_
  rotate_left
  · (intro w hSw; (try dsimp only at hSw); go_simp; try with_reducible rfl)
  simp only [Act.put,setIfInBounds_toArray,set_cons_zero,set_cons_succ]
  refine wpAnyH_take (i:=32) (oi:=⟨some 199,.indexAddr 92 (.tmp 197) (.tmp 198),0,_,#[⟨30,.data⟩,⟨31,.data⟩,⟨20,.guard⟩],some (20,false)⟩) (v:=?_) rfl (by kernel_rfl) (by kernel_rfl) (by kernel_rfl) hpan (Or.inl ⟨by rfl,?_⟩) (by assumption) ?_
  rotate_left
  · (intro w hSw; (try dsimp only at hSw); go_simp; try with_reducible rfl)
  simp only [Act.put,setIfInBounds_toArray,set_cons_zero,set_cons_succ]
  refine wpAnyH_take (i:=33) (oi:=⟨some 200,.fieldAddr 95 (.tmp 199) 0,0,_,#[⟨32,.data⟩,⟨20,.guard⟩],some (20,false)⟩) (v:=?_) rfl (by kernel_rfl) (by kernel_rfl) (by kernel_rfl) hpan (Or.inl ⟨by rfl,?_⟩) (by assumption) ?_
  rotate_left
  · (intro w hSw; (try dsimp only at hSw); go_simp; try with_reducible rfl)
  simp only [Act.put,setIfInBounds_toArray,set_cons_zero,set_cons_succ]
  refine wpAnyH_take (i:=34) (oi:=⟨some 201,.load 35 (.tmp 200),35,_,#[⟨33,.data⟩,⟨20,.guard⟩],some (20,false)⟩) (v:=?_) rfl (by kernel_rfl) (by kernel_rfl) (by kernel_rfl) hpan (Or.inl ⟨by rfl,?_⟩) (by assumption) ?_
  rotate_left
  · (intro w hSw; (try dsimp only at hSw); go_simp; try with_reducible rfl)
  simp only [Act.put,setIfInBounds_toArray,set_cons_zero,set_cons_succ]
  refine wpAnyH_take (i:=35) (oi:=⟨some 202,.binOp BinOp.mul 35 (.tmp 201) (.const (Value.int IntKind.u64 4096)) 35,35,_,#[⟨34,.data⟩,⟨20,.guard⟩],some (20,false)⟩) (v:=?_) rfl (by kernel_rfl) (by kernel_rfl) (by kernel_rfl) hpan (Or.inl ⟨by rfl,?_⟩) (by assumption) ?_
  rotate_left
  · (intro w hSw; (try dsimp only at hSw); go_simp; try with_reducible rfl)
  simp only [Act.put,setIfInBounds_toArray,set_cons_zero,set_cons_succ]
  refine wpAnyH_take (i:=36) (oi:=⟨some 203,.convert 35 32 (.tmp 202),32,_,#[⟨35,.data⟩,⟨20,.guard⟩],some (20,false)⟩) (v:=?_) rfl (by kernel_rfl) (by kernel_rfl) (by kernel_rfl) hpan (Or.inl ⟨by rfl,?_⟩) (by assumption) ?_
  rotate_left
  · (intro w hSw; (try dsimp only at hSw); go_simp; try with_reducible rfl)
  simp only [Act.put,setIfInBounds_toArray,set_cons_zero,set_cons_succ]
  refine wpAnyH_ready (rs:=[37]) (by kernel_rfl) (by simp) ?_
  refine AllReadyH.cons (o:=⟨some 204,.call ⟨.value (.func 30),#[.tmp 191,.tmp 195,.tmp 196,.tmp 203],#[49,51,3,32]⟩,4,_,#[⟨24,.data⟩,⟨28,.data⟩,⟨29,.data⟩,⟨36,.data⟩,⟨20,.chain⟩,⟨20,.guard⟩],some (20,false)⟩) rfl (fun K hK=> ?_) AllReadyH.nil
  go_simp
  (go_at_call 30; refine (HSt.out _ (by first|(left; with_reducible rfl)|(right; with_reducible rfl)) _ HBx.out).mono ?_; rintro e w3 ⟨rfl,g3⟩; replace HBx:=hidW (Below.step HBx.out g3); have HJ:=hidW (HC.out _ HBx.out); clear g3)
  refine hK.out _ _ ?_ (fun hHeld=> ?_)
  · ((try dsimp only); with_reducible exact HJ.out)
  clear hK K
  try simp only [Act.put,setIfInBounds_toArray,set_cons_zero,set_cons_succ]
  refine wpAnyH_take (i:=38) (oi:=⟨some 205,.unOp UnOp.not 4 (.tmp 204),4,_,#[⟨37,.data⟩,⟨20,.guard⟩],some (20,false)⟩) (v:=?_) rfl (by kernel_rfl) (by kernel_rfl) (by kernel_rfl) hpan (Or.inl ⟨by rfl,?_⟩) (by assumption) ?_
  rotate_left
  · (intro w hSw; (try dsimp only at hSw); go_simp; try with_reducible rfl)
  simp only [Act.put,setIfInBounds_toArray,set_cons_zero,set_cons_succ]
  refine wpAnyH_take (i:=39) (oi:=⟨some 206,.pick (.tmp 187) (.const (Value.bool true)) (.tmp 205),4,_,#[⟨20,.data⟩,⟨38,.data⟩],none⟩) (v:=?_) rfl (by kernel_rfl) (by kernel_rfl) (by kernel_rfl) hpan (Or.inl ⟨by rfl,?_⟩) (by assumption) ?_
  rotate_left
  · (intro w hSw; (try dsimp only at hSw); go_simp; try with_reducible rfl)
  simp only [Act.put,setIfInBounds_toArray,set_cons_zero,set_cons_succ]
  refine wpAnyH_take (i:=40) (oi:=⟨some 207,.move (.tmp 206),4,_,#[⟨39,.data⟩,⟨37,.chain⟩],none⟩) (v:=?_) rfl (by kernel_rfl) (by kernel_rfl) (by kernel_rfl) hpan (Or.inl ⟨by rfl,?_⟩) (by assumption) ?_
  rotate_left
  · (intro w hSw; (try dsimp only at hSw); go_simp; try with_reducible rfl)
  simp only [Act.put,setIfInBounds_toArray,set_cons_zero,set_cons_succ]
  refine wpAnyH_take (i:=41) (oi:=⟨some 208,.move (.tmp 5),28,_,#[⟨40,.guard⟩],some (40,false)⟩) (v:=?_) rfl (by kernel_rfl) (by kernel_rfl) (by kernel_rfl) hpan (Or.inl ⟨by rfl,?_⟩) (by assumption) ?_
  rotate_left
  · (intro w hSw; (try dsimp only at hSw); go_simp; try with_reducible rfl)
  simp only [Act.put,setIfInBounds_toArray,set_cons_zero,set_cons_succ]
  refine wpAnyH_take (i:=42) (oi:=⟨some 209,.nilCheck (.tmp 208),0,_,#[⟨41,.data⟩,⟨40,.guard⟩],some (40,false)⟩) (v:=?_) rfl (by kernel_rfl) (by kernel_rfl) (by kernel_rfl) hpan (Or.inl ⟨by rfl,?_⟩) (by assumption) ?_
  rotate_left
  · (intro w hSw; (try dsimp only at hSw); go_simp; try with_reducible rfl)
  simp only [Act.put,setIfInBounds_toArray,set_cons_zero,set_cons_succ]
  refine wpAnyH_take (i:=43) (oi:=⟨some 210,.fieldAddr 54 (.tmp 209) 1,0,_,#[⟨42,.data⟩,⟨40,.guard⟩],some (40,false)⟩) (v:=?_) rfl (by kernel_rfl) (by kernel_rfl) (by kernel_rfl) hpan (Or.inl ⟨by rfl,?_⟩) (by assumption) ?_
  rotate_left
  · (intro w hSw; (try dsimp only at hSw); go_simp; try with_reducible rfl)
  simp only [Act.put,setIfInBounds_toArray,set_cons_zero,set_cons_succ]
  refine wpAnyH_take (i:=44) (oi:=⟨some 211,.load 49 (.tmp 210),49,_,#[⟨43,.data⟩,⟨40,.guard⟩],some (40,false)⟩) (v:=?_) rfl (by kernel_rfl) (by kernel_rfl) (by kernel_rfl) hpan (Or.inl ⟨by rfl,?_⟩) (by assumption) ?_
  rotate_left
  · (intro w hSw; (try dsimp only at hSw); go_simp; try with_reducible rfl)
  simp only [Act.put,setIfInBounds_toArray,set_cons_zero,set_cons_succ]
  refine wpAnyH_take (i:=45) (oi:=⟨some 212,.move (.tmp 5),28,_,#[⟨40,.guard⟩],some (40,false)⟩) (v:=?_) rfl (by kernel_rfl) (by kernel_rfl) (by kernel_rfl) hpan (Or.inl ⟨by rfl,?_⟩) (by assumption) ?_
  rotate_left
  · (intro w hSw; (try dsimp only at hSw); go_simp; try with_reducible rfl)
  simp only [Act.put,setIfInBounds_toArray,set_cons_zero,set_cons_succ]
  refine wpAnyH_take (i:=46) (oi:=⟨some 213,.nilCheck (.tmp 212),0,_,#[⟨45,.data⟩,⟨40,.guard⟩],some (40,false)⟩) (v:=?_) rfl (by kernel_rfl) (by kernel_rfl) (by kernel_rfl) hpan (Or.inl ⟨by rfl,?_⟩) (by assumption) ?_
  rotate_left
  · (intro w hSw; (try dsimp only at hSw); go_simp; try with_reducible rfl)
  simp only [Act.put,setIfInBounds_toArray,set_cons_zero,set_cons_succ]
  refine wpAnyH_take (i:=47) (oi:=⟨some 214,.fieldAddr 54 (.tmp 213) 2,0,_,#[⟨46,.data⟩,⟨40,.guard⟩],some (40,false)⟩) (v:=?_) rfl (by kernel_rfl) (by kernel_rfl) (by kernel_rfl) hpan (Or.inl ⟨by rfl,?_⟩) (by assumption) ?_
  rotate_left
  · (intro w hSw; (try dsimp only at hSw); go_simp; try with_reducible rfl)
  simp only [Act.put,setIfInBounds_toArray,set_cons_zero,set_cons_succ]
  refine wpAnyH_take (i:=48) (oi:=⟨some 215,.load 51 (.tmp 214),51,_,#[⟨47,.data⟩,⟨40,.guard⟩],some (40,false)⟩) (v:=?_) rfl (by kernel_rfl) (by kernel_rfl) (by kernel_rfl) hpan (Or.inl ⟨by rfl,?_⟩) (by assumption) ?_
  rotate_left
  · (intro w hSw; (try dsimp only at hSw); go_simp; try with_reducible rfl)
  simp only [Act.put,setIfInBounds_toArray,set_cons_zero,set_cons_succ]
  refine wpAnyH_take (i:=49) (oi:=⟨some 216,.move (.tmp 7),3,_,#[⟨40,.guard⟩],some (40,false)⟩) (v:=?_) rfl (by kernel_rfl) (by kernel_rfl) (by kernel_rfl) hpan (Or.inl ⟨by rfl,?_⟩) (by assumption) ?_
  rotate_left
  · (intro w hSw; (try dsimp only at hSw); go_simp; try with_reducible rfl)
  simp only [Act.put,setIfInBounds_toArray,set_cons_zero,set_cons_succ]
  refine wpAnyH_take (i:=50) (oi:=⟨some 217,.move (.tmp 8),92,_,#[⟨40,.guard⟩],some (40,false)⟩) (v:=?_) rfl (by kernel_rfl) (by kernel_rfl) (by kernel_rfl) hpan (Or.inl ⟨by rfl,?_⟩) (by assumption) ?_
  rotate_left
  · (intro w hSw; (try dsimp only at hSw); go_simp; try with_reducible rfl)
  simp only [Act.put,setIfInBounds_toArray,set_cons_zero,set_cons_succ]
  refine wpAnyH_take (i:=51) (oi:=⟨some 218,.move (.tmp 14),3,_,#[⟨40,.guard⟩],some (40,false)⟩) (v:=?_) rfl (by kernel_rfl) (by kernel_rfl) (by kernel_rfl) hpan (Or.inl ⟨by rfl,?_⟩) (by assumption) ?_
  rotate_left
  · (intro w hSw; (try dsimp only at hSw); go_simp; try with_reducible rfl)
  simp only [Act.put,setIfInBounds_toArray,set_cons_zero,set_cons_succ]
  refine wpAnyH_take (i:=52) (oi:=⟨some 219,.indexAddr 92 (.tmp 217) (.tmp 218),0,_,#[⟨50,.data⟩,⟨51,.data⟩,⟨40,.guard⟩],some (40,false)⟩) (v:=?_) rfl (by kernel_rfl) (by kernel_rfl) (by kernel_rfl) hpan (Or.inl ⟨by rfl,?_⟩) (by assumption) ?_
  rotate_left
  · (intro w hSw; (try dsimp only at hSw); go_simp; try with_reducible rfl)
  simp only [Act.put,setIfInBounds_toArray,set_cons_zero,set_cons_succ]
  refine wpAnyH_take (i:=53) (oi:=⟨some 220,.fieldAddr 95 (.tmp 219) 1,0,_,#[⟨52,.data⟩,⟨40,.guard⟩],some (40,false)⟩) (v:=?_) rfl (by kernel_rfl) (by kernel_rfl) (by kernel_rfl) hpan (Or.inl ⟨by rfl,?_⟩) (by assumption) ?_
  rotate_left
  · (intro w hSw; (try dsimp only at hSw); go_simp; try with_reducible rfl)
  simp only [Act.put,setIfInBounds_toArray,set_cons_zero,set_cons_succ]
  refine wpAnyH_take (i:=54) (oi:=⟨some 221,.load 35 (.tmp 220),35,_,#[⟨53,.data⟩,⟨40,.guard⟩],some (40,false)⟩) (v:=?_) rfl (by kernel_rfl) (by kernel_rfl) (by kernel_rfl) hpan (Or.inl ⟨by rfl,?_⟩) (by assumption) ?_
  rotate_left
  · (intro w hSw; (try dsimp only at hSw); go_simp; try with_reducible rfl)
  simp only [Act.put,setIfInBounds_toArray,set_cons_zero,set_cons_succ]
  refine wpAnyH_take (i:=55) (oi:=⟨some 222,.binOp BinOp.mul 35 (.tmp 221) (.const (Value.int IntKind.u64 4096)) 35,35,_,#[⟨54,.data⟩,⟨40,.guard⟩],some (40,false)⟩) (v:=?_) rfl (by kernel_rfl) (by kernel_rfl) (by kernel_rfl) hpan (Or.inl ⟨by rfl,?_⟩) (by assumption) ?_
  rotate_left
  · (intro w hSw; (try dsimp only at hSw); go_simp; try with_reducible rfl)
  simp only [Act.put,setIfInBounds_toArray,set_cons_zero,set_cons_succ]
  refine wpAnyH_take (i:=56) (oi:=⟨some 223,.binOp BinOp.add 35 (.tmp 222) (.const (Value.int IntKind.u64 4095)) 35,35,_,#[⟨55,.data⟩,⟨40,.guard⟩],some (40,false)⟩) (v:=?_) rfl (by kernel_rfl) (by kernel_rfl) (by kernel_rfl) hpan (Or.inl ⟨by rfl,?_⟩) (by assumption) ?_
  rotate_left
  · (intro w hSw; (try dsimp only at hSw); go_simp; try with_reducible rfl)
  simp only [Act.put,setIfInBounds_toArray,set_cons_zero,set_cons_succ]
  refine wpAnyH_take (i:=57) (oi:=⟨some 224,.convert 35 32 (.tmp 223),32,_,#[⟨56,.data⟩,⟨40,.guard⟩],some (40,false)⟩) (v:=?_) rfl (by kernel_rfl) (by kernel_rfl) (by kernel_rfl) hpan (Or.inl ⟨by rfl,?_⟩) (by assumption) ?_
  rotate_left
  · (intro w hSw; (try dsimp only at hSw); go_simp; try with_reducible rfl)
  simp only [Act.put,setIfInBounds_toArray,set_cons_zero,set_cons_succ]
  refine wpAnyH_ready (rs:=[58]) (by kernel_rfl) (by simp) ?_
  refine AllReadyH.cons (o:=⟨some 225,.call ⟨.value (.func 30),#[.tmp 211,.tmp 215,.tmp 216,.tmp 224],#[49,51,3,32]⟩,4,_,#[⟨44,.data⟩,⟨48,.data⟩,⟨49,.data⟩,⟨57,.data⟩,⟨40,.chain⟩,⟨40,.guard⟩],some (40,false)⟩) rfl (fun K hK=> ?_) AllReadyH.nil
  go_simp
  (go_at_call 30; refine (HSt.out _ (by first|(left; with_reducible rfl)|(right; with_reducible rfl)) _ HBx.out).mono ?_; rintro e w3 ⟨rfl,g3⟩; replace HBx:=hidW (Below.step HBx.out g3); have HJ:=hidW (HC.out _ HBx.out); clear g3)
  refine hK.out _ _ ?_ (fun hHeld=> ?_)
  · ((try dsimp only); with_reducible exact HJ.out)
  clear hK K
  try simp only [Act.put,setIfInBounds_toArray,set_cons_zero,set_cons_succ]
  refine wpAnyH_take (i:=59) (oi:=⟨some 226,.unOp UnOp.not 4 (.tmp 225),4,_,#[⟨58,.data⟩,⟨40,.guard⟩],some (40,false)⟩) (v:=?_) rfl (by kernel_rfl) (by kernel_rfl) (by kernel_rfl) hpan (Or.inl ⟨by rfl,?_⟩) (by assumption) ?_
  rotate_left
  · (intro w hSw; (try dsimp only at hSw); go_simp; try with_reducible rfl)
  simp only [Act.put,setIfInBounds_toArray,set_cons_zero,set_cons_succ]
  refine wpAnyH_take (i:=60) (oi:=⟨some 227,.pick (.tmp 207) (.const (Value.bool true)) (.tmp 226),4,_,#[⟨40,.data⟩,⟨59,.data⟩],none⟩) (v:=?_) rfl (by kernel_rfl) (by kernel_rfl) (by kernel_rfl) hpan (Or.inl ⟨by rfl,?_⟩) (by assumption) ?_
  rotate_left
  · (intro w hSw; (try dsimp only at hSw); go_simp; try with_reducible rfl)
  simp only [Act.put,setIfInBounds_toArray,set_cons_zero,set_cons_succ]
  refine wpAnyH_done (by kernel_rfl) ?_ _
  first
    | exact HQ.out HBx.out
    | (go_wp2; exact HQ.out HBx.out)
end Go.Proofs.YtnjlajjjcmhfgaaGreatDoor
