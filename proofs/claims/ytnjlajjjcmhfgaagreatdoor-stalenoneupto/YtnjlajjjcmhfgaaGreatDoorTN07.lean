import Derived.Test.YtnjlajjjcmhfgaaGreatDoorTN02
import Derived.Test.YtnjlajjjcmhfgaaGreatDoorTN06
import Derived.Test.YtnjlajjjcmhfgaaGreatDoorTP06
namespace Go.Proofs.YtnjlajjjcmhfgaaGreatDoor
open Go.RowKit
open List (setIfInBounds_toArray set_cons_zero set_cons_succ)
open Mm (Turn gr RM valV errV Byts setV RowAt)
set_option linter.unusedVariables false
set_option linter.unusedSimpArgs false
attribute [local go_sem] Oper.semAt_some
def noA (f:Func):Code:=lpC (blkC (sq2 (sq1 (sq2 (sq2 (sq2 (sq2 (f.body.getD .skip))))))))
set_option maxRecDepth 1000000 in
set_option maxHeartbeats 16000000 in
theorem no_all {Q:Exit→Act→World→Prop} {v0 v1 v2 v3 v4 v8 v9 v10 v11 v12 v13 v14 v15 v16 v17 v18 v19 v20 v21 v22 v23 v24 v25 v26 v27 v28 v29 v30 v31 v32 v33 v34 v35 v36 v37 v38 v39 v40 v41 v42 v43 v44 v45 v46 v47 v48 v49 v50 v51 v52 v53 v54 v55 v56 v57 v58 v59 v60 v61 v62 v63 v64 v65 v66 v67 v68 v69 v70 v71 v72 v73 v74 v75 v76 v77 v78 v79 v80 v81 v82 v83 v84 v85 v86 v87 v88 v89 v90 v91 v92 v93 v94 v95 v96 v97 v98 v99 v100 v101 v102 v103 v104 v105 v106 v107 v108 v109 v110 v111 v112 v113 v114 v115 v116 v117 v118 v119 v120 v121 v122 v123 v124 v125 v126 v127 v128 v129 v130 v131 v132 v133 v134 v135 v136 v137 v138 v139 v140 v141 v142 v143 v144 v145 v146 v147 v148 v149 v150 v151 v152 v153 v154 v155 v156 v157 v158 v159 v160 v161 v162 v163 v164 v165 v166 v167 v168 v169 v170 v171 v172 v173 v174 v175 v176 v177 v178 v179 v180 v181 v182 v183 v184 v185 v186 v187 v188 v189 v190 v191 v192 v193 v194 v195 v196 v197 v198 v199 v200 v201 v202 v203 v204 v205 v206 v207 v208 v209 v210 v211 v212 v213 v214 v215 v216 v217 v218 v219 v220 v221 v222 v223 v224 v225 v226 v227 v228 v229 v230 v231 v232 v233 v234 v235 v236 v237 v238 v239 v240 v241 v242 v243 v244 v245 v246 v247 v248 v249 v250 v251 v252 v253 v254 v255 v256 v257 v258 v259 v260 v261 v262 v263 v264 v265 v266 v267 v268 v269 v270 v271 v272 v273 v274 v275 v276 v277 v278 v279 v280 v281 v282:Value} (W0 w:World) (x p kb jb:Nat) (wv iv:Value) (f:Int) (vp vw vc:Value) (σ:Pst) (nd cd:Nat) (da:Option Addr) (hx:SgX (fun _=>False) W0 w x p kb jb wv iv f vp vw vc σ) (hs:Sml σ) (hds:TSd w) (hkl:σ.K.length≤400000000000) (hd:Sli encD 10 w (.slice da nd cd) (diL σ.mem.mo σ.K σ.J)) (ld:(diL σ.mem.mo σ.K σ.J).length=nd) (hnd:nd≤4611686018427387904) (hpan:∀ {c:List PanicEntry} {a:Act} {d:Option Tmp} {v:Value} {w:World},Q (.panic c) (a.put d v) w→Q (.panic c) a w)
    (HQ:Hid (∀ {u4 u7 u8 u9 u10 u11 u12 u13 u14 u33 u34 u35 u36 u37 u38 u39 u40 u41 u42 u43 u44 u45 u46 u47 u48 u49 u50 u51 u52 u53 u54 u55 u56 u57 u58 u59 u60 u61 u62 u63 u64 u65 u66 u67 u68 u69 u70 u71 u72 u73 u74 u75 u76 u77 u78 u79 u80 u81 u82 u83 u84 u85 u86 u87 u88 u89 u90 u91 u92 u93 u94 u95 u96 u97 u98 u99 u100 u101 u102 u103 u104 u105 u106 u107 u108 u109 u110 u111 u112 u113 u114 u115 u116 u117 u118 u119 u120 u121 u122 u123 u124 u125 u126 u127 u128 u129 u130 u131 u132 u133 u134 u135 u136 u137 u138 u139 u140 u141 u142 u143 u144 u145 u146 u147 u148 u149 u150 u151 u152 u153 u154 u155 u156 u157 u158 u159 u160 u161 u162 u163 u164 u165 u166 u167 u168 u169 u170 u171 u172 u173 u174 u175 u176 u177 u178 u179 u180 u181 u182 u183 u184 u185 u186 u187 u188 u189 u190 u191 u192 u193 u194 u195 u196 u197 u198 u199 u200 u201 u202 u203 u204 u205 u206 u207 u208 u209 u210 u211 u212 u213 u214 u215 u216 u217 u218 u219 u220 u221 u222 u223 u224 u225 u226 u227 u228 u229 u230 u231 u232 u233 u234 u235 u236 u237 u238 u239 u240 u241 u242 u243 u244 u245 u246 u247 u248 u249 u250 u251 u252 u253 u254 u255 u256 u257 u258 u259 u260 u261 u262 u263 u264 u265 u266 u267 u268 u269 u270 u271 u272 u273 u274 u275 u276 u277 u278 u279 u280 u281 u282:Value} {w':World},Below w.heap.size w w'→Q (.exit 0) ⟨(v0::v1::v2::v3::u4::(.pointer (some ⟨x,0,none⟩))::(.slice da nd cd)::u7::u8::u9::u10::u11::u12::u13::u14::v15::v16::v17::v18::v19::v20::v21::v22::v23::v24::v25::v26::v27::v28::v29::v30::v31::v32::u33::u34::u35::u36::u37::u38::u39::u40::u41::u42::u43::u44::u45::u46::u47::u48::u49::u50::u51::u52::u53::u54::u55::u56::u57::u58::u59::u60::u61::u62::u63::u64::u65::u66::u67::u68::u69::u70::u71::u72::u73::u74::u75::u76::u77::u78::u79::u80::u81::u82::u83::u84::u85::u86::u87::u88::u89::u90::u91::u92::u93::u94::u95::u96::u97::u98::u99::u100::u101::u102::u103::u104::u105::u106::u107::u108::u109::u110::u111::u112::u113::u114::u115::u116::u117::u118::u119::u120::u121::u122::u123::u124::u125::u126::u127::u128::u129::u130::u131::u132::u133::u134::u135::u136::u137::u138::u139::u140::u141::u142::u143::u144::u145::u146::u147::u148::u149::u150::u151::u152::u153::u154::u155::u156::u157::u158::u159::u160::u161::u162::u163::u164::u165::u166::u167::u168::u169::u170::u171::u172::u173::u174::u175::u176::u177::u178::u179::u180::u181::u182::u183::u184::u185::u186::u187::u188::u189::u190::u191::u192::u193::u194::u195::u196::u197::u198::u199::u200::u201::u202::u203::u204::u205::u206::u207::u208::u209::u210::u211::u212::u213::u214::u215::u216::u217::u218::u219::u220::u221::u222::u223::u224::u225::u226::u227::u228::u229::u230::u231::u232::u233::u234::u235::u236::u237::u238::u239::u240::u241::u242::u243::u244::u245::u246::u247::u248::u249::u250::u251::u252::u253::u254::u255::u256::u257::u258::u259::u260::u261::u262::u263::u264::u265::u266::u267::u268::u269::u270::u271::u272::u273::u274::u275::u276::u277::u278::u279::u280::u281::u282::[]).toArray,[]⟩ w')) :
    (Code.loop (noA Tryz.f6)).wp Tryz.prog Q ⟨(v0::v1::v2::v3::v4::(.pointer (some ⟨x,0,none⟩))::(.slice da nd cd)::(.int .i64 0)::v8::v9::v10::v11::v12::v13::v14::v15::v16::v17::v18::v19::v20::v21::v22::v23::v24::v25::v26::v27::v28::v29::v30::v31::v32::v33::v34::v35::v36::v37::v38::v39::v40::v41::v42::v43::v44::v45::v46::v47::v48::v49::v50::v51::v52::v53::v54::v55::v56::v57::v58::v59::v60::v61::v62::v63::v64::v65::v66::v67::v68::v69::v70::v71::v72::v73::v74::v75::v76::v77::v78::v79::v80::v81::v82::v83::v84::v85::v86::v87::v88::v89::v90::v91::v92::v93::v94::v95::v96::v97::v98::v99::v100::v101::v102::v103::v104::v105::v106::v107::v108::v109::v110::v111::v112::v113::v114::v115::v116::v117::v118::v119::v120::v121::v122::v123::v124::v125::v126::v127::v128::v129::v130::v131::v132::v133::v134::v135::v136::v137::v138::v139::v140::v141::v142::v143::v144::v145::v146::v147::v148::v149::v150::v151::v152::v153::v154::v155::v156::v157::v158::v159::v160::v161::v162::v163::v164::v165::v166::v167::v168::v169::v170::v171::v172::v173::v174::v175::v176::v177::v178::v179::v180::v181::v182::v183::v184::v185::v186::v187::v188::v189::v190::v191::v192::v193::v194::v195::v196::v197::v198::v199::v200::v201::v202::v203::v204::v205::v206::v207::v208::v209::v210::v211::v212::v213::v214::v215::v216::v217::v218::v219::v220::v221::v222::v223::v224::v225::v226::v227::v228::v229::v230::v231::v232::v233::v234::v235::v236::v237::v238::v239::v240::v241::v242::v243::v244::v245::v246::v247::v248::v249::v250::v251::v252::v253::v254::v255::v256::v257::v258::v259::v260::v261::v262::v263::v264::v265::v266::v267::v268::v269::v270::v271::v272::v273::v274::v275::v276::v277::v278::v279::v280::v281::v282::[]).toArray,[]⟩ w:=by
  have HX:=hidW hx
  have HS:=hidW hs
  have HDs:=hidW hds
  have HKL:=hidW hkl
  have HD:=hidW hd
  have HLd:=hidW ld
  have HMo:Hid σ.mem.mo.Ok:=Mst.mok hs.mok
  have HOk:=hidW hs.ok
  have HBO:Hid (∀o∈diL σ.mem.mo σ.K σ.J,BOk o.b):=fun o ho=>(hs.ok.ok o.b ((mem_diL hs.ok.j).1 ho).1).ok
  clear hx hs hds hkl hd ld
  have HH:Hid (∀ww,Below w.heap.size w ww→ww.cell? ⟨x,4,none⟩=some (.pointer (some ⟨p,0,none⟩))∧ww.cell? ⟨x,5,none⟩=some iv):=fun ww hb=>⟨(HX.out.below hb).box.cell 4,(HX.out.below hb).box.cell 5⟩
  conv=>arg 2; arg 1; whnf
  go_loopw [7] (fun i wr=>∃k:Nat,k≤256∧i= .int .i64 k∧Hid (Below w.heap.size w wr)) (fun i _=>256-(intOf i).toNat)
  case atStart=>exact ⟨0,Nat.zero_le _,rfl,Below.refl _ _⟩
  case round =>
    obtain ⟨k,hk,rfl,HK⟩:=hrel
    by_cases hlt:k<256
    · have hkz:(k:Int)<256:=by omega
      have HBd:Hid (Below w.heap.size w wr.drew):=below_drew HK.out
      have HJ:=hidW (HH.out _ HBd.out)
      go_wp2_with fail
      refine wp_region_held_drew (S:=fun ww=>ww.cell? ⟨x,4,none⟩=some (.pointer (some ⟨p,0,none⟩))∧ww.cell? ⟨x,5,none⟩=some iv) (by kernel_rfl) ?_ (fun hHeld=> ?_)
      · exact HJ.out
      refine wpAnyH_take (i:=0) (oi:=⟨some 37,.move (.tmp 5),28,_,#[],none⟩) (v:=?_) rfl (by kernel_rfl) (by kernel_rfl) (by kernel_rfl) (fun _ _ _ h=>hpan h) (Or.inl ⟨by rfl,?_⟩) (by assumption) ?_
      rotate_left
      · (intro w hSw; (try dsimp only at hSw); go_simp; try with_reducible rfl)
      simp only [Act.put,setIfInBounds_toArray,set_cons_zero,set_cons_succ]
      refine wpAnyH_take (i:=1) (oi:=⟨some 38,.nilCheck (.tmp 37),0,_,#[⟨0,.data⟩],none⟩) (v:=?_) rfl (by kernel_rfl) (by kernel_rfl) (by kernel_rfl) (fun _ _ _ h=>hpan h) (Or.inl ⟨by rfl,?_⟩) (by assumption) ?_
      rotate_left
      · (intro w hSw; (try dsimp only at hSw); go_simp; try with_reducible rfl)
      simp only [Act.put,setIfInBounds_toArray,set_cons_zero,set_cons_succ]
      refine wpAnyH_take (i:=2) (oi:=⟨some 39,.fieldAddr 54 (.tmp 38) 1,0,_,#[⟨1,.data⟩],none⟩) (v:=?_) rfl (by kernel_rfl) (by kernel_rfl) (by kernel_rfl) (fun _ _ _ h=>hpan h) (Or.inl ⟨by rfl,?_⟩) (by assumption) ?_
      rotate_left
      · (intro w hSw; (try dsimp only at hSw); go_simp; try with_reducible rfl)
      simp only [Act.put,setIfInBounds_toArray,set_cons_zero,set_cons_succ]
      refine wpAnyH_take (i:=3) (oi:=⟨some 40,.load 49 (.tmp 39),49,_,#[⟨2,.data⟩],none⟩) (v:=?_) rfl (by kernel_rfl) (by kernel_rfl) (by kernel_rfl) (fun _ _ _ h=>hpan h) (Or.inl ⟨by rfl,?_⟩) (by assumption) ?_
      rotate_left
      · (intro w hSw; (try dsimp only at hSw); go_simp; try with_reducible rfl)
      simp only [Act.put,setIfInBounds_toArray,set_cons_zero,set_cons_succ]
      refine wpAnyH_take (i:=4) (oi:=⟨some 41,.move (.tmp 5),28,_,#[],none⟩) (v:=?_) rfl (by kernel_rfl) (by kernel_rfl) (by kernel_rfl) (fun _ _ _ h=>hpan h) (Or.inl ⟨by rfl,?_⟩) (by assumption) ?_
      rotate_left
      · (intro w hSw; (try dsimp only at hSw); go_simp; try with_reducible rfl)
      simp only [Act.put,setIfInBounds_toArray,set_cons_zero,set_cons_succ]
      refine wpAnyH_take (i:=5) (oi:=⟨some 42,.nilCheck (.tmp 41),0,_,#[⟨4,.data⟩],none⟩) (v:=?_) rfl (by kernel_rfl) (by kernel_rfl) (by kernel_rfl) (fun _ _ _ h=>hpan h) (Or.inl ⟨by rfl,?_⟩) (by assumption) ?_
      rotate_left
      · (intro w hSw; (try dsimp only at hSw); go_simp; try with_reducible rfl)
      simp only [Act.put,setIfInBounds_toArray,set_cons_zero,set_cons_succ]
      refine wpAnyH_take (i:=6) (oi:=⟨some 43,.fieldAddr 54 (.tmp 42) 2,0,_,#[⟨5,.data⟩],none⟩) (v:=?_) rfl (by kernel_rfl) (by kernel_rfl) (by kernel_rfl) (fun _ _ _ h=>hpan h) (Or.inl ⟨by rfl,?_⟩) (by assumption) ?_
      rotate_left
      · (intro w hSw; (try dsimp only at hSw); go_simp; try with_reducible rfl)
      simp only [Act.put,setIfInBounds_toArray,set_cons_zero,set_cons_succ]
      refine wpAnyH_take (i:=7) (oi:=⟨some 44,.load 51 (.tmp 43),51,_,#[⟨6,.data⟩],none⟩) (v:=?_) rfl (by kernel_rfl) (by kernel_rfl) (by kernel_rfl) (fun _ _ _ h=>hpan h) (Or.inl ⟨by rfl,?_⟩) (by assumption) ?_
      rotate_left
      · (intro w hSw; (try dsimp only at hSw); go_simp; try with_reducible rfl)
      simp only [Act.put,setIfInBounds_toArray,set_cons_zero,set_cons_succ]
      refine wpAnyH_take (i:=8) (oi:=⟨some 45,.move (.tmp 7),3,_,#[],none⟩) (v:=?_) rfl (by kernel_rfl) (by kernel_rfl) (by kernel_rfl) (fun _ _ _ h=>hpan h) (Or.inl ⟨by rfl,?_⟩) (by assumption) ?_
      rotate_left
      · (intro w hSw; (try dsimp only at hSw); go_simp; try with_reducible rfl)
      simp only [Act.put,setIfInBounds_toArray,set_cons_zero,set_cons_succ]
      refine wpAnyH_ready (rs:=[9]) (by kernel_rfl) (by simp) ?_
      refine AllReadyH.cons (o:=⟨some 46,.call ⟨.value (.func 33),#[.tmp 40,.tmp 44,.tmp 45],#[49,51,3]⟩,92,_,#[⟨3,.data⟩,⟨7,.data⟩,⟨8,.data⟩],none⟩) rfl (fun K hK=> ?_) AllReadyH.nil
      go_simp
      (go_at_call 33; refine ((HX.out.below HBd.out).tk.pages (HDs.out.below HBd.out) (k:Int) (by omega) HKL.out).mono ?_; rintro e w2 ⟨v2,R,rfl,hL,hI,g2⟩; obtain ⟨la,cl,rfl⟩:=(lm_sli hL).form; have HSl:=hidW (lm_sli hL); have HI:=hidW hI; have HB2:=hidW (Below.step HBd.out g2); have HJ:=hidW (HH.out _ HB2.out); clear hL hI g2)
      refine hK.out _ _ ?_ (fun hHeld=> ?_)
      · ((try dsimp only); with_reducible exact HJ.out)
      clear hK K
      try simp only [Act.put,setIfInBounds_toArray,set_cons_zero,set_cons_succ]
      refine wpAnyH_take (i:=10) (oi:=⟨some 8,.assign (.tmp 46),92,_,#[⟨9,.data⟩,⟨9,.chain⟩,⟨0,.phase⟩,⟨1,.phase⟩,⟨2,.phase⟩,⟨3,.phase⟩,⟨4,.phase⟩,⟨5,.phase⟩,⟨6,.phase⟩,⟨7,.phase⟩,⟨8,.phase⟩,⟨9,.phase⟩],none⟩) (v:=?_) rfl (by kernel_rfl) (by kernel_rfl) (by kernel_rfl) (fun _ _ _ h=>hpan h) (Or.inl ⟨by rfl,?_⟩) (by assumption) ?_
      rotate_left
      · (intro w hSw; (try dsimp only at hSw); go_simp; try with_reducible rfl)
      simp only [Act.put,setIfInBounds_toArray,set_cons_zero,set_cons_succ]
      refine wpAnyH_done (by kernel_rfl) ?_ _
      clear HJ hHeld
      have hnl:R.length≤4611686018427387904:=by have:=HI.out.cnt HMo.out HOk.out; omega
      go_wp2_with fail
      refine no_dirts w2 da la nd cd R.length cl (k:Int) (diL σ.mem.mo σ.K σ.J) R HLd.out rfl hnd hnl (hidW (HD.out.below HB2.out)) HSl (hidW fun o ho ha=> ?_) (hidW (HX.out.below HB2.out).ts.r) (fun h=>hpan h) (hidW ?_)
      · obtain ⟨⟨r,hr,h1,h2⟩,h3,h4⟩:=IsP.meets (d:=o) (by rw [ha]; exact HI.out) HMo.out HOk.out ho
        refine ⟨h4,List.any_eq_true.2 ⟨r,hr,?_⟩,by rw [←ha]; exact h3⟩
        unfold mtF
        rw [decide_eq_true h1,decide_eq_true h2]
        rfl
      intros
      rename_i w3 hb3
      have HB3:=hidW (Below.step HB2.out hb3)
      have HSl3:=hidW (HSl.out.below hb3)
      clear hb3 HSl
      go_wp2_with fail
      refine no_rooms w3 x p nd cd R.length cl da la iv (k:Int) R rfl hnl HSl3 (hidW fun r hr=> ?_) (hidW fun j s r h1 h2=>HI.out.next h1 h2) (hidW fun ww hb=>HH.out ww (Below.step HB3.out hb)) (hidW fun r hr va hva ww hb=> ?_) (hidW fun r hr va hva ww hb=> ?_) (hidW fun r hr va hva ww hb=> ?_) (fun h=>hpan h) (hidW ?_)
      · have h:=HI.out.facts HMo.out HOk.out hr
        exact ⟨h.1,h.2.1,h.2.2.1⟩
      · have h:=HI.out.facts HMo.out HOk.out hr
        have hb':=Below.step HB3.out hb
        have hx:=inside_any ww _ _ (HD.out.below hb') (by rw [HLd.out]; exact hnd) HBO.out (HX.out.below hb').ts.r (k:Int) va (by omega)
        rw [List.any_eq_true.2 (by
          obtain ⟨y,hy,e1,e2⟩:=(h.2.2.2.1 va (by omega) (by omega)).1
          exact ⟨y,hy,by rw [e1,e2]; simp⟩)] at hx
        exact hx
      · have h:=HI.out.facts HMo.out HOk.out hr
        have hx:=(HX.out.below (Below.step HB3.out hb)).tk.stale (k:Int) va (by omega) (by omega)
        rw [(h.2.2.2.1 (va / 4096) (by omega) (by omega)).2 va rfl] at hx
        exact hx
      · have h:=HI.out.facts HMo.out HOk.out hr
        have hx:=(HX.out.below (Below.step HB3.out hb)).tk.stale (k:Int) va (by omega) (by omega)
        rw [show stF σ.mem.mo σ.K σ.J (k:Int) va=false by
          rcases hva with ⟨e,h0⟩|⟨e,h0⟩
          · exact h.2.2.2.2.1 va (by omega) h0
          · exact h.2.2.2.2.2 va (by omega)] at hx
        exact hx
      · intros
        rename_i w4 hb4
        have HB4:=hidW (Below.step HB3.out hb4)
        clear hb4
        go_wp2
        go_roundw
        case rel=>exact ⟨k+1,by omega,by go_num,HB4⟩
        case measure=>simp [intOf]; omega
    · obtain rfl:k=256:=by omega
      go_wp2
      exact HQ.out HK.out
end Go.Proofs.YtnjlajjjcmhfgaaGreatDoor
