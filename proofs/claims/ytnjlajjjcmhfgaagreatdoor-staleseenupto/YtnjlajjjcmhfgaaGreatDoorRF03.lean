import Derived.Test.YtnjlajjjcmhfgaaGreatDoorRF02
namespace Go.Proofs.YtnjlajjjcmhfgaaGreatDoor
open Go.RowKit Go.Shelf
open Mm (Turn gr RM valV errV Byts setV RowAt)
set_option linter.unusedVariables false
set_option linter.unusedSimpArgs false
attribute [local go_sem] Oper.semAt_some
set_option maxRecDepth 1000000 in
set_option maxHeartbeats 16000000 in
theorem seen_known {Q:Exit→Act→World→Prop} {v0 v1 v2 v3 v4 v5 v7 v8 v9 v10 v11 v12 v13 v14 v15 v16 v17 v20 v21 v22 v23 v24 v25 v26 v27 v28 v29 v30 v31 v32 v33 v34 v35 v36 v37 v38 v39 v40 v41 v42 v43 v44 v45 v46 v47 v48 v49 v50 v51 v52 v53 v54 v55 v56 v57 v58 v59 v60 v61 v62 v63 v64 v65 v66 v67 v68 v69 v70 v71 v72 v73 v74 v75 v76 v77 v78 v79 v80 v81 v82 v83 v84 v85 v86 v87 v88 v89 v90 v91 v92 v93 v94 v95 v96 v97 v98 v99 v100 v101 v102 v103 v104 v105 v106 v107 v108 v109 v110 v111 v112 v113 v114 v115 v116 v117 v118 v119 v120 v121 v122 v123 v124 v125 v126 v127 v128 v129 v130 v131 v132 v133 v134 v135 v136 v137 v138 v139 v140 v141 v142 v143 v144 v145 v146 v147 v148 v149 v150 v151 v152 v153 v154 v155 v156 v157 v158 v159 v160 v161 v162 v163 v164 v165 v166 v167 v168 v169 v170 v171 v172 v173 v174 v175 v176 v177 v178 v179 v180 v181 v182 v183 v184 v185 v186 v187 v188 v189 v190 v191 v192 v193 v194 v195 v196:Value} (ds:List Deferred) (w:World) (b6 nk ck:Nat) (ka:Option Addr) (bv:Value) (B K:List Blo) (hbb:Bl w b6 31 [bv]) (hsl:Sli encB 9 w bv B) (hk:Sli encB 9 w (.slice ka nk ck) K) (lk:K.length=nk) (hri:Ri K) (hm:∀b∈K,b∈B) (hlB:B.length≤1099511627776) (hlK:nk≤1099511627776) (hpan:∀ {c:List PanicEntry} {a:Act} {d:Option Tmp} {v:Value} {w:World},Q (.panic c) (a.put d v) w→Q (.panic c) a w)
    (HQ:Hid (∀ {u19 u168 u169 u170 u171 u172 u173 u174 u175 u176 u177 u178 u179 u180 u181 u182 u183 u184 u185 u186 u187 u188 u189 u190 u191 u192 u193 u194 u195 u196:Value} {w':World},Below w.heap.size w w'→Q (.exit 6) ⟨(v0::v1::v2::v3::v4::v5::(.pointer (some ⟨b6,0,none⟩))::v7::v8::v9::v10::v11::v12::v13::v14::v15::v16::v17::(.slice ka nk ck)::u19::v20::v21::v22::v23::v24::v25::v26::v27::v28::v29::v30::v31::v32::v33::v34::v35::v36::v37::v38::v39::v40::v41::v42::v43::v44::v45::v46::v47::v48::v49::v50::v51::v52::v53::v54::v55::v56::v57::v58::v59::v60::v61::v62::v63::v64::v65::v66::v67::v68::v69::v70::v71::v72::v73::v74::v75::v76::v77::v78::v79::v80::v81::v82::v83::v84::v85::v86::v87::v88::v89::v90::v91::v92::v93::v94::v95::v96::v97::v98::v99::v100::v101::v102::v103::v104::v105::v106::v107::v108::v109::v110::v111::v112::v113::v114::v115::v116::v117::v118::v119::v120::v121::v122::v123::v124::v125::v126::v127::v128::v129::v130::v131::v132::v133::v134::v135::v136::v137::v138::v139::v140::v141::v142::v143::v144::v145::v146::v147::v148::v149::v150::v151::v152::v153::v154::v155::v156::v157::v158::v159::v160::v161::v162::v163::v164::v165::v166::v167::u168::u169::u170::u171::u172::u173::u174::u175::u176::u177::u178::u179::u180::u181::u182::u183::u184::u185::u186::u187::u188::u189::u190::u191::u192::u193::u194::u195::u196::[]).toArray,ds⟩ w')) :
    (Code.loop (seN Tryz.f3)).wp Tryz.prog Q ⟨(v0::v1::v2::v3::v4::v5::(.pointer (some ⟨b6,0,none⟩))::v7::v8::v9::v10::v11::v12::v13::v14::v15::v16::v17::(.slice ka nk ck)::(.int .i64 0)::v20::v21::v22::v23::v24::v25::v26::v27::v28::v29::v30::v31::v32::v33::v34::v35::v36::v37::v38::v39::v40::v41::v42::v43::v44::v45::v46::v47::v48::v49::v50::v51::v52::v53::v54::v55::v56::v57::v58::v59::v60::v61::v62::v63::v64::v65::v66::v67::v68::v69::v70::v71::v72::v73::v74::v75::v76::v77::v78::v79::v80::v81::v82::v83::v84::v85::v86::v87::v88::v89::v90::v91::v92::v93::v94::v95::v96::v97::v98::v99::v100::v101::v102::v103::v104::v105::v106::v107::v108::v109::v110::v111::v112::v113::v114::v115::v116::v117::v118::v119::v120::v121::v122::v123::v124::v125::v126::v127::v128::v129::v130::v131::v132::v133::v134::v135::v136::v137::v138::v139::v140::v141::v142::v143::v144::v145::v146::v147::v148::v149::v150::v151::v152::v153::v154::v155::v156::v157::v158::v159::v160::v161::v162::v163::v164::v165::v166::v167::v168::v169::v170::v171::v172::v173::v174::v175::v176::v177::v178::v179::v180::v181::v182::v183::v184::v185::v186::v187::v188::v189::v190::v191::v192::v193::v194::v195::v196::[]).toArray,ds⟩ w:=by
  obtain ⟨ba,cb,rfl⟩:=hsl.form
  have HBB:=hidW hbb
  have HS:=hidW hsl
  have HK:=hidW hk
  have HRi:=hidW hri
  have HM:=hidW hm
  have HLK:=hidW lk
  have hlB2:B.length≤4611686018427387904:=by omega
  have HLB:=hidW hlB2
  clear hlB2
  generalize hn:B.length=n at *
  have HLN:=hidW hn
  clear hbb hsl hk hri hm lk hn
  conv=>arg 2; arg 1; whnf
  go_loopw [19] (fun i wr=>∃k:Nat,k≤nk∧i= .int .i64 k∧Hid (Below w.heap.size w wr)) (fun i _=>nk-(intOf i).toNat)
  case atStart=>exact ⟨0,Nat.zero_le _,rfl,Below.refl _ _⟩
  case round =>
    obtain ⟨k,hk,rfl,HB⟩:=hrel
    by_cases hlt:k<nk
    · obtain ⟨o,hq⟩:∃o,K[k]? =some o:=⟨_,List.getElem?_eq_getElem (by rw [HLK.out]; omega)⟩
      obtain ⟨lb,lo,rfl,hlb,_⟩:=HK.out.blo (Below.refl _ _) hq
      have hkz:(k:Int)<(nk:Int):=by omega
      have hd0:=Below.step HB.out (below_drew (Below.refl _ wr))
      have HD0:=hidW hd0
      have hany:(B.any fun y=>y.same o)=true:=any_same.2 (HM.out o (List.mem_of_getElem? hq))
      have HHa:=hidW (has_any wr.drew _ B (HS.out.below hd0) (by rw [HLN.out]; exact HLB.out) o)
      rw [hany] at HHa
      clear hany
      by_cases h0:k=0
      · have hk0:¬(0:Int)<(k:Int):=by omega
        have hk1:¬0<k:=by omega
        clear h0
        have HH:Hid (∀ww,Below w.heap.size w ww→ww.cell? ⟨b6,0,none⟩=some (.slice ba n cb)∧ww.cell? ⟨lb,lo+k*9,none⟩=some (.int .i64 o.asid)∧ww.cell? ⟨lb,lo+k*9+1,none⟩=some (.int .i64 o.t.size)∧ww.cell? ⟨lb,lo+k*9+2,none⟩=some (.int .u32 o.t.va)∧ww.cell? ⟨lb,lo+k*9+3,none⟩=some (.int .u64 o.t.pa)∧ww.cell? ⟨lb,lo+k*9+4,none⟩=some (.int .i64 o.t.dom)∧ww.cell? ⟨lb,lo+k*9+5,none⟩=some (.int .i64 o.t.ap)∧ww.cell? ⟨lb,lo+k*9+6,none⟩=some (.int .u32 o.t.bits)∧ww.cell? ⟨lb,lo+k*9+7,none⟩=some (.bool o.t.ng)∧ww.cell? ⟨lb,lo+k*9+8,none⟩=some (.bool o.t.xn)):=fun ww hb=>by
          obtain ⟨_,_,e1,_,d1⟩:=HK.out.blo hb hq
          cases e1
          exact ⟨(HBB.out.below hb).cell 0,d1⟩
        have HJ:=hidW (HH.out _ hd0)
        clear hq hd0
        go_wp2_with fail
        refine wp_region_held_drew (S:=fun ww=>ww.cell? ⟨b6,0,none⟩=some (.slice ba n cb)∧ww.cell? ⟨lb,lo+k*9,none⟩=some (.int .i64 o.asid)∧ww.cell? ⟨lb,lo+k*9+1,none⟩=some (.int .i64 o.t.size)∧ww.cell? ⟨lb,lo+k*9+2,none⟩=some (.int .u32 o.t.va)∧ww.cell? ⟨lb,lo+k*9+3,none⟩=some (.int .u64 o.t.pa)∧ww.cell? ⟨lb,lo+k*9+4,none⟩=some (.int .i64 o.t.dom)∧ww.cell? ⟨lb,lo+k*9+5,none⟩=some (.int .i64 o.t.ap)∧ww.cell? ⟨lb,lo+k*9+6,none⟩=some (.int .u32 o.t.bits)∧ww.cell? ⟨lb,lo+k*9+7,none⟩=some (.bool o.t.ng)∧ww.cell? ⟨lb,lo+k*9+8,none⟩=some (.bool o.t.xn)) (by kernel_rfl) ?_ (fun hHeld=> ?_)
        · exact HJ.out
        refine wpAnyH_take (i:=0) (oi:=⟨some 174,.load 31 (.tmp 6),31,_,#[],none⟩) (v:=?_) rfl (by kernel_rfl) (by kernel_rfl) (by kernel_rfl) (fun _ _ _ h=>hpan h) (Or.inl ⟨by rfl,?_⟩) (by assumption) ?_
        rotate_left
        · (intro w hSw; (try dsimp only at hSw); go_simp; try with_reducible rfl)
        simp only [Act.put,List.setIfInBounds_toArray,List.set_cons_zero,List.set_cons_succ]
        refine wpAnyH_take (i:=1) (oi:=⟨some 175,.move (.tmp 18),31,_,#[],none⟩) (v:=?_) rfl (by kernel_rfl) (by kernel_rfl) (by kernel_rfl) (fun _ _ _ h=>hpan h) (Or.inl ⟨by rfl,?_⟩) (by assumption) ?_
        rotate_left
        · (intro w hSw; (try dsimp only at hSw); go_simp; try with_reducible rfl)
        simp only [Act.put,List.setIfInBounds_toArray,List.set_cons_zero,List.set_cons_succ]
        refine wpAnyH_take (i:=2) (oi:=⟨some 176,.move (.tmp 19),3,_,#[],none⟩) (v:=?_) rfl (by kernel_rfl) (by kernel_rfl) (by kernel_rfl) (fun _ _ _ h=>hpan h) (Or.inl ⟨by rfl,?_⟩) (by assumption) ?_
        rotate_left
        · (intro w hSw; (try dsimp only at hSw); go_simp; try with_reducible rfl)
        simp only [Act.put,List.setIfInBounds_toArray,List.set_cons_zero,List.set_cons_succ]
        refine wpAnyH_take (i:=3) (oi:=⟨some 177,.indexAddr 31 (.tmp 175) (.tmp 176),0,_,#[⟨1,.data⟩,⟨2,.data⟩],none⟩) (v:=?_) rfl (by kernel_rfl) (by kernel_rfl) (by kernel_rfl) (fun _ _ _ h=>hpan h) (Or.inl ⟨by rfl,?_⟩) (by assumption) ?_
        rotate_left
        · (intro w hSw; (try dsimp only at hSw); go_simp; try with_reducible rfl)
        simp only [Act.put,List.setIfInBounds_toArray,List.set_cons_zero,List.set_cons_succ]
        refine wpAnyH_take (i:=4) (oi:=⟨some 178,.load 45 (.tmp 177),45,_,#[⟨3,.data⟩],none⟩) (v:=?_) rfl (by kernel_rfl) (by kernel_rfl) (by kernel_rfl) (fun _ _ _ h=>hpan h) (Or.inl ⟨by rfl,?_⟩) (by assumption) ?_
        rotate_left
        · (intro w hSw; (try dsimp only at hSw); go_simp; try with_reducible rfl)
        simp only [Act.put,List.setIfInBounds_toArray,List.set_cons_zero,List.set_cons_succ]
        refine wpAnyH_ready (rs:=[5]) (by kernel_rfl) (by simp) ?_
        refine AllReadyH.cons (o:=⟨some 179,.call ⟨.value (.func 16),#[.tmp 174,.tmp 178],#[31,45]⟩,4,_,#[⟨0,.data⟩,⟨4,.data⟩],none⟩) rfl (fun K hK=> ?_) AllReadyH.nil
        go_simp
        (go_at_call 16; refine HHa.out.mono ?_; rintro e w1 ⟨rfl,g1⟩; have HB1:=hidW (Below.step HD0.out g1); have HJ:=hidW (HH.out _ HB1.out); clear g1)
        refine hK.out _ _ ?_ (fun hHeld=> ?_)
        · ((try dsimp only); with_reducible exact HJ.out)
        clear hK K
        try simp only [Act.put,List.setIfInBounds_toArray,List.set_cons_zero,List.set_cons_succ]
        refine wpAnyH_take (i:=6) (oi:=⟨some 180,.unOp UnOp.not 4 (.tmp 179),4,_,#[⟨5,.data⟩],none⟩) (v:=?_) rfl (by kernel_rfl) (by kernel_rfl) (by kernel_rfl) (fun _ _ _ h=>hpan h) (Or.inl ⟨by rfl,?_⟩) (by assumption) ?_
        rotate_left
        · (intro w hSw; (try dsimp only at hSw); go_simp; try with_reducible rfl)
        simp only [Act.put,List.setIfInBounds_toArray,List.set_cons_zero,List.set_cons_succ]
        refine wpAnyH_take (i:=7) (oi:=⟨some 181,.move (.tmp 180),4,_,#[⟨6,.data⟩,⟨5,.chain⟩],none⟩) (v:=?_) rfl (by kernel_rfl) (by kernel_rfl) (by kernel_rfl) (fun _ _ _ h=>hpan h) (Or.inl ⟨by rfl,?_⟩) (by assumption) ?_
        rotate_left
        · (intro w hSw; (try dsimp only at hSw); go_simp; try with_reducible rfl)
        simp only [Act.put,List.setIfInBounds_toArray,List.set_cons_zero,List.set_cons_succ]
        refine wpAnyH_take (i:=8) (oi:=⟨some 182,.move (.tmp 19),3,_,#[⟨7,.guard⟩],some (7,false)⟩) (v:=?_) rfl (by kernel_rfl) (by kernel_rfl) (by kernel_rfl) (fun _ _ _ h=>hpan h) (Or.inl ⟨by rfl,?_⟩) (by assumption) ?_
        rotate_left
        · (intro w hSw; (try dsimp only at hSw); go_simp; try with_reducible rfl)
        simp only [Act.put,List.setIfInBounds_toArray,List.set_cons_zero,List.set_cons_succ]
        refine wpAnyH_take (i:=9) (oi:=⟨some 183,.binOp BinOp.gtr 3 (.tmp 182) (.const (Value.int IntKind.i64 0)) 3,4,_,#[⟨8,.data⟩,⟨7,.guard⟩],some (7,false)⟩) (v:=?_) rfl (by kernel_rfl) (by kernel_rfl) (by kernel_rfl) (fun _ _ _ h=>hpan h) (Or.inl ⟨by rfl,?_⟩) (by assumption) ?_
        rotate_left
        · (intro w hSw; (try dsimp only at hSw); go_simp; try with_reducible rfl)
        simp only [Act.put,List.setIfInBounds_toArray,List.set_cons_zero,List.set_cons_succ]
        refine wpAnyH_take (i:=10) (oi:=⟨some 184,.move (.tmp 183),4,_,#[⟨9,.data⟩,⟨7,.chain⟩,⟨7,.guard⟩],some (7,false)⟩) (v:=?_) rfl (by kernel_rfl) (by kernel_rfl) (by kernel_rfl) (fun _ _ _ h=>hpan h) (Or.inl ⟨by rfl,?_⟩) (by assumption) ?_
        rotate_left
        · (intro w hSw; (try dsimp only at hSw); go_simp; try with_reducible rfl)
        simp only [Act.put,List.setIfInBounds_toArray,List.set_cons_zero,List.set_cons_succ]
        refine wpAnyH_take (i:=11) (oi:=⟨some 185,.move (.tmp 18),31,_,#[⟨10,.guard⟩],some (10,true)⟩) (v:=undef) rfl (by kernel_rfl) (by kernel_rfl) (by kernel_rfl) (fun _ _ _ h=>hpan h) (Or.inr ⟨by rfl,rfl⟩) (by assumption) ?_
        simp only [Act.put,List.setIfInBounds_toArray,List.set_cons_zero,List.set_cons_succ]
        refine wpAnyH_take (i:=12) (oi:=⟨some 186,.move (.tmp 19),3,_,#[⟨10,.guard⟩],some (10,true)⟩) (v:=undef) rfl (by kernel_rfl) (by kernel_rfl) (by kernel_rfl) (fun _ _ _ h=>hpan h) (Or.inr ⟨by rfl,rfl⟩) (by assumption) ?_
        simp only [Act.put,List.setIfInBounds_toArray,List.set_cons_zero,List.set_cons_succ]
        refine wpAnyH_take (i:=13) (oi:=⟨some 187,.indexAddr 31 (.tmp 185) (.tmp 186),0,_,#[⟨11,.data⟩,⟨12,.data⟩,⟨10,.guard⟩],some (10,true)⟩) (v:=undef) rfl (by kernel_rfl) (by kernel_rfl) (by kernel_rfl) (fun _ _ _ h=>hpan h) (Or.inr ⟨by rfl,rfl⟩) (by assumption) ?_
        simp only [Act.put,List.setIfInBounds_toArray,List.set_cons_zero,List.set_cons_succ]
        refine wpAnyH_take (i:=14) (oi:=⟨some 188,.load 45 (.tmp 187),45,_,#[⟨13,.data⟩,⟨10,.guard⟩],some (10,true)⟩) (v:=undef) rfl (by kernel_rfl) (by kernel_rfl) (by kernel_rfl) (fun _ _ _ h=>hpan h) (Or.inr ⟨by rfl,rfl⟩) (by assumption) ?_
        simp only [Act.put,List.setIfInBounds_toArray,List.set_cons_zero,List.set_cons_succ]
        refine wpAnyH_take (i:=15) (oi:=⟨some 189,.move (.tmp 18),31,_,#[⟨10,.guard⟩],some (10,true)⟩) (v:=undef) rfl (by kernel_rfl) (by kernel_rfl) (by kernel_rfl) (fun _ _ _ h=>hpan h) (Or.inr ⟨by rfl,rfl⟩) (by assumption) ?_
        simp only [Act.put,List.setIfInBounds_toArray,List.set_cons_zero,List.set_cons_succ]
        refine wpAnyH_take (i:=16) (oi:=⟨some 190,.move (.tmp 19),3,_,#[⟨10,.guard⟩],some (10,true)⟩) (v:=undef) rfl (by kernel_rfl) (by kernel_rfl) (by kernel_rfl) (fun _ _ _ h=>hpan h) (Or.inr ⟨by rfl,rfl⟩) (by assumption) ?_
        simp only [Act.put,List.setIfInBounds_toArray,List.set_cons_zero,List.set_cons_succ]
        refine wpAnyH_take (i:=17) (oi:=⟨some 191,.binOp BinOp.sub 3 (.tmp 190) (.const (Value.int IntKind.i64 1)) 3,3,_,#[⟨16,.data⟩,⟨10,.guard⟩],some (10,true)⟩) (v:=undef) rfl (by kernel_rfl) (by kernel_rfl) (by kernel_rfl) (fun _ _ _ h=>hpan h) (Or.inr ⟨by rfl,rfl⟩) (by assumption) ?_
        simp only [Act.put,List.setIfInBounds_toArray,List.set_cons_zero,List.set_cons_succ]
        refine wpAnyH_take (i:=18) (oi:=⟨some 192,.indexAddr 31 (.tmp 189) (.tmp 191),0,_,#[⟨15,.data⟩,⟨17,.data⟩,⟨10,.guard⟩],some (10,true)⟩) (v:=undef) rfl (by kernel_rfl) (by kernel_rfl) (by kernel_rfl) (fun _ _ _ h=>hpan h) (Or.inr ⟨by rfl,rfl⟩) (by assumption) ?_
        simp only [Act.put,List.setIfInBounds_toArray,List.set_cons_zero,List.set_cons_succ]
        refine wpAnyH_take (i:=19) (oi:=⟨some 193,.load 45 (.tmp 192),45,_,#[⟨18,.data⟩,⟨10,.guard⟩],some (10,true)⟩) (v:=undef) rfl (by kernel_rfl) (by kernel_rfl) (by kernel_rfl) (fun _ _ _ h=>hpan h) (Or.inr ⟨by rfl,rfl⟩) (by assumption) ?_
        simp only [Act.put,List.setIfInBounds_toArray,List.set_cons_zero,List.set_cons_succ]
        refine wpAnyH_take (i:=20) (oi:=⟨some 194,.binOp BinOp.eql 45 (.tmp 188) (.tmp 193) 45,4,_,#[⟨14,.data⟩,⟨19,.data⟩,⟨10,.guard⟩],some (10,true)⟩) (v:=undef) rfl (by kernel_rfl) (by kernel_rfl) (by kernel_rfl) (fun _ _ _ h=>hpan h) (Or.inr ⟨by rfl,rfl⟩) (by assumption) ?_
        simp only [Act.put,List.setIfInBounds_toArray,List.set_cons_zero,List.set_cons_succ]
        refine wpAnyH_take (i:=21) (oi:=⟨some 195,.pick (.tmp 184) (.tmp 194) (.const (Value.bool false)),4,_,#[⟨10,.data⟩,⟨20,.data⟩,⟨7,.guard⟩],some (7,false)⟩) (v:=?_) rfl (by kernel_rfl) (by kernel_rfl) (by kernel_rfl) (fun _ _ _ h=>hpan h) (Or.inl ⟨by rfl,?_⟩) (by assumption) ?_
        rotate_left
        · (intro w hSw; (try dsimp only at hSw); go_simp; try with_reducible rfl)
        simp only [Act.put,List.setIfInBounds_toArray,List.set_cons_zero,List.set_cons_succ]
        refine wpAnyH_take (i:=22) (oi:=⟨some 196,.pick (.tmp 181) (.const (Value.bool true)) (.tmp 195),4,_,#[⟨7,.data⟩,⟨21,.data⟩],none⟩) (v:=?_) rfl (by kernel_rfl) (by kernel_rfl) (by kernel_rfl) (fun _ _ _ h=>hpan h) (Or.inl ⟨by rfl,?_⟩) (by assumption) ?_
        rotate_left
        · (intro w hSw; (try dsimp only at hSw); go_simp; try with_reducible rfl)
        simp only [Act.put,List.setIfInBounds_toArray,List.set_cons_zero,List.set_cons_succ]
        refine wpAnyH_done (by kernel_rfl) ?_ _
        go_wp2
        go_roundw
        case rel=>exact ⟨k+1,by omega,by go_num,HB1⟩
        case measure=>simp [intOf]; omega
      · obtain ⟨j,hkk⟩:∃j,k=j+1:=⟨k-1,by omega⟩
        rw [hkk] at hq
        obtain ⟨o2,hq2⟩:∃o,K[j]? =some o:=⟨_,List.getElem?_eq_getElem (by rw [HLK.out]; omega)⟩
        have hne:=ri_next HRi.out hq2 hq
        rw [←hkk] at hq
        have heq:=eqB o o2
        rw [hne] at heq
        have hk1:0<k:=by omega
        have hw1:IntKind.i64.wrap ((k:Int)-1)=(j:Int):=by rw [IntKind.wrap_i64]; omega
        have hjz:(j:Int)<(nk:Int):=by omega
        have hk0:(0:Int)<(k:Int):=by omega
        have HH:Hid (∀ww,Below w.heap.size w ww→ww.cell? ⟨b6,0,none⟩=some (.slice ba n cb)∧ww.cell? ⟨lb,lo+k*9,none⟩=some (.int .i64 o.asid)∧ww.cell? ⟨lb,lo+k*9+1,none⟩=some (.int .i64 o.t.size)∧ww.cell? ⟨lb,lo+k*9+2,none⟩=some (.int .u32 o.t.va)∧ww.cell? ⟨lb,lo+k*9+3,none⟩=some (.int .u64 o.t.pa)∧ww.cell? ⟨lb,lo+k*9+4,none⟩=some (.int .i64 o.t.dom)∧ww.cell? ⟨lb,lo+k*9+5,none⟩=some (.int .i64 o.t.ap)∧ww.cell? ⟨lb,lo+k*9+6,none⟩=some (.int .u32 o.t.bits)∧ww.cell? ⟨lb,lo+k*9+7,none⟩=some (.bool o.t.ng)∧ww.cell? ⟨lb,lo+k*9+8,none⟩=some (.bool o.t.xn)∧ww.cell? ⟨lb,lo+j*9,none⟩=some (.int .i64 o2.asid)∧ww.cell? ⟨lb,lo+j*9+1,none⟩=some (.int .i64 o2.t.size)∧ww.cell? ⟨lb,lo+j*9+2,none⟩=some (.int .u32 o2.t.va)∧ww.cell? ⟨lb,lo+j*9+3,none⟩=some (.int .u64 o2.t.pa)∧ww.cell? ⟨lb,lo+j*9+4,none⟩=some (.int .i64 o2.t.dom)∧ww.cell? ⟨lb,lo+j*9+5,none⟩=some (.int .i64 o2.t.ap)∧ww.cell? ⟨lb,lo+j*9+6,none⟩=some (.int .u32 o2.t.bits)∧ww.cell? ⟨lb,lo+j*9+7,none⟩=some (.bool o2.t.ng)∧ww.cell? ⟨lb,lo+j*9+8,none⟩=some (.bool o2.t.xn)):=fun ww hb=>by
          obtain ⟨_,_,e1,_,d20,d21,d22,d23,d24,d25,d26,d27,d28⟩:=HK.out.blo hb hq
          cases e1
          obtain ⟨_,_,e1,_,d1⟩:=HK.out.blo hb hq2
          cases e1
          exact ⟨(HBB.out.below hb).cell 0,d20,d21,d22,d23,d24,d25,d26,d27,d28,d1⟩
        have HJ:=hidW (HH.out _ hd0)
        clear hq hq2 hd0 hne hkk h0
        go_wp2_with fail
        refine wp_region_held_drew (S:=fun ww=>ww.cell? ⟨b6,0,none⟩=some (.slice ba n cb)∧ww.cell? ⟨lb,lo+k*9,none⟩=some (.int .i64 o.asid)∧ww.cell? ⟨lb,lo+k*9+1,none⟩=some (.int .i64 o.t.size)∧ww.cell? ⟨lb,lo+k*9+2,none⟩=some (.int .u32 o.t.va)∧ww.cell? ⟨lb,lo+k*9+3,none⟩=some (.int .u64 o.t.pa)∧ww.cell? ⟨lb,lo+k*9+4,none⟩=some (.int .i64 o.t.dom)∧ww.cell? ⟨lb,lo+k*9+5,none⟩=some (.int .i64 o.t.ap)∧ww.cell? ⟨lb,lo+k*9+6,none⟩=some (.int .u32 o.t.bits)∧ww.cell? ⟨lb,lo+k*9+7,none⟩=some (.bool o.t.ng)∧ww.cell? ⟨lb,lo+k*9+8,none⟩=some (.bool o.t.xn)∧ww.cell? ⟨lb,lo+j*9,none⟩=some (.int .i64 o2.asid)∧ww.cell? ⟨lb,lo+j*9+1,none⟩=some (.int .i64 o2.t.size)∧ww.cell? ⟨lb,lo+j*9+2,none⟩=some (.int .u32 o2.t.va)∧ww.cell? ⟨lb,lo+j*9+3,none⟩=some (.int .u64 o2.t.pa)∧ww.cell? ⟨lb,lo+j*9+4,none⟩=some (.int .i64 o2.t.dom)∧ww.cell? ⟨lb,lo+j*9+5,none⟩=some (.int .i64 o2.t.ap)∧ww.cell? ⟨lb,lo+j*9+6,none⟩=some (.int .u32 o2.t.bits)∧ww.cell? ⟨lb,lo+j*9+7,none⟩=some (.bool o2.t.ng)∧ww.cell? ⟨lb,lo+j*9+8,none⟩=some (.bool o2.t.xn)) (by kernel_rfl) ?_ (fun hHeld=> ?_)
        · exact HJ.out
        refine wpAnyH_take (i:=0) (oi:=⟨some 174,.load 31 (.tmp 6),31,_,#[],none⟩) (v:=?_) rfl (by kernel_rfl) (by kernel_rfl) (by kernel_rfl) (fun _ _ _ h=>hpan h) (Or.inl ⟨by rfl,?_⟩) (by assumption) ?_
        rotate_left
        · (intro w hSw; (try dsimp only at hSw); go_simp; try with_reducible rfl)
        simp only [Act.put,List.setIfInBounds_toArray,List.set_cons_zero,List.set_cons_succ]
        refine wpAnyH_take (i:=1) (oi:=⟨some 175,.move (.tmp 18),31,_,#[],none⟩) (v:=?_) rfl (by kernel_rfl) (by kernel_rfl) (by kernel_rfl) (fun _ _ _ h=>hpan h) (Or.inl ⟨by rfl,?_⟩) (by assumption) ?_
        rotate_left
        · (intro w hSw; (try dsimp only at hSw); go_simp; try with_reducible rfl)
        simp only [Act.put,List.setIfInBounds_toArray,List.set_cons_zero,List.set_cons_succ]
        refine wpAnyH_take (i:=2) (oi:=⟨some 176,.move (.tmp 19),3,_,#[],none⟩) (v:=?_) rfl (by kernel_rfl) (by kernel_rfl) (by kernel_rfl) (fun _ _ _ h=>hpan h) (Or.inl ⟨by rfl,?_⟩) (by assumption) ?_
        rotate_left
        · (intro w hSw; (try dsimp only at hSw); go_simp; try with_reducible rfl)
        simp only [Act.put,List.setIfInBounds_toArray,List.set_cons_zero,List.set_cons_succ]
        refine wpAnyH_take (i:=3) (oi:=⟨some 177,.indexAddr 31 (.tmp 175) (.tmp 176),0,_,#[⟨1,.data⟩,⟨2,.data⟩],none⟩) (v:=?_) rfl (by kernel_rfl) (by kernel_rfl) (by kernel_rfl) (fun _ _ _ h=>hpan h) (Or.inl ⟨by rfl,?_⟩) (by assumption) ?_
        rotate_left
        · (intro w hSw; (try dsimp only at hSw); go_simp; try with_reducible rfl)
        simp only [Act.put,List.setIfInBounds_toArray,List.set_cons_zero,List.set_cons_succ]
        refine wpAnyH_take (i:=4) (oi:=⟨some 178,.load 45 (.tmp 177),45,_,#[⟨3,.data⟩],none⟩) (v:=?_) rfl (by kernel_rfl) (by kernel_rfl) (by kernel_rfl) (fun _ _ _ h=>hpan h) (Or.inl ⟨by rfl,?_⟩) (by assumption) ?_
        rotate_left
        · (intro w hSw; (try dsimp only at hSw); go_simp; try with_reducible rfl)
        simp only [Act.put,List.setIfInBounds_toArray,List.set_cons_zero,List.set_cons_succ]
        refine wpAnyH_ready (rs:=[5]) (by kernel_rfl) (by simp) ?_
        refine AllReadyH.cons (o:=⟨some 179,.call ⟨.value (.func 16),#[.tmp 174,.tmp 178],#[31,45]⟩,4,_,#[⟨0,.data⟩,⟨4,.data⟩],none⟩) rfl (fun K hK=> ?_) AllReadyH.nil
        go_simp
        (go_at_call 16; refine HHa.out.mono ?_; rintro e w1 ⟨rfl,g1⟩; have HB1:=hidW (Below.step HD0.out g1); have HJ:=hidW (HH.out _ HB1.out); clear g1)
        refine hK.out _ _ ?_ (fun hHeld=> ?_)
        · ((try dsimp only); with_reducible exact HJ.out)
        clear hK K
        try simp only [Act.put,List.setIfInBounds_toArray,List.set_cons_zero,List.set_cons_succ]
        refine wpAnyH_take (i:=6) (oi:=⟨some 180,.unOp UnOp.not 4 (.tmp 179),4,_,#[⟨5,.data⟩],none⟩) (v:=?_) rfl (by kernel_rfl) (by kernel_rfl) (by kernel_rfl) (fun _ _ _ h=>hpan h) (Or.inl ⟨by rfl,?_⟩) (by assumption) ?_
        rotate_left
        · (intro w hSw; (try dsimp only at hSw); go_simp; try with_reducible rfl)
        simp only [Act.put,List.setIfInBounds_toArray,List.set_cons_zero,List.set_cons_succ]
        refine wpAnyH_take (i:=7) (oi:=⟨some 181,.move (.tmp 180),4,_,#[⟨6,.data⟩,⟨5,.chain⟩],none⟩) (v:=?_) rfl (by kernel_rfl) (by kernel_rfl) (by kernel_rfl) (fun _ _ _ h=>hpan h) (Or.inl ⟨by rfl,?_⟩) (by assumption) ?_
        rotate_left
        · (intro w hSw; (try dsimp only at hSw); go_simp; try with_reducible rfl)
        simp only [Act.put,List.setIfInBounds_toArray,List.set_cons_zero,List.set_cons_succ]
        refine wpAnyH_take (i:=8) (oi:=⟨some 182,.move (.tmp 19),3,_,#[⟨7,.guard⟩],some (7,false)⟩) (v:=?_) rfl (by kernel_rfl) (by kernel_rfl) (by kernel_rfl) (fun _ _ _ h=>hpan h) (Or.inl ⟨by rfl,?_⟩) (by assumption) ?_
        rotate_left
        · (intro w hSw; (try dsimp only at hSw); go_simp; try with_reducible rfl)
        simp only [Act.put,List.setIfInBounds_toArray,List.set_cons_zero,List.set_cons_succ]
        refine wpAnyH_take (i:=9) (oi:=⟨some 183,.binOp BinOp.gtr 3 (.tmp 182) (.const (Value.int IntKind.i64 0)) 3,4,_,#[⟨8,.data⟩,⟨7,.guard⟩],some (7,false)⟩) (v:=?_) rfl (by kernel_rfl) (by kernel_rfl) (by kernel_rfl) (fun _ _ _ h=>hpan h) (Or.inl ⟨by rfl,?_⟩) (by assumption) ?_
        rotate_left
        · (intro w hSw; (try dsimp only at hSw); go_simp; try with_reducible rfl)
        simp only [Act.put,List.setIfInBounds_toArray,List.set_cons_zero,List.set_cons_succ]
        refine wpAnyH_take (i:=10) (oi:=⟨some 184,.move (.tmp 183),4,_,#[⟨9,.data⟩,⟨7,.chain⟩,⟨7,.guard⟩],some (7,false)⟩) (v:=?_) rfl (by kernel_rfl) (by kernel_rfl) (by kernel_rfl) (fun _ _ _ h=>hpan h) (Or.inl ⟨by rfl,?_⟩) (by assumption) ?_
        rotate_left
        · (intro w hSw; (try dsimp only at hSw); go_simp; try with_reducible rfl)
        simp only [Act.put,List.setIfInBounds_toArray,List.set_cons_zero,List.set_cons_succ]
        refine wpAnyH_take (i:=11) (oi:=⟨some 185,.move (.tmp 18),31,_,#[⟨10,.guard⟩],some (10,true)⟩) (v:=?_) rfl (by kernel_rfl) (by kernel_rfl) (by kernel_rfl) (fun _ _ _ h=>hpan h) (Or.inl ⟨by rfl,?_⟩) (by assumption) ?_
        rotate_left
        · (intro w hSw; (try dsimp only at hSw); go_simp; try with_reducible rfl)
        simp only [Act.put,List.setIfInBounds_toArray,List.set_cons_zero,List.set_cons_succ]
        refine wpAnyH_take (i:=12) (oi:=⟨some 186,.move (.tmp 19),3,_,#[⟨10,.guard⟩],some (10,true)⟩) (v:=?_) rfl (by kernel_rfl) (by kernel_rfl) (by kernel_rfl) (fun _ _ _ h=>hpan h) (Or.inl ⟨by rfl,?_⟩) (by assumption) ?_
        rotate_left
        · (intro w hSw; (try dsimp only at hSw); go_simp; try with_reducible rfl)
        simp only [Act.put,List.setIfInBounds_toArray,List.set_cons_zero,List.set_cons_succ]
        refine wpAnyH_take (i:=13) (oi:=⟨some 187,.indexAddr 31 (.tmp 185) (.tmp 186),0,_,#[⟨11,.data⟩,⟨12,.data⟩,⟨10,.guard⟩],some (10,true)⟩) (v:=?_) rfl (by kernel_rfl) (by kernel_rfl) (by kernel_rfl) (fun _ _ _ h=>hpan h) (Or.inl ⟨by rfl,?_⟩) (by assumption) ?_
        rotate_left
        · (intro w hSw; (try dsimp only at hSw); go_simp; try with_reducible rfl)
        simp only [Act.put,List.setIfInBounds_toArray,List.set_cons_zero,List.set_cons_succ]
        refine wpAnyH_take (i:=14) (oi:=⟨some 188,.load 45 (.tmp 187),45,_,#[⟨13,.data⟩,⟨10,.guard⟩],some (10,true)⟩) (v:=?_) rfl (by kernel_rfl) (by kernel_rfl) (by kernel_rfl) (fun _ _ _ h=>hpan h) (Or.inl ⟨by rfl,?_⟩) (by assumption) ?_
        rotate_left
        · (intro w hSw; (try dsimp only at hSw); go_simp; try with_reducible rfl)
        simp only [Act.put,List.setIfInBounds_toArray,List.set_cons_zero,List.set_cons_succ]
        refine wpAnyH_take (i:=15) (oi:=⟨some 189,.move (.tmp 18),31,_,#[⟨10,.guard⟩],some (10,true)⟩) (v:=?_) rfl (by kernel_rfl) (by kernel_rfl) (by kernel_rfl) (fun _ _ _ h=>hpan h) (Or.inl ⟨by rfl,?_⟩) (by assumption) ?_
        rotate_left
        · (intro w hSw; (try dsimp only at hSw); go_simp; try with_reducible rfl)
        simp only [Act.put,List.setIfInBounds_toArray,List.set_cons_zero,List.set_cons_succ]
        refine wpAnyH_take (i:=16) (oi:=⟨some 190,.move (.tmp 19),3,_,#[⟨10,.guard⟩],some (10,true)⟩) (v:=?_) rfl (by kernel_rfl) (by kernel_rfl) (by kernel_rfl) (fun _ _ _ h=>hpan h) (Or.inl ⟨by rfl,?_⟩) (by assumption) ?_
        rotate_left
        · (intro w hSw; (try dsimp only at hSw); go_simp; try with_reducible rfl)
        simp only [Act.put,List.setIfInBounds_toArray,List.set_cons_zero,List.set_cons_succ]
        refine wpAnyH_take (i:=17) (oi:=⟨some 191,.binOp BinOp.sub 3 (.tmp 190) (.const (Value.int IntKind.i64 1)) 3,3,_,#[⟨16,.data⟩,⟨10,.guard⟩],some (10,true)⟩) (v:=?_) rfl (by kernel_rfl) (by kernel_rfl) (by kernel_rfl) (fun _ _ _ h=>hpan h) (Or.inl ⟨by rfl,?_⟩) (by assumption) ?_
        rotate_left
        · (intro w hSw; (try dsimp only at hSw); go_simp; try with_reducible rfl)
        simp only [Act.put,List.setIfInBounds_toArray,List.set_cons_zero,List.set_cons_succ]
        refine wpAnyH_take (i:=18) (oi:=⟨some 192,.indexAddr 31 (.tmp 189) (.tmp 191),0,_,#[⟨15,.data⟩,⟨17,.data⟩,⟨10,.guard⟩],some (10,true)⟩) (v:=?_) rfl (by kernel_rfl) (by kernel_rfl) (by kernel_rfl) (fun _ _ _ h=>hpan h) (Or.inl ⟨by rfl,?_⟩) (by assumption) ?_
        rotate_left
        · (intro w hSw; (try dsimp only at hSw); go_simp; try with_reducible rfl)
        simp only [Act.put,List.setIfInBounds_toArray,List.set_cons_zero,List.set_cons_succ]
        refine wpAnyH_take (i:=19) (oi:=⟨some 193,.load 45 (.tmp 192),45,_,#[⟨18,.data⟩,⟨10,.guard⟩],some (10,true)⟩) (v:=?_) rfl (by kernel_rfl) (by kernel_rfl) (by kernel_rfl) (fun _ _ _ h=>hpan h) (Or.inl ⟨by rfl,?_⟩) (by assumption) ?_
        rotate_left
        · (intro w hSw; (try dsimp only at hSw); go_simp; try with_reducible rfl)
        simp only [Act.put,List.setIfInBounds_toArray,List.set_cons_zero,List.set_cons_succ]
        refine wpAnyH_take (i:=20) (oi:=⟨some 194,.binOp BinOp.eql 45 (.tmp 188) (.tmp 193) 45,4,_,#[⟨14,.data⟩,⟨19,.data⟩,⟨10,.guard⟩],some (10,true)⟩) (v:=?_) rfl (by kernel_rfl) (by kernel_rfl) (by kernel_rfl) (fun _ _ _ h=>hpan h) (Or.inl ⟨by rfl,?_⟩) (by assumption) ?_
        rotate_left
        · (intro w hSw; (try dsimp only at hSw); go_simp; try with_reducible rfl)
        simp only [Act.put,List.setIfInBounds_toArray,List.set_cons_zero,List.set_cons_succ]
        refine wpAnyH_take (i:=21) (oi:=⟨some 195,.pick (.tmp 184) (.tmp 194) (.const (Value.bool false)),4,_,#[⟨10,.data⟩,⟨20,.data⟩,⟨7,.guard⟩],some (7,false)⟩) (v:=?_) rfl (by kernel_rfl) (by kernel_rfl) (by kernel_rfl) (fun _ _ _ h=>hpan h) (Or.inl ⟨by rfl,?_⟩) (by assumption) ?_
        rotate_left
        · (intro w hSw; (try dsimp only at hSw); go_simp; try with_reducible rfl)
        simp only [Act.put,List.setIfInBounds_toArray,List.set_cons_zero,List.set_cons_succ]
        refine wpAnyH_take (i:=22) (oi:=⟨some 196,.pick (.tmp 181) (.const (Value.bool true)) (.tmp 195),4,_,#[⟨7,.data⟩,⟨21,.data⟩],none⟩) (v:=?_) rfl (by kernel_rfl) (by kernel_rfl) (by kernel_rfl) (fun _ _ _ h=>hpan h) (Or.inl ⟨by rfl,?_⟩) (by assumption) ?_
        rotate_left
        · (intro w hSw; (try dsimp only at hSw); go_simp; try with_reducible rfl)
        simp only [Act.put,List.setIfInBounds_toArray,List.set_cons_zero,List.set_cons_succ]
        refine wpAnyH_done (by kernel_rfl) ?_ _
        go_wp2
        go_roundw
        case rel=>exact ⟨k+1,by omega,by go_num,HB1⟩
        case measure=>simp [intOf]; omega
    · obtain rfl:k=nk:=by omega
      go_wp2
      exact HQ.out HB.out
end Go.Proofs.YtnjlajjjcmhfgaaGreatDoor
