import Derived.Test.YtnjlajjjcmhfgaaGreatDoorRF04
namespace Go.Proofs.YtnjlajjjcmhfgaaGreatDoor
open Go.RowKit Go.Shelf
open Mm (Turn gr RM valV errV Byts setV RowAt)
set_option linter.unusedVariables false
set_option linter.unusedSimpArgs false
attribute [local go_sem] Oper.semAt_some
theorem gb1d (w:World) (T:TypeId) (l:List Value):Got1 w (w.alloc (.cells l.toArray T)).drew w.heap.size T l:=⟨below_drew (below_new _ _),(Bl.new w T l).drew,Nat.le_refl _⟩
def putE (D T:Code):Code→Code
  | .seq a (.seq (.seq r (.cond t (.seq x (.seq y (.cond u _ z))) s)) _)=> .seq a (.seq (.seq r (.cond t (.seq x (.seq y (.cond u D z))) s)) T)
  | c=>c
theorem seE_eq:seE Tryz.f3=putE (seD Tryz.f3) (seT Tryz.f3) (seE Tryz.f3):=by kernel_rfl
set_option maxRecDepth 1000000 in
set_option maxHeartbeats 16000000 in
theorem seen_e1n {Q:Exit→Act→World→Prop} {v0 v1 v3 v4 v7 v10 v11 v12 v13 v14 v15 v16 v17 v18 v19 v20 v21 v22 v23 v24 v25 v26 v27 v28 v29 v30 v31 v32 v33 v34 v35 v36 v37 v38 v39 v40 v41 v42 v43 v44 v45 v46 v47 v48 v49 v50 v51 v52 v53 v54 v55 v56 v57 v58 v59 v60 v61 v62 v63 v64 v65 v66 v67 v68 v69 v70 v71 v72 v73 v74 v75 v76 v77 v78 v79 v80 v81 v82 v83 v84 v85 v86 v87 v88 v89 v90 v91 v92 v93 v94 v95 v96 v97 v98 v99 v100 v101 v102 v103 v104 v105 v106 v107 v108 v109 v110 v111 v112 v113 v114 v115 v116 v117 v118 v119 v120 v121 v122 v123 v124 v125 v126 v127 v128 v129 v130 v131 v132 v133 v134 v135 v136 v137 v138 v139 v140 v141 v142 v143 v144 v145 v146 v147 v148 v149 v150 v151 v152 v153 v154 v155 v156 v157 v158 v159 v160 v161 v162 v163 v164 v165 v166 v167 v168 v169 v170 v171 v172 v173 v174 v175 v176 v177 v178 v179 v180 v181 v182 v183 v184 v185 v186 v187 v188 v189 v190 v191 v192 v193 v194 v195 v196:Value} (W0 w:World) (x p kb jb b5 b6:Nat) (wv iv:Value) (f:Int) (vp vw vc:Value) (σ:Pst) (Ds:List Nat) (bv:Value) (B:List Blo) (b2 b8 nc:Nat) (o:Oq) (h:SmX W0 w x p kb jb b5 b6 wv iv f vp vw vc σ Ds bv B) (h8:Bl w b8 37 ([.int .i64 o.kind,.int .i64 o.nr,.int .i64 o.d.kind,.int .u32 o.d.va,.int .i64 o.d.asid,.int .u64 o.pa,.int .u32 o.w,.int .i64 o.asid,.int .u32 o.va])) (hb8:b8≠b6∧bv.ownBlock≠some b8) (hW:TS W0) (hs:Sml σ) (hl:σ.K.length≤1099511627776) (hlB:B.length≤1099511627776) (cb co cc j:Nat) (c:Ctx) (hvc:vc= .slice (some ⟨cb,co,none⟩) nc cc) (h2:Bl w b2 26 [.int .i64 f,vp,vw,vc]) (hctx:∀ww,Below w.heap.size w ww→ww.cell? ⟨cb,co+j*12,none⟩=some (.bool c.on)∧ww.cell? ⟨cb,co+j*12+1,none⟩=some (.bool c.tre)∧ww.cell? ⟨cb,co+j*12+2,none⟩=some (.bool c.afe)∧ww.cell? ⟨cb,co+j*12+3,none⟩=some (.int .i64 c.n)∧ww.cell? ⟨cb,co+j*12+4,none⟩=some (.bool c.pd0)∧ww.cell? ⟨cb,co+j*12+5,none⟩=some (.bool c.pd1)∧ww.cell? ⟨cb,co+j*12+6,none⟩=some (.int .u64 c.b0)∧ww.cell? ⟨cb,co+j*12+7,none⟩=some (.int .u64 c.b1)∧ww.cell? ⟨cb,co+j*12+8,none⟩=some (.int .u32 c.dacr)∧ww.cell? ⟨cb,co+j*12+9,none⟩=some (.int .u32 c.prrr)∧ww.cell? ⟨cb,co+j*12+10,none⟩=some (.int .u32 c.nmrr)∧ww.cell? ⟨cb,co+j*12+11,none⟩=some (.int .i64 c.asid)) (hnr: -9223372036854775808≤o.nr∧o.nr≤9223372036854775807) (hj:(j:Int)=o.nr%(nc:Int)) (hnc:0<nc) (hnc2:nc≤1048576) (hc:c.Ok) (hk2:(o.kind == 2)=false) (hk1:(o.kind == 1)=true) (hb:Bk σ.K B) (hno:¬seO c=true) (hpan:∀ {c:List PanicEntry} {a:Act} {d:Option Tmp} {v:Value} {w:World},Q (.panic c) (a.put d v) w→Q (.panic c) a w)
    (HQ:Hid (∀ {u10 u11 u12 u13 u14 u15 u16 u17 u18 u19 u44 u45 u46 u47 u48 u49 u50 u51 u52 u53 u54 u55 u56 u57 u58 u59 u60 u61 u62 u63 u64 u65 u66 u67 u68 u69 u70 u71 u72 u73 u74 u75 u76 u77 u78 u79 u80 u81 u82 u83 u84 u85 u86 u87 u88 u89 u90 u91 u92 u93 u94 u95 u96 u97 u98 u99 u100 u101 u102 u103 u104 u105 u106 u107 u108 u109 u110 u111 u112 u113 u114 u115 u116 u117 u118 u119 u120 u121 u122 u123 u124 u125 u126 u127 u128 u129 u130 u131 u132 u133 u134 u135 u136 u137 u138 u139 u140 u141 u142 u143 u144 u145 u146 u147 u148 u149 u150 u151 u152 u153 u154 u155 u156 u157 u158 u159 u160 u161 u162 u163 u164 u165 u166 u167 u168 u169 u170 u171 u172 u173 u174 u175 u176 u177 u178 u179 u180 u181 u182 u183 u184 u185 u186 u187 u188 u189 u190 u191 u192 u193 u194 u195 u196:Value} {Y:World} {Ds':List Nat} {bv':Value} {B':List Blo},SnX W0 Y x p kb jb b5 b6 wv iv f vp vw vc σ Ds' bv' B'→Q .normal ⟨(v0::v1::(.pointer (some ⟨b2,0,none⟩))::v3::v4::(.pointer (some ⟨b5,0,none⟩))::(.pointer (some ⟨b6,0,none⟩))::v7::(.pointer (some ⟨b8,0,none⟩))::(.int .i64 (nc:Int))::u10::u11::u12::u13::u14::u15::u16::u17::u18::u19::v20::v21::v22::v23::v24::v25::v26::v27::v28::v29::v30::v31::v32::v33::v34::v35::v36::v37::v38::v39::v40::v41::v42::v43::u44::u45::u46::u47::u48::u49::u50::u51::u52::u53::u54::u55::u56::u57::u58::u59::u60::u61::u62::u63::u64::u65::u66::u67::u68::u69::u70::u71::u72::u73::u74::u75::u76::u77::u78::u79::u80::u81::u82::u83::u84::u85::u86::u87::u88::u89::u90::u91::u92::u93::u94::u95::u96::u97::u98::u99::u100::u101::u102::u103::u104::u105::u106::u107::u108::u109::u110::u111::u112::u113::u114::u115::u116::u117::u118::u119::u120::u121::u122::u123::u124::u125::u126::u127::u128::u129::u130::u131::u132::u133::u134::u135::u136::u137::u138::u139::u140::u141::u142::u143::u144::u145::u146::u147::u148::u149::u150::u151::u152::u153::u154::u155::u156::u157::u158::u159::u160::u161::u162::u163::u164::u165::u166::u167::u168::u169::u170::u171::u172::u173::u174::u175::u176::u177::u178::u179::u180::u181::u182::u183::u184::u185::u186::u187::u188::u189::u190::u191::u192::u193::u194::u195::u196::[]).toArray,Ds'.map mk⟩ Y)) :
    (seE Tryz.f3).wp Tryz.prog Q ⟨(v0::v1::(.pointer (some ⟨b2,0,none⟩))::v3::v4::(.pointer (some ⟨b5,0,none⟩))::(.pointer (some ⟨b6,0,none⟩))::v7::(.pointer (some ⟨b8,0,none⟩))::(.int .i64 (nc:Int))::v10::v11::v12::v13::v14::v15::v16::v17::v18::v19::v20::v21::v22::v23::v24::v25::v26::v27::v28::v29::v30::v31::v32::v33::v34::v35::v36::v37::v38::v39::v40::v41::v42::v43::v44::v45::v46::v47::v48::v49::v50::v51::v52::v53::v54::v55::v56::v57::v58::v59::v60::v61::v62::v63::v64::v65::v66::v67::v68::v69::v70::v71::v72::v73::v74::v75::v76::v77::v78::v79::v80::v81::v82::v83::v84::v85::v86::v87::v88::v89::v90::v91::v92::v93::v94::v95::v96::v97::v98::v99::v100::v101::v102::v103::v104::v105::v106::v107::v108::v109::v110::v111::v112::v113::v114::v115::v116::v117::v118::v119::v120::v121::v122::v123::v124::v125::v126::v127::v128::v129::v130::v131::v132::v133::v134::v135::v136::v137::v138::v139::v140::v141::v142::v143::v144::v145::v146::v147::v148::v149::v150::v151::v152::v153::v154::v155::v156::v157::v158::v159::v160::v161::v162::v163::v164::v165::v166::v167::v168::v169::v170::v171::v172::v173::v174::v175::v176::v177::v178::v179::v180::v181::v182::v183::v184::v185::v186::v187::v188::v189::v190::v191::v192::v193::v194::v195::v196::[]).toArray,Ds.map mk⟩ w:=by
  have HBk:=hidW hb
  clear hb
  have H:=hidW h
  have c0:=h8.cell 0
  simp only [List.getElem?_cons_zero] at c0
  have hz0:(0:Int)<(nc:Int):=by omega
  have r1:=rem_wrap (a:=o.nr) hz0
  have r2:=rem_rng (a:=o.nr) hz0
  have hj0:0≤(j:Int):=by omega
  have hjn:(j:Int)<(nc:Int):=by rw [hj]; exact Int.emod_lt_of_pos _ hz0
  rw [←hj] at r1
  generalize hqq:o.nr.tmod nc=q at *
  obtain ⟨r,hr⟩:∃r:Int,r=q+nc:=⟨_,rfl⟩
  have hw1:IntKind.i64.wrap (q+nc)=r:=by rw [IntKind.wrap_i64]; omega
  have hrm:r.tmod nc=(j:Int):=by
    rw [Int.tmod_eq_emod_of_nonneg (by omega)]
    by_cases hneg:q<0
    · rw [hr,r1.1 hneg]
      exact Int.emod_eq_of_lt hj0 hjn
    · rw [hr,r1.2 hneg,Int.add_emod_right]
      exact Int.emod_eq_of_lt hj0 hjn
  have hnz:¬(nc:Int)=0:=by omega
  have hnzn:¬nc=0:=by omega
  have HH:Hid (∀ww,Below w.heap.size w ww→ww.cell? ⟨b2,3,none⟩=some (.slice (some ⟨cb,co,none⟩) nc cc)∧ww.cell? ⟨b8,1,none⟩=some (.int .i64 o.nr)∧ww.cell? ⟨cb,co+j*12,none⟩=some (.bool c.on)∧ww.cell? ⟨cb,co+j*12+1,none⟩=some (.bool c.tre)∧ww.cell? ⟨cb,co+j*12+2,none⟩=some (.bool c.afe)∧ww.cell? ⟨cb,co+j*12+3,none⟩=some (.int .i64 c.n)∧ww.cell? ⟨cb,co+j*12+4,none⟩=some (.bool c.pd0)∧ww.cell? ⟨cb,co+j*12+5,none⟩=some (.bool c.pd1)∧ww.cell? ⟨cb,co+j*12+6,none⟩=some (.int .u64 c.b0)∧ww.cell? ⟨cb,co+j*12+7,none⟩=some (.int .u64 c.b1)∧ww.cell? ⟨cb,co+j*12+8,none⟩=some (.int .u32 c.dacr)∧ww.cell? ⟨cb,co+j*12+9,none⟩=some (.int .u32 c.prrr)∧ww.cell? ⟨cb,co+j*12+10,none⟩=some (.int .u32 c.nmrr)∧ww.cell? ⟨cb,co+j*12+11,none⟩=some (.int .i64 c.asid)):=fun ww hb=>by
    have q2:=h2.below hb
    rw [hvc] at q2
    exact ⟨q2.cell 3,(h8.below hb).cell 1,hctx ww hb⟩
  have hS1:∀ww,Below w.heap.size w ww→ww.cell? ⟨b2,3,none⟩=some (.slice (some ⟨cb,co,none⟩) nc cc)∧ww.cell? ⟨b8,1,none⟩=some (.int .i64 o.nr)∧ww.cell? ⟨cb,co+j*12,none⟩=some (.bool c.on)∧ww.cell? ⟨cb,co+j*12+1,none⟩=some (.bool c.tre)∧ww.cell? ⟨cb,co+j*12+2,none⟩=some (.bool c.afe)∧ww.cell? ⟨cb,co+j*12+3,none⟩=some (.int .i64 c.n)∧ww.cell? ⟨cb,co+j*12+4,none⟩=some (.bool c.pd0)∧ww.cell? ⟨cb,co+j*12+5,none⟩=some (.bool c.pd1)∧ww.cell? ⟨cb,co+j*12+6,none⟩=some (.int .u64 c.b0)∧ww.cell? ⟨cb,co+j*12+7,none⟩=some (.int .u64 c.b1)∧ww.cell? ⟨cb,co+j*12+8,none⟩=some (.int .u32 c.dacr)∧ww.cell? ⟨cb,co+j*12+9,none⟩=some (.int .u32 c.prrr)∧ww.cell? ⟨cb,co+j*12+10,none⟩=some (.int .u32 c.nmrr)∧ww.cell? ⟨cb,co+j*12+11,none⟩=some (.int .i64 c.asid):=HH.out
  clear h h8 h2 hctx hj r1 r2 hr
  conv=>arg 2; whnf
  refine wp_cut 2 _ (seT Tryz.f3) (by kernel_rfl) (fun C hC=> ?_)
  have HC:=hidW hC
  clear hC
  simp only [putTail]
  go_wp2_with fail
  have HB1:=hidW (Below.refl w.heap.size w)
  have hs1:=HB1.out.size
  go_cut [12] from 76 to 87 (fun s1 wx=>∃b1,s1= .pointer (some ⟨b1,0,none⟩)∧Hid (Got1 w wx b1 47 ([.bool c.on,.bool c.tre,.bool c.afe,.int .i64 c.n,.bool c.pd0,.bool c.pd1,.int .u64 c.b0,.int .u64 c.b1,.int .u32 c.dacr,.int .u32 c.prrr,.int .u32 c.nmrr,.int .i64 c.asid])))
  case first =>
    refine wp_region_held_drew (S:=fun ww=>ww.cell? ⟨b2,3,none⟩=some (.slice (some ⟨cb,co,none⟩) nc cc)∧ww.cell? ⟨b8,1,none⟩=some (.int .i64 o.nr)∧ww.cell? ⟨cb,co+j*12,none⟩=some (.bool c.on)∧ww.cell? ⟨cb,co+j*12+1,none⟩=some (.bool c.tre)∧ww.cell? ⟨cb,co+j*12+2,none⟩=some (.bool c.afe)∧ww.cell? ⟨cb,co+j*12+3,none⟩=some (.int .i64 c.n)∧ww.cell? ⟨cb,co+j*12+4,none⟩=some (.bool c.pd0)∧ww.cell? ⟨cb,co+j*12+5,none⟩=some (.bool c.pd1)∧ww.cell? ⟨cb,co+j*12+6,none⟩=some (.int .u64 c.b0)∧ww.cell? ⟨cb,co+j*12+7,none⟩=some (.int .u64 c.b1)∧ww.cell? ⟨cb,co+j*12+8,none⟩=some (.int .u32 c.dacr)∧ww.cell? ⟨cb,co+j*12+9,none⟩=some (.int .u32 c.prrr)∧ww.cell? ⟨cb,co+j*12+10,none⟩=some (.int .u32 c.nmrr)∧ww.cell? ⟨cb,co+j*12+11,none⟩=some (.int .i64 c.asid)) (by kernel_rfl) ?_ (fun hHeld=> ?_)
    · exact hS1 _ (below_drew (Below.refl _ _))
    refine wpAnyH_take (i:=0) (oi:=⟨some 76,.fieldAddr 26 (.tmp 2) 3,0,_,#[],none⟩) (v:=?_) rfl (by kernel_rfl) (by kernel_rfl) (by kernel_rfl) (fun _ _ _ h=>hpan h) (Or.inl ⟨by rfl,?_⟩) (by assumption) ?_
    rotate_left
    · (intro w hSw; (try dsimp only at hSw); go_simp; try with_reducible rfl)
    simp only [Act.put,List.setIfInBounds_toArray,List.set_cons_zero,List.set_cons_succ]
    refine wpAnyH_take (i:=1) (oi:=⟨some 77,.load 24 (.tmp 76),24,_,#[⟨0,.data⟩],none⟩) (v:=?_) rfl (by kernel_rfl) (by kernel_rfl) (by kernel_rfl) (fun _ _ _ h=>hpan h) (Or.inl ⟨by rfl,?_⟩) (by assumption) ?_
    rotate_left
    · (intro w hSw; (try dsimp only at hSw); go_simp; try with_reducible rfl)
    simp only [Act.put,List.setIfInBounds_toArray,List.set_cons_zero,List.set_cons_succ]
    refine wpAnyH_take (i:=2) (oi:=⟨some 78,.fieldAddr 37 (.tmp 8) 1,0,_,#[],none⟩) (v:=?_) rfl (by kernel_rfl) (by kernel_rfl) (by kernel_rfl) (fun _ _ _ h=>hpan h) (Or.inl ⟨by rfl,?_⟩) (by assumption) ?_
    rotate_left
    · (intro w hSw; (try dsimp only at hSw); go_simp; try with_reducible rfl)
    simp only [Act.put,List.setIfInBounds_toArray,List.set_cons_zero,List.set_cons_succ]
    refine wpAnyH_take (i:=3) (oi:=⟨some 79,.load 3 (.tmp 78),3,_,#[⟨2,.data⟩],none⟩) (v:=?_) rfl (by kernel_rfl) (by kernel_rfl) (by kernel_rfl) (fun _ _ _ h=>hpan h) (Or.inl ⟨by rfl,?_⟩) (by assumption) ?_
    rotate_left
    · (intro w hSw; (try dsimp only at hSw); go_simp; try with_reducible rfl)
    simp only [Act.put,List.setIfInBounds_toArray,List.set_cons_zero,List.set_cons_succ]
    refine wpAnyH_take (i:=4) (oi:=⟨some 80,.move (.tmp 9),3,_,#[],none⟩) (v:=?_) rfl (by kernel_rfl) (by kernel_rfl) (by kernel_rfl) (fun _ _ _ h=>hpan h) (Or.inl ⟨by rfl,?_⟩) (by assumption) ?_
    rotate_left
    · (intro w hSw; (try dsimp only at hSw); go_simp; try with_reducible rfl)
    simp only [Act.put,List.setIfInBounds_toArray,List.set_cons_zero,List.set_cons_succ]
    refine wpAnyH_take (i:=5) (oi:=⟨some 81,.binOp BinOp.rem 3 (.tmp 79) (.tmp 80) 3,3,_,#[⟨3,.data⟩,⟨4,.data⟩],none⟩) (v:=?_) rfl (by kernel_rfl) (by kernel_rfl) (by kernel_rfl) (fun _ _ _ h=>hpan h) (Or.inl ⟨by rfl,?_⟩) (by assumption) ?_
    rotate_left
    · (intro w hSw; (try dsimp only at hSw); go_simp; try with_reducible rfl)
    simp only [Act.put,List.setIfInBounds_toArray,List.set_cons_zero,List.set_cons_succ]
    refine wpAnyH_take (i:=6) (oi:=⟨some 82,.move (.tmp 9),3,_,#[],none⟩) (v:=?_) rfl (by kernel_rfl) (by kernel_rfl) (by kernel_rfl) (fun _ _ _ h=>hpan h) (Or.inl ⟨by rfl,?_⟩) (by assumption) ?_
    rotate_left
    · (intro w hSw; (try dsimp only at hSw); go_simp; try with_reducible rfl)
    simp only [Act.put,List.setIfInBounds_toArray,List.set_cons_zero,List.set_cons_succ]
    refine wpAnyH_take (i:=7) (oi:=⟨some 83,.binOp BinOp.add 3 (.tmp 81) (.tmp 82) 3,3,_,#[⟨5,.data⟩,⟨6,.data⟩],none⟩) (v:=?_) rfl (by kernel_rfl) (by kernel_rfl) (by kernel_rfl) (fun _ _ _ h=>hpan h) (Or.inl ⟨by rfl,?_⟩) (by assumption) ?_
    rotate_left
    · (intro w hSw; (try dsimp only at hSw); go_simp; try with_reducible rfl)
    simp only [Act.put,List.setIfInBounds_toArray,List.set_cons_zero,List.set_cons_succ]
    refine wpAnyH_take (i:=8) (oi:=⟨some 84,.move (.tmp 9),3,_,#[],none⟩) (v:=?_) rfl (by kernel_rfl) (by kernel_rfl) (by kernel_rfl) (fun _ _ _ h=>hpan h) (Or.inl ⟨by rfl,?_⟩) (by assumption) ?_
    rotate_left
    · (intro w hSw; (try dsimp only at hSw); go_simp; try with_reducible rfl)
    simp only [Act.put,List.setIfInBounds_toArray,List.set_cons_zero,List.set_cons_succ]
    refine wpAnyH_take (i:=9) (oi:=⟨some 85,.binOp BinOp.rem 3 (.tmp 83) (.tmp 84) 3,3,_,#[⟨7,.data⟩,⟨8,.data⟩],none⟩) (v:=?_) rfl (by kernel_rfl) (by kernel_rfl) (by kernel_rfl) (fun _ _ _ h=>hpan h) (Or.inl ⟨by rfl,?_⟩) (by assumption) ?_
    rotate_left
    · (intro w hSw; (try dsimp only at hSw); go_simp; try with_reducible rfl)
    simp only [Act.put,List.setIfInBounds_toArray,List.set_cons_zero,List.set_cons_succ]
    refine wpAnyH_take (i:=10) (oi:=⟨some 86,.indexAddr 24 (.tmp 77) (.tmp 85),0,_,#[⟨1,.data⟩,⟨9,.data⟩],none⟩) (v:=?_) rfl (by kernel_rfl) (by kernel_rfl) (by kernel_rfl) (fun _ _ _ h=>hpan h) (Or.inl ⟨by rfl,?_⟩) (by assumption) ?_
    rotate_left
    · (intro w hSw; (try dsimp only at hSw); go_simp; try with_reducible rfl)
    simp only [Act.put,List.setIfInBounds_toArray,List.set_cons_zero,List.set_cons_succ]
    refine wpAnyH_take (i:=11) (oi:=⟨some 87,.load 47 (.tmp 86),47,_,#[⟨10,.data⟩],none⟩) (v:=?_) rfl (by kernel_rfl) (by kernel_rfl) (by kernel_rfl) (fun _ _ _ h=>hpan h) (Or.inl ⟨by rfl,?_⟩) (by assumption) ?_
    rotate_left
    · (intro w hSw; (try dsimp only at hSw); go_simp; try with_reducible rfl)
    simp only [Act.put,List.setIfInBounds_toArray,List.set_cons_zero,List.set_cons_succ]
    refine wpAnyH_ready (rs:=[12]) (by kernel_rfl) (by simp) ?_
    refine AllReadyH.cons (o:=⟨some 12,.alloc 47,0,_,#[],none⟩) rfl (fun K hK=> ?_) AllReadyH.nil
    go_simp
    skip
    refine hK.out _ _ ?_ (fun hHeld=> ?_)
    · ((try dsimp only); with_reducible exact hS1 _ (by ((repeat (first|(with_reducible refine Below.setCell ?_ (by first|exact Nat.le_refl _|(dsimp only; omega)) _)|(with_reducible refine Below.alloc ?_ (by first|omega|(simp; omega)|simp) _)|(with_reducible refine below_drew ?_))); (first|(with_reducible exact HB1.out)|(with_reducible exact Below.refl _ _)))))
    clear hK K
    try simp only [Act.put,List.setIfInBounds_toArray,List.set_cons_zero,List.set_cons_succ]
    refine wpAnyH_ready (rs:=[13]) (by kernel_rfl) (by simp) ?_
    refine AllReadyH.cons (o:=⟨none,.store 47 (.tmp 12) (.tmp 87),0,_,#[⟨12,.data⟩,⟨11,.data⟩,⟨0,.phase⟩,⟨1,.phase⟩,⟨2,.phase⟩,⟨3,.phase⟩,⟨4,.phase⟩,⟨5,.phase⟩,⟨6,.phase⟩,⟨7,.phase⟩,⟨8,.phase⟩,⟨9,.phase⟩,⟨10,.phase⟩,⟨11,.phase⟩,⟨12,.phase⟩],none⟩) rfl (fun K hK=> ?_) AllReadyH.nil
    go_simp
    skip
    refine hK.out _ _ ?_ (fun hHeld=> ?_)
    · ((try dsimp only); with_reducible exact hS1 _ (by ((repeat (first|(with_reducible refine Below.setCell ?_ (by first|exact Nat.le_refl _|(dsimp only; omega)) _)|(with_reducible refine Below.alloc ?_ (by first|omega|(simp; omega)|simp) _)|(with_reducible refine below_drew ?_))); (first|(with_reducible exact HB1.out)|(with_reducible exact Below.refl _ _)))))
    clear hK K
    try simp only [Act.put,List.setIfInBounds_toArray,List.set_cons_zero,List.set_cons_succ]
    refine wpAnyH_done (by kernel_rfl) ?_ _
    go_wp2_with fail
    go_meet
    exact ⟨_,rfl,hidW (gb1d w _ [.bool c.on,.bool c.tre,.bool c.afe,.int .i64 c.n,.bool c.pd0,.bool c.pd1,.int .u64 c.b0,.int .u64 c.b1,.int .u32 c.dacr,.int .u32 c.prrr,.int .u32 c.nmrr,.int .i64 c.asid])⟩
  case rest =>
    obtain ⟨b12,rfl,HG⟩:=hcut
    have q12:=HG.out.B.cell
    have HN:=hidW (H.out.below hW HG.out.bel)
    have hcase:c.on=false∨(c.on=true∧c.asid<0)∨(c.on=true∧¬c.asid<0∧255<c.asid):=by
      cases hon:c.on with
      | false=>exact .inl rfl
      | true =>
        refine .inr ?_
        rcases Int.lt_or_le c.asid 0 with h|h
        · exact .inl ⟨rfl,h⟩
        · refine .inr ⟨rfl,by omega,?_⟩
          rcases Int.lt_or_le 255 c.asid with h'|h'
          · exact h'
          · exact absurd ((seO_iff c).2 ⟨hon,h,h'⟩) hno
    clear hno HG hS1 HH
    rcases hcase with h1|⟨h1,h2⟩|⟨h1,h2,h3⟩
    · go_wp2_with fail
      refine HC.out _ _ ?_
      refine seen_tail _ W0 _ x p kb jb b5 b6 wv iv f vp vw vc σ Ds bv B ⟨HN.out,HBk.out⟩ hW hs hl (by exact fun h=>hpan h) (hidW ?_)
      intros
      rename_i Y9 hY9
      exact HQ.out hY9
    · have h2':¬0≤c.asid:=by omega
      go_wp2_with fail
      refine HC.out _ _ ?_
      refine seen_tail _ W0 _ x p kb jb b5 b6 wv iv f vp vw vc σ Ds bv B ⟨HN.out,HBk.out⟩ hW hs hl (by exact fun h=>hpan h) (hidW ?_)
      intros
      rename_i Y9 hY9
      exact HQ.out hY9
    · have h2':0≤c.asid:=by omega
      have h3':¬c.asid≤255:=by omega
      go_wp2_with fail
      refine HC.out _ _ ?_
      refine seen_tail _ W0 _ x p kb jb b5 b6 wv iv f vp vw vc σ Ds bv B ⟨HN.out,HBk.out⟩ hW hs hl (by exact fun h=>hpan h) (hidW ?_)
      intros
      rename_i Y9 hY9
      exact HQ.out hY9
set_option maxRecDepth 1000000 in
set_option maxHeartbeats 16000000 in
theorem seen_e1y {Q:Exit→Act→World→Prop} {v0 v1 v3 v4 v7 v10 v11 v12 v13 v14 v15 v16 v17 v18 v19 v20 v21 v22 v23 v24 v25 v26 v27 v28 v29 v30 v31 v32 v33 v34 v35 v36 v37 v38 v39 v40 v41 v42 v43 v44 v45 v46 v47 v48 v49 v50 v51 v52 v53 v54 v55 v56 v57 v58 v59 v60 v61 v62 v63 v64 v65 v66 v67 v68 v69 v70 v71 v72 v73 v74 v75 v76 v77 v78 v79 v80 v81 v82 v83 v84 v85 v86 v87 v88 v89 v90 v91 v92 v93 v94 v95 v96 v97 v98 v99 v100 v101 v102 v103 v104 v105 v106 v107 v108 v109 v110 v111 v112 v113 v114 v115 v116 v117 v118 v119 v120 v121 v122 v123 v124 v125 v126 v127 v128 v129 v130 v131 v132 v133 v134 v135 v136 v137 v138 v139 v140 v141 v142 v143 v144 v145 v146 v147 v148 v149 v150 v151 v152 v153 v154 v155 v156 v157 v158 v159 v160 v161 v162 v163 v164 v165 v166 v167 v168 v169 v170 v171 v172 v173 v174 v175 v176 v177 v178 v179 v180 v181 v182 v183 v184 v185 v186 v187 v188 v189 v190 v191 v192 v193 v194 v195 v196:Value} (W0 w:World) (x p kb jb b5 b6:Nat) (wv iv:Value) (f:Int) (vp vw vc:Value) (σ:Pst) (Ds:List Nat) (bv:Value) (B:List Blo) (b2 b8 nc:Nat) (o:Oq) (h:SmX W0 w x p kb jb b5 b6 wv iv f vp vw vc σ Ds bv B) (h8:Bl w b8 37 ([.int .i64 o.kind,.int .i64 o.nr,.int .i64 o.d.kind,.int .u32 o.d.va,.int .i64 o.d.asid,.int .u64 o.pa,.int .u32 o.w,.int .i64 o.asid,.int .u32 o.va])) (hb8:b8≠b6∧bv.ownBlock≠some b8) (hW:TS W0) (hs:Sml σ) (hl:σ.K.length≤1099511627776) (hlB:B.length≤1099511627776) (cb co cc j:Nat) (c:Ctx) (hvc:vc= .slice (some ⟨cb,co,none⟩) nc cc) (h2:Bl w b2 26 [.int .i64 f,vp,vw,vc]) (hctx:∀ww,Below w.heap.size w ww→ww.cell? ⟨cb,co+j*12,none⟩=some (.bool c.on)∧ww.cell? ⟨cb,co+j*12+1,none⟩=some (.bool c.tre)∧ww.cell? ⟨cb,co+j*12+2,none⟩=some (.bool c.afe)∧ww.cell? ⟨cb,co+j*12+3,none⟩=some (.int .i64 c.n)∧ww.cell? ⟨cb,co+j*12+4,none⟩=some (.bool c.pd0)∧ww.cell? ⟨cb,co+j*12+5,none⟩=some (.bool c.pd1)∧ww.cell? ⟨cb,co+j*12+6,none⟩=some (.int .u64 c.b0)∧ww.cell? ⟨cb,co+j*12+7,none⟩=some (.int .u64 c.b1)∧ww.cell? ⟨cb,co+j*12+8,none⟩=some (.int .u32 c.dacr)∧ww.cell? ⟨cb,co+j*12+9,none⟩=some (.int .u32 c.prrr)∧ww.cell? ⟨cb,co+j*12+10,none⟩=some (.int .u32 c.nmrr)∧ww.cell? ⟨cb,co+j*12+11,none⟩=some (.int .i64 c.asid)) (hnr: -9223372036854775808≤o.nr∧o.nr≤9223372036854775807) (hj:(j:Int)=o.nr%(nc:Int)) (hnc:0<nc) (hnc2:nc≤1048576) (hc:c.Ok) (hk2:(o.kind == 2)=false) (hk1:(o.kind == 1)=true) (hb:Bk σ.K (bkA c.asid (blL σ.mem.mo c) B)) (hO:seO c=true) (hJ:σ.J c.asid=some c) (hFz:∀t∈blL σ.mem.mo c,Fz t) (hDs:∀t∈blL σ.mem.mo c,((diL σ.mem.mo σ.K σ.J).any fun y=>y.asid == c.asid && y.b.same (tgB c.asid t))= !smF σ.mem.mo c t) (hpan:∀ {c:List PanicEntry} {a:Act} {d:Option Tmp} {v:Value} {w:World},Q (.panic c) (a.put d v) w→Q (.panic c) a w)
    (HQ:Hid (∀ {u10 u11 u12 u13 u14 u15 u16 u17 u18 u19 u44 u45 u46 u47 u48 u49 u50 u51 u52 u53 u54 u55 u56 u57 u58 u59 u60 u61 u62 u63 u64 u65 u66 u67 u68 u69 u70 u71 u72 u73 u74 u75 u76 u77 u78 u79 u80 u81 u82 u83 u84 u85 u86 u87 u88 u89 u90 u91 u92 u93 u94 u95 u96 u97 u98 u99 u100 u101 u102 u103 u104 u105 u106 u107 u108 u109 u110 u111 u112 u113 u114 u115 u116 u117 u118 u119 u120 u121 u122 u123 u124 u125 u126 u127 u128 u129 u130 u131 u132 u133 u134 u135 u136 u137 u138 u139 u140 u141 u142 u143 u144 u145 u146 u147 u148 u149 u150 u151 u152 u153 u154 u155 u156 u157 u158 u159 u160 u161 u162 u163 u164 u165 u166 u167 u168 u169 u170 u171 u172 u173 u174 u175 u176 u177 u178 u179 u180 u181 u182 u183 u184 u185 u186 u187 u188 u189 u190 u191 u192 u193 u194 u195 u196:Value} {Y:World} {Ds':List Nat} {bv':Value} {B':List Blo},SnX W0 Y x p kb jb b5 b6 wv iv f vp vw vc σ Ds' bv' B'→Q .normal ⟨(v0::v1::(.pointer (some ⟨b2,0,none⟩))::v3::v4::(.pointer (some ⟨b5,0,none⟩))::(.pointer (some ⟨b6,0,none⟩))::v7::(.pointer (some ⟨b8,0,none⟩))::(.int .i64 (nc:Int))::u10::u11::u12::u13::u14::u15::u16::u17::u18::u19::v20::v21::v22::v23::v24::v25::v26::v27::v28::v29::v30::v31::v32::v33::v34::v35::v36::v37::v38::v39::v40::v41::v42::v43::u44::u45::u46::u47::u48::u49::u50::u51::u52::u53::u54::u55::u56::u57::u58::u59::u60::u61::u62::u63::u64::u65::u66::u67::u68::u69::u70::u71::u72::u73::u74::u75::u76::u77::u78::u79::u80::u81::u82::u83::u84::u85::u86::u87::u88::u89::u90::u91::u92::u93::u94::u95::u96::u97::u98::u99::u100::u101::u102::u103::u104::u105::u106::u107::u108::u109::u110::u111::u112::u113::u114::u115::u116::u117::u118::u119::u120::u121::u122::u123::u124::u125::u126::u127::u128::u129::u130::u131::u132::u133::u134::u135::u136::u137::u138::u139::u140::u141::u142::u143::u144::u145::u146::u147::u148::u149::u150::u151::u152::u153::u154::u155::u156::u157::u158::u159::u160::u161::u162::u163::u164::u165::u166::u167::u168::u169::u170::u171::u172::u173::u174::u175::u176::u177::u178::u179::u180::u181::u182::u183::u184::u185::u186::u187::u188::u189::u190::u191::u192::u193::u194::u195::u196::[]).toArray,Ds'.map mk⟩ Y)) :
    (seE Tryz.f3).wp Tryz.prog Q ⟨(v0::v1::(.pointer (some ⟨b2,0,none⟩))::v3::v4::(.pointer (some ⟨b5,0,none⟩))::(.pointer (some ⟨b6,0,none⟩))::v7::(.pointer (some ⟨b8,0,none⟩))::(.int .i64 (nc:Int))::v10::v11::v12::v13::v14::v15::v16::v17::v18::v19::v20::v21::v22::v23::v24::v25::v26::v27::v28::v29::v30::v31::v32::v33::v34::v35::v36::v37::v38::v39::v40::v41::v42::v43::v44::v45::v46::v47::v48::v49::v50::v51::v52::v53::v54::v55::v56::v57::v58::v59::v60::v61::v62::v63::v64::v65::v66::v67::v68::v69::v70::v71::v72::v73::v74::v75::v76::v77::v78::v79::v80::v81::v82::v83::v84::v85::v86::v87::v88::v89::v90::v91::v92::v93::v94::v95::v96::v97::v98::v99::v100::v101::v102::v103::v104::v105::v106::v107::v108::v109::v110::v111::v112::v113::v114::v115::v116::v117::v118::v119::v120::v121::v122::v123::v124::v125::v126::v127::v128::v129::v130::v131::v132::v133::v134::v135::v136::v137::v138::v139::v140::v141::v142::v143::v144::v145::v146::v147::v148::v149::v150::v151::v152::v153::v154::v155::v156::v157::v158::v159::v160::v161::v162::v163::v164::v165::v166::v167::v168::v169::v170::v171::v172::v173::v174::v175::v176::v177::v178::v179::v180::v181::v182::v183::v184::v185::v186::v187::v188::v189::v190::v191::v192::v193::v194::v195::v196::[]).toArray,Ds.map mk⟩ w:=by
  have HBk:=hidW hb
  have HFz:=hidW hFz
  have HDs:=hidW hDs
  have HJ:=hidW hJ
  clear hb hFz hDs hJ
  obtain ⟨hon,ha0,ha1⟩:=(seO_iff c).1 hO
  have HON:=hidW hon
  clear hO hon
  have H:=hidW h
  have c0:=h8.cell 0
  simp only [List.getElem?_cons_zero] at c0
  have hz0:(0:Int)<(nc:Int):=by omega
  have r1:=rem_wrap (a:=o.nr) hz0
  have r2:=rem_rng (a:=o.nr) hz0
  have hj0:0≤(j:Int):=by omega
  have hjn:(j:Int)<(nc:Int):=by rw [hj]; exact Int.emod_lt_of_pos _ hz0
  rw [←hj] at r1
  generalize hqq:o.nr.tmod nc=q at *
  obtain ⟨r,hr⟩:∃r:Int,r=q+nc:=⟨_,rfl⟩
  have hw1:IntKind.i64.wrap (q+nc)=r:=by rw [IntKind.wrap_i64]; omega
  have hrm:r.tmod nc=(j:Int):=by
    rw [Int.tmod_eq_emod_of_nonneg (by omega)]
    by_cases hneg:q<0
    · rw [hr,r1.1 hneg]
      exact Int.emod_eq_of_lt hj0 hjn
    · rw [hr,r1.2 hneg,Int.add_emod_right]
      exact Int.emod_eq_of_lt hj0 hjn
  have hnz:¬(nc:Int)=0:=by omega
  have hnzn:¬nc=0:=by omega
  have HH:Hid (∀ww,Below w.heap.size w ww→ww.cell? ⟨b2,3,none⟩=some (.slice (some ⟨cb,co,none⟩) nc cc)∧ww.cell? ⟨b8,1,none⟩=some (.int .i64 o.nr)∧ww.cell? ⟨cb,co+j*12,none⟩=some (.bool c.on)∧ww.cell? ⟨cb,co+j*12+1,none⟩=some (.bool c.tre)∧ww.cell? ⟨cb,co+j*12+2,none⟩=some (.bool c.afe)∧ww.cell? ⟨cb,co+j*12+3,none⟩=some (.int .i64 c.n)∧ww.cell? ⟨cb,co+j*12+4,none⟩=some (.bool c.pd0)∧ww.cell? ⟨cb,co+j*12+5,none⟩=some (.bool c.pd1)∧ww.cell? ⟨cb,co+j*12+6,none⟩=some (.int .u64 c.b0)∧ww.cell? ⟨cb,co+j*12+7,none⟩=some (.int .u64 c.b1)∧ww.cell? ⟨cb,co+j*12+8,none⟩=some (.int .u32 c.dacr)∧ww.cell? ⟨cb,co+j*12+9,none⟩=some (.int .u32 c.prrr)∧ww.cell? ⟨cb,co+j*12+10,none⟩=some (.int .u32 c.nmrr)∧ww.cell? ⟨cb,co+j*12+11,none⟩=some (.int .i64 c.asid)):=fun ww hb=>by
    have q2:=h2.below hb
    rw [hvc] at q2
    exact ⟨q2.cell 3,(h8.below hb).cell 1,hctx ww hb⟩
  have hS1:∀ww,Below w.heap.size w ww→ww.cell? ⟨b2,3,none⟩=some (.slice (some ⟨cb,co,none⟩) nc cc)∧ww.cell? ⟨b8,1,none⟩=some (.int .i64 o.nr)∧ww.cell? ⟨cb,co+j*12,none⟩=some (.bool c.on)∧ww.cell? ⟨cb,co+j*12+1,none⟩=some (.bool c.tre)∧ww.cell? ⟨cb,co+j*12+2,none⟩=some (.bool c.afe)∧ww.cell? ⟨cb,co+j*12+3,none⟩=some (.int .i64 c.n)∧ww.cell? ⟨cb,co+j*12+4,none⟩=some (.bool c.pd0)∧ww.cell? ⟨cb,co+j*12+5,none⟩=some (.bool c.pd1)∧ww.cell? ⟨cb,co+j*12+6,none⟩=some (.int .u64 c.b0)∧ww.cell? ⟨cb,co+j*12+7,none⟩=some (.int .u64 c.b1)∧ww.cell? ⟨cb,co+j*12+8,none⟩=some (.int .u32 c.dacr)∧ww.cell? ⟨cb,co+j*12+9,none⟩=some (.int .u32 c.prrr)∧ww.cell? ⟨cb,co+j*12+10,none⟩=some (.int .u32 c.nmrr)∧ww.cell? ⟨cb,co+j*12+11,none⟩=some (.int .i64 c.asid):=HH.out
  clear h h8 h2 hctx hj r1 r2 hr
  rw [seE_eq]
  generalize hI:seD Tryz.f3=CD
  generalize hT:seT Tryz.f3=CT
  have HI:=hidW hI
  have HT:=hidW hT
  clear hI hT
  conv=>arg 2; whnf
  go_wp2_with fail
  have HB1:=hidW (Below.refl w.heap.size w)
  have hs1:=HB1.out.size
  go_cut [12] from 76 to 87 (fun s1 wx=>∃b1,s1= .pointer (some ⟨b1,0,none⟩)∧Hid (Got1 w wx b1 47 ([.bool c.on,.bool c.tre,.bool c.afe,.int .i64 c.n,.bool c.pd0,.bool c.pd1,.int .u64 c.b0,.int .u64 c.b1,.int .u32 c.dacr,.int .u32 c.prrr,.int .u32 c.nmrr,.int .i64 c.asid])))
  case first =>
    refine wp_region_held_drew (S:=fun ww=>ww.cell? ⟨b2,3,none⟩=some (.slice (some ⟨cb,co,none⟩) nc cc)∧ww.cell? ⟨b8,1,none⟩=some (.int .i64 o.nr)∧ww.cell? ⟨cb,co+j*12,none⟩=some (.bool c.on)∧ww.cell? ⟨cb,co+j*12+1,none⟩=some (.bool c.tre)∧ww.cell? ⟨cb,co+j*12+2,none⟩=some (.bool c.afe)∧ww.cell? ⟨cb,co+j*12+3,none⟩=some (.int .i64 c.n)∧ww.cell? ⟨cb,co+j*12+4,none⟩=some (.bool c.pd0)∧ww.cell? ⟨cb,co+j*12+5,none⟩=some (.bool c.pd1)∧ww.cell? ⟨cb,co+j*12+6,none⟩=some (.int .u64 c.b0)∧ww.cell? ⟨cb,co+j*12+7,none⟩=some (.int .u64 c.b1)∧ww.cell? ⟨cb,co+j*12+8,none⟩=some (.int .u32 c.dacr)∧ww.cell? ⟨cb,co+j*12+9,none⟩=some (.int .u32 c.prrr)∧ww.cell? ⟨cb,co+j*12+10,none⟩=some (.int .u32 c.nmrr)∧ww.cell? ⟨cb,co+j*12+11,none⟩=some (.int .i64 c.asid)) (by kernel_rfl) ?_ (fun hHeld=> ?_)
    · exact hS1 _ (below_drew (Below.refl _ _))
    refine wpAnyH_take (i:=0) (oi:=⟨some 76,.fieldAddr 26 (.tmp 2) 3,0,_,#[],none⟩) (v:=?_) rfl (by kernel_rfl) (by kernel_rfl) (by kernel_rfl) (fun _ _ _ h=>hpan h) (Or.inl ⟨by rfl,?_⟩) (by assumption) ?_
    rotate_left
    · (intro w hSw; (try dsimp only at hSw); go_simp; try with_reducible rfl)
    simp only [Act.put,List.setIfInBounds_toArray,List.set_cons_zero,List.set_cons_succ]
    refine wpAnyH_take (i:=1) (oi:=⟨some 77,.load 24 (.tmp 76),24,_,#[⟨0,.data⟩],none⟩) (v:=?_) rfl (by kernel_rfl) (by kernel_rfl) (by kernel_rfl) (fun _ _ _ h=>hpan h) (Or.inl ⟨by rfl,?_⟩) (by assumption) ?_
    rotate_left
    · (intro w hSw; (try dsimp only at hSw); go_simp; try with_reducible rfl)
    simp only [Act.put,List.setIfInBounds_toArray,List.set_cons_zero,List.set_cons_succ]
    refine wpAnyH_take (i:=2) (oi:=⟨some 78,.fieldAddr 37 (.tmp 8) 1,0,_,#[],none⟩) (v:=?_) rfl (by kernel_rfl) (by kernel_rfl) (by kernel_rfl) (fun _ _ _ h=>hpan h) (Or.inl ⟨by rfl,?_⟩) (by assumption) ?_
    rotate_left
    · (intro w hSw; (try dsimp only at hSw); go_simp; try with_reducible rfl)
    simp only [Act.put,List.setIfInBounds_toArray,List.set_cons_zero,List.set_cons_succ]
    refine wpAnyH_take (i:=3) (oi:=⟨some 79,.load 3 (.tmp 78),3,_,#[⟨2,.data⟩],none⟩) (v:=?_) rfl (by kernel_rfl) (by kernel_rfl) (by kernel_rfl) (fun _ _ _ h=>hpan h) (Or.inl ⟨by rfl,?_⟩) (by assumption) ?_
    rotate_left
    · (intro w hSw; (try dsimp only at hSw); go_simp; try with_reducible rfl)
    simp only [Act.put,List.setIfInBounds_toArray,List.set_cons_zero,List.set_cons_succ]
    refine wpAnyH_take (i:=4) (oi:=⟨some 80,.move (.tmp 9),3,_,#[],none⟩) (v:=?_) rfl (by kernel_rfl) (by kernel_rfl) (by kernel_rfl) (fun _ _ _ h=>hpan h) (Or.inl ⟨by rfl,?_⟩) (by assumption) ?_
    rotate_left
    · (intro w hSw; (try dsimp only at hSw); go_simp; try with_reducible rfl)
    simp only [Act.put,List.setIfInBounds_toArray,List.set_cons_zero,List.set_cons_succ]
    refine wpAnyH_take (i:=5) (oi:=⟨some 81,.binOp BinOp.rem 3 (.tmp 79) (.tmp 80) 3,3,_,#[⟨3,.data⟩,⟨4,.data⟩],none⟩) (v:=?_) rfl (by kernel_rfl) (by kernel_rfl) (by kernel_rfl) (fun _ _ _ h=>hpan h) (Or.inl ⟨by rfl,?_⟩) (by assumption) ?_
    rotate_left
    · (intro w hSw; (try dsimp only at hSw); go_simp; try with_reducible rfl)
    simp only [Act.put,List.setIfInBounds_toArray,List.set_cons_zero,List.set_cons_succ]
    refine wpAnyH_take (i:=6) (oi:=⟨some 82,.move (.tmp 9),3,_,#[],none⟩) (v:=?_) rfl (by kernel_rfl) (by kernel_rfl) (by kernel_rfl) (fun _ _ _ h=>hpan h) (Or.inl ⟨by rfl,?_⟩) (by assumption) ?_
    rotate_left
    · (intro w hSw; (try dsimp only at hSw); go_simp; try with_reducible rfl)
    simp only [Act.put,List.setIfInBounds_toArray,List.set_cons_zero,List.set_cons_succ]
    refine wpAnyH_take (i:=7) (oi:=⟨some 83,.binOp BinOp.add 3 (.tmp 81) (.tmp 82) 3,3,_,#[⟨5,.data⟩,⟨6,.data⟩],none⟩) (v:=?_) rfl (by kernel_rfl) (by kernel_rfl) (by kernel_rfl) (fun _ _ _ h=>hpan h) (Or.inl ⟨by rfl,?_⟩) (by assumption) ?_
    rotate_left
    · (intro w hSw; (try dsimp only at hSw); go_simp; try with_reducible rfl)
    simp only [Act.put,List.setIfInBounds_toArray,List.set_cons_zero,List.set_cons_succ]
    refine wpAnyH_take (i:=8) (oi:=⟨some 84,.move (.tmp 9),3,_,#[],none⟩) (v:=?_) rfl (by kernel_rfl) (by kernel_rfl) (by kernel_rfl) (fun _ _ _ h=>hpan h) (Or.inl ⟨by rfl,?_⟩) (by assumption) ?_
    rotate_left
    · (intro w hSw; (try dsimp only at hSw); go_simp; try with_reducible rfl)
    simp only [Act.put,List.setIfInBounds_toArray,List.set_cons_zero,List.set_cons_succ]
    refine wpAnyH_take (i:=9) (oi:=⟨some 85,.binOp BinOp.rem 3 (.tmp 83) (.tmp 84) 3,3,_,#[⟨7,.data⟩,⟨8,.data⟩],none⟩) (v:=?_) rfl (by kernel_rfl) (by kernel_rfl) (by kernel_rfl) (fun _ _ _ h=>hpan h) (Or.inl ⟨by rfl,?_⟩) (by assumption) ?_
    rotate_left
    · (intro w hSw; (try dsimp only at hSw); go_simp; try with_reducible rfl)
    simp only [Act.put,List.setIfInBounds_toArray,List.set_cons_zero,List.set_cons_succ]
    refine wpAnyH_take (i:=10) (oi:=⟨some 86,.indexAddr 24 (.tmp 77) (.tmp 85),0,_,#[⟨1,.data⟩,⟨9,.data⟩],none⟩) (v:=?_) rfl (by kernel_rfl) (by kernel_rfl) (by kernel_rfl) (fun _ _ _ h=>hpan h) (Or.inl ⟨by rfl,?_⟩) (by assumption) ?_
    rotate_left
    · (intro w hSw; (try dsimp only at hSw); go_simp; try with_reducible rfl)
    simp only [Act.put,List.setIfInBounds_toArray,List.set_cons_zero,List.set_cons_succ]
    refine wpAnyH_take (i:=11) (oi:=⟨some 87,.load 47 (.tmp 86),47,_,#[⟨10,.data⟩],none⟩) (v:=?_) rfl (by kernel_rfl) (by kernel_rfl) (by kernel_rfl) (fun _ _ _ h=>hpan h) (Or.inl ⟨by rfl,?_⟩) (by assumption) ?_
    rotate_left
    · (intro w hSw; (try dsimp only at hSw); go_simp; try with_reducible rfl)
    simp only [Act.put,List.setIfInBounds_toArray,List.set_cons_zero,List.set_cons_succ]
    refine wpAnyH_ready (rs:=[12]) (by kernel_rfl) (by simp) ?_
    refine AllReadyH.cons (o:=⟨some 12,.alloc 47,0,_,#[],none⟩) rfl (fun K hK=> ?_) AllReadyH.nil
    go_simp
    skip
    refine hK.out _ _ ?_ (fun hHeld=> ?_)
    · ((try dsimp only); with_reducible exact hS1 _ (by ((repeat (first|(with_reducible refine Below.setCell ?_ (by first|exact Nat.le_refl _|(dsimp only; omega)) _)|(with_reducible refine Below.alloc ?_ (by first|omega|(simp; omega)|simp) _)|(with_reducible refine below_drew ?_))); (first|(with_reducible exact HB1.out)|(with_reducible exact Below.refl _ _)))))
    clear hK K
    try simp only [Act.put,List.setIfInBounds_toArray,List.set_cons_zero,List.set_cons_succ]
    refine wpAnyH_ready (rs:=[13]) (by kernel_rfl) (by simp) ?_
    refine AllReadyH.cons (o:=⟨none,.store 47 (.tmp 12) (.tmp 87),0,_,#[⟨12,.data⟩,⟨11,.data⟩,⟨0,.phase⟩,⟨1,.phase⟩,⟨2,.phase⟩,⟨3,.phase⟩,⟨4,.phase⟩,⟨5,.phase⟩,⟨6,.phase⟩,⟨7,.phase⟩,⟨8,.phase⟩,⟨9,.phase⟩,⟨10,.phase⟩,⟨11,.phase⟩,⟨12,.phase⟩],none⟩) rfl (fun K hK=> ?_) AllReadyH.nil
    go_simp
    skip
    refine hK.out _ _ ?_ (fun hHeld=> ?_)
    · ((try dsimp only); with_reducible exact hS1 _ (by ((repeat (first|(with_reducible refine Below.setCell ?_ (by first|exact Nat.le_refl _|(dsimp only; omega)) _)|(with_reducible refine Below.alloc ?_ (by first|omega|(simp; omega)|simp) _)|(with_reducible refine below_drew ?_))); (first|(with_reducible exact HB1.out)|(with_reducible exact Below.refl _ _)))))
    clear hK K
    try simp only [Act.put,List.setIfInBounds_toArray,List.set_cons_zero,List.set_cons_succ]
    refine wpAnyH_done (by kernel_rfl) ?_ _
    go_wp2_with fail
    go_meet
    exact ⟨_,rfl,hidW (gb1d w _ [.bool c.on,.bool c.tre,.bool c.afe,.int .i64 c.n,.bool c.pd0,.bool c.pd1,.int .u64 c.b0,.int .u64 c.b1,.int .u32 c.dacr,.int .u32 c.prrr,.int .u32 c.nmrr,.int .i64 c.asid])⟩
  case rest =>
    obtain ⟨b12,rfl,HG⟩:=hcut
    have q12:=HG.out.B.cell
    have HN:=hidW (H.out.below hW HG.out.bel)
    have H12:=hidW HG.out.B
    have hon:=HON.out
    clear HG hS1 HH
    go_wp2_with fail
    clear hon
    rw [←HI.out]
    refine seen_D _ W0 _ x p kb jb wv iv f vp vw vc σ _ b5 b6 b12 bv B c HN.out.sg HN.out.hG hW HN.out.rd HN.out.h5 H12.out hs HJ.out hlB hc ⟨ha0,ha1⟩ HFz.out HDs.out (by exact fun h=>hpan h) (hidW ?_)
    intros
    rename_i D' Y bv' hD' hK hR
    have HZ:=hidW (HN.out.next (Ds':=D'::Ds) hW hR (.inr ⟨D',rfl,hD',hK⟩))
    clear hD' hK hR q12
    go_wp2_with fail
    rw [←HT.out]
    refine seen_tail _ W0 _ x p kb jb b5 b6 wv iv f vp vw vc σ (D'::Ds) bv' _ ⟨HZ.out,HBk.out⟩ hW hs hl (by exact fun h=>hpan h) (hidW ?_)
    intros
    rename_i Y9 hY9
    exact HQ.out hY9
end Go.Proofs.YtnjlajjjcmhfgaaGreatDoor
namespace Go.Proofs.YtnjlajjjcmhfgaaGreatDoor
open Go.RowKit Go.Shelf
open Mm (Turn gr RM valV errV Byts setV RowAt)
set_option linter.unusedVariables false
set_option linter.unusedSimpArgs false
attribute [local go_sem] Oper.semAt_some
theorem seen_fz {M:Mo} {c:Ctx} (hM:M.Ok) (hc:c.Ok) (hO:seO c=true):∀t∈blL M c,Fz t:=by
  intro t ht
  obtain ⟨hon,h0,h1⟩:=(seO_iff c).1 hO
  obtain ⟨va,hv,hw⟩:=(mem_blL hon t).1 ht
  exact (tgB_ok hM hc ⟨h0,h1⟩ hv hw).fz
set_option maxRecDepth 1000000 in
set_option maxHeartbeats 16000000 in
theorem seen_step {Q:Exit→Act→World→Prop} {v0 v3 v4 v8 v9 v10 v11 v12 v13 v14 v15 v16 v17 v18 v19 v20 v21 v22 v23 v24 v25 v26 v27 v28 v29 v30 v31 v32 v33 v34 v35 v36 v37 v38 v39 v40 v41 v42 v43 v44 v45 v46 v47 v48 v49 v50 v51 v52 v53 v54 v55 v56 v57 v58 v59 v60 v61 v62 v63 v64 v65 v66 v67 v68 v69 v70 v71 v72 v73 v74 v75 v76 v77 v78 v79 v80 v81 v82 v83 v84 v85 v86 v87 v88 v89 v90 v91 v92 v93 v94 v95 v96 v97 v98 v99 v100 v101 v102 v103 v104 v105 v106 v107 v108 v109 v110 v111 v112 v113 v114 v115 v116 v117 v118 v119 v120 v121 v122 v123 v124 v125 v126 v127 v128 v129 v130 v131 v132 v133 v134 v135 v136 v137 v138 v139 v140 v141 v142 v143 v144 v145 v146 v147 v148 v149 v150 v151 v152 v153 v154 v155 v156 v157 v158 v159 v160 v161 v162 v163 v164 v165 v166 v167 v168 v169 v170 v171 v172 v173 v174 v175 v176 v177 v178 v179 v180 v181 v182 v183 v184 v185 v186 v187 v188 v189 v190 v191 v192 v193 v194 v195 v196:Value} (W0 w:World) (x p kb jb b5 b6:Nat) (wv iv:Value) (f:Int) (vp vw vc:Value) (σ:Pst) (Ds:List Nat) (bv:Value) (B:List Blo) (ob oo n co k b2:Nat) (cs:List Ctx) (o:Oq) (h:SnX W0 w x p kb jb b5 b6 wv iv f vp vw vc σ Ds bv B) (hW:TS W0) (h2:Bl W0 b2 26 [.int .i64 f,vp,vw,vc]) (hcs:Sli encC 12 W0 vc cs) (hok:∀c∈cs,c.Ok) (hln:cs.length≤1048576) (hop:∀ww,Below W0.heap.size W0 ww→ww.cell? ⟨ob,oo+k*9,none⟩=some (.int .i64 o.kind)∧ww.cell? ⟨ob,oo+k*9+1,none⟩=some (.int .i64 o.nr)∧ww.cell? ⟨ob,oo+k*9+2,none⟩=some (.int .i64 o.d.kind)∧ww.cell? ⟨ob,oo+k*9+3,none⟩=some (.int .u32 o.d.va)∧ww.cell? ⟨ob,oo+k*9+4,none⟩=some (.int .i64 o.d.asid)∧ww.cell? ⟨ob,oo+k*9+5,none⟩=some (.int .u64 o.pa)∧ww.cell? ⟨ob,oo+k*9+6,none⟩=some (.int .u32 o.w)∧ww.cell? ⟨ob,oo+k*9+7,none⟩=some (.int .i64 o.asid)∧ww.cell? ⟨ob,oo+k*9+8,none⟩=some (.int .u32 o.va)) (ho:o.Ok) (hkn:k<n) (hn:n≤1048576) (hs:Sml σ) (hs2:Sml (σ.step cs o)) (hl:σ.K.length≤1099511627776) (hl2:(σ.step cs o).K.length≤1099511627776) (hpan:∀ {c:List PanicEntry} {a:Act} {d:Option Tmp} {v:Value} {w:World},Q (.panic c) (a.put d v) w→Q (.panic c) a w)
    (HQ:Hid (∀ {u8 u9 u10 u11 u12 u13 u14 u15 u16 u17 u18 u19 u34 u35 u36 u37 u38 u39 u40 u41 u42 u43 u44 u45 u46 u47 u48 u49 u50 u51 u52 u53 u54 u55 u56 u57 u58 u59 u60 u61 u62 u63 u64 u65 u66 u67 u68 u69 u70 u71 u72 u73 u74 u75 u76 u77 u78 u79 u80 u81 u82 u83 u84 u85 u86 u87 u88 u89 u90 u91 u92 u93 u94 u95 u96 u97 u98 u99 u100 u101 u102 u103 u104 u105 u106 u107 u108 u109 u110 u111 u112 u113 u114 u115 u116 u117 u118 u119 u120 u121 u122 u123 u124 u125 u126 u127 u128 u129 u130 u131 u132 u133 u134 u135 u136 u137 u138 u139 u140 u141 u142 u143 u144 u145 u146 u147 u148 u149 u150 u151 u152 u153 u154 u155 u156 u157 u158 u159 u160 u161 u162 u163 u164 u165 u166 u167 u168 u169 u170 u171 u172 u173 u174 u175 u176 u177 u178 u179 u180 u181 u182 u183 u184 u185 u186 u187 u188 u189 u190 u191 u192 u193 u194 u195 u196:Value} {Y:World} {Ds':List Nat} {bv':Value} {B':List Blo},SnX W0 Y x p kb jb b5 b6 wv iv f vp vw vc (σ.step cs o) Ds' bv' B'→Q .normal ⟨(v0::(.slice (some ⟨ob,oo,none⟩) n co)::(.pointer (some ⟨b2,0,none⟩))::v3::v4::(.pointer (some ⟨b5,0,none⟩))::(.pointer (some ⟨b6,0,none⟩))::(.int .i64 (k:Int))::u8::u9::u10::u11::u12::u13::u14::u15::u16::u17::u18::u19::v20::v21::v22::v23::v24::v25::v26::v27::v28::v29::v30::v31::v32::v33::u34::u35::u36::u37::u38::u39::u40::u41::u42::u43::u44::u45::u46::u47::u48::u49::u50::u51::u52::u53::u54::u55::u56::u57::u58::u59::u60::u61::u62::u63::u64::u65::u66::u67::u68::u69::u70::u71::u72::u73::u74::u75::u76::u77::u78::u79::u80::u81::u82::u83::u84::u85::u86::u87::u88::u89::u90::u91::u92::u93::u94::u95::u96::u97::u98::u99::u100::u101::u102::u103::u104::u105::u106::u107::u108::u109::u110::u111::u112::u113::u114::u115::u116::u117::u118::u119::u120::u121::u122::u123::u124::u125::u126::u127::u128::u129::u130::u131::u132::u133::u134::u135::u136::u137::u138::u139::u140::u141::u142::u143::u144::u145::u146::u147::u148::u149::u150::u151::u152::u153::u154::u155::u156::u157::u158::u159::u160::u161::u162::u163::u164::u165::u166::u167::u168::u169::u170::u171::u172::u173::u174::u175::u176::u177::u178::u179::u180::u181::u182::u183::u184::u185::u186::u187::u188::u189::u190::u191::u192::u193::u194::u195::u196::[]).toArray,Ds'.map mk⟩ Y)) :
    (seC Tryz.f3).wp Tryz.prog Q ⟨(v0::(.slice (some ⟨ob,oo,none⟩) n co)::(.pointer (some ⟨b2,0,none⟩))::v3::v4::(.pointer (some ⟨b5,0,none⟩))::(.pointer (some ⟨b6,0,none⟩))::(.int .i64 (k:Int))::v8::v9::v10::v11::v12::v13::v14::v15::v16::v17::v18::v19::v20::v21::v22::v23::v24::v25::v26::v27::v28::v29::v30::v31::v32::v33::v34::v35::v36::v37::v38::v39::v40::v41::v42::v43::v44::v45::v46::v47::v48::v49::v50::v51::v52::v53::v54::v55::v56::v57::v58::v59::v60::v61::v62::v63::v64::v65::v66::v67::v68::v69::v70::v71::v72::v73::v74::v75::v76::v77::v78::v79::v80::v81::v82::v83::v84::v85::v86::v87::v88::v89::v90::v91::v92::v93::v94::v95::v96::v97::v98::v99::v100::v101::v102::v103::v104::v105::v106::v107::v108::v109::v110::v111::v112::v113::v114::v115::v116::v117::v118::v119::v120::v121::v122::v123::v124::v125::v126::v127::v128::v129::v130::v131::v132::v133::v134::v135::v136::v137::v138::v139::v140::v141::v142::v143::v144::v145::v146::v147::v148::v149::v150::v151::v152::v153::v154::v155::v156::v157::v158::v159::v160::v161::v162::v163::v164::v165::v166::v167::v168::v169::v170::v171::v172::v173::v174::v175::v176::v177::v178::v179::v180::v181::v182::v183::v184::v185::v186::v187::v188::v189::v190::v191::v192::v193::v194::v195::v196::[]).toArray,Ds.map mk⟩ w:=by
  obtain ⟨ca,cc,evc⟩:=hcs.form
  have hlB:B.length≤1099511627776:=by rw [←h.bk.len hs.ok.ri.nodup]; exact hl
  have hcs':=hcs
  rw [evc] at hcs'
  refine seen_pre (Ds.map mk) W0 w x p kb jb b5 b6 wv iv f vp vw vc σ Ds bv B ob oo n co k b2 cs.length cc ca cs o h.sm evc hW h2 hcs hok (by omega) hop ho hkn (by omega) hl (by exact fun h=>hpan h) (hidW ?_)
  intros
  rename_i w2 b8 hm h8 hne
  have h22:=h2.below hm.sg.bel
  by_cases k1:o.kind=1
  · have hk1:(o.kind == 1)=true:=by simp [k1]
    have hk2:(o.kind == 2)=false:=by rw [k1]; rfl
    by_cases hz:cs.length=0
    · have e:σ.step cs o=σ:=by
        unfold Pst.step
        rw [if_pos k1]
        unfold ctxAt
        rw [if_pos hz]
      rw [e] at hm hs2 hl2 HQ
      refine seen_e0 W0 w2 x p kb jb b5 b6 wv iv f vp vw vc σ Ds bv B b2 b8 cs.length o hm h8 hne hW hs2 hl2 hlB h.bk hk2 (.inr ⟨hk1,hz⟩) (by exact fun h=>hpan h) (hidW ?_)
      intros
      rename_i hY
      exact HQ.out hY
    · obtain ⟨j,c,hj,hjn,hc,hat⟩:=ctxAt_some (by omega:0<cs.length) o.nr
      obtain ⟨cb,co',eca,hcb,_⟩:=hcs'.ctx (Below.refl _ _) hc
      subst eca
      have hcc:c.Ok:=hok c (List.mem_of_getElem? hc)
      have e:σ.step cs o=σ.see c:=by
        unfold Pst.step
        rw [if_pos k1,hat]
      rw [e] at hm hs2 hl2 HQ
      have hctx:∀ww,Below w2.heap.size w2 ww→ww.cell? ⟨cb,co'+j*12,none⟩=some (.bool c.on)∧ww.cell? ⟨cb,co'+j*12+1,none⟩=some (.bool c.tre)∧ww.cell? ⟨cb,co'+j*12+2,none⟩=some (.bool c.afe)∧ww.cell? ⟨cb,co'+j*12+3,none⟩=some (.int .i64 c.n)∧ww.cell? ⟨cb,co'+j*12+4,none⟩=some (.bool c.pd0)∧ww.cell? ⟨cb,co'+j*12+5,none⟩=some (.bool c.pd1)∧ww.cell? ⟨cb,co'+j*12+6,none⟩=some (.int .u64 c.b0)∧ww.cell? ⟨cb,co'+j*12+7,none⟩=some (.int .u64 c.b1)∧ww.cell? ⟨cb,co'+j*12+8,none⟩=some (.int .u32 c.dacr)∧ww.cell? ⟨cb,co'+j*12+9,none⟩=some (.int .u32 c.prrr)∧ww.cell? ⟨cb,co'+j*12+10,none⟩=some (.int .u32 c.nmrr)∧ww.cell? ⟨cb,co'+j*12+11,none⟩=some (.int .i64 c.asid):=fun ww hb=>by
        obtain ⟨_,_,e1,_,d1⟩:=hcs'.ctx (Below.step hm.sg.bel hb) hc
        cases e1
        exact d1
      by_cases hO:seO c=true
      · have eK:(σ.see c).K=seK σ.mem.mo c σ.K:=by unfold Pst.see; rw [if_pos hO]
        have eJ:(σ.see c).J c.asid=some c:=by unfold Pst.see; rw [if_pos hO]; show setJ σ.J c.asid c c.asid=_; unfold setJ; rw [if_pos rfl]
        have eM:=σ.see_mem c
        refine seen_e1y W0 w2 x p kb jb b5 b6 wv iv f vp vw vc (σ.see c) Ds bv B b2 b8 cs.length o hm h8 hne hW hs2 hl2 hlB cb co' cc j c evc h22 hctx ho.nr hjn (by omega) (by omega) hcc hk2 hk1 ?_ hO eJ ?_ ?_ (by exact fun h=>hpan h) (hidW ?_)
        · rw [eK,eM]
          exact h.bk.see _ _
        · rw [eM]
          exact seen_fz (Mst.mok hs.mok) hcc hO
        · rw [eM]
          exact fun t ht=>seen_dirty hs2 hO ht
        · intros
          rename_i hY
          exact HQ.out hY
      · have e2:σ.see c=σ:=by unfold Pst.see; rw [if_neg hO]
        rw [e2] at hm hs2 hl2 HQ
        refine seen_e1n W0 w2 x p kb jb b5 b6 wv iv f vp vw vc σ Ds bv B b2 b8 cs.length o hm h8 hne hW hs2 hl2 hlB cb co' cc j c evc h22 hctx ho.nr hjn (by omega) (by omega) hcc hk2 hk1 h.bk hO (by exact fun h=>hpan h) (hidW ?_)
        intros
        rename_i hY
        exact HQ.out hY
  · have hk1:(o.kind == 1)=false:=by simp [k1]
    by_cases k2:o.kind=2
    · have hk2:(o.kind == 2)=true:=by simp [k2]
      have e:σ.step cs o=⟨drK o.d σ.K,σ.J,σ.mem⟩:=by
        unfold Pst.step
        rw [if_neg k1,if_pos k2]
      rw [e] at hm hs2 hl2 HQ
      refine seen_e2 W0 w2 x p kb jb b5 b6 wv iv f vp vw vc _ Ds bv B b2 b8 cs.length o hm h8 hne hW hs2 hl2 hlB B B rfl (h.bk.drop o.d) hk2 hk1 (fun b hb=>(hs.ok.ok b ((h.bk.iff b).1 hb)).ok) ho.dv (by exact fun h=>hpan h) (hidW ?_)
      intros
      rename_i hY
      exact HQ.out hY
    · have hk2:(o.kind == 2)=false:=by simp [k2]
      have e:(σ.step cs o).K=σ.K:=by
        unfold Pst.step
        rw [if_neg k1,if_neg k2]
        split <;>rfl
      refine seen_e0 W0 w2 x p kb jb b5 b6 wv iv f vp vw vc _ Ds bv B b2 b8 cs.length o hm h8 hne hW hs2 hl2 hlB (by rw [e]; exact h.bk) hk2 (.inl hk1) (by exact fun h=>hpan h) (hidW ?_)
      intros
      rename_i hY
      exact HQ.out hY
set_option maxRecDepth 1000000 in
set_option maxHeartbeats 16000000 in
theorem seen_round {Q:Exit→Act→World→Prop} {v0 v3 v4 v8 v9 v10 v11 v12 v13 v14 v15 v16 v17 v18 v19 v20 v21 v22 v23 v24 v25 v26 v27 v28 v29 v30 v31 v32 v33 v34 v35 v36 v37 v38 v39 v40 v41 v42 v43 v44 v45 v46 v47 v48 v49 v50 v51 v52 v53 v54 v55 v56 v57 v58 v59 v60 v61 v62 v63 v64 v65 v66 v67 v68 v69 v70 v71 v72 v73 v74 v75 v76 v77 v78 v79 v80 v81 v82 v83 v84 v85 v86 v87 v88 v89 v90 v91 v92 v93 v94 v95 v96 v97 v98 v99 v100 v101 v102 v103 v104 v105 v106 v107 v108 v109 v110 v111 v112 v113 v114 v115 v116 v117 v118 v119 v120 v121 v122 v123 v124 v125 v126 v127 v128 v129 v130 v131 v132 v133 v134 v135 v136 v137 v138 v139 v140 v141 v142 v143 v144 v145 v146 v147 v148 v149 v150 v151 v152 v153 v154 v155 v156 v157 v158 v159 v160 v161 v162 v163 v164 v165 v166 v167 v168 v169 v170 v171 v172 v173 v174 v175 v176 v177 v178 v179 v180 v181 v182 v183 v184 v185 v186 v187 v188 v189 v190 v191 v192 v193 v194 v195 v196:Value} (W0 w:World) (x p kb jb b5 b6:Nat) (wv iv:Value) (f:Int) (vp vw vc:Value) (σ:Pst) (Ds:List Nat) (bv:Value) (B:List Blo) (ob oo n co k b2:Nat) (cs:List Ctx) (o:Oq) (h:SnX W0 w x p kb jb b5 b6 wv iv f vp vw vc σ Ds bv B) (hW:TS W0) (h2:Bl W0 b2 26 [.int .i64 f,vp,vw,vc]) (hcs:Sli encC 12 W0 vc cs) (hok:∀c∈cs,c.Ok) (hln:cs.length≤1048576) (hop:∀ww,Below W0.heap.size W0 ww→ww.cell? ⟨ob,oo+k*9,none⟩=some (.int .i64 o.kind)∧ww.cell? ⟨ob,oo+k*9+1,none⟩=some (.int .i64 o.nr)∧ww.cell? ⟨ob,oo+k*9+2,none⟩=some (.int .i64 o.d.kind)∧ww.cell? ⟨ob,oo+k*9+3,none⟩=some (.int .u32 o.d.va)∧ww.cell? ⟨ob,oo+k*9+4,none⟩=some (.int .i64 o.d.asid)∧ww.cell? ⟨ob,oo+k*9+5,none⟩=some (.int .u64 o.pa)∧ww.cell? ⟨ob,oo+k*9+6,none⟩=some (.int .u32 o.w)∧ww.cell? ⟨ob,oo+k*9+7,none⟩=some (.int .i64 o.asid)∧ww.cell? ⟨ob,oo+k*9+8,none⟩=some (.int .u32 o.va)) (ho:o.Ok) (hkn:k<n) (hn:n≤1048576) (hs:Sml σ) (hs2:Sml (σ.step cs o)) (hl:σ.K.length≤1099511627776) (hl2:(σ.step cs o).K.length≤1099511627776) (hpan:∀ {c:List PanicEntry} {a:Act} {d:Option Tmp} {v:Value} {w:World},Q (.panic c) (a.put d v) w→Q (.panic c) a w)
    (HQ:Hid (∀ {u8 u9 u10 u11 u12 u13 u14 u15 u16 u17 u18 u19 u28 u29 u30 u31 u32 u33 u34 u35 u36 u37 u38 u39 u40 u41 u42 u43 u44 u45 u46 u47 u48 u49 u50 u51 u52 u53 u54 u55 u56 u57 u58 u59 u60 u61 u62 u63 u64 u65 u66 u67 u68 u69 u70 u71 u72 u73 u74 u75 u76 u77 u78 u79 u80 u81 u82 u83 u84 u85 u86 u87 u88 u89 u90 u91 u92 u93 u94 u95 u96 u97 u98 u99 u100 u101 u102 u103 u104 u105 u106 u107 u108 u109 u110 u111 u112 u113 u114 u115 u116 u117 u118 u119 u120 u121 u122 u123 u124 u125 u126 u127 u128 u129 u130 u131 u132 u133 u134 u135 u136 u137 u138 u139 u140 u141 u142 u143 u144 u145 u146 u147 u148 u149 u150 u151 u152 u153 u154 u155 u156 u157 u158 u159 u160 u161 u162 u163 u164 u165 u166 u167 u168 u169 u170 u171 u172 u173 u174 u175 u176 u177 u178 u179 u180 u181 u182 u183 u184 u185 u186 u187 u188 u189 u190 u191 u192 u193 u194 u195 u196:Value} {Y:World} {Ds':List Nat} {bv':Value} {B':List Blo},SnX W0 Y x p kb jb b5 b6 wv iv f vp vw vc (σ.step cs o) Ds' bv' B'→Q .normal ⟨(v0::(.slice (some ⟨ob,oo,none⟩) n co)::(.pointer (some ⟨b2,0,none⟩))::v3::v4::(.pointer (some ⟨b5,0,none⟩))::(.pointer (some ⟨b6,0,none⟩))::(.int .i64 ((k+1:Nat):Int))::u8::u9::u10::u11::u12::u13::u14::u15::u16::u17::u18::u19::v20::v21::v22::v23::v24::v25::v26::v27::u28::u29::u30::u31::u32::u33::u34::u35::u36::u37::u38::u39::u40::u41::u42::u43::u44::u45::u46::u47::u48::u49::u50::u51::u52::u53::u54::u55::u56::u57::u58::u59::u60::u61::u62::u63::u64::u65::u66::u67::u68::u69::u70::u71::u72::u73::u74::u75::u76::u77::u78::u79::u80::u81::u82::u83::u84::u85::u86::u87::u88::u89::u90::u91::u92::u93::u94::u95::u96::u97::u98::u99::u100::u101::u102::u103::u104::u105::u106::u107::u108::u109::u110::u111::u112::u113::u114::u115::u116::u117::u118::u119::u120::u121::u122::u123::u124::u125::u126::u127::u128::u129::u130::u131::u132::u133::u134::u135::u136::u137::u138::u139::u140::u141::u142::u143::u144::u145::u146::u147::u148::u149::u150::u151::u152::u153::u154::u155::u156::u157::u158::u159::u160::u161::u162::u163::u164::u165::u166::u167::u168::u169::u170::u171::u172::u173::u174::u175::u176::u177::u178::u179::u180::u181::u182::u183::u184::u185::u186::u187::u188::u189::u190::u191::u192::u193::u194::u195::u196::[]).toArray,Ds'.map mk⟩ Y)) :
    (seR Tryz.f3).wp Tryz.prog Q ⟨(v0::(.slice (some ⟨ob,oo,none⟩) n co)::(.pointer (some ⟨b2,0,none⟩))::v3::v4::(.pointer (some ⟨b5,0,none⟩))::(.pointer (some ⟨b6,0,none⟩))::(.int .i64 (k:Int))::v8::v9::v10::v11::v12::v13::v14::v15::v16::v17::v18::v19::v20::v21::v22::v23::v24::v25::v26::v27::v28::v29::v30::v31::v32::v33::v34::v35::v36::v37::v38::v39::v40::v41::v42::v43::v44::v45::v46::v47::v48::v49::v50::v51::v52::v53::v54::v55::v56::v57::v58::v59::v60::v61::v62::v63::v64::v65::v66::v67::v68::v69::v70::v71::v72::v73::v74::v75::v76::v77::v78::v79::v80::v81::v82::v83::v84::v85::v86::v87::v88::v89::v90::v91::v92::v93::v94::v95::v96::v97::v98::v99::v100::v101::v102::v103::v104::v105::v106::v107::v108::v109::v110::v111::v112::v113::v114::v115::v116::v117::v118::v119::v120::v121::v122::v123::v124::v125::v126::v127::v128::v129::v130::v131::v132::v133::v134::v135::v136::v137::v138::v139::v140::v141::v142::v143::v144::v145::v146::v147::v148::v149::v150::v151::v152::v153::v154::v155::v156::v157::v158::v159::v160::v161::v162::v163::v164::v165::v166::v167::v168::v169::v170::v171::v172::v173::v174::v175::v176::v177::v178::v179::v180::v181::v182::v183::v184::v185::v186::v187::v188::v189::v190::v191::v192::v193::v194::v195::v196::[]).toArray,Ds.map mk⟩ w:=by
  have hkz:(k:Int)<(n:Int):=by omega
  conv=>arg 2; whnf
  refine wp_cut 1 _ (sq2 (seR Tryz.f3)) (by kernel_rfl) (fun C hC=> ?_)
  have HC:=hidW hC
  clear hC
  simp only [putTail]
  have H:=hidW h
  have HOp:=hidW hop
  have H2:=hidW h2
  have HCs:=hidW hcs
  clear h hop h2 hcs
  go_wp2_with fail
  refine HC.out _ _ ?_
  clear HC
  conv=>arg 2; whnf
  refine wp_seq_k (fun K hK=> ?_)
  refine wp_block ?_
  refine seen_step W0 w x p kb jb b5 b6 wv iv f vp vw vc σ Ds bv B ob oo n co k b2 cs o H.out hW H2.out HCs.out hok hln HOp.out ho hkn hn hs hs2 hl hl2 (by exact fun h=>hpan h) (hidW ?_)
  intros
  rename_i hY
  refine hK _ _ ?_
  have HY:=hidW hY
  clear hY hK
  go_wp2
  exact HQ.out HY.out
end Go.Proofs.YtnjlajjjcmhfgaaGreatDoor
namespace Go.Proofs.YtnjlajjjcmhfgaaGreatDoor
open Go.RowKit Go.Shelf
open Mm (Turn gr RM valV errV Byts setV RowAt)
set_option linter.unusedVariables false
set_option linter.unusedSimpArgs false
attribute [local go_sem] Oper.semAt_some
def SI (W0:World) (x p kb jb b2 b4 b5 b6 n cv:Nat) (av:Option Addr) (wv iv:Value) (f:Int) (vp vw vc:Value) (pas ws:List Int) (cs:List Ctx) (ops:List Oq) (a:Act) (w:World):Prop :=
  ∃(k:Nat) (Ds:List Nat) (bv:Value) (B:List Blo),k≤n∧a.defers=Ds.map mk∧a.tmps.size=197∧a.tmps.getD 1 undef= .slice av n cv∧a.tmps.getD 2 undef= .pointer (some ⟨b2,0,none⟩)∧a.tmps.getD 4 undef= .pointer (some ⟨b4,0,none⟩)∧a.tmps.getD 5 undef= .pointer (some ⟨b5,0,none⟩)∧a.tmps.getD 6 undef= .pointer (some ⟨b6,0,none⟩)∧a.tmps.getD 7 undef= .int .i64 (k:Int)∧SnX W0 w x p kb jb b5 b6 wv iv f vp vw vc ((Pst.first f (pas.zip ws)).run cs (ops.take k)) Ds bv B
theorem list_range {α:Type} (d:α):∀l:List α,l=(List.range l.length).map (fun i=>l.getD i d):=fun l=>by
  apply List.ext_getElem
  · simp
  · intro i h1 h2
    simp [h1]
set_option maxRecDepth 1000000 in
theorem frame_ex (tmps:Array Value) (h:tmps.size=197):∃g:Nat→Value,tmps=(g 0::g 1::g 2::g 3::g 4::g 5::g 6::g 7::g 8::g 9::g 10::g 11::g 12::g 13::g 14::g 15::g 16::g 17::g 18::g 19::g 20::g 21::g 22::g 23::g 24::g 25::g 26::g 27::g 28::g 29::g 30::g 31::g 32::g 33::g 34::g 35::g 36::g 37::g 38::g 39::g 40::g 41::g 42::g 43::g 44::g 45::g 46::g 47::g 48::g 49::g 50::g 51::g 52::g 53::g 54::g 55::g 56::g 57::g 58::g 59::g 60::g 61::g 62::g 63::g 64::g 65::g 66::g 67::g 68::g 69::g 70::g 71::g 72::g 73::g 74::g 75::g 76::g 77::g 78::g 79::g 80::g 81::g 82::g 83::g 84::g 85::g 86::g 87::g 88::g 89::g 90::g 91::g 92::g 93::g 94::g 95::g 96::g 97::g 98::g 99::g 100::g 101::g 102::g 103::g 104::g 105::g 106::g 107::g 108::g 109::g 110::g 111::g 112::g 113::g 114::g 115::g 116::g 117::g 118::g 119::g 120::g 121::g 122::g 123::g 124::g 125::g 126::g 127::g 128::g 129::g 130::g 131::g 132::g 133::g 134::g 135::g 136::g 137::g 138::g 139::g 140::g 141::g 142::g 143::g 144::g 145::g 146::g 147::g 148::g 149::g 150::g 151::g 152::g 153::g 154::g 155::g 156::g 157::g 158::g 159::g 160::g 161::g 162::g 163::g 164::g 165::g 166::g 167::g 168::g 169::g 170::g 171::g 172::g 173::g 174::g 175::g 176::g 177::g 178::g 179::g 180::g 181::g 182::g 183::g 184::g 185::g 186::g 187::g 188::g 189::g 190::g 191::g 192::g 193::g 194::g 195::g 196::[]).toArray:=by
  refine ⟨fun i=>tmps.toList.getD i undef,?_⟩
  have h1:=list_range undef tmps.toList
  rw [Array.length_toList,h] at h1
  exact Array.ext' (h1.trans rfl)
theorem NoPanic.ret {Q:Exit→Act→World→Prop} {a:Act} {w:World} (h:Q .ret a w):NoPanic Q .ret a w:=h
set_option maxRecDepth 1000000 in
set_option maxHeartbeats 16000000 in
theorem law_seen (W:World) (hT:TS W) (f:Int) (vp vw vc:Value) (pas ws:List Int) (cs:List Ctx) (hs:Scn W vp vw vc pas ws cs) (vs:Value) (ops:List Oq) (hv:Sli encQ 9 W vs ops) (ho:∀o∈ops,o.Ok) (hbk:pas.length+11*ops.length≤1048576) :
    Calls Tryz.prog 3 #[.agg #[.int .i64 f,vp,vw,vc],vs] W fun e w'=>e= .returned (.bool true)∧Below W.heap.size W w':=by
  have hsm:∀k,Sml ((Pst.first f (pas.zip ws)).run cs (ops.take k)):=fun k=>hs.small f (ops:=ops.take k) (fun o h=>ho o (List.mem_of_mem_take h)) (by rw [List.length_take]; omega)
  have hlk:∀k,((Pst.first f (pas.zip ws)).run cs (ops.take k)).K.length≤1099511627776:=fun k=>by
    have:=(hs.cnt f (ops:=ops.take k) (fun o h=>ho o (List.mem_of_mem_take h))).len
    rw [List.length_take] at this
    have h2:min k ops.length≤1048576:=by omega
    have:=Nat.mul_le_mul_right 1048576 h2
    omega
  have hb0:Below W.heap.size W ((W.alloc (.cells #[.int .i64 f,vp,vw,vc] 26)).alloc (.cells #[.bool false] 4)):=Below.step (below_new _ _) (below_new _ _)
  have HSt:=hidW (stage_any _ (hT.below hb0) f vp vw vc pas ws cs (hs.below hb0) (.slice none 0 0) [] ⟨none,0,rfl,fun i o ho=>by simp at ho⟩ (fun o ho=>by cases ho) (Nat.zero_le _))
  have H2:Hid (Bl ((W.alloc (.cells #[.int .i64 f,vp,vw,vc] 26)).alloc (.cells #[.bool false] 4)) W.heap.size 26 [.int .i64 f,vp,vw,vc]):=(Bl.new W _ _).below (below_new _ _)
  have H4:Hid (Bl ((W.alloc (.cells #[.int .i64 f,vp,vw,vc] 26)).alloc (.cells #[.bool false] 4)) (W.heap.size+1) 4 [.bool false]):=Bl.new1 _ _ _ _
  have HSC:=hidW (hs.below hb0)
  have HV:=hidW (hv.below hb0)
  have HT0:=hidW (hT.below hb0)
  have HB0:=hidW hb0
  have HO:=hidW ho
  have HSm:=hidW hsm
  have HLk:=hidW hlk
  obtain ⟨ap,cp,rfl⟩:=hs.p.form
  obtain ⟨aw,cw,rfl⟩:=hs.w.form
  obtain ⟨ac,cc,rfl⟩:=hs.c.form
  obtain ⟨av,cv,rfl⟩:=hv.form
  have hlc:=hs.lc
  clear hT hs hv ho hb0 hsm hlk
  generalize hn:ops.length=n at *
  have HLN:=hidW hn
  clear hn
  refine (callsIn_wide (n:=3)).1 ?_
  refine callsIn_of_wp_marks Tryz.func3 rfl trivial ?_ rfl
  simp only [Tryz.ntmps3,List.size_toArray,List.length_cons,List.length_nil,Nat.reduceAdd,Nat.reduceSub,Array.replicate_succ,Array.replicate_zero,List.push_toArray,List.append_toArray,List.nil_append,List.cons_append]
  generalize hQ:(bodyPostM Fence.wide 3 Tryz.prog Tryz.f3 fun e w'=>e= .returned (.bool true)∧Below W.heap.size W w')=Q
  have HQ:=hidW hQ
  clear hQ
  refine wpIn_wide.2 ?_
  refine Code.wp_mono NoPanic.imp ?_
  go_wp2_with fail
  generalize (W.alloc (.cells #[.int .i64 f,.slice ap pas.length cp,.slice aw ws.length cw,.slice ac cs.length cc] 26)).alloc (.cells #[.bool false] 4)=W0 at *
  go_at_call 9
  refine HSt.out.mono ?_
  rintro e w1 ⟨x,p,kb,jb,wv,iv,rfl,hx⟩
  have hb1:=below_new w1 (.cells #[.pointer (some ⟨x,0,none⟩)] 28)
  have HX:=hidW hx
  have HLv:=hidW (live_any (w1.alloc (.cells #[.pointer (some ⟨x,0,none⟩)] 28)) (hx.ts.below hb1))
  have H5:=hidW (Bl.new w1 28 [.pointer (some ⟨x,0,none⟩)])
  have c5:=H5.out.cell 0
  simp only [List.getElem?_cons_zero] at c5
  have hpl:=hx.pk.lt
  have hxl:=hx.box.lt
  have HBw:=hidW hb1
  clear hx hb1 HSt
  go_wp2_with (first
    | (go_at_call 10; refine HLv.out.mono ?_; rintro e w2 ⟨rfl,gl⟩; have HG2:=hidW gl; clear gl))
  clear c5 HLv
  have hb2:Below w1.heap.size w1 w2:=Below.step HBw.out HG2.out
  have hb3:=below_new w2 (.cells #[.slice none 0 0] 31)
  have hz2:w1.heap.size<w2.heap.size:=by have:=HG2.out.size; simp at this; omega
  have hN0:SnX W0 (w2.alloc (.cells #[.slice none 0 0] 31)) x p kb jb w1.heap.size w2.heap.size wv iv f (.slice ap pas.length cp) (.slice aw ws.length cw) (.slice ac cs.length cc) ((Pst.first f (pas.zip ws)).run cs (ops.take 0)) [] (.slice none 0 0) []:=by
    refine ⟨⟨HX.out.more (Below.step hb2 hb3) (fun b hb=> .inr ?_),(H5.out.below HG2.out).below hb3,⟨Turn.refl _ _,Bl.new w2 _ _,World.ownsRow_nil _ _ _ _,fun g hg=>by cases hg⟩,⟨hxl,hpl.1,hpl.2.1,hpl.2.2,hz2⟩,(fun D hD=>by cases hD),.nil⟩,Bk.nil⟩
    rcases hb with rfl|rfl|hb|hb
    · exact ⟨Nat.le_refl _,by simp; omega⟩
    · exact ⟨by omega,by simp⟩
    · cases hb
    · cases hb
  have HN0:=hidW hN0
  clear hN0 hb2 hb3 HBw HG2 H5 HX hxl hpl
  generalize w1.heap.size=b5 at *
  generalize hb6:w2.heap.size=b6 at *
  generalize hw3:w2.alloc (.cells #[.slice none 0 0] 31)=w3 at *
  clear hb6 hw3
  refine wp_loop (SI W0 x p kb jb W.heap.size (W.heap.size+1) b5 b6 n cv av wv iv f (.slice ap pas.length cp) (.slice aw ws.length cw) (.slice ac cs.length cc) pas ws cs ops) (fun a _=>n-(intOf (a.tmps.getD 7 undef)).toNat) ⟨0,[],.slice none 0 0,[],Nat.zero_le _,rfl,rfl,rfl,rfl,rfl,rfl,rfl,rfl,HN0.out⟩ ?_
  rintro ⟨tmps,ds⟩ w ⟨k,Ds,bv,B,hk,hds,hsz,e1,e2,e4,e5,e6,e7,hN⟩
  obtain ⟨g,rfl⟩:=frame_ex tmps hsz
  have f1:g 1= .slice av n cv:=e1
  have f2:g 2= .pointer (some ⟨W.heap.size,0,none⟩):=e2
  have f4:g 4= .pointer (some ⟨W.heap.size+1,0,none⟩):=e4
  have f5:g 5= .pointer (some ⟨b5,0,none⟩):=e5
  have f6:g 6= .pointer (some ⟨b6,0,none⟩):=e6
  have f7:g 7= .int .i64 (k:Int):=e7
  dsimp only at hds
  subst hds
  rw [f1,f2,f4,f5,f6,f7]
  clear hsz e1 e2 e4 e5 e6 e7 f1 f2 f4 f5 f6 f7
  clear HN0
  by_cases hlt:k<n
  · obtain ⟨o,hq⟩:∃o,ops[k]? =some o:=⟨_,List.getElem?_eq_getElem (by rw [HLN.out]; omega)⟩
    obtain ⟨ob,oo,rfl,_,_⟩:=HV.out.op (Below.refl _ _) hq
    have hst:=Pst.run_step (cs:=cs) (σ:=Pst.first f (pas.zip ws)) hq
    have hs2:=HSm.out (k+1)
    have hl2:=HLk.out (k+1)
    rw [hst] at hs2 hl2
    refine seen_round W0 w x p kb jb b5 b6 wv iv f _ _ _ _ Ds bv B ob oo n cv k W.heap.size cs o hN HT0.out H2.out HSC.out.c HSC.out.oc hlc (fun ww hb=> ?_) (HO.out o (List.mem_of_getElem? hq)) hlt (by omega) (HSm.out k) hs2 (HLk.out k) hl2 (by exact fun h=>h) (hidW ?_)
    · obtain ⟨_,_,e1,_,d1⟩:=HV.out.op hb hq
      cases e1
      exact d1
    · intros
      rename_i Y Ds' bv' B' hY
      rw [←hst] at hY
      refine ⟨⟨k+1,Ds',bv',B',by omega,rfl,rfl,rfl,rfl,rfl,rfl,rfl,rfl,hY⟩,?_⟩
      show n-((k+1:Nat):Int).toNat<n-(k:Int).toNat
      omega
  · obtain rfl:k=n:=by omega
    have h4:=H4.out.below hN.sm.sg.bel
    have cR:=h4.cell 0
    have fR:=h4.frozen 0
    simp only [List.getElem?_cons_zero] at cR
    have hz0:=HB0.out.size
    have ho:=hN.sm.ord
    have hnw:=hN.sm.sg.new
    have hl4:=H4.out.lt
    have HE:Hid (∀tmps,tmps.getD 4 undef= .pointer (some ⟨W.heap.size+1,0,none⟩)→LeavesInM Fence.wide 3 Tryz.prog Tryz.f3 tmps (fun e w'=>e= .returned (.bool true)∧Below W.heap.size W w') (Ds.map mk) .returning (w.setCell ⟨W.heap.size+1,0,none⟩ (.bool true))):=by
      refine hidW (fun tmps ht=>leaves_rets (q:=4) rfl tmps W (W.heap.size+1) ht Ds _ hN.sm.pw (fun D hD=>⟨by have:=(hN.sm.mark D hD).1; omega,set_at _ (hN.sm.mark D hD).2 (by have:=(hN.sm.mark D hD).1; omega)⟩) (h4.set 0 _) ?_)
      exact (Below.step HB0.out hN.sm.sg.bel).setCell (by show W.heap.size≤W.heap.size+1; omega) _
    clear hN h4
    go_wp2
    refine NoPanic.ret ?_
    rw [←HQ.out]
    exact HE.out _ rfl
end Go.Proofs.YtnjlajjjcmhfgaaGreatDoor
