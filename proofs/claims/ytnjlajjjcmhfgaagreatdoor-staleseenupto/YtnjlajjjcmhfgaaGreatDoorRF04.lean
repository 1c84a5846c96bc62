import Derived.Test.YtnjlajjjcmhfgaaGreatDoorRF01
import Derived.Test.YtnjlajjjcmhfgaaGreatDoorRF02
import Derived.Test.YtnjlajjjcmhfgaaGreatDoorRF03
namespace Go.Proofs.YtnjlajjjcmhfgaaGreatDoor
open Go.RowKit Go.Shelf
open Mm (Turn gr RM valV errV Byts setV RowAt)
set_option linter.unusedVariables false
set_option linter.unusedSimpArgs false
attribute [local go_sem] Oper.semAt_some
theorem own_mono {w:World} {lo lo':Nat} {v:Value} {L:List Blo} (h:w.ownsRow lo 45 9 v L.length (rowG encB L)) (hl:lo'≤lo):w.ownsRow lo' 45 9 v L.length (rowG encB L):=by
  obtain ⟨h1,h2⟩:=h
  refine ⟨h1,h2.imp id ?_⟩
  rintro ⟨g,cap,cur,e,h3,h4⟩
  exact ⟨g,cap,cur,e,Nat.le_trans hl h3,h4⟩
theorem own_kept {w w':World} {lo:Nat} {v:Value} {L:List Blo} (h:w.ownsRow lo 45 9 v L.length (rowG encB L)) (hk:∀g,v.ownBlock=some g→w'.heap[g]? =w.heap[g]?):w'.ownsRow lo 45 9 v L.length (rowG encB L):=by
  obtain ⟨h1,h2⟩:=h
  refine ⟨h1,h2.imp id ?_⟩
  rintro ⟨g,cap,cur,rfl,h3,h4,h5⟩
  exact ⟨g,cap,cur,rfl,h3,(hk g rfl).trans h4,h5⟩
def GS (b5 b6:Nat) (bv:Value) (Ds:List Nat) (b:Nat):Prop:=b=b5∨b=b6∨bv.ownBlock=some b∨b∈Ds
structure SmX (W0 w:World) (x p kb jb b5 b6:Nat) (wv iv:Value) (f:Int) (vp vw vc:Value) (σ:Pst) (Ds:List Nat) (bv:Value) (B:List Blo):Prop where
  sg:SgX (GS b5 b6 bv Ds) W0 w x p kb jb wv iv f vp vw vc σ
  h5:Bl w b5 28 [.pointer (some ⟨x,0,none⟩)]
  rd:RdX w w b6 bv bv B
  ord:x<b5∧p<b5∧kb<b5∧jb<b5∧b5<b6
  mark:∀D∈Ds,b6<D∧w.heap[D]? =some (.deferred (some []))
  pw:Ds.Pairwise (fun a b=>a≠b)
structure SnX (W0 w:World) (x p kb jb b5 b6:Nat) (wv iv:Value) (f:Int) (vp vw vc:Value) (σ:Pst) (Ds:List Nat) (bv:Value) (B:List Blo):Prop where
  sm:SmX W0 w x p kb jb b5 b6 wv iv f vp vw vc σ Ds bv B
  bk:Bk σ.K B
section
variable {W0 w w2 Y:World} {x p kb jb b5 b6:Nat} {wv iv:Value} {f:Int} {vp vw vc:Value} {σ:Pst} {Ds Ds':List Nat} {bv bv':Value} {B B':List Blo}
theorem SmX.hG (h:SmX W0 w x p kb jb b5 b6 wv iv f vp vw vc σ Ds bv B):∀b,(b=b6∨bv.ownBlock=some b)→GS b5 b6 bv Ds b∧b≠x∧b≠p∧W0.heap.size≤b:=by
  intro b hb
  have h1:=h.ord
  have h2:=h.sg.new
  rcases hb with rfl|hb
  · exact ⟨.inr (.inl rfl),by omega,by omega,by omega⟩
  · have h3:=(h.rd.own.lt b hb).1
    exact ⟨.inr (.inr (.inl hb)),by omega,by omega,by omega⟩
theorem SmX.next (h:SmX W0 w x p kb jb b5 b6 wv iv f vp vw vc σ Ds bv B) (hW:TS W0) (hR:RdX w Y b6 bv bv' B') (hD:Ds'=Ds∨∃D,Ds'=D::Ds∧w.heap.size≤D∧Y.heap[D]? =some (.deferred (some []))):SmX W0 Y x p kb jb b5 b6 wv iv f vp vw vc σ Ds' bv' B':=by
  have h1:=h.ord
  have h6:=h.rd.bb.lt
  have hmk:∀D∈Ds,Y.heap[D]? =some (.deferred (some [])):=fun D hD=>by
    obtain ⟨q1,q2⟩:=h.mark D hD
    refine hR.mark q2 (by omega) (fun e=> ?_)
    obtain ⟨t,l,hbl⟩:=h.rd.cells D (.inr e)
    rw [show w.heap[D]? =_ from hbl] at q2
    cases q2
  refine ⟨h.sg.grow hW hR.T h.hG (fun b hb=> ?_),hR.keep h.h5 (by omega) (fun e=> ?_),hR.self,h.ord,fun D hD'=> ?_,?_⟩
  · rcases hb with rfl|rfl|hb|hb
    · exact .inl (.inl rfl)
    · exact .inl (.inr (.inl rfl))
    · rcases hR.nb b hb with h2|h2
      · exact .inl (.inr (.inr (.inl h2)))
      · exact .inr ⟨h2,(hR.own.lt b hb).2⟩
    · rcases hD with rfl|⟨D,rfl,h2,h3⟩
      · exact .inl (.inr (.inr (.inr hb)))
      · rcases List.mem_cons.1 hb with rfl|hb
        · exact .inr ⟨h2,(Array.getElem?_eq_some_iff.1 h3).1⟩
        · exact .inl (.inr (.inr (.inr hb)))
  · have:=(h.rd.own.lt b5 e).1
    omega
  · rcases hD with rfl|⟨D0,rfl,h2,h3⟩
    · exact ⟨(h.mark D hD').1,hmk D hD'⟩
    · rcases List.mem_cons.1 hD' with rfl|hD'
      · exact ⟨by omega,h3⟩
      · exact ⟨(h.mark D hD').1,hmk D hD'⟩
  · rcases hD with rfl|⟨D0,rfl,h2,h3⟩
    · exact h.pw
    · refine List.pairwise_cons.2 ⟨fun E hE=> ?_,h.pw⟩
      have:=(Array.getElem?_eq_some_iff.1 (h.mark E hE).2).1
      omega
theorem SmX.below (h:SmX W0 w x p kb jb b5 b6 wv iv f vp vw vc σ Ds bv B) (hW:TS W0) (hb:Below w.heap.size w Y):SmX W0 Y x p kb jb b5 b6 wv iv f vp vw vc σ Ds bv B:=h.next hW (h.rd.below hb) (.inl rfl)
theorem SnX.below (h:SnX W0 w x p kb jb b5 b6 wv iv f vp vw vc σ Ds bv B) (hW:TS W0) (hb:Below w.heap.size w Y):SnX W0 Y x p kb jb b5 b6 wv iv f vp vw vc σ Ds bv B:=⟨h.sm.below hW hb,h.bk⟩
end
def seE (f:Func):Code:=sq2 (sq2 (sq2 (seC f)))
def seT (f:Func):Code:=sq2 (sq2 (seE f))
set_option maxRecDepth 1000000 in
set_option maxHeartbeats 16000000 in
theorem seen_tail {Q:Exit→Act→World→Prop} {v0 v1 v2 v3 v4 v7 v8 v9 v10 v11 v12 v13 v14 v15 v16 v17 v18 v19 v20 v21 v22 v23 v24 v25 v26 v27 v28 v29 v30 v31 v32 v33 v34 v35 v36 v37 v38 v39 v40 v41 v42 v43 v44 v45 v46 v47 v48 v49 v50 v51 v52 v53 v54 v55 v56 v57 v58 v59 v60 v61 v62 v63 v64 v65 v66 v67 v68 v69 v70 v71 v72 v73 v74 v75 v76 v77 v78 v79 v80 v81 v82 v83 v84 v85 v86 v87 v88 v89 v90 v91 v92 v93 v94 v95 v96 v97 v98 v99 v100 v101 v102 v103 v104 v105 v106 v107 v108 v109 v110 v111 v112 v113 v114 v115 v116 v117 v118 v119 v120 v121 v122 v123 v124 v125 v126 v127 v128 v129 v130 v131 v132 v133 v134 v135 v136 v137 v138 v139 v140 v141 v142 v143 v144 v145 v146 v147 v148 v149 v150 v151 v152 v153 v154 v155 v156 v157 v158 v159 v160 v161 v162 v163 v164 v165 v166 v167 v168 v169 v170 v171 v172 v173 v174 v175 v176 v177 v178 v179 v180 v181 v182 v183 v184 v185 v186 v187 v188 v189 v190 v191 v192 v193 v194 v195 v196:Value} (ds:List Deferred) (W0 w:World) (x p kb jb b5 b6:Nat) (wv iv:Value) (f:Int) (vp vw vc:Value) (σ:Pst) (Ds:List Nat) (bv:Value) (B:List Blo) (h:SnX W0 w x p kb jb b5 b6 wv iv f vp vw vc σ Ds bv B) (hW:TS W0) (hs:Sml σ) (hl:σ.K.length≤1099511627776) (hpan:∀ {c:List PanicEntry} {a:Act} {d:Option Tmp} {v:Value} {w:World},Q (.panic c) (a.put d v) w→Q (.panic c) a w)
    (HQ:Hid (∀ {u18 u19 u158 u159 u160 u161 u162 u163 u164 u165 u166 u167 u168 u169 u170 u171 u172 u173 u174 u175 u176 u177 u178 u179 u180 u181 u182 u183 u184 u185 u186 u187 u188 u189 u190 u191 u192 u193 u194 u195 u196:Value} {Y:World},SnX W0 Y x p kb jb b5 b6 wv iv f vp vw vc σ Ds bv B→Q .normal ⟨(v0::v1::v2::v3::v4::(.pointer (some ⟨b5,0,none⟩))::(.pointer (some ⟨b6,0,none⟩))::v7::v8::v9::v10::v11::v12::v13::v14::v15::v16::v17::u18::u19::v20::v21::v22::v23::v24::v25::v26::v27::v28::v29::v30::v31::v32::v33::v34::v35::v36::v37::v38::v39::v40::v41::v42::v43::v44::v45::v46::v47::v48::v49::v50::v51::v52::v53::v54::v55::v56::v57::v58::v59::v60::v61::v62::v63::v64::v65::v66::v67::v68::v69::v70::v71::v72::v73::v74::v75::v76::v77::v78::v79::v80::v81::v82::v83::v84::v85::v86::v87::v88::v89::v90::v91::v92::v93::v94::v95::v96::v97::v98::v99::v100::v101::v102::v103::v104::v105::v106::v107::v108::v109::v110::v111::v112::v113::v114::v115::v116::v117::v118::v119::v120::v121::v122::v123::v124::v125::v126::v127::v128::v129::v130::v131::v132::v133::v134::v135::v136::v137::v138::v139::v140::v141::v142::v143::v144::v145::v146::v147::v148::v149::v150::v151::v152::v153::v154::v155::v156::v157::u158::u159::u160::u161::u162::u163::u164::u165::u166::u167::u168::u169::u170::u171::u172::u173::u174::u175::u176::u177::u178::u179::u180::u181::u182::u183::u184::u185::u186::u187::u188::u189::u190::u191::u192::u193::u194::u195::u196::[]).toArray,ds⟩ Y)) :
    (seT Tryz.f3).wp Tryz.prog Q ⟨(v0::v1::v2::v3::v4::(.pointer (some ⟨b5,0,none⟩))::(.pointer (some ⟨b6,0,none⟩))::v7::v8::v9::v10::v11::v12::v13::v14::v15::v16::v17::v18::v19::v20::v21::v22::v23::v24::v25::v26::v27::v28::v29::v30::v31::v32::v33::v34::v35::v36::v37::v38::v39::v40::v41::v42::v43::v44::v45::v46::v47::v48::v49::v50::v51::v52::v53::v54::v55::v56::v57::v58::v59::v60::v61::v62::v63::v64::v65::v66::v67::v68::v69::v70::v71::v72::v73::v74::v75::v76::v77::v78::v79::v80::v81::v82::v83::v84::v85::v86::v87::v88::v89::v90::v91::v92::v93::v94::v95::v96::v97::v98::v99::v100::v101::v102::v103::v104::v105::v106::v107::v108::v109::v110::v111::v112::v113::v114::v115::v116::v117::v118::v119::v120::v121::v122::v123::v124::v125::v126::v127::v128::v129::v130::v131::v132::v133::v134::v135::v136::v137::v138::v139::v140::v141::v142::v143::v144::v145::v146::v147::v148::v149::v150::v151::v152::v153::v154::v155::v156::v157::v158::v159::v160::v161::v162::v163::v164::v165::v166::v167::v168::v169::v170::v171::v172::v173::v174::v175::v176::v177::v178::v179::v180::v181::v182::v183::v184::v185::v186::v187::v188::v189::v190::v191::v192::v193::v194::v195::v196::[]).toArray,ds⟩ w:=by
  have HX:=hidW h
  have HS:=hidW hs
  have c5:=h.sm.h5.cell 0
  have c4:=h.sm.sg.box.cell 4
  have c6:=h.sm.rd.bb.cell 0
  simp only [List.getElem?_cons_succ,List.getElem?_cons_zero] at c5 c4 c6
  have HKn:=hidW (h.sm.sg.tk.known hs.known)
  have HLen:=hidW (h.bk.len hs.ok.ri.nodup)
  have hlB:B.length≤1099511627776:=by rw [←HLen.out]; exact hl
  obtain ⟨ba,cb,ebv⟩:=h.sm.rd.sli.form
  clear h hs
  conv=>arg 2; whnf
  go_wp2_with fail
  go_at_call 20
  refine HKn.out.mono ?_
  rintro e w1 ⟨v,rfl,hL,hb1⟩
  have HSl:=hidW (Sli.of (k:=9) (fun _=>rfl) hL)
  obtain ⟨ka,ck,rfl⟩:=hL.form
  have HX1:=hidW (HX.out.below hW hb1)
  have c6:=HX1.out.sm.rd.bb.cell 0
  simp only [List.getElem?_cons_zero] at c6
  rw [ebv] at c6
  clear hL hb1 HKn c5 c4
  generalize hk:σ.K.length=nk at *
  rw [←HLen.out] at c6
  have HLK:=hidW hk
  clear hk
  go_wp2_with fail
  refine seen_known ds w1 b6 nk ck ka bv B σ.K HX1.out.sm.rd.bb HX1.out.sm.rd.sli HSl.out HLK.out HS.out.ok.ri (fun b hb=>(HX1.out.bk.iff b).2 hb) hlB hl (by exact fun h=>hpan h) (hidW ?_)
  intros
  rename_i w2 hb2
  have HX2:=hidW (HX1.out.below hW hb2)
  clear hb2 c6
  go_wp2
  exact HQ.out HX2.out
set_option maxRecDepth 1000000 in
set_option maxHeartbeats 16000000 in
theorem seen_pre {Q:Exit→Act→World→Prop} {v0 v3 v4 v8 v9 v10 v11 v12 v13 v14 v15 v16 v17 v18 v19 v20 v21 v22 v23 v24 v25 v26 v27 v28 v29 v30 v31 v32 v33 v34 v35 v36 v37 v38 v39 v40 v41 v42 v43 v44 v45 v46 v47 v48 v49 v50 v51 v52 v53 v54 v55 v56 v57 v58 v59 v60 v61 v62 v63 v64 v65 v66 v67 v68 v69 v70 v71 v72 v73 v74 v75 v76 v77 v78 v79 v80 v81 v82 v83 v84 v85 v86 v87 v88 v89 v90 v91 v92 v93 v94 v95 v96 v97 v98 v99 v100 v101 v102 v103 v104 v105 v106 v107 v108 v109 v110 v111 v112 v113 v114 v115 v116 v117 v118 v119 v120 v121 v122 v123 v124 v125 v126 v127 v128 v129 v130 v131 v132 v133 v134 v135 v136 v137 v138 v139 v140 v141 v142 v143 v144 v145 v146 v147 v148 v149 v150 v151 v152 v153 v154 v155 v156 v157 v158 v159 v160 v161 v162 v163 v164 v165 v166 v167 v168 v169 v170 v171 v172 v173 v174 v175 v176 v177 v178 v179 v180 v181 v182 v183 v184 v185 v186 v187 v188 v189 v190 v191 v192 v193 v194 v195 v196:Value} (ds:List Deferred) (W0 w:World) (x p kb jb b5 b6:Nat) (wv iv:Value) (f:Int) (vp vw vc:Value) (σ:Pst) (Ds:List Nat) (bv:Value) (B:List Blo) (ob oo n co k b2 nc cc:Nat) (ca:Option Addr) (cs:List Ctx) (o:Oq) (h:SmX W0 w x p kb jb b5 b6 wv iv f vp vw vc σ Ds bv B) (hvc:vc= .slice ca nc cc) (hW:TS W0) (h2:Bl W0 b2 26 [.int .i64 f,vp,vw,vc]) (hcs:Sli encC 12 W0 vc cs) (hok:∀c∈cs,c.Ok) (hln:cs.length≤4611686018427387904) (hop:∀ww,Below W0.heap.size W0 ww→ww.cell? ⟨ob,oo+k*9,none⟩=some (.int .i64 o.kind)∧ww.cell? ⟨ob,oo+k*9+1,none⟩=some (.int .i64 o.nr)∧ww.cell? ⟨ob,oo+k*9+2,none⟩=some (.int .i64 o.d.kind)∧ww.cell? ⟨ob,oo+k*9+3,none⟩=some (.int .u32 o.d.va)∧ww.cell? ⟨ob,oo+k*9+4,none⟩=some (.int .i64 o.d.asid)∧ww.cell? ⟨ob,oo+k*9+5,none⟩=some (.int .u64 o.pa)∧ww.cell? ⟨ob,oo+k*9+6,none⟩=some (.int .u32 o.w)∧ww.cell? ⟨ob,oo+k*9+7,none⟩=some (.int .i64 o.asid)∧ww.cell? ⟨ob,oo+k*9+8,none⟩=some (.int .u32 o.va)) (ho:o.Ok) (hkn:k<n) (hn:n≤4611686018427387904) (hl:σ.K.length≤1099511627776) (hpan:∀ {c:List PanicEntry} {a:Act} {d:Option Tmp} {v:Value} {w:World},Q (.panic c) (a.put d v) w→Q (.panic c) a w)
    (HQ:Hid (∀ {u34 u35 u36 u37 u38 u39 u40 u41 u42 u43:Value} {w2:World} {b8:Nat},SmX W0 w2 x p kb jb b5 b6 wv iv f vp vw vc (σ.step cs o) Ds bv B→Bl w2 b8 37 ([.int .i64 o.kind,.int .i64 o.nr,.int .i64 o.d.kind,.int .u32 o.d.va,.int .i64 o.d.asid,.int .u64 o.pa,.int .u32 o.w,.int .i64 o.asid,.int .u32 o.va])→(b8≠b6∧bv.ownBlock≠some b8)→(seE Tryz.f3).wp Tryz.prog Q ⟨(v0::(.slice (some ⟨ob,oo,none⟩) n co)::(.pointer (some ⟨b2,0,none⟩))::v3::v4::(.pointer (some ⟨b5,0,none⟩))::(.pointer (some ⟨b6,0,none⟩))::(.int .i64 (k:Int))::(.pointer (some ⟨b8,0,none⟩))::(.int .i64 (nc:Int))::v10::v11::v12::v13::v14::v15::v16::v17::v18::v19::v20::v21::v22::v23::v24::v25::v26::v27::v28::v29::v30::v31::v32::v33::u34::u35::u36::u37::u38::u39::u40::u41::u42::u43::v44::v45::v46::v47::v48::v49::v50::v51::v52::v53::v54::v55::v56::v57::v58::v59::v60::v61::v62::v63::v64::v65::v66::v67::v68::v69::v70::v71::v72::v73::v74::v75::v76::v77::v78::v79::v80::v81::v82::v83::v84::v85::v86::v87::v88::v89::v90::v91::v92::v93::v94::v95::v96::v97::v98::v99::v100::v101::v102::v103::v104::v105::v106::v107::v108::v109::v110::v111::v112::v113::v114::v115::v116::v117::v118::v119::v120::v121::v122::v123::v124::v125::v126::v127::v128::v129::v130::v131::v132::v133::v134::v135::v136::v137::v138::v139::v140::v141::v142::v143::v144::v145::v146::v147::v148::v149::v150::v151::v152::v153::v154::v155::v156::v157::v158::v159::v160::v161::v162::v163::v164::v165::v166::v167::v168::v169::v170::v171::v172::v173::v174::v175::v176::v177::v178::v179::v180::v181::v182::v183::v184::v185::v186::v187::v188::v189::v190::v191::v192::v193::v194::v195::v196::[]).toArray,ds⟩ w2)) :
    (seC Tryz.f3).wp Tryz.prog Q ⟨(v0::(.slice (some ⟨ob,oo,none⟩) n co)::(.pointer (some ⟨b2,0,none⟩))::v3::v4::(.pointer (some ⟨b5,0,none⟩))::(.pointer (some ⟨b6,0,none⟩))::(.int .i64 (k:Int))::v8::v9::v10::v11::v12::v13::v14::v15::v16::v17::v18::v19::v20::v21::v22::v23::v24::v25::v26::v27::v28::v29::v30::v31::v32::v33::v34::v35::v36::v37::v38::v39::v40::v41::v42::v43::v44::v45::v46::v47::v48::v49::v50::v51::v52::v53::v54::v55::v56::v57::v58::v59::v60::v61::v62::v63::v64::v65::v66::v67::v68::v69::v70::v71::v72::v73::v74::v75::v76::v77::v78::v79::v80::v81::v82::v83::v84::v85::v86::v87::v88::v89::v90::v91::v92::v93::v94::v95::v96::v97::v98::v99::v100::v101::v102::v103::v104::v105::v106::v107::v108::v109::v110::v111::v112::v113::v114::v115::v116::v117::v118::v119::v120::v121::v122::v123::v124::v125::v126::v127::v128::v129::v130::v131::v132::v133::v134::v135::v136::v137::v138::v139::v140::v141::v142::v143::v144::v145::v146::v147::v148::v149::v150::v151::v152::v153::v154::v155::v156::v157::v158::v159::v160::v161::v162::v163::v164::v165::v166::v167::v168::v169::v170::v171::v172::v173::v174::v175::v176::v177::v178::v179::v180::v181::v182::v183::v184::v185::v186::v187::v188::v189::v190::v191::v192::v193::v194::v195::v196::[]).toArray,ds⟩ w:=by
  have hkz:(k:Int)<(n:Int):=by omega
  obtain ⟨k0,k1,k2,k3,k4,k5,k6,k7,k8⟩:=hop w h.sg.bel
  have hb8:=below_new w (.cells ([.int .i64 o.kind,.int .i64 o.nr,.int .i64 o.d.kind,.int .u32 o.d.va,.int .i64 o.d.asid,.int .u64 o.pa,.int .u32 o.w,.int .i64 o.asid,.int .u32 o.va]).toArray 37)
  have hx8:SgX (fun b=>GS b5 b6 bv Ds b∨b=w.heap.size) W0 (w.alloc (.cells ([.int .i64 o.kind,.int .i64 o.nr,.int .i64 o.d.kind,.int .u32 o.d.va,.int .i64 o.d.asid,.int .u64 o.pa,.int .u32 o.w,.int .i64 o.asid,.int .u32 o.va]).toArray 37)) x p kb jb wv iv f vp vw vc σ:=h.sg.more hb8 (fun b hb=>hb.imp id (fun e=>by subst e; exact ⟨Nat.le_refl _,by simp⟩))
  have HSt:=hidW (step_any hx8 hW cs hcs hok hln o ho (by omega))
  have H:=hidW h
  have H8:=hidW (Bl.new w 37 ([.int .i64 o.kind,.int .i64 o.nr,.int .i64 o.d.kind,.int .u32 o.d.va,.int .i64 o.d.asid,.int .u64 o.pa,.int .u32 o.w,.int .i64 o.asid,.int .u32 o.va]))
  have H2:=hidW h2
  have c5:=(h.h5.below hb8).cell 0
  simp only [List.getElem?_cons_zero] at c5
  have cO:=(Bl.new w 37 ([.int .i64 o.kind,.int .i64 o.nr,.int .i64 o.d.kind,.int .u32 o.d.va,.int .i64 o.d.asid,.int .u64 o.pa,.int .u32 o.w,.int .i64 o.asid,.int .u32 o.va])).cell
  have hz6:=h.rd.bb.lt
  have HGk:Hid (∀b,GS b5 b6 bv Ds b→b<w.heap.size):=fun b hb=>(h.sg.gl b hb).1
  have HE:Hid (∀a w,(seE Tryz.f3).wp Tryz.prog Q a w→(seE Tryz.f3).wp Tryz.prog Q a w):=fun _ _ h=>h
  clear h h2 hx8 hop hcs hok
  conv=>arg 2; whnf
  refine wp_cut 3 _ (seE Tryz.f3) (by kernel_rfl) (fun C hC=> ?_)
  have HC:=hidW hC
  clear hC HE
  simp only [putTail]
  go_wp2_with (first
    | (go_at_call 11; refine HSt.out.mono ?_; rintro e w2 ⟨rfl,g1,g2⟩; have HX2:=hidW g1; have HK2:=hidW g2; have c3:=(H2.out.below g1.bel).cell 3; simp only [List.getElem?_cons_succ,List.getElem?_cons_zero] at c3; rw [hvc] at c3; clear g1 g2))
  refine HC.out _ _ ?_
  have hkeep:∀b,GS b5 b6 bv Ds b→w2.heap[b]? =w.heap[b]? :=fun b hb=>(HK2.out b (.inl hb)).trans (hb8.block b (HGk.out b hb))
  refine HQ.out ⟨HX2.out.more (Below.refl _ _) (fun b hb=> .inl (.inl hb)),(hkeep b5 (.inl rfl)).trans H.out.h5,⟨Turn.refl _ _,(hkeep b6 (.inr (.inl rfl))).trans H.out.rd.bb,own_kept H.out.rd.own (fun g hg=>hkeep g (.inr (.inr (.inl hg)))),fun g hg=> .inl hg⟩,H.out.ord,fun D hD=>⟨(H.out.mark D hD).1,(hkeep D (.inr (.inr (.inr hD)))).trans (H.out.mark D hD).2⟩,H.out.pw⟩ ((HK2.out _ (.inr rfl)).trans H8.out) ⟨by omega,fun e=> ?_⟩
  have:=(H.out.rd.own.lt _ e).2
  omega
end Go.Proofs.YtnjlajjjcmhfgaaGreatDoor
namespace Go.Proofs.YtnjlajjjcmhfgaaGreatDoor
open Go.RowKit Go.Shelf
open Mm (Turn gr RM valV errV Byts setV RowAt)
set_option linter.unusedVariables false
set_option linter.unusedSimpArgs false
attribute [local go_sem] Oper.semAt_some
set_option maxRecDepth 1000000 in
set_option maxHeartbeats 16000000 in
theorem seen_e0 {Q:Exit→Act→World→Prop} {v0 v1 v3 v4 v7 v10 v11 v12 v13 v14 v15 v16 v17 v18 v19 v20 v21 v22 v23 v24 v25 v26 v27 v28 v29 v30 v31 v32 v33 v34 v35 v36 v37 v38 v39 v40 v41 v42 v43 v44 v45 v46 v47 v48 v49 v50 v51 v52 v53 v54 v55 v56 v57 v58 v59 v60 v61 v62 v63 v64 v65 v66 v67 v68 v69 v70 v71 v72 v73 v74 v75 v76 v77 v78 v79 v80 v81 v82 v83 v84 v85 v86 v87 v88 v89 v90 v91 v92 v93 v94 v95 v96 v97 v98 v99 v100 v101 v102 v103 v104 v105 v106 v107 v108 v109 v110 v111 v112 v113 v114 v115 v116 v117 v118 v119 v120 v121 v122 v123 v124 v125 v126 v127 v128 v129 v130 v131 v132 v133 v134 v135 v136 v137 v138 v139 v140 v141 v142 v143 v144 v145 v146 v147 v148 v149 v150 v151 v152 v153 v154 v155 v156 v157 v158 v159 v160 v161 v162 v163 v164 v165 v166 v167 v168 v169 v170 v171 v172 v173 v174 v175 v176 v177 v178 v179 v180 v181 v182 v183 v184 v185 v186 v187 v188 v189 v190 v191 v192 v193 v194 v195 v196:Value} (W0 w:World) (x p kb jb b5 b6:Nat) (wv iv:Value) (f:Int) (vp vw vc:Value) (σ:Pst) (Ds:List Nat) (bv:Value) (B:List Blo) (b2 b8 nc:Nat) (o:Oq) (h:SmX W0 w x p kb jb b5 b6 wv iv f vp vw vc σ Ds bv B) (h8:Bl w b8 37 ([.int .i64 o.kind,.int .i64 o.nr,.int .i64 o.d.kind,.int .u32 o.d.va,.int .i64 o.d.asid,.int .u64 o.pa,.int .u32 o.w,.int .i64 o.asid,.int .u32 o.va])) (hb8:b8≠b6∧bv.ownBlock≠some b8) (hW:TS W0) (hs:Sml σ) (hl:σ.K.length≤1099511627776) (hlB:B.length≤1099511627776) (hb:Bk σ.K B) (hk2:(o.kind == 2)=false) (hk1:(o.kind == 1)=false∨((o.kind == 1)=true∧nc=0)) (hpan:∀ {c:List PanicEntry} {a:Act} {d:Option Tmp} {v:Value} {w:World},Q (.panic c) (a.put d v) w→Q (.panic c) a w)
    (HQ:Hid (∀ {u10 u11 u12 u13 u14 u15 u16 u17 u18 u19 u44 u45 u46 u47 u48 u49 u50 u51 u52 u53 u54 u55 u56 u57 u58 u59 u60 u61 u62 u63 u64 u65 u66 u67 u68 u69 u70 u71 u72 u73 u74 u75 u76 u77 u78 u79 u80 u81 u82 u83 u84 u85 u86 u87 u88 u89 u90 u91 u92 u93 u94 u95 u96 u97 u98 u99 u100 u101 u102 u103 u104 u105 u106 u107 u108 u109 u110 u111 u112 u113 u114 u115 u116 u117 u118 u119 u120 u121 u122 u123 u124 u125 u126 u127 u128 u129 u130 u131 u132 u133 u134 u135 u136 u137 u138 u139 u140 u141 u142 u143 u144 u145 u146 u147 u148 u149 u150 u151 u152 u153 u154 u155 u156 u157 u158 u159 u160 u161 u162 u163 u164 u165 u166 u167 u168 u169 u170 u171 u172 u173 u174 u175 u176 u177 u178 u179 u180 u181 u182 u183 u184 u185 u186 u187 u188 u189 u190 u191 u192 u193 u194 u195 u196:Value} {Y:World} {Ds':List Nat} {bv':Value} {B':List Blo},SnX W0 Y x p kb jb b5 b6 wv iv f vp vw vc σ Ds' bv' B'→Q .normal ⟨(v0::v1::(.pointer (some ⟨b2,0,none⟩))::v3::v4::(.pointer (some ⟨b5,0,none⟩))::(.pointer (some ⟨b6,0,none⟩))::v7::(.pointer (some ⟨b8,0,none⟩))::(.int .i64 (nc:Int))::u10::u11::u12::u13::u14::u15::u16::u17::u18::u19::v20::v21::v22::v23::v24::v25::v26::v27::v28::v29::v30::v31::v32::v33::v34::v35::v36::v37::v38::v39::v40::v41::v42::v43::u44::u45::u46::u47::u48::u49::u50::u51::u52::u53::u54::u55::u56::u57::u58::u59::u60::u61::u62::u63::u64::u65::u66::u67::u68::u69::u70::u71::u72::u73::u74::u75::u76::u77::u78::u79::u80::u81::u82::u83::u84::u85::u86::u87::u88::u89::u90::u91::u92::u93::u94::u95::u96::u97::u98::u99::u100::u101::u102::u103::u104::u105::u106::u107::u108::u109::u110::u111::u112::u113::u114::u115::u116::u117::u118::u119::u120::u121::u122::u123::u124::u125::u126::u127::u128::u129::u130::u131::u132::u133::u134::u135::u136::u137::u138::u139::u140::u141::u142::u143::u144::u145::u146::u147::u148::u149::u150::u151::u152::u153::u154::u155::u156::u157::u158::u159::u160::u161::u162::u163::u164::u165::u166::u167::u168::u169::u170::u171::u172::u173::u174::u175::u176::u177::u178::u179::u180::u181::u182::u183::u184::u185::u186::u187::u188::u189::u190::u191::u192::u193::u194::u195::u196::[]).toArray,Ds'.map mk⟩ Y)) :
    (seE Tryz.f3).wp Tryz.prog Q ⟨(v0::v1::(.pointer (some ⟨b2,0,none⟩))::v3::v4::(.pointer (some ⟨b5,0,none⟩))::(.pointer (some ⟨b6,0,none⟩))::v7::(.pointer (some ⟨b8,0,none⟩))::(.int .i64 (nc:Int))::v10::v11::v12::v13::v14::v15::v16::v17::v18::v19::v20::v21::v22::v23::v24::v25::v26::v27::v28::v29::v30::v31::v32::v33::v34::v35::v36::v37::v38::v39::v40::v41::v42::v43::v44::v45::v46::v47::v48::v49::v50::v51::v52::v53::v54::v55::v56::v57::v58::v59::v60::v61::v62::v63::v64::v65::v66::v67::v68::v69::v70::v71::v72::v73::v74::v75::v76::v77::v78::v79::v80::v81::v82::v83::v84::v85::v86::v87::v88::v89::v90::v91::v92::v93::v94::v95::v96::v97::v98::v99::v100::v101::v102::v103::v104::v105::v106::v107::v108::v109::v110::v111::v112::v113::v114::v115::v116::v117::v118::v119::v120::v121::v122::v123::v124::v125::v126::v127::v128::v129::v130::v131::v132::v133::v134::v135::v136::v137::v138::v139::v140::v141::v142::v143::v144::v145::v146::v147::v148::v149::v150::v151::v152::v153::v154::v155::v156::v157::v158::v159::v160::v161::v162::v163::v164::v165::v166::v167::v168::v169::v170::v171::v172::v173::v174::v175::v176::v177::v178::v179::v180::v181::v182::v183::v184::v185::v186::v187::v188::v189::v190::v191::v192::v193::v194::v195::v196::[]).toArray,Ds.map mk⟩ w:=by
  have H:=hidW h
  have HBk:=hidW hb
  have c0:=h8.cell 0
  simp only [List.getElem?_cons_zero] at c0
  clear h hb h8
  conv=>arg 2; whnf
  refine wp_cut 2 _ (seT Tryz.f3) (by kernel_rfl) (fun C hC=> ?_)
  have HC:=hidW hC
  clear hC
  simp only [putTail]
  rcases hk1 with hk1|⟨hk1,rfl⟩
  · go_wp2_with fail
    refine HC.out _ _ ?_
    refine seen_tail _ W0 _ x p kb jb b5 b6 wv iv f vp vw vc σ Ds bv B ⟨H.out,HBk.out⟩ hW hs hl (by exact fun h=>hpan h) (hidW ?_)
    intros
    rename_i Y9 hY9
    exact HQ.out hY9
  · go_wp2_with fail
    refine HC.out _ _ ?_
    refine seen_tail _ W0 _ x p kb jb b5 b6 wv iv f vp vw vc σ Ds bv B ⟨H.out,HBk.out⟩ hW hs hl (by exact fun h=>hpan h) (hidW ?_)
    intros
    rename_i Y9 hY9
    exact HQ.out hY9
set_option maxRecDepth 1000000 in
set_option maxHeartbeats 16000000 in
theorem seen_e2 {Q:Exit→Act→World→Prop} {v0 v1 v3 v4 v7 v10 v11 v12 v13 v14 v15 v16 v17 v18 v19 v20 v21 v22 v23 v24 v25 v26 v27 v28 v29 v30 v31 v32 v33 v34 v35 v36 v37 v38 v39 v40 v41 v42 v43 v44 v45 v46 v47 v48 v49 v50 v51 v52 v53 v54 v55 v56 v57 v58 v59 v60 v61 v62 v63 v64 v65 v66 v67 v68 v69 v70 v71 v72 v73 v74 v75 v76 v77 v78 v79 v80 v81 v82 v83 v84 v85 v86 v87 v88 v89 v90 v91 v92 v93 v94 v95 v96 v97 v98 v99 v100 v101 v102 v103 v104 v105 v106 v107 v108 v109 v110 v111 v112 v113 v114 v115 v116 v117 v118 v119 v120 v121 v122 v123 v124 v125 v126 v127 v128 v129 v130 v131 v132 v133 v134 v135 v136 v137 v138 v139 v140 v141 v142 v143 v144 v145 v146 v147 v148 v149 v150 v151 v152 v153 v154 v155 v156 v157 v158 v159 v160 v161 v162 v163 v164 v165 v166 v167 v168 v169 v170 v171 v172 v173 v174 v175 v176 v177 v178 v179 v180 v181 v182 v183 v184 v185 v186 v187 v188 v189 v190 v191 v192 v193 v194 v195 v196:Value} (W0 w:World) (x p kb jb b5 b6:Nat) (wv iv:Value) (f:Int) (vp vw vc:Value) (σ:Pst) (Ds:List Nat) (bv:Value) (B:List Blo) (b2 b8 nc:Nat) (o:Oq) (h:SmX W0 w x p kb jb b5 b6 wv iv f vp vw vc σ Ds bv B) (h8:Bl w b8 37 ([.int .i64 o.kind,.int .i64 o.nr,.int .i64 o.d.kind,.int .u32 o.d.va,.int .i64 o.d.asid,.int .u64 o.pa,.int .u32 o.w,.int .i64 o.asid,.int .u32 o.va])) (hb8:b8≠b6∧bv.ownBlock≠some b8) (hW:TS W0) (hs:Sml σ) (hl:σ.K.length≤1099511627776) (hlB:B.length≤1099511627776) (B0:List Blo) (K0:List Blo) (hB:B=B0) (hb:Bk σ.K (B.filter fun b=> !tkF o.d b)) (hk2:(o.kind == 2)=true) (hk1:(o.kind == 1)=false) (hO:∀b∈B,BOk b) (hd:0≤o.d.va∧o.d.va<4294967296) (hpan:∀ {c:List PanicEntry} {a:Act} {d:Option Tmp} {v:Value} {w:World},Q (.panic c) (a.put d v) w→Q (.panic c) a w)
    (HQ:Hid (∀ {u10 u11 u12 u13 u14 u15 u16 u17 u18 u19 u44 u45 u46 u47 u48 u49 u50 u51 u52 u53 u54 u55 u56 u57 u58 u59 u60 u61 u62 u63 u64 u65 u66 u67 u68 u69 u70 u71 u72 u73 u74 u75 u76 u77 u78 u79 u80 u81 u82 u83 u84 u85 u86 u87 u88 u89 u90 u91 u92 u93 u94 u95 u96 u97 u98 u99 u100 u101 u102 u103 u104 u105 u106 u107 u108 u109 u110 u111 u112 u113 u114 u115 u116 u117 u118 u119 u120 u121 u122 u123 u124 u125 u126 u127 u128 u129 u130 u131 u132 u133 u134 u135 u136 u137 u138 u139 u140 u141 u142 u143 u144 u145 u146 u147 u148 u149 u150 u151 u152 u153 u154 u155 u156 u157 u158 u159 u160 u161 u162 u163 u164 u165 u166 u167 u168 u169 u170 u171 u172 u173 u174 u175 u176 u177 u178 u179 u180 u181 u182 u183 u184 u185 u186 u187 u188 u189 u190 u191 u192 u193 u194 u195 u196:Value} {Y:World} {Ds':List Nat} {bv':Value} {B':List Blo},SnX W0 Y x p kb jb b5 b6 wv iv f vp vw vc σ Ds' bv' B'→Q .normal ⟨(v0::v1::(.pointer (some ⟨b2,0,none⟩))::v3::v4::(.pointer (some ⟨b5,0,none⟩))::(.pointer (some ⟨b6,0,none⟩))::v7::(.pointer (some ⟨b8,0,none⟩))::(.int .i64 (nc:Int))::u10::u11::u12::u13::u14::u15::u16::u17::u18::u19::v20::v21::v22::v23::v24::v25::v26::v27::v28::v29::v30::v31::v32::v33::v34::v35::v36::v37::v38::v39::v40::v41::v42::v43::u44::u45::u46::u47::u48::u49::u50::u51::u52::u53::u54::u55::u56::u57::u58::u59::u60::u61::u62::u63::u64::u65::u66::u67::u68::u69::u70::u71::u72::u73::u74::u75::u76::u77::u78::u79::u80::u81::u82::u83::u84::u85::u86::u87::u88::u89::u90::u91::u92::u93::u94::u95::u96::u97::u98::u99::u100::u101::u102::u103::u104::u105::u106::u107::u108::u109::u110::u111::u112::u113::u114::u115::u116::u117::u118::u119::u120::u121::u122::u123::u124::u125::u126::u127::u128::u129::u130::u131::u132::u133::u134::u135::u136::u137::u138::u139::u140::u141::u142::u143::u144::u145::u146::u147::u148::u149::u150::u151::u152::u153::u154::u155::u156::u157::u158::u159::u160::u161::u162::u163::u164::u165::u166::u167::u168::u169::u170::u171::u172::u173::u174::u175::u176::u177::u178::u179::u180::u181::u182::u183::u184::u185::u186::u187::u188::u189::u190::u191::u192::u193::u194::u195::u196::[]).toArray,Ds'.map mk⟩ Y)) :
    (seE Tryz.f3).wp Tryz.prog Q ⟨(v0::v1::(.pointer (some ⟨b2,0,none⟩))::v3::v4::(.pointer (some ⟨b5,0,none⟩))::(.pointer (some ⟨b6,0,none⟩))::v7::(.pointer (some ⟨b8,0,none⟩))::(.int .i64 (nc:Int))::v10::v11::v12::v13::v14::v15::v16::v17::v18::v19::v20::v21::v22::v23::v24::v25::v26::v27::v28::v29::v30::v31::v32::v33::v34::v35::v36::v37::v38::v39::v40::v41::v42::v43::v44::v45::v46::v47::v48::v49::v50::v51::v52::v53::v54::v55::v56::v57::v58::v59::v60::v61::v62::v63::v64::v65::v66::v67::v68::v69::v70::v71::v72::v73::v74::v75::v76::v77::v78::v79::v80::v81::v82::v83::v84::v85::v86::v87::v88::v89::v90::v91::v92::v93::v94::v95::v96::v97::v98::v99::v100::v101::v102::v103::v104::v105::v106::v107::v108::v109::v110::v111::v112::v113::v114::v115::v116::v117::v118::v119::v120::v121::v122::v123::v124::v125::v126::v127::v128::v129::v130::v131::v132::v133::v134::v135::v136::v137::v138::v139::v140::v141::v142::v143::v144::v145::v146::v147::v148::v149::v150::v151::v152::v153::v154::v155::v156::v157::v158::v159::v160::v161::v162::v163::v164::v165::v166::v167::v168::v169::v170::v171::v172::v173::v174::v175::v176::v177::v178::v179::v180::v181::v182::v183::v184::v185::v186::v187::v188::v189::v190::v191::v192::v193::v194::v195::v196::[]).toArray,Ds.map mk⟩ w:=by
  have H:=hidW h
  have HBk:=hidW hb
  have H8:=hidW h8
  have HO:=hidW hO
  have c0:=h8.cell 0
  simp only [List.getElem?_cons_zero] at c0
  clear h hb h8 hO hB
  conv=>arg 2; whnf
  refine wp_cut 2 _ (seT Tryz.f3) (by kernel_rfl) (fun C hC=> ?_)
  have HC:=hidW hC
  clear hC
  simp only [putTail]
  go_wp2_with fail
  refine seen_filt _ w b6 b8 bv B o.d o.kind o.nr o.pa o.w o.asid o.va H.out.rd.bb H8.out H.out.rd.sli hlB HO.out hd H.out.sg.ts.r (by exact fun h=>hpan h) (hidW ?_)
  intros
  rename_i w3 hb3 ho3
  obtain ⟨a3,c3,e3⟩:=(own_sliB ho3).form
  generalize hnl:(B.filter fun b=> !tkF o.d b).length=nl at e3
  subst e3
  have h63:=H.out.rd.bb.below hb3
  have h83:=H8.out.below hb3
  have hz:=H.out.rd.bb.lt
  have hT3:Turn (fun g=>g=b6∨bv.ownBlock=some g) w (w3.setCell ⟨b6,0,none⟩ (.slice a3 nl c3)):=(Turn.below hb3).setCell (p:=⟨b6,0,none⟩) (.inl (.inl rfl)) _
  have hR3:RdX w (w3.setCell ⟨b6,0,none⟩ (.slice a3 nl c3)) b6 bv (.slice a3 nl c3) (B.filter fun b=> !tkF o.d b):=by
    refine ⟨hT3,h63.set 0 _,?_,fun g hg=> .inr (ho3.lt g hg).1⟩
    refine own_mono (Mm.own_turn ho3 ((Turn.refl (fun g=>g=b6) w3).setCell (p:=⟨b6,0,none⟩) (.inl rfl) _) (fun g hg e=> ?_)) hz
    have:=(ho3.lt g hg).1
    omega
  have HN:=hidW (H.out.next hW hR3 (.inl rfl))
  have c6:=h63.cell 0
  have f6:=h63.frozen 0
  have c8:=(h83.setO hb8.1 0 (.slice a3 nl c3)).cell 0
  simp only [List.getElem?_cons_zero] at c6 c8
  clear hb3 ho3 hT3 hR3 h63 h83 hnl
  go_wp2_with fail
  refine HC.out _ _ ?_
  refine seen_tail _ W0 _ x p kb jb b5 b6 wv iv f vp vw vc σ Ds _ _ ⟨HN.out,HBk.out⟩ hW hs hl (by exact fun h=>hpan h) (hidW ?_)
  intros
  rename_i Y9 hY9
  exact HQ.out hY9
end Go.Proofs.YtnjlajjjcmhfgaaGreatDoor
