import Derived.Test.YtnjlajjjcmhfgaaGreatDoorRG01
import Derived.Test.YtnjlajjjcmhfgaaGreatDoorRA25
import Derived.Test.YtnjlajjjcmhfgaaGreatDoorRA28
namespace Go.Proofs.YtnjlajjjcmhfgaaGreatDoor
open Go.RowKit
open Mm (Turn gr RM valV errV Byts setV RowAt)
set_option linter.unusedVariables false
set_option linter.unusedSimpArgs false
attribute [local go_sem] Oper.semAt_some
theorem good_inU {c:Int} {u:Option Unit} {A:List Rm} (h:Bs.Good c u A):∀s∈A,c≤s.lo∧s.lo≤s.hi∧s.hi≤18446744073709551615∧Bs.get A s.hi=some ():=by
  induction A generalizing c u with
  | nil=>intro s hs; cases hs
  | cons t r ih =>
    obtain ⟨h1,h2,h3,h4,h5⟩:=h
    intro s hs
    rcases List.mem_cons.1 hs with rfl|hs
    · exact ⟨h1,h2,h3,if_pos ⟨h2,Int.le_refl _⟩⟩
    · obtain ⟨a,b,d,e⟩:=ih h5 s hs
      refine ⟨by omega,b,d,?_⟩
      rw [Bs.get,if_neg (by omega)]
      exact e
theorem good_lenU {c H:Int} {u:Option Unit} {A:List Rm} (h:Bs.Good c u A) (hH:∀s∈A,s.hi≤H) (hc:c≤H+1):(A.length:Int)≤H+1-c:=by
  induction A generalizing c u with
  | nil=>simp; omega
  | cons t r ih =>
    obtain ⟨h1,h2,h3,h4,h5⟩:=h
    have a:=hH t (by simp)
    have:=ih h5 (fun s hs=>hH s (by simp [hs])) (by omega)
    simp only [List.length_cons]
    omega
theorem IsP.len {M:Mo} {K:List Blo} {J:Jud} {asid:Int} {R:List Rm} (h:IsP M K J asid R) (hK:∀b∈K,KOk b):R.length≤1052672:=by
  cases e:J asid with
  | none=>rw [h.1 e]; simp
  | some c =>
    obtain ⟨g,a⟩:=h.2 c e
    have:=good_lenU (H:=1052671) g (fun s hs=>by
      obtain ⟨i1,i2,i3,i4⟩:=good_inU g s hs
      obtain ⟨b,hb,_,r,hr,q1,q2⟩:=(a s.hi (by omega) i3).1 i4
      have:=stL_ok M c b.t (hK b hb).ok.va r hr
      omega) (by omega)
    omega
theorem own_ltg {α:Type} {enc:α→List Value} {k:Nat} {T:TypeId} {w:World} {lo:Nat} {v:Value} {L:List α} (hk:∀x,(enc x).length=k) (h:w.ownsRow lo T k v L.length (rowG enc L)):LtG enc T w lo v L:=by
  rcases LtG.own hk h with ⟨rfl,rfl⟩|⟨g,cap,rest,rfl,hg,hR⟩
  · exact ⟨none,0,rfl,.inl rfl⟩
  · exact ⟨_,_,rfl,.inr ⟨g,rest,rfl,hg,hR⟩⟩
theorem own_below {k n:Nat} {T:TypeId} {w w':World} {lo:Nat} {v:Value} {xs:List Value} (h:w.ownsRow lo T k v n xs) (hb:Below w.heap.size w w'):w'.ownsRow lo T k v n xs:=Mm.own_turn h (Turn.below (S:=fun _=>False) hb) (fun _ _ h=>h)
theorem ltg_src {α:Type} {enc:α→List Value} {k:Nat} {T ts:TypeId} {w:World} {lo:Nat} {v:Value} {L:List α} (hk:∀x,(enc x).length=k) (h1:∀x,∀v∈enc x,v.oneCell'=true) (hu:Tryz.prog.underlying ts=some (.slice T)) (h:LtG enc T w lo v L):Src Tryz.prog k ts v L.length (rowG enc L) w:=by
  obtain ⟨a,cap,rfl,h⟩:=h
  have hone:∀u∈rowG enc L,u.oneCell'=true:=fun u hu=>by
    obtain ⟨r,_,hu⟩:=List.mem_flatMap.1 hu
    exact h1 r u hu
  cases a with
  | none =>
    rcases h with rfl|⟨g,rest,e,_⟩
    · exact Src.ofNil _ hu _
    · cases e
  | some ad =>
    refine Src.ofSlice _ hu ad L.length cap _ (rowG_len hk L) (fun j u hj=> ?_) hone
    rcases h with rfl|⟨g,rest,e,_,hR⟩
    · simp [rowG] at hj
    · cases e
      rw [Addr.add_lit,Nat.zero_add,hR.cell,List.getElem?_append_left (List.getElem?_eq_some_iff.1 hj).1]
      exact hj
theorem app0 {α:Type} {enc:α→List Value} {k:Nat} {T ts:TypeId} {z:Value} {by':Nat} (hk:∀x,(enc x).length=k) (h1:∀x,∀v∈enc x,v.oneCell'=true) (hu:Tryz.prog.underlying ts=some (.slice T)) (hinf:(Tryz.prog.info? T).map (fun i=>(i.zero,i.size,i.bytes))=some (some z,k,by')) (hz:z.cells.size=k)
    (w:World) (lo:Nat) (v:Value) (L:List α) (h:LtG enc T w lo v L) (hby:L.length*by'≤140737488355328) (hl:L.length≤4611686018427387904) :
    ∃v' w',(∀ty,(Builtin.append_ #[ts,ts] ty #[.slice (some ⟨w.heap.size,0,none⟩) 0 0,v]).run Tryz.prog (w.alloc (.cells #[] T))= .ok v' w')∧w'.ownsRow w.heap.size T k v' L.length (rowG enc L)∧Below w.heap.size w w':=by
  obtain ⟨i0,hi,hz0,hz1,hz2⟩:=info_parts hinf
  have hb:=below_new w (.cells #[] T)
  have hR:RowAt (w.alloc (.cells #[] T)) w.heap.size T []:=heap_alloc_new _ _
  obtain ⟨v',w',hr,ho',hg,_⟩:=Mm.append_any (P:=Tryz.prog) (w.alloc (.cells #[] T)) ts T i0 _ hu hi hz0 (by rw [hz1]; exact hz) w.heap.size 0 L.length (.slice (some ⟨w.heap.size,0,none⟩) 0 0) v [] (rowG enc L) (Mm.own_of_row hR (Nat.le_refl _) (Nat.le_refl _) (by decide) (by simp) (by simp)) (by rw [hz1]; exact ltg_src hk h1 hu (h.below hb)) (by simp) (by unfold maxLen; omega) (by rw [hz2,Nat.zero_add]; exact hby)
  rw [hz1,Nat.zero_add,List.nil_append] at ho'
  refine ⟨v',w',hr,ho',hb.trans ((Turn.grown (S:=fun x=>x=w.heap.size) hg (fun x hx=> .inl (by cases hx; rfl))).to (fun x hx=>Nat.le_of_eq hx.symm) hb.size)⟩
def frT (f:Func):Code:=sq2 (sq2 (sq2 (sq2 (sq2 (sq2 (sq2 (sq2 (sq2 (sq2 (sq2 (f.body.getD .skip)))))))))))
structure FrL (w3 w:World) (K:List Blo) (D:List Dir) (R:List Rm) (va vb vc vd vp vq:Value) (n4 n5 n6 n7 n8 n9:Nat):Prop where
  bel:Below w3.heap.size w3 w
  le:w3.heap.size≤n4∧n4≤n5∧n5≤n6∧n6≤n7∧n7≤n8∧n8≤n9∧n9≤w.heap.size
  a:w.ownsRow w3.heap.size 45 9 va K.length (rowG encB K)
  a4:∀g,va.ownBlock=some g→g<n4
  b:w.ownsRow n4 45 9 vb K.length (rowG encB K)
  b5:∀g,vb.ownBlock=some g→g<n5
  c:LtG encD 74 w n5 vc D
  c6:D=[]∨∃g cap,vc= .slice (some ⟨g,0,none⟩) D.length cap∧g<n6
  d:LtG encD 74 w n6 vd D
  d7:D=[]∨∃g cap,vd= .slice (some ⟨g,0,none⟩) D.length cap∧g<n7
  p:Bs.Lm w n7 vp R
  p8:∀g,vp.ownBlock=some g→g<n8
  q:Bs.Lm w n8 vq R
  q9:∀g,vq.ownBlock=some g→g<n9
theorem ltg_lt {T:TypeId} {w:World} {lo:Nat} {v:Value} {D:List Dir} (h:LtG encD T w lo v D):D=[]∨∃g cap,v= .slice (some ⟨g,0,none⟩) D.length cap∧g<w.heap.size:=by
  obtain ⟨a,cap,rfl,h⟩:=h
  exact h.imp id (fun ⟨g,rest,e,_,hR⟩=>⟨g,cap,by rw [e],hR.lt⟩)
set_option maxRecDepth 1000000 in
set_option maxHeartbeats 16000000 in
theorem fresh_head (W:World) (hT:TS W) (hD:TSd W) (f:Int) (vp vw vc:Value) (pas ws:List Int) (cs:List Ctx) (hs:Scn W vp vw vc pas ws cs) (vs:Value) (ops:List Oq) (hv:Sli encQ 9 W vs ops) (ho:∀o∈ops,o.Ok) (asid:Int) (ha: -9223372036854775808≤asid∧asid≤9223372036854775807) (hbk:pas.length+11*ops.length≤1048576)
    (HTl:Hid (∀ {v0 v1 v3 v4 v5 v6 v8 v15 v16 v17 v18 v19 v20 v21 v22 v23 v24 v25 v26 v27 v28 v29 v30 v31 v32 v33 v34 v35 v36 v37 v38 v39 v40 v41 v42 v43 v44 v45 v46 v47 v48 v49 v50 v51 v52 v53 v54 v55 v56 v57 v58 v59 v60 v61 v62 v63 v64 v65 v66 v67 v68 v69 v70 v71 v72 v73 v74 v75 v76 v77 v78 v79 v80 v81 v82 v83 v84 v85 v86 v87 v88 v89 v90 v91 v92 v93 v94 v95 v96 v97 v98 v99 v100 v101 v102 v103 v104 v105 v106 v107 v108 v109 v110 v111 v112 v113 v114 v115 v116 v117 v118 v119 v120 v121 v122 v123 v124 v125 v126 v127 v128 v129 v130 v131 v132 v133 v134 v135 v136 v137 v138 v139 v140 v141 v142 v143 v144 v145 v146 v147 v148 v149 v150 v151 v152 v153 v154 v155 v156 v157 v158 v159 v160 v161 v162 v163 v164 v165 v166 v167 v168 v169 v170 v171 v172 v173 v174 v175 v176 v177 v178 v179 v180 v181 v182 v183 v184 v185 v186 v187 v188 v189 v190 v191 v192 v193 v194 v195 v196 v197 v198 v199 v200 v201 v202 v203 v204 v205 v206 v207 v208 v209 v210 v211 v212 v213 v214 v215 v216 v217 v218 v219 v220 v221 v222 v223 v224 v225 v226 v227 v228 v229 v230 v231 v232 v233 v234 v235 v236 v237 v238 v239 v240 v241 v242 v243 v244 v245 v246 v247 v248 v249 v250 v251 v252 v253:Value} (W0 w3 w:World) (x p kb jb:Nat) (wv iv vs1 vs2 vs3:Value) (σ:Pst) (R:List Rm) (va vb vc vd vp vq:Value) (n4 n5 n6 n7 n8 n9:Nat),Below W.heap.size W W0→TSd W0→SgX (fun _=>False) W0 w3 x p kb jb wv iv f vs1 vs2 vs3 σ→Sml σ→σ.K.length≤400000000000→IsP σ.mem.mo σ.K σ.J asid R→FrL w3 w σ.K (diL σ.mem.mo σ.K σ.J) R va vb vc vd vp vq n4 n5 n6 n7 n8 n9→(frT Tryz.f7).wp Tryz.prog (bodyPost Tryz.prog Tryz.f7 fun e w'=>e= .returned (.bool true)∧Below W.heap.size W w') ⟨(v0::v1::(.int .i64 asid)::v3::v4::v5::v6::(.pointer (some ⟨x,0,none⟩))::v8::(va)::(vb)::(vc)::(vd)::(vp)::(vq)::v15::v16::v17::v18::v19::v20::v21::v22::v23::v24::v25::v26::v27::v28::v29::v30::v31::v32::v33::v34::v35::v36::v37::v38::v39::v40::v41::v42::v43::v44::v45::v46::v47::v48::v49::v50::v51::v52::v53::v54::v55::v56::v57::v58::v59::v60::v61::v62::v63::v64::v65::v66::v67::v68::v69::v70::v71::v72::v73::v74::v75::v76::v77::v78::v79::v80::v81::v82::v83::v84::v85::v86::v87::v88::v89::v90::v91::v92::v93::v94::v95::v96::v97::v98::v99::v100::v101::v102::v103::v104::v105::v106::v107::v108::v109::v110::v111::v112::v113::v114::v115::v116::v117::v118::v119::v120::v121::v122::v123::v124::v125::v126::v127::v128::v129::v130::v131::v132::v133::v134::v135::v136::v137::v138::v139::v140::v141::v142::v143::v144::v145::v146::v147::v148::v149::v150::v151::v152::v153::v154::v155::v156::v157::v158::v159::v160::v161::v162::v163::v164::v165::v166::v167::v168::v169::v170::v171::v172::v173::v174::v175::v176::v177::v178::v179::v180::v181::v182::v183::v184::v185::v186::v187::v188::v189::v190::v191::v192::v193::v194::v195::v196::v197::v198::v199::v200::v201::v202::v203::v204::v205::v206::v207::v208::v209::v210::v211::v212::v213::v214::v215::v216::v217::v218::v219::v220::v221::v222::v223::v224::v225::v226::v227::v228::v229::v230::v231::v232::v233::v234::v235::v236::v237::v238::v239::v240::v241::v242::v243::v244::v245::v246::v247::v248::v249::v250::v251::v252::v253::[]).toArray,[]⟩ w)) :
    Calls Tryz.prog 7 #[.agg #[.int .i64 f,vp,vw,vc],vs,.int .i64 asid] W fun e w'=>e= .returned (.bool true)∧Below W.heap.size W w':=by
  have HS:=hidW (hs.small f ho hbk)
  have HKL:Hid (((Pst.first f (pas.zip ws)).run cs ops).K.length≤400000000000):=by
    have:=(hs.cnt f ho).len
    show ((Pst.first f (pas.zip ws)).run cs ops).K.length≤400000000000
    omega
  have hb0:Below W.heap.size W (W.alloc (.cells #[.int .i64 f,vp,vw,vc] 26)):=below_new _ _
  have HSt:=hidW (stage_any _ (hT.below hb0) f vp vw vc pas ws cs (hs.below hb0) vs ops (hv.below hb0) ho (by omega))
  have HB0:=hidW hb0
  have HBs:Hid (Bl (W.alloc (.cells #[.int .i64 f,vp,vw,vc] 26)) W.heap.size 26 [.int .i64 f,vp,vw,vc]):=Bl.new _ _ _
  have HT:=hidW (hT.below hb0)
  have HD:=hidW (hD.below hb0)
  have HSc:=hidW (hs.below hb0)
  obtain ⟨ap,cp,rfl⟩:=hs.p.form
  obtain ⟨aw,cw,rfl⟩:=hs.w.form
  obtain ⟨ac,cc,rfl⟩:=hs.c.form
  obtain ⟨av,cv,rfl⟩:=hv.form
  have HZ:Hid (((Pst.first f (pas.zip ws)).run cs []).K=[]∧diL ((Pst.first f (pas.zip ws)).run cs []).mem.mo ((Pst.first f (pas.zip ws)).run cs []).K ((Pst.first f (pas.zip ws)).run cs []).J=[]):=⟨rfl,List.eq_nil_iff_forall_not_mem.2 (fun z hz=>by have:=((mem_diL (hs.small f (ops:=[]) (fun o h=>by cases h) (by simp; omega)).ok.j).1 hz).1; simp [Pst.run,Pst.first] at this)⟩
  have HS0:Hid (∀w,TS w→Scn w (.slice ap pas.length cp) (.slice aw ws.length cw) (.slice ac cs.length cc) pas ws cs→Calls Tryz.prog 9 #[.agg #[.int .i64 f,.slice ap pas.length cp,.slice aw ws.length cw,.slice ac cs.length cc],.slice none 0 0] w fun e w'=>∃x p kb jb wv iv,e= .returned (.pointer (some ⟨x,0,none⟩))∧SgX (fun _=>False) w w' x p kb jb wv iv f (.slice ap pas.length cp) (.slice aw ws.length cw) (.slice ac cs.length cc) ((Pst.first f (pas.zip ws)).run cs [])) :=
    fun w h1 h2=>stage_any w h1 f _ _ _ pas ws cs h2 _ [] ⟨none,0,rfl,fun i o h=>by simp at h⟩ (fun o h=>by cases h) (by simp)
  clear hT hD hs hv ho hb0 hbk
  generalize (Pst.first f (pas.zip ws)).run cs ops=σ at *
  generalize (Pst.first f (pas.zip ws)).run cs []=σ0 at *
  go_enter Tryz.func7,Tryz.ntmps7
  refine wp_cut 11 _ (frT Tryz.f7) (by kernel_rfl) (fun C hC=> ?_)
  have HCc:=hidW hC
  clear hC
  simp only [putTail]
  go_wp2_with fail
  generalize W.alloc (.cells #[.int .i64 f,.slice ap pas.length cp,.slice aw ws.length cw,.slice ac cs.length cc] 26)=W0 at *
  go_at_call 9
  refine HSt.out.mono ?_
  rintro e w1 ⟨x,p,kb,jb,wv,iv,rfl,hx⟩
  have HX:=hidW hx
  have cS:=(HBs.out.below hx.bel).cell
  have HSx:=hidW (HS0.out w1 hx.ts (HSc.out.below hx.bel))
  clear hx HSt HS0
  go_wp2_with fail
  go_at_call 9
  refine HSx.out.mono ?_
  rintro e w2 ⟨y,p2,kb2,jb2,wv2,iv2,rfl,hy⟩
  have HX2:=hidW (HX.out.below hy.bel)
  have HY2:=hidW hy
  have HLv:=hidW (live_any w2 hy.ts)
  clear hy HSx HX cS
  go_wp2_with (first
    | (go_at_call 10; refine HLv.out.mono ?_; rintro e w3 ⟨rfl,gl⟩; have HX3:=hidW (HX2.out.below gl); have HY3:=hidW (HY2.out.below gl); have c4:=HX3.out.box.cell 4; simp only [List.getElem?_cons_succ,List.getElem?_cons_zero] at c4; clear gl))
  go_at_call 20
  refine (known_own w3 p kb jb σ.K σ.J HX3.out.pk HS.out.known).mono ?_
  rintro e w4 ⟨va,rfl,hoa,g4⟩
  have HX4:=hidW (HX3.out.below g4)
  have HG4:=hidW g4
  have HOa:=hidW hoa
  have d4:=HX4.out.box.cell 4
  simp only [List.getElem?_cons_succ,List.getElem?_cons_zero] at d4
  clear g4 hoa c4 HX2 HY2 HLv
  go_wp2_with fail
  go_at_call 20
  refine (known_own w4 p kb jb σ.K σ.J HX4.out.pk HS.out.known).mono ?_
  rintro e w5 ⟨vb,rfl,hob,g5⟩
  have HX5:=hidW (HX4.out.below g5)
  have HG5:=hidW g5
  have HOb:=hidW hob
  clear g5 hob d4
  have HXd6:=hidW (HX5.out.below (below_drew (Below.refl _ w5)))
  have HJ:=hidW (And.intro (HXd6.out.box.cell 4) (HXd6.out.box.cell 5))
  simp only [List.getElem?_cons_succ,List.getElem?_cons_zero] at HJ
  go_wp2_with fail
  refine wp_region_held_drew (S:=fun ww=>ww.cell? ⟨x,4,none⟩=some (.pointer (some ⟨p,0,none⟩))∧ww.cell? ⟨x,5,none⟩=some iv) (by kernel_rfl) ?_ (fun hHeld=> ?_)
  · exact HJ.out
  refine wpAnyH_take (i:=0) (oi:=⟨some 49,.move (.tmp 7),28,_,#[],none⟩) (v:=?_) rfl (by kernel_rfl) (by kernel_rfl) (by kernel_rfl) (fun _ _ _ h=>h) (Or.inl ⟨by rfl,?_⟩) (by assumption) ?_
  rotate_left
  · (intro w hSw; (try dsimp only at hSw); go_simp; try with_reducible rfl)
  simp only [Act.put,List.setIfInBounds_toArray,List.set_cons_zero,List.set_cons_succ]
  refine wpAnyH_take (i:=1) (oi:=⟨some 50,.nilCheck (.tmp 49),0,_,#[⟨0,.data⟩],none⟩) (v:=?_) rfl (by kernel_rfl) (by kernel_rfl) (by kernel_rfl) (fun _ _ _ h=>h) (Or.inl ⟨by rfl,?_⟩) (by assumption) ?_
  rotate_left
  · (intro w hSw; (try dsimp only at hSw); go_simp; try with_reducible rfl)
  simp only [Act.put,List.setIfInBounds_toArray,List.set_cons_zero,List.set_cons_succ]
  refine wpAnyH_take (i:=2) (oi:=⟨some 51,.fieldAddr 54 (.tmp 50) 1,0,_,#[⟨1,.data⟩],none⟩) (v:=?_) rfl (by kernel_rfl) (by kernel_rfl) (by kernel_rfl) (fun _ _ _ h=>h) (Or.inl ⟨by rfl,?_⟩) (by assumption) ?_
  rotate_left
  · (intro w hSw; (try dsimp only at hSw); go_simp; try with_reducible rfl)
  simp only [Act.put,List.setIfInBounds_toArray,List.set_cons_zero,List.set_cons_succ]
  refine wpAnyH_take (i:=3) (oi:=⟨some 52,.load 49 (.tmp 51),49,_,#[⟨2,.data⟩],none⟩) (v:=?_) rfl (by kernel_rfl) (by kernel_rfl) (by kernel_rfl) (fun _ _ _ h=>h) (Or.inl ⟨by rfl,?_⟩) (by assumption) ?_
  rotate_left
  · (intro w hSw; (try dsimp only at hSw); go_simp; try with_reducible rfl)
  simp only [Act.put,List.setIfInBounds_toArray,List.set_cons_zero,List.set_cons_succ]
  refine wpAnyH_take (i:=4) (oi:=⟨some 53,.move (.tmp 7),28,_,#[],none⟩) (v:=?_) rfl (by kernel_rfl) (by kernel_rfl) (by kernel_rfl) (fun _ _ _ h=>h) (Or.inl ⟨by rfl,?_⟩) (by assumption) ?_
  rotate_left
  · (intro w hSw; (try dsimp only at hSw); go_simp; try with_reducible rfl)
  simp only [Act.put,List.setIfInBounds_toArray,List.set_cons_zero,List.set_cons_succ]
  refine wpAnyH_take (i:=5) (oi:=⟨some 54,.nilCheck (.tmp 53),0,_,#[⟨4,.data⟩],none⟩) (v:=?_) rfl (by kernel_rfl) (by kernel_rfl) (by kernel_rfl) (fun _ _ _ h=>h) (Or.inl ⟨by rfl,?_⟩) (by assumption) ?_
  rotate_left
  · (intro w hSw; (try dsimp only at hSw); go_simp; try with_reducible rfl)
  simp only [Act.put,List.setIfInBounds_toArray,List.set_cons_zero,List.set_cons_succ]
  refine wpAnyH_take (i:=6) (oi:=⟨some 55,.fieldAddr 54 (.tmp 54) 2,0,_,#[⟨5,.data⟩],none⟩) (v:=?_) rfl (by kernel_rfl) (by kernel_rfl) (by kernel_rfl) (fun _ _ _ h=>h) (Or.inl ⟨by rfl,?_⟩) (by assumption) ?_
  rotate_left
  · (intro w hSw; (try dsimp only at hSw); go_simp; try with_reducible rfl)
  simp only [Act.put,List.setIfInBounds_toArray,List.set_cons_zero,List.set_cons_succ]
  refine wpAnyH_take (i:=7) (oi:=⟨some 56,.load 51 (.tmp 55),51,_,#[⟨6,.data⟩],none⟩) (v:=?_) rfl (by kernel_rfl) (by kernel_rfl) (by kernel_rfl) (fun _ _ _ h=>h) (Or.inl ⟨by rfl,?_⟩) (by assumption) ?_
  rotate_left
  · (intro w hSw; (try dsimp only at hSw); go_simp; try with_reducible rfl)
  simp only [Act.put,List.setIfInBounds_toArray,List.set_cons_zero,List.set_cons_succ]
  refine wpAnyH_ready (rs:=[8]) (by kernel_rfl) (by simp) ?_
  refine AllReadyH.cons (o:=⟨some 57,.call ⟨.value (.func 13),#[.tmp 52,.tmp 56],#[49,51]⟩,48,_,#[⟨3,.data⟩,⟨7,.data⟩],none⟩) rfl (fun K hK=> ?_) AllReadyH.nil
  go_simp
  (go_at_call 13; refine (HXd6.out.tk.dirty HS.out.dirty).mono ?_; rintro e w6 ⟨v6,rfl,hL6,g6⟩; have HL6:=hidW hL6; have HX6:=hidW (HXd6.out.below g6); have HG6:=hidW (Below.step (below_drew (Below.refl _ w5)) g6); have HJ:=hidW (And.intro (HX6.out.box.cell 4) (HX6.out.box.cell 5)); simp only [List.getElem?_cons_succ,List.getElem?_cons_zero] at HJ; clear g6 hL6)
  refine hK.out _ _ ?_ (fun hHeld=> ?_)
  · ((try dsimp only); with_reducible exact HJ.out)
  clear hK K
  try simp only [Act.put,List.setIfInBounds_toArray,List.set_cons_zero,List.set_cons_succ]
  refine wpAnyH_take (i:=9) (oi:=⟨some 11,.assign (.tmp 57),48,_,#[⟨8,.data⟩,⟨8,.chain⟩,⟨0,.phase⟩,⟨1,.phase⟩,⟨2,.phase⟩,⟨3,.phase⟩,⟨4,.phase⟩,⟨5,.phase⟩,⟨6,.phase⟩,⟨7,.phase⟩,⟨8,.phase⟩],none⟩) (v:=?_) rfl (by kernel_rfl) (by kernel_rfl) (by kernel_rfl) (fun _ _ _ h=>h) (Or.inl ⟨by rfl,?_⟩) (by assumption) ?_
  rotate_left
  · (intro w hSw; (try dsimp only at hSw); go_simp; try with_reducible rfl)
  simp only [Act.put,List.setIfInBounds_toArray,List.set_cons_zero,List.set_cons_succ]
  refine wpAnyH_done (by kernel_rfl) ?_ _
  clear hHeld HXd6
  have HXd7:=hidW (HX6.out.below (below_drew (Below.refl _ w6)))
  have HJ:=hidW (And.intro (HXd7.out.box.cell 4) (HXd7.out.box.cell 5))
  simp only [List.getElem?_cons_succ,List.getElem?_cons_zero] at HJ
  go_wp2_with fail
  refine wp_region_held_drew (S:=fun ww=>ww.cell? ⟨x,4,none⟩=some (.pointer (some ⟨p,0,none⟩))∧ww.cell? ⟨x,5,none⟩=some iv) (by kernel_rfl) ?_ (fun hHeld=> ?_)
  · exact HJ.out
  refine wpAnyH_take (i:=0) (oi:=⟨some 58,.move (.tmp 7),28,_,#[],none⟩) (v:=?_) rfl (by kernel_rfl) (by kernel_rfl) (by kernel_rfl) (fun _ _ _ h=>h) (Or.inl ⟨by rfl,?_⟩) (by assumption) ?_
  rotate_left
  · (intro w hSw; (try dsimp only at hSw); go_simp; try with_reducible rfl)
  simp only [Act.put,List.setIfInBounds_toArray,List.set_cons_zero,List.set_cons_succ]
  refine wpAnyH_take (i:=1) (oi:=⟨some 59,.nilCheck (.tmp 58),0,_,#[⟨0,.data⟩],none⟩) (v:=?_) rfl (by kernel_rfl) (by kernel_rfl) (by kernel_rfl) (fun _ _ _ h=>h) (Or.inl ⟨by rfl,?_⟩) (by assumption) ?_
  rotate_left
  · (intro w hSw; (try dsimp only at hSw); go_simp; try with_reducible rfl)
  simp only [Act.put,List.setIfInBounds_toArray,List.set_cons_zero,List.set_cons_succ]
  refine wpAnyH_take (i:=2) (oi:=⟨some 60,.fieldAddr 54 (.tmp 59) 1,0,_,#[⟨1,.data⟩],none⟩) (v:=?_) rfl (by kernel_rfl) (by kernel_rfl) (by kernel_rfl) (fun _ _ _ h=>h) (Or.inl ⟨by rfl,?_⟩) (by assumption) ?_
  rotate_left
  · (intro w hSw; (try dsimp only at hSw); go_simp; try with_reducible rfl)
  simp only [Act.put,List.setIfInBounds_toArray,List.set_cons_zero,List.set_cons_succ]
  refine wpAnyH_take (i:=3) (oi:=⟨some 61,.load 49 (.tmp 60),49,_,#[⟨2,.data⟩],none⟩) (v:=?_) rfl (by kernel_rfl) (by kernel_rfl) (by kernel_rfl) (fun _ _ _ h=>h) (Or.inl ⟨by rfl,?_⟩) (by assumption) ?_
  rotate_left
  · (intro w hSw; (try dsimp only at hSw); go_simp; try with_reducible rfl)
  simp only [Act.put,List.setIfInBounds_toArray,List.set_cons_zero,List.set_cons_succ]
  refine wpAnyH_take (i:=4) (oi:=⟨some 62,.move (.tmp 7),28,_,#[],none⟩) (v:=?_) rfl (by kernel_rfl) (by kernel_rfl) (by kernel_rfl) (fun _ _ _ h=>h) (Or.inl ⟨by rfl,?_⟩) (by assumption) ?_
  rotate_left
  · (intro w hSw; (try dsimp only at hSw); go_simp; try with_reducible rfl)
  simp only [Act.put,List.setIfInBounds_toArray,List.set_cons_zero,List.set_cons_succ]
  refine wpAnyH_take (i:=5) (oi:=⟨some 63,.nilCheck (.tmp 62),0,_,#[⟨4,.data⟩],none⟩) (v:=?_) rfl (by kernel_rfl) (by kernel_rfl) (by kernel_rfl) (fun _ _ _ h=>h) (Or.inl ⟨by rfl,?_⟩) (by assumption) ?_
  rotate_left
  · (intro w hSw; (try dsimp only at hSw); go_simp; try with_reducible rfl)
  simp only [Act.put,List.setIfInBounds_toArray,List.set_cons_zero,List.set_cons_succ]
  refine wpAnyH_take (i:=6) (oi:=⟨some 64,.fieldAddr 54 (.tmp 63) 2,0,_,#[⟨5,.data⟩],none⟩) (v:=?_) rfl (by kernel_rfl) (by kernel_rfl) (by kernel_rfl) (fun _ _ _ h=>h) (Or.inl ⟨by rfl,?_⟩) (by assumption) ?_
  rotate_left
  · (intro w hSw; (try dsimp only at hSw); go_simp; try with_reducible rfl)
  simp only [Act.put,List.setIfInBounds_toArray,List.set_cons_zero,List.set_cons_succ]
  refine wpAnyH_take (i:=7) (oi:=⟨some 65,.load 51 (.tmp 64),51,_,#[⟨6,.data⟩],none⟩) (v:=?_) rfl (by kernel_rfl) (by kernel_rfl) (by kernel_rfl) (fun _ _ _ h=>h) (Or.inl ⟨by rfl,?_⟩) (by assumption) ?_
  rotate_left
  · (intro w hSw; (try dsimp only at hSw); go_simp; try with_reducible rfl)
  simp only [Act.put,List.setIfInBounds_toArray,List.set_cons_zero,List.set_cons_succ]
  refine wpAnyH_ready (rs:=[8]) (by kernel_rfl) (by simp) ?_
  refine AllReadyH.cons (o:=⟨some 66,.call ⟨.value (.func 13),#[.tmp 61,.tmp 65],#[49,51]⟩,48,_,#[⟨3,.data⟩,⟨7,.data⟩],none⟩) rfl (fun K hK=> ?_) AllReadyH.nil
  go_simp
  (go_at_call 13; refine (HXd7.out.tk.dirty HS.out.dirty).mono ?_; rintro e w7 ⟨v7,rfl,hL7,g7⟩; have HL7:=hidW hL7; have HX7:=hidW (HXd7.out.below g7); have HG7:=hidW (Below.step (below_drew (Below.refl _ w6)) g7); have HJ:=hidW (And.intro (HX7.out.box.cell 4) (HX7.out.box.cell 5)); simp only [List.getElem?_cons_succ,List.getElem?_cons_zero] at HJ; clear g7 hL7)
  refine hK.out _ _ ?_ (fun hHeld=> ?_)
  · ((try dsimp only); with_reducible exact HJ.out)
  clear hK K
  try simp only [Act.put,List.setIfInBounds_toArray,List.set_cons_zero,List.set_cons_succ]
  refine wpAnyH_take (i:=9) (oi:=⟨some 12,.assign (.tmp 66),48,_,#[⟨8,.data⟩,⟨8,.chain⟩,⟨0,.phase⟩,⟨1,.phase⟩,⟨2,.phase⟩,⟨3,.phase⟩,⟨4,.phase⟩,⟨5,.phase⟩,⟨6,.phase⟩,⟨7,.phase⟩,⟨8,.phase⟩],none⟩) (v:=?_) rfl (by kernel_rfl) (by kernel_rfl) (by kernel_rfl) (fun _ _ _ h=>h) (Or.inl ⟨by rfl,?_⟩) (by assumption) ?_
  rotate_left
  · (intro w hSw; (try dsimp only at hSw); go_simp; try with_reducible rfl)
  simp only [Act.put,List.setIfInBounds_toArray,List.set_cons_zero,List.set_cons_succ]
  refine wpAnyH_done (by kernel_rfl) ?_ _
  clear hHeld HXd7
  have HXd8:=hidW (HX7.out.below (below_drew (Below.refl _ w7)))
  have HJ:=hidW (And.intro (HXd8.out.box.cell 4) (HXd8.out.box.cell 5))
  simp only [List.getElem?_cons_succ,List.getElem?_cons_zero] at HJ
  go_wp2_with fail
  refine wp_region_held_drew (S:=fun ww=>ww.cell? ⟨x,4,none⟩=some (.pointer (some ⟨p,0,none⟩))∧ww.cell? ⟨x,5,none⟩=some iv) (by kernel_rfl) ?_ (fun hHeld=> ?_)
  · exact HJ.out
  refine wpAnyH_take (i:=0) (oi:=⟨some 67,.move (.tmp 7),28,_,#[],none⟩) (v:=?_) rfl (by kernel_rfl) (by kernel_rfl) (by kernel_rfl) (fun _ _ _ h=>h) (Or.inl ⟨by rfl,?_⟩) (by assumption) ?_
  rotate_left
  · (intro w hSw; (try dsimp only at hSw); go_simp; try with_reducible rfl)
  simp only [Act.put,List.setIfInBounds_toArray,List.set_cons_zero,List.set_cons_succ]
  refine wpAnyH_take (i:=1) (oi:=⟨some 68,.nilCheck (.tmp 67),0,_,#[⟨0,.data⟩],none⟩) (v:=?_) rfl (by kernel_rfl) (by kernel_rfl) (by kernel_rfl) (fun _ _ _ h=>h) (Or.inl ⟨by rfl,?_⟩) (by assumption) ?_
  rotate_left
  · (intro w hSw; (try dsimp only at hSw); go_simp; try with_reducible rfl)
  simp only [Act.put,List.setIfInBounds_toArray,List.set_cons_zero,List.set_cons_succ]
  refine wpAnyH_take (i:=2) (oi:=⟨some 69,.fieldAddr 54 (.tmp 68) 1,0,_,#[⟨1,.data⟩],none⟩) (v:=?_) rfl (by kernel_rfl) (by kernel_rfl) (by kernel_rfl) (fun _ _ _ h=>h) (Or.inl ⟨by rfl,?_⟩) (by assumption) ?_
  rotate_left
  · (intro w hSw; (try dsimp only at hSw); go_simp; try with_reducible rfl)
  simp only [Act.put,List.setIfInBounds_toArray,List.set_cons_zero,List.set_cons_succ]
  refine wpAnyH_take (i:=3) (oi:=⟨some 70,.load 49 (.tmp 69),49,_,#[⟨2,.data⟩],none⟩) (v:=?_) rfl (by kernel_rfl) (by kernel_rfl) (by kernel_rfl) (fun _ _ _ h=>h) (Or.inl ⟨by rfl,?_⟩) (by assumption) ?_
  rotate_left
  · (intro w hSw; (try dsimp only at hSw); go_simp; try with_reducible rfl)
  simp only [Act.put,List.setIfInBounds_toArray,List.set_cons_zero,List.set_cons_succ]
  refine wpAnyH_take (i:=4) (oi:=⟨some 71,.move (.tmp 7),28,_,#[],none⟩) (v:=?_) rfl (by kernel_rfl) (by kernel_rfl) (by kernel_rfl) (fun _ _ _ h=>h) (Or.inl ⟨by rfl,?_⟩) (by assumption) ?_
  rotate_left
  · (intro w hSw; (try dsimp only at hSw); go_simp; try with_reducible rfl)
  simp only [Act.put,List.setIfInBounds_toArray,List.set_cons_zero,List.set_cons_succ]
  refine wpAnyH_take (i:=5) (oi:=⟨some 72,.nilCheck (.tmp 71),0,_,#[⟨4,.data⟩],none⟩) (v:=?_) rfl (by kernel_rfl) (by kernel_rfl) (by kernel_rfl) (fun _ _ _ h=>h) (Or.inl ⟨by rfl,?_⟩) (by assumption) ?_
  rotate_left
  · (intro w hSw; (try dsimp only at hSw); go_simp; try with_reducible rfl)
  simp only [Act.put,List.setIfInBounds_toArray,List.set_cons_zero,List.set_cons_succ]
  refine wpAnyH_take (i:=6) (oi:=⟨some 73,.fieldAddr 54 (.tmp 72) 2,0,_,#[⟨5,.data⟩],none⟩) (v:=?_) rfl (by kernel_rfl) (by kernel_rfl) (by kernel_rfl) (fun _ _ _ h=>h) (Or.inl ⟨by rfl,?_⟩) (by assumption) ?_
  rotate_left
  · (intro w hSw; (try dsimp only at hSw); go_simp; try with_reducible rfl)
  simp only [Act.put,List.setIfInBounds_toArray,List.set_cons_zero,List.set_cons_succ]
  refine wpAnyH_take (i:=7) (oi:=⟨some 74,.load 51 (.tmp 73),51,_,#[⟨6,.data⟩],none⟩) (v:=?_) rfl (by kernel_rfl) (by kernel_rfl) (by kernel_rfl) (fun _ _ _ h=>h) (Or.inl ⟨by rfl,?_⟩) (by assumption) ?_
  rotate_left
  · (intro w hSw; (try dsimp only at hSw); go_simp; try with_reducible rfl)
  simp only [Act.put,List.setIfInBounds_toArray,List.set_cons_zero,List.set_cons_succ]
  refine wpAnyH_take (i:=8) (oi:=⟨some 75,.move (.tmp 2),3,_,#[],none⟩) (v:=?_) rfl (by kernel_rfl) (by kernel_rfl) (by kernel_rfl) (fun _ _ _ h=>h) (Or.inl ⟨by rfl,?_⟩) (by assumption) ?_
  rotate_left
  · (intro w hSw; (try dsimp only at hSw); go_simp; try with_reducible rfl)
  simp only [Act.put,List.setIfInBounds_toArray,List.set_cons_zero,List.set_cons_succ]
  refine wpAnyH_ready (rs:=[9]) (by kernel_rfl) (by simp) ?_
  refine AllReadyH.cons (o:=⟨some 76,.call ⟨.value (.func 33),#[.tmp 70,.tmp 74,.tmp 75],#[49,51,3]⟩,92,_,#[⟨3,.data⟩,⟨7,.data⟩,⟨8,.data⟩],none⟩) rfl (fun K hK=> ?_) AllReadyH.nil
  go_simp
  (go_at_call 33; refine (HXd8.out.tk.pages (HD.out.below HXd8.out.bel) asid ha HKL.out).mono ?_; rintro e w8 ⟨v8,R8,rfl,hL8,hI8,g8⟩; have HL8:=hidW hL8; have HI8:=hidW hI8; clear hI8; have HX8:=hidW (HXd8.out.below g8); have HG8:=hidW (Below.step (below_drew (Below.refl _ w7)) g8); have HJ:=hidW (And.intro (HX8.out.box.cell 4) (HX8.out.box.cell 5)); simp only [List.getElem?_cons_succ,List.getElem?_cons_zero] at HJ; clear g8 hL8)
  refine hK.out _ _ ?_ (fun hHeld=> ?_)
  · ((try dsimp only); with_reducible exact HJ.out)
  clear hK K
  try simp only [Act.put,List.setIfInBounds_toArray,List.set_cons_zero,List.set_cons_succ]
  refine wpAnyH_take (i:=10) (oi:=⟨some 13,.assign (.tmp 76),92,_,#[⟨9,.data⟩,⟨9,.chain⟩,⟨0,.phase⟩,⟨1,.phase⟩,⟨2,.phase⟩,⟨3,.phase⟩,⟨4,.phase⟩,⟨5,.phase⟩,⟨6,.phase⟩,⟨7,.phase⟩,⟨8,.phase⟩,⟨9,.phase⟩],none⟩) (v:=?_) rfl (by kernel_rfl) (by kernel_rfl) (by kernel_rfl) (fun _ _ _ h=>h) (Or.inl ⟨by rfl,?_⟩) (by assumption) ?_
  rotate_left
  · (intro w hSw; (try dsimp only at hSw); go_simp; try with_reducible rfl)
  simp only [Act.put,List.setIfInBounds_toArray,List.set_cons_zero,List.set_cons_succ]
  refine wpAnyH_done (by kernel_rfl) ?_ _
  clear hHeld HXd8
  have HXd9:=hidW (HX8.out.below (below_drew (Below.refl _ w8)))
  have HJ:=hidW (And.intro (HXd9.out.box.cell 4) (HXd9.out.box.cell 5))
  simp only [List.getElem?_cons_succ,List.getElem?_cons_zero] at HJ
  go_wp2_with fail
  refine wp_region_held_drew (S:=fun ww=>ww.cell? ⟨x,4,none⟩=some (.pointer (some ⟨p,0,none⟩))∧ww.cell? ⟨x,5,none⟩=some iv) (by kernel_rfl) ?_ (fun hHeld=> ?_)
  · exact HJ.out
  refine wpAnyH_take (i:=0) (oi:=⟨some 77,.move (.tmp 7),28,_,#[],none⟩) (v:=?_) rfl (by kernel_rfl) (by kernel_rfl) (by kernel_rfl) (fun _ _ _ h=>h) (Or.inl ⟨by rfl,?_⟩) (by assumption) ?_
  rotate_left
  · (intro w hSw; (try dsimp only at hSw); go_simp; try with_reducible rfl)
  simp only [Act.put,List.setIfInBounds_toArray,List.set_cons_zero,List.set_cons_succ]
  refine wpAnyH_take (i:=1) (oi:=⟨some 78,.nilCheck (.tmp 77),0,_,#[⟨0,.data⟩],none⟩) (v:=?_) rfl (by kernel_rfl) (by kernel_rfl) (by kernel_rfl) (fun _ _ _ h=>h) (Or.inl ⟨by rfl,?_⟩) (by assumption) ?_
  rotate_left
  · (intro w hSw; (try dsimp only at hSw); go_simp; try with_reducible rfl)
  simp only [Act.put,List.setIfInBounds_toArray,List.set_cons_zero,List.set_cons_succ]
  refine wpAnyH_take (i:=2) (oi:=⟨some 79,.fieldAddr 54 (.tmp 78) 1,0,_,#[⟨1,.data⟩],none⟩) (v:=?_) rfl (by kernel_rfl) (by kernel_rfl) (by kernel_rfl) (fun _ _ _ h=>h) (Or.inl ⟨by rfl,?_⟩) (by assumption) ?_
  rotate_left
  · (intro w hSw; (try dsimp only at hSw); go_simp; try with_reducible rfl)
  simp only [Act.put,List.setIfInBounds_toArray,List.set_cons_zero,List.set_cons_succ]
  refine wpAnyH_take (i:=3) (oi:=⟨some 80,.load 49 (.tmp 79),49,_,#[⟨2,.data⟩],none⟩) (v:=?_) rfl (by kernel_rfl) (by kernel_rfl) (by kernel_rfl) (fun _ _ _ h=>h) (Or.inl ⟨by rfl,?_⟩) (by assumption) ?_
  rotate_left
  · (intro w hSw; (try dsimp only at hSw); go_simp; try with_reducible rfl)
  simp only [Act.put,List.setIfInBounds_toArray,List.set_cons_zero,List.set_cons_succ]
  refine wpAnyH_take (i:=4) (oi:=⟨some 81,.move (.tmp 7),28,_,#[],none⟩) (v:=?_) rfl (by kernel_rfl) (by kernel_rfl) (by kernel_rfl) (fun _ _ _ h=>h) (Or.inl ⟨by rfl,?_⟩) (by assumption) ?_
  rotate_left
  · (intro w hSw; (try dsimp only at hSw); go_simp; try with_reducible rfl)
  simp only [Act.put,List.setIfInBounds_toArray,List.set_cons_zero,List.set_cons_succ]
  refine wpAnyH_take (i:=5) (oi:=⟨some 82,.nilCheck (.tmp 81),0,_,#[⟨4,.data⟩],none⟩) (v:=?_) rfl (by kernel_rfl) (by kernel_rfl) (by kernel_rfl) (fun _ _ _ h=>h) (Or.inl ⟨by rfl,?_⟩) (by assumption) ?_
  rotate_left
  · (intro w hSw; (try dsimp only at hSw); go_simp; try with_reducible rfl)
  simp only [Act.put,List.setIfInBounds_toArray,List.set_cons_zero,List.set_cons_succ]
  refine wpAnyH_take (i:=6) (oi:=⟨some 83,.fieldAddr 54 (.tmp 82) 2,0,_,#[⟨5,.data⟩],none⟩) (v:=?_) rfl (by kernel_rfl) (by kernel_rfl) (by kernel_rfl) (fun _ _ _ h=>h) (Or.inl ⟨by rfl,?_⟩) (by assumption) ?_
  rotate_left
  · (intro w hSw; (try dsimp only at hSw); go_simp; try with_reducible rfl)
  simp only [Act.put,List.setIfInBounds_toArray,List.set_cons_zero,List.set_cons_succ]
  refine wpAnyH_take (i:=7) (oi:=⟨some 84,.load 51 (.tmp 83),51,_,#[⟨6,.data⟩],none⟩) (v:=?_) rfl (by kernel_rfl) (by kernel_rfl) (by kernel_rfl) (fun _ _ _ h=>h) (Or.inl ⟨by rfl,?_⟩) (by assumption) ?_
  rotate_left
  · (intro w hSw; (try dsimp only at hSw); go_simp; try with_reducible rfl)
  simp only [Act.put,List.setIfInBounds_toArray,List.set_cons_zero,List.set_cons_succ]
  refine wpAnyH_take (i:=8) (oi:=⟨some 85,.move (.tmp 2),3,_,#[],none⟩) (v:=?_) rfl (by kernel_rfl) (by kernel_rfl) (by kernel_rfl) (fun _ _ _ h=>h) (Or.inl ⟨by rfl,?_⟩) (by assumption) ?_
  rotate_left
  · (intro w hSw; (try dsimp only at hSw); go_simp; try with_reducible rfl)
  simp only [Act.put,List.setIfInBounds_toArray,List.set_cons_zero,List.set_cons_succ]
  refine wpAnyH_ready (rs:=[9]) (by kernel_rfl) (by simp) ?_
  refine AllReadyH.cons (o:=⟨some 86,.call ⟨.value (.func 33),#[.tmp 80,.tmp 84,.tmp 85],#[49,51,3]⟩,92,_,#[⟨3,.data⟩,⟨7,.data⟩,⟨8,.data⟩],none⟩) rfl (fun K hK=> ?_) AllReadyH.nil
  go_simp
  (go_at_call 33; refine (HXd9.out.tk.pages (HD.out.below HXd9.out.bel) asid ha HKL.out).mono ?_; rintro e w9 ⟨v9,R9,rfl,hL9,hI9,g9⟩; have HL9:=hidW hL9; have HI9:=hidW hI9; clear hI9; have HX9:=hidW (HXd9.out.below g9); have HG9:=hidW (Below.step (below_drew (Below.refl _ w8)) g9); have HJ:=hidW (And.intro (HX9.out.box.cell 4) (HX9.out.box.cell 5)); simp only [List.getElem?_cons_succ,List.getElem?_cons_zero] at HJ; clear g9 hL9)
  refine hK.out _ _ ?_ (fun hHeld=> ?_)
  · ((try dsimp only); with_reducible exact HJ.out)
  clear hK K
  try simp only [Act.put,List.setIfInBounds_toArray,List.set_cons_zero,List.set_cons_succ]
  refine wpAnyH_take (i:=10) (oi:=⟨some 14,.assign (.tmp 86),92,_,#[⟨9,.data⟩,⟨9,.chain⟩,⟨0,.phase⟩,⟨1,.phase⟩,⟨2,.phase⟩,⟨3,.phase⟩,⟨4,.phase⟩,⟨5,.phase⟩,⟨6,.phase⟩,⟨7,.phase⟩,⟨8,.phase⟩,⟨9,.phase⟩],none⟩) (v:=?_) rfl (by kernel_rfl) (by kernel_rfl) (by kernel_rfl) (fun _ _ _ h=>h) (Or.inl ⟨by rfl,?_⟩) (by assumption) ?_
  rotate_left
  · (intro w hSw; (try dsimp only at hSw); go_simp; try with_reducible rfl)
  simp only [Act.put,List.setIfInBounds_toArray,List.set_cons_zero,List.set_cons_succ]
  refine wpAnyH_done (by kernel_rfl) ?_ _
  clear hHeld HXd9
  have eR:=HI8.out.uniq HI9.out
  subst eR
  have HN:=hidW (HI8.out.len HS.out.ok.ok)
  have B59:Below w5.heap.size w5 w9:=Below.step HG6.out (Below.step HG7.out (Below.step HG8.out HG9.out))
  have HB9:=hidW B59
  have HA9:=hidW (own_below HOa.out (Below.step HG5.out B59))
  have Hb9:=hidW (own_below HOb.out B59)
  have HC9:=hidW (HL6.out.below (Below.step HG7.out (Below.step HG8.out HG9.out)))
  have Hd9:=hidW (HL7.out.below (Below.step HG8.out HG9.out))
  have HP9:Hid (Bs.Lm w9 w7.drew.heap.size v8 R8):=own_below HL8.out HG9.out
  have HQ9:Hid (Bs.Lm w9 w8.drew.heap.size v9 R8):=HL9.out
  have HY9:=hidW (HY3.out.below (Below.step HG4.out (Below.step HG5.out B59)))
  have HYd:=hidW (HY9.out.below (below_drew (Below.refl _ w9)))
  have Hdr:=hidW (below_drew (Below.refl w9.heap.size w9))
  clear B59 HJ
  have HJ:=hidW (And.intro (HYd.out.box.cell 4) (HYd.out.box.cell 5))
  simp only [List.getElem?_cons_succ,List.getElem?_cons_zero] at HJ
  go_wp2_with fail
  refine wp_region_held_drew (S:=fun ww=>ww.cell? ⟨y,4,none⟩=some (.pointer (some ⟨p2,0,none⟩))∧ww.cell? ⟨y,5,none⟩=some iv2) (by kernel_rfl) ?_ (fun hHeld=> ?_)
  · exact HJ.out
  refine wpAnyH_take (i:=0) (oi:=⟨some 87,.move (.tmp 8),28,_,#[],none⟩) (v:=?_) rfl (by kernel_rfl) (by kernel_rfl) (by kernel_rfl) (fun _ _ _ h=>h) (Or.inl ⟨by rfl,?_⟩) (by assumption) ?_
  rotate_left
  · (intro w hSw; (try dsimp only at hSw); go_simp; try with_reducible rfl)
  simp only [Act.put,List.setIfInBounds_toArray,List.set_cons_zero,List.set_cons_succ]
  refine wpAnyH_take (i:=1) (oi:=⟨some 88,.nilCheck (.tmp 87),0,_,#[⟨0,.data⟩],none⟩) (v:=?_) rfl (by kernel_rfl) (by kernel_rfl) (by kernel_rfl) (fun _ _ _ h=>h) (Or.inl ⟨by rfl,?_⟩) (by assumption) ?_
  rotate_left
  · (intro w hSw; (try dsimp only at hSw); go_simp; try with_reducible rfl)
  simp only [Act.put,List.setIfInBounds_toArray,List.set_cons_zero,List.set_cons_succ]
  refine wpAnyH_take (i:=2) (oi:=⟨some 89,.fieldAddr 54 (.tmp 88) 1,0,_,#[⟨1,.data⟩],none⟩) (v:=?_) rfl (by kernel_rfl) (by kernel_rfl) (by kernel_rfl) (fun _ _ _ h=>h) (Or.inl ⟨by rfl,?_⟩) (by assumption) ?_
  rotate_left
  · (intro w hSw; (try dsimp only at hSw); go_simp; try with_reducible rfl)
  simp only [Act.put,List.setIfInBounds_toArray,List.set_cons_zero,List.set_cons_succ]
  refine wpAnyH_take (i:=3) (oi:=⟨some 90,.load 49 (.tmp 89),49,_,#[⟨2,.data⟩],none⟩) (v:=?_) rfl (by kernel_rfl) (by kernel_rfl) (by kernel_rfl) (fun _ _ _ h=>h) (Or.inl ⟨by rfl,?_⟩) (by assumption) ?_
  rotate_left
  · (intro w hSw; (try dsimp only at hSw); go_simp; try with_reducible rfl)
  simp only [Act.put,List.setIfInBounds_toArray,List.set_cons_zero,List.set_cons_succ]
  refine wpAnyH_ready (rs:=[4]) (by kernel_rfl) (by simp) ?_
  refine AllReadyH.cons (o:=⟨some 91,.call ⟨.value (.func 20),#[.tmp 90],#[49]⟩,31,_,#[⟨3,.data⟩],none⟩) rfl (fun K hK=> ?_) AllReadyH.nil
  go_simp
  (go_at_call 20; refine (HYd.out.tk.known (by rw [HZ.out.1]; decide)).mono ?_; rintro e wa ⟨vk,rfl,hLk,gk⟩; obtain ⟨ak,ck,e0⟩:=hLk.form; have e1:vk= .slice ak 0 ck:=(by rw [e0,HZ.out.1]; rfl); subst e1; have HYa:=hidW (HYd.out.below gk); have HGa:=hidW (Below.step Hdr.out gk); have HJ:=hidW (And.intro (HYa.out.box.cell 4) (HYa.out.box.cell 5)); simp only [List.getElem?_cons_succ,List.getElem?_cons_zero] at HJ; clear gk hLk e0)
  refine hK.out _ _ ?_ (fun hHeld=> ?_)
  · ((try dsimp only); with_reducible exact HJ.out)
  clear hK K
  try simp only [Act.put,List.setIfInBounds_toArray,List.set_cons_zero,List.set_cons_succ]
  refine wpAnyH_take (i:=5) (oi:=⟨some 92,.call ⟨.builtin Builtin.len,#[.tmp 91],#[31]⟩,3,_,#[⟨4,.data⟩],none⟩) (v:=?_) rfl (by kernel_rfl) (by kernel_rfl) (by kernel_rfl) (fun _ _ _ h=>h) (Or.inl ⟨by rfl,?_⟩) (by assumption) ?_
  rotate_left
  · (intro w hSw; (try dsimp only at hSw); go_simp; try with_reducible rfl)
  simp only [Act.put,List.setIfInBounds_toArray,List.set_cons_zero,List.set_cons_succ]
  refine wpAnyH_take (i:=6) (oi:=⟨some 93,.binOp BinOp.neq 3 (.tmp 92) (.const (Value.int IntKind.i64 0)) 3,4,_,#[⟨5,.data⟩],none⟩) (v:=?_) rfl (by kernel_rfl) (by kernel_rfl) (by kernel_rfl) (fun _ _ _ h=>h) (Or.inl ⟨by rfl,?_⟩) (by assumption) ?_
  rotate_left
  · (intro w hSw; (try dsimp only at hSw); go_simp; try with_reducible rfl)
  simp only [Act.put,List.setIfInBounds_toArray,List.set_cons_zero,List.set_cons_succ]
  refine wpAnyH_take (i:=7) (oi:=⟨some 94,.move (.tmp 93),4,_,#[⟨6,.data⟩,⟨4,.chain⟩],none⟩) (v:=?_) rfl (by kernel_rfl) (by kernel_rfl) (by kernel_rfl) (fun _ _ _ h=>h) (Or.inl ⟨by rfl,?_⟩) (by assumption) ?_
  rotate_left
  · (intro w hSw; (try dsimp only at hSw); go_simp; try with_reducible rfl)
  simp only [Act.put,List.setIfInBounds_toArray,List.set_cons_zero,List.set_cons_succ]
  refine wpAnyH_take (i:=8) (oi:=⟨some 95,.move (.tmp 8),28,_,#[⟨7,.guard⟩],some (7,false)⟩) (v:=?_) rfl (by kernel_rfl) (by kernel_rfl) (by kernel_rfl) (fun _ _ _ h=>h) (Or.inl ⟨by rfl,?_⟩) (by assumption) ?_
  rotate_left
  · (intro w hSw; (try dsimp only at hSw); go_simp; try with_reducible rfl)
  simp only [Act.put,List.setIfInBounds_toArray,List.set_cons_zero,List.set_cons_succ]
  refine wpAnyH_take (i:=9) (oi:=⟨some 96,.nilCheck (.tmp 95),0,_,#[⟨8,.data⟩,⟨7,.guard⟩],some (7,false)⟩) (v:=?_) rfl (by kernel_rfl) (by kernel_rfl) (by kernel_rfl) (fun _ _ _ h=>h) (Or.inl ⟨by rfl,?_⟩) (by assumption) ?_
  rotate_left
  · (intro w hSw; (try dsimp only at hSw); go_simp; try with_reducible rfl)
  simp only [Act.put,List.setIfInBounds_toArray,List.set_cons_zero,List.set_cons_succ]
  refine wpAnyH_take (i:=10) (oi:=⟨some 97,.fieldAddr 54 (.tmp 96) 1,0,_,#[⟨9,.data⟩,⟨7,.guard⟩],some (7,false)⟩) (v:=?_) rfl (by kernel_rfl) (by kernel_rfl) (by kernel_rfl) (fun _ _ _ h=>h) (Or.inl ⟨by rfl,?_⟩) (by assumption) ?_
  rotate_left
  · (intro w hSw; (try dsimp only at hSw); go_simp; try with_reducible rfl)
  simp only [Act.put,List.setIfInBounds_toArray,List.set_cons_zero,List.set_cons_succ]
  refine wpAnyH_take (i:=11) (oi:=⟨some 98,.load 49 (.tmp 97),49,_,#[⟨10,.data⟩,⟨7,.guard⟩],some (7,false)⟩) (v:=?_) rfl (by kernel_rfl) (by kernel_rfl) (by kernel_rfl) (fun _ _ _ h=>h) (Or.inl ⟨by rfl,?_⟩) (by assumption) ?_
  rotate_left
  · (intro w hSw; (try dsimp only at hSw); go_simp; try with_reducible rfl)
  simp only [Act.put,List.setIfInBounds_toArray,List.set_cons_zero,List.set_cons_succ]
  refine wpAnyH_take (i:=12) (oi:=⟨some 99,.move (.tmp 8),28,_,#[⟨7,.guard⟩],some (7,false)⟩) (v:=?_) rfl (by kernel_rfl) (by kernel_rfl) (by kernel_rfl) (fun _ _ _ h=>h) (Or.inl ⟨by rfl,?_⟩) (by assumption) ?_
  rotate_left
  · (intro w hSw; (try dsimp only at hSw); go_simp; try with_reducible rfl)
  simp only [Act.put,List.setIfInBounds_toArray,List.set_cons_zero,List.set_cons_succ]
  refine wpAnyH_take (i:=13) (oi:=⟨some 100,.nilCheck (.tmp 99),0,_,#[⟨12,.data⟩,⟨7,.guard⟩],some (7,false)⟩) (v:=?_) rfl (by kernel_rfl) (by kernel_rfl) (by kernel_rfl) (fun _ _ _ h=>h) (Or.inl ⟨by rfl,?_⟩) (by assumption) ?_
  rotate_left
  · (intro w hSw; (try dsimp only at hSw); go_simp; try with_reducible rfl)
  simp only [Act.put,List.setIfInBounds_toArray,List.set_cons_zero,List.set_cons_succ]
  refine wpAnyH_take (i:=14) (oi:=⟨some 101,.fieldAddr 54 (.tmp 100) 2,0,_,#[⟨13,.data⟩,⟨7,.guard⟩],some (7,false)⟩) (v:=?_) rfl (by kernel_rfl) (by kernel_rfl) (by kernel_rfl) (fun _ _ _ h=>h) (Or.inl ⟨by rfl,?_⟩) (by assumption) ?_
  rotate_left
  · (intro w hSw; (try dsimp only at hSw); go_simp; try with_reducible rfl)
  simp only [Act.put,List.setIfInBounds_toArray,List.set_cons_zero,List.set_cons_succ]
  refine wpAnyH_take (i:=15) (oi:=⟨some 102,.load 51 (.tmp 101),51,_,#[⟨14,.data⟩,⟨7,.guard⟩],some (7,false)⟩) (v:=?_) rfl (by kernel_rfl) (by kernel_rfl) (by kernel_rfl) (fun _ _ _ h=>h) (Or.inl ⟨by rfl,?_⟩) (by assumption) ?_
  rotate_left
  · (intro w hSw; (try dsimp only at hSw); go_simp; try with_reducible rfl)
  simp only [Act.put,List.setIfInBounds_toArray,List.set_cons_zero,List.set_cons_succ]
  refine wpAnyH_ready (rs:=[16]) (by kernel_rfl) (by simp) ?_
  refine AllReadyH.cons (o:=⟨some 103,.call ⟨.value (.func 13),#[.tmp 98,.tmp 102],#[49,51]⟩,48,_,#[⟨11,.data⟩,⟨15,.data⟩,⟨7,.chain⟩,⟨7,.guard⟩],some (7,false)⟩) rfl (fun K hK=> ?_) AllReadyH.nil
  go_simp
  (go_at_call 13; refine (HYa.out.tk.dirty (by rw [HZ.out.2]; decide)).mono ?_; rintro e wb ⟨vd,rfl,hLd,gd⟩; obtain ⟨ad,cd,e0⟩:=hLd.form; have e1:vd= .slice ad 0 cd:=(by rw [e0,HZ.out.2]; rfl); subst e1; have HYb:=hidW (HYa.out.below gd); have HGb:=hidW (Below.step HGa.out gd); have HJ:=hidW (And.intro (HYb.out.box.cell 4) (HYb.out.box.cell 5)); simp only [List.getElem?_cons_succ,List.getElem?_cons_zero] at HJ; clear gd hLd e0)
  refine hK.out _ _ ?_ (fun hHeld=> ?_)
  · ((try dsimp only); with_reducible exact HJ.out)
  clear hK K
  try simp only [Act.put,List.setIfInBounds_toArray,List.set_cons_zero,List.set_cons_succ]
  refine wpAnyH_take (i:=17) (oi:=⟨some 104,.call ⟨.builtin Builtin.len,#[.tmp 103],#[48]⟩,3,_,#[⟨16,.data⟩,⟨7,.guard⟩],some (7,false)⟩) (v:=?_) rfl (by kernel_rfl) (by kernel_rfl) (by kernel_rfl) (fun _ _ _ h=>h) (Or.inl ⟨by rfl,?_⟩) (by assumption) ?_
  rotate_left
  · (intro w hSw; (try dsimp only at hSw); go_simp; try with_reducible rfl)
  simp only [Act.put,List.setIfInBounds_toArray,List.set_cons_zero,List.set_cons_succ]
  refine wpAnyH_take (i:=18) (oi:=⟨some 105,.binOp BinOp.neq 3 (.tmp 104) (.const (Value.int IntKind.i64 0)) 3,4,_,#[⟨17,.data⟩,⟨7,.guard⟩],some (7,false)⟩) (v:=?_) rfl (by kernel_rfl) (by kernel_rfl) (by kernel_rfl) (fun _ _ _ h=>h) (Or.inl ⟨by rfl,?_⟩) (by assumption) ?_
  rotate_left
  · (intro w hSw; (try dsimp only at hSw); go_simp; try with_reducible rfl)
  simp only [Act.put,List.setIfInBounds_toArray,List.set_cons_zero,List.set_cons_succ]
  refine wpAnyH_take (i:=19) (oi:=⟨some 106,.pick (.tmp 94) (.const (Value.bool true)) (.tmp 105),4,_,#[⟨7,.data⟩,⟨18,.data⟩],none⟩) (v:=?_) rfl (by kernel_rfl) (by kernel_rfl) (by kernel_rfl) (fun _ _ _ h=>h) (Or.inl ⟨by rfl,?_⟩) (by assumption) ?_
  rotate_left
  · (intro w hSw; (try dsimp only at hSw); go_simp; try with_reducible rfl)
  simp only [Act.put,List.setIfInBounds_toArray,List.set_cons_zero,List.set_cons_succ]
  refine wpAnyH_take (i:=20) (oi:=⟨some 107,.move (.tmp 106),4,_,#[⟨19,.data⟩,⟨16,.chain⟩],none⟩) (v:=?_) rfl (by kernel_rfl) (by kernel_rfl) (by kernel_rfl) (fun _ _ _ h=>h) (Or.inl ⟨by rfl,?_⟩) (by assumption) ?_
  rotate_left
  · (intro w hSw; (try dsimp only at hSw); go_simp; try with_reducible rfl)
  simp only [Act.put,List.setIfInBounds_toArray,List.set_cons_zero,List.set_cons_succ]
  refine wpAnyH_take (i:=21) (oi:=⟨some 108,.move (.tmp 9),31,_,#[⟨20,.guard⟩],some (20,false)⟩) (v:=?_) rfl (by kernel_rfl) (by kernel_rfl) (by kernel_rfl) (fun _ _ _ h=>h) (Or.inl ⟨by rfl,?_⟩) (by assumption) ?_
  rotate_left
  · (intro w hSw; (try dsimp only at hSw); go_simp; try with_reducible rfl)
  simp only [Act.put,List.setIfInBounds_toArray,List.set_cons_zero,List.set_cons_succ]
  refine wpAnyH_take (i:=22) (oi:=⟨some 109,.move (.tmp 10),31,_,#[⟨20,.guard⟩],some (20,false)⟩) (v:=?_) rfl (by kernel_rfl) (by kernel_rfl) (by kernel_rfl) (fun _ _ _ h=>h) (Or.inl ⟨by rfl,?_⟩) (by assumption) ?_
  rotate_left
  · (intro w hSw; (try dsimp only at hSw); go_simp; try with_reducible rfl)
  simp only [Act.put,List.setIfInBounds_toArray,List.set_cons_zero,List.set_cons_succ]
  refine wpAnyH_ready (rs:=[23]) (by kernel_rfl) (by simp) ?_
  refine AllReadyH.cons (o:=⟨some 110,.call ⟨.value (.func 23),#[.tmp 108,.tmp 109],#[31,31]⟩,4,_,#[⟨21,.data⟩,⟨22,.data⟩,⟨20,.chain⟩,⟨20,.guard⟩],some (20,false)⟩) rfl (fun K hK=> ?_) AllReadyH.nil
  go_simp
  (go_at_call 23; refine (sameB_any wb _ _ σ.K (Sli.of (k:=9) (fun _=>rfl) (own_ltg encB_len (own_below HA9.out HGb.out))) (Sli.of (k:=9) (fun _=>rfl) (own_ltg encB_len (own_below Hb9.out HGb.out))) (by have:=HS.out.known; omega)).mono ?_; rintro e wc ⟨rfl,gs⟩; have HYc:=hidW (HYb.out.below gs); have HGc:=hidW (Below.step HGb.out gs); have HJ:=hidW (And.intro (HYc.out.box.cell 4) (HYc.out.box.cell 5)); simp only [List.getElem?_cons_succ,List.getElem?_cons_zero] at HJ; clear gs)
  refine hK.out _ _ ?_ (fun hHeld=> ?_)
  · ((try dsimp only); with_reducible exact HJ.out)
  clear hK K
  try simp only [Act.put,List.setIfInBounds_toArray,List.set_cons_zero,List.set_cons_succ]
  refine wpAnyH_take (i:=24) (oi:=⟨some 111,.unOp UnOp.not 4 (.tmp 110),4,_,#[⟨23,.data⟩,⟨20,.guard⟩],some (20,false)⟩) (v:=?_) rfl (by kernel_rfl) (by kernel_rfl) (by kernel_rfl) (fun _ _ _ h=>h) (Or.inl ⟨by rfl,?_⟩) (by assumption) ?_
  rotate_left
  · (intro w hSw; (try dsimp only at hSw); go_simp; try with_reducible rfl)
  simp only [Act.put,List.setIfInBounds_toArray,List.set_cons_zero,List.set_cons_succ]
  refine wpAnyH_take (i:=25) (oi:=⟨some 112,.pick (.tmp 107) (.const (Value.bool true)) (.tmp 111),4,_,#[⟨20,.data⟩,⟨24,.data⟩],none⟩) (v:=?_) rfl (by kernel_rfl) (by kernel_rfl) (by kernel_rfl) (fun _ _ _ h=>h) (Or.inl ⟨by rfl,?_⟩) (by assumption) ?_
  rotate_left
  · (intro w hSw; (try dsimp only at hSw); go_simp; try with_reducible rfl)
  simp only [Act.put,List.setIfInBounds_toArray,List.set_cons_zero,List.set_cons_succ]
  refine wpAnyH_take (i:=26) (oi:=⟨some 113,.move (.tmp 112),4,_,#[⟨25,.data⟩,⟨23,.chain⟩],none⟩) (v:=?_) rfl (by kernel_rfl) (by kernel_rfl) (by kernel_rfl) (fun _ _ _ h=>h) (Or.inl ⟨by rfl,?_⟩) (by assumption) ?_
  rotate_left
  · (intro w hSw; (try dsimp only at hSw); go_simp; try with_reducible rfl)
  simp only [Act.put,List.setIfInBounds_toArray,List.set_cons_zero,List.set_cons_succ]
  refine wpAnyH_take (i:=27) (oi:=⟨some 114,.move (.tmp 11),48,_,#[⟨26,.guard⟩],some (26,false)⟩) (v:=?_) rfl (by kernel_rfl) (by kernel_rfl) (by kernel_rfl) (fun _ _ _ h=>h) (Or.inl ⟨by rfl,?_⟩) (by assumption) ?_
  rotate_left
  · (intro w hSw; (try dsimp only at hSw); go_simp; try with_reducible rfl)
  simp only [Act.put,List.setIfInBounds_toArray,List.set_cons_zero,List.set_cons_succ]
  refine wpAnyH_take (i:=28) (oi:=⟨some 115,.move (.tmp 12),48,_,#[⟨26,.guard⟩],some (26,false)⟩) (v:=?_) rfl (by kernel_rfl) (by kernel_rfl) (by kernel_rfl) (fun _ _ _ h=>h) (Or.inl ⟨by rfl,?_⟩) (by assumption) ?_
  rotate_left
  · (intro w hSw; (try dsimp only at hSw); go_simp; try with_reducible rfl)
  simp only [Act.put,List.setIfInBounds_toArray,List.set_cons_zero,List.set_cons_succ]
  refine wpAnyH_ready (rs:=[29]) (by kernel_rfl) (by simp) ?_
  refine AllReadyH.cons (o:=⟨some 116,.call ⟨.value (.func 24),#[.tmp 114,.tmp 115],#[48,48]⟩,4,_,#[⟨27,.data⟩,⟨28,.data⟩,⟨26,.chain⟩,⟨26,.guard⟩],some (26,false)⟩) rfl (fun K hK=> ?_) AllReadyH.nil
  go_simp
  (go_at_call 24; refine (sameD_any wc _ _ _ (Sli.of (k:=10) (fun _=>rfl) (HC9.out.below HGc.out)) (Sli.of (k:=10) (fun _=>rfl) (Hd9.out.below HGc.out)) (by have:=HS.out.dirty; omega)).mono ?_; rintro e wd ⟨rfl,gs⟩; have HYe:=hidW (HYc.out.below gs); have HGd:=hidW (Below.step HGc.out gs); have HJ:=hidW (And.intro (HYe.out.box.cell 4) (HYe.out.box.cell 5)); simp only [List.getElem?_cons_succ,List.getElem?_cons_zero] at HJ; clear gs)
  refine hK.out _ _ ?_ (fun hHeld=> ?_)
  · ((try dsimp only); with_reducible exact HJ.out)
  clear hK K
  try simp only [Act.put,List.setIfInBounds_toArray,List.set_cons_zero,List.set_cons_succ]
  refine wpAnyH_take (i:=30) (oi:=⟨some 117,.unOp UnOp.not 4 (.tmp 116),4,_,#[⟨29,.data⟩,⟨26,.guard⟩],some (26,false)⟩) (v:=?_) rfl (by kernel_rfl) (by kernel_rfl) (by kernel_rfl) (fun _ _ _ h=>h) (Or.inl ⟨by rfl,?_⟩) (by assumption) ?_
  rotate_left
  · (intro w hSw; (try dsimp only at hSw); go_simp; try with_reducible rfl)
  simp only [Act.put,List.setIfInBounds_toArray,List.set_cons_zero,List.set_cons_succ]
  refine wpAnyH_take (i:=31) (oi:=⟨some 118,.pick (.tmp 113) (.const (Value.bool true)) (.tmp 117),4,_,#[⟨26,.data⟩,⟨30,.data⟩],none⟩) (v:=?_) rfl (by kernel_rfl) (by kernel_rfl) (by kernel_rfl) (fun _ _ _ h=>h) (Or.inl ⟨by rfl,?_⟩) (by assumption) ?_
  rotate_left
  · (intro w hSw; (try dsimp only at hSw); go_simp; try with_reducible rfl)
  simp only [Act.put,List.setIfInBounds_toArray,List.set_cons_zero,List.set_cons_succ]
  refine wpAnyH_take (i:=32) (oi:=⟨some 119,.move (.tmp 118),4,_,#[⟨31,.data⟩,⟨29,.chain⟩],none⟩) (v:=?_) rfl (by kernel_rfl) (by kernel_rfl) (by kernel_rfl) (fun _ _ _ h=>h) (Or.inl ⟨by rfl,?_⟩) (by assumption) ?_
  rotate_left
  · (intro w hSw; (try dsimp only at hSw); go_simp; try with_reducible rfl)
  simp only [Act.put,List.setIfInBounds_toArray,List.set_cons_zero,List.set_cons_succ]
  refine wpAnyH_take (i:=33) (oi:=⟨some 120,.move (.tmp 13),92,_,#[⟨32,.guard⟩],some (32,false)⟩) (v:=?_) rfl (by kernel_rfl) (by kernel_rfl) (by kernel_rfl) (fun _ _ _ h=>h) (Or.inl ⟨by rfl,?_⟩) (by assumption) ?_
  rotate_left
  · (intro w hSw; (try dsimp only at hSw); go_simp; try with_reducible rfl)
  simp only [Act.put,List.setIfInBounds_toArray,List.set_cons_zero,List.set_cons_succ]
  refine wpAnyH_take (i:=34) (oi:=⟨some 121,.move (.tmp 14),92,_,#[⟨32,.guard⟩],some (32,false)⟩) (v:=?_) rfl (by kernel_rfl) (by kernel_rfl) (by kernel_rfl) (fun _ _ _ h=>h) (Or.inl ⟨by rfl,?_⟩) (by assumption) ?_
  rotate_left
  · (intro w hSw; (try dsimp only at hSw); go_simp; try with_reducible rfl)
  simp only [Act.put,List.setIfInBounds_toArray,List.set_cons_zero,List.set_cons_succ]
  refine wpAnyH_ready (rs:=[35]) (by kernel_rfl) (by simp) ?_
  refine AllReadyH.cons (o:=⟨some 122,.call ⟨.value (.func 36),#[.tmp 120,.tmp 121],#[92,92]⟩,4,_,#[⟨33,.data⟩,⟨34,.data⟩,⟨32,.chain⟩,⟨32,.guard⟩],some (32,false)⟩) rfl (fun K hK=> ?_) AllReadyH.nil
  go_simp
  (go_at_call 36; refine (Bs.rooms_any wd _ _ _ _ R8 (own_below HP9.out HGd.out) (own_below HQ9.out HGd.out) (by have:=HN.out; omega)).mono ?_; rintro e we ⟨rfl,gs⟩; have HYf:=hidW (HYe.out.below gs); have HGe:=hidW (Below.step HGd.out gs); have HJ:=hidW (And.intro (HYf.out.box.cell 4) (HYf.out.box.cell 5)); simp only [List.getElem?_cons_succ,List.getElem?_cons_zero] at HJ; clear gs)
  refine hK.out _ _ ?_ (fun hHeld=> ?_)
  · ((try dsimp only); with_reducible exact HJ.out)
  clear hK K
  try simp only [Act.put,List.setIfInBounds_toArray,List.set_cons_zero,List.set_cons_succ]
  refine wpAnyH_take (i:=36) (oi:=⟨some 123,.unOp UnOp.not 4 (.tmp 122),4,_,#[⟨35,.data⟩,⟨32,.guard⟩],some (32,false)⟩) (v:=?_) rfl (by kernel_rfl) (by kernel_rfl) (by kernel_rfl) (fun _ _ _ h=>h) (Or.inl ⟨by rfl,?_⟩) (by assumption) ?_
  rotate_left
  · (intro w hSw; (try dsimp only at hSw); go_simp; try with_reducible rfl)
  simp only [Act.put,List.setIfInBounds_toArray,List.set_cons_zero,List.set_cons_succ]
  refine wpAnyH_take (i:=37) (oi:=⟨some 124,.pick (.tmp 119) (.const (Value.bool true)) (.tmp 123),4,_,#[⟨32,.data⟩,⟨36,.data⟩],none⟩) (v:=?_) rfl (by kernel_rfl) (by kernel_rfl) (by kernel_rfl) (fun _ _ _ h=>h) (Or.inl ⟨by rfl,?_⟩) (by assumption) ?_
  rotate_left
  · (intro w hSw; (try dsimp only at hSw); go_simp; try with_reducible rfl)
  simp only [Act.put,List.setIfInBounds_toArray,List.set_cons_zero,List.set_cons_succ]
  refine wpAnyH_done (by kernel_rfl) ?_ _
  clear hHeld
  have HFr:Hid (FrL w3 we σ.K (diL σ.mem.mo σ.K σ.J) R8 va vb v6 v7 v8 v9 w4.heap.size w5.heap.size w6.heap.size w7.heap.size w8.heap.size w9.heap.size):=by
    have s4:=HG4.out.size
    have s5:=HG5.out.size
    have s6:=HG6.out.size
    have s7:=HG7.out.size
    have s8:=HG8.out.size
    have s9:=HG9.out.size
    have se:=HGe.out.size
    exact ⟨Below.step HG4.out (Below.step HG5.out (Below.step HB9.out HGe.out)),⟨s4,s5,s6,s7,s8,s9,se⟩,own_below HA9.out HGe.out,fun g h=>(HOa.out.lt g h).2,own_below Hb9.out HGe.out,fun g h=>(HOb.out.lt g h).2,HC9.out.below HGe.out,ltg_lt HL6.out,Hd9.out.below HGe.out,ltg_lt HL7.out,own_below HP9.out HGe.out,fun g h=>(HL8.out.lt g h).2,own_below HQ9.out HGe.out,fun g h=>(HL9.out.lt g h).2⟩
  go_wp2_with fail
  refine HCc.out _ _ ?_
  exact HTl.out W0 w3 we x p kb jb wv iv _ _ _ σ R8 va vb v6 v7 v8 v9 _ _ _ _ _ _ HB0.out HD.out HX3.out HS.out HKL.out HI8.out HFr.out
end Go.Proofs.YtnjlajjjcmhfgaaGreatDoor
