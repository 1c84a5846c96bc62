import Derived.Test.YtnjlajjjcmhfgaaGreatDoorRF02
namespace Go.Proofs.YtnjlajjjcmhfgaaGreatDoor
open Go.RowKit Go.Shelf
open Mm (Turn gr RM valV errV Byts setV RowAt)
set_option linter.unusedVariables false
set_option linter.unusedSimpArgs false
attribute [local go_sem] Oper.semAt_some
set_option maxRecDepth 1000000 in
set_option maxHeartbeats 16000000 in
theorem seen_body {Q:Exit→Act→World→Prop} {v0 v1 v2 v3 v4 v7 v8 v9 v10 v11 v15 v16 v17 v18 v19 v20 v21 v22 v23 v24 v25 v26 v27 v28 v29 v30 v31 v32 v33 v34 v35 v36 v37 v38 v39 v40 v41 v42 v43 v44 v45 v46 v47 v48 v49 v50 v51 v52 v53 v54 v55 v56 v57 v58 v59 v60 v61 v62 v63 v64 v65 v66 v67 v68 v69 v70 v71 v72 v73 v74 v75 v76 v77 v78 v79 v80 v81 v82 v83 v84 v85 v86 v87 v88 v89 v90 v91 v92 v93 v94 v95 v96 v97 v98 v99 v100 v101 v102 v103 v104 v105 v106 v107 v108 v109 v110 v111 v112 v113 v114 v115 v116 v117 v118 v119 v120 v121 v122 v123 v124 v125 v126 v127 v128 v129 v130 v131 v132 v133 v134 v135 v136 v137 v138 v139 v140 v141 v142 v143 v144 v145 v146 v147 v148 v149 v150 v151 v152 v153 v154 v155 v156 v157 v158 v159 v160 v161 v162 v163 v164 v165 v166 v167 v168 v169 v170 v171 v172 v173 v174 v175 v176 v177 v178 v179 v180 v181 v182 v183 v184 v185 v186 v187 v188 v189 v190 v191 v192 v193 v194 v195 v196:Value} (l n:Nat) (w2 w:World) (b5 b6 b12 b13 bx x:Nat) (bv0 bv:Value) (B:List Blo) (sl:List Value) (iv:Value) (c:Ctx) (t:Tra) (dv:Value) (dlo:Nat) (D:List Dir) (s:Bool) (h:RdX w2 w b6 bv0 bv B) (h5:Bl w b5 28 [.pointer (some ⟨x,0,none⟩)]) (hx:Bl w x 54 sl) (hsl:sl[5]? =some iv) (h12:Bl w b12 47 ([.bool c.on,.bool c.tre,.bool c.afe,.int .i64 c.n,.bool c.pd0,.bool c.pd1,.int .u64 c.b0,.int .u64 c.b1,.int .u32 c.dacr,.int .u32 c.prrr,.int .u32 c.nmrr,.int .i64 c.asid])) (h13:Bl w b13 48 [dv]) (hbx:Bl w bx 43 ([.int .i64 t.size,.int .u32 t.va,.int .u64 t.pa,.int .i64 t.dom,.int .i64 t.ap,.int .u32 t.bits,.bool t.ng,.bool t.xn])) (hD:LtG encD 74 w dlo dv D) (hlB:B.length≤2199023255552) (hlD:D.length≤4611686018427387904) (HSm:Hid (∀ww,Turn (fun g=>g=b6∨bv.ownBlock=some g) w ww→Calls Tryz.prog 17 #[iv,.agg #[.bool c.on,.bool c.tre,.bool c.afe,.int .i64 c.n,.bool c.pd0,.bool c.pd1,.int .u64 c.b0,.int .u64 c.b1,.int .u32 c.dacr,.int .u32 c.prrr,.int .u32 c.nmrr,.int .i64 c.asid],.agg #[.int .i64 t.size,.int .u32 t.va,.int .u64 t.pa,.int .i64 t.dom,.int .i64 t.ap,.int .u32 t.bits,.bool t.ng,.bool t.xn]] ww fun e w'=>e= .returned (.bool s)∧Below ww.heap.size ww w')) (hs:(D.any fun y=>y.asid == c.asid && y.b.same (tgB c.asid t))= !s) (hQ:∀a w,¬Q .outgrown a w) (hpan:∀ {c:List PanicEntry} {a:Act} {d:Option Tmp} {v:Value} {w:World},Q (.panic c) (a.put d v) w→Q (.panic c) a w)
    (HN:Hid (∀a w' bv',RdX w2 w' b6 bv0 bv' (bk1 c.asid B t)→Turn (fun g=>g=b6∨bv.ownBlock=some g) w w'→Q .normal a w')) :
    (seY Tryz.f3).wpIn (Fence.wide.inRound l) n Tryz.prog Q ⟨(v0::v1::v2::v3::v4::(.pointer (some ⟨b5,0,none⟩))::(.pointer (some ⟨b6,0,none⟩))::v7::v8::v9::v10::v11::(.pointer (some ⟨b12,0,none⟩))::(.pointer (some ⟨b13,0,none⟩))::(.pointer (some ⟨bx,0,none⟩))::v15::v16::v17::v18::v19::v20::v21::v22::v23::v24::v25::v26::v27::v28::v29::v30::v31::v32::v33::v34::v35::v36::v37::v38::v39::v40::v41::v42::v43::v44::v45::v46::v47::v48::v49::v50::v51::v52::v53::v54::v55::v56::v57::v58::v59::v60::v61::v62::v63::v64::v65::v66::v67::v68::v69::v70::v71::v72::v73::v74::v75::v76::v77::v78::v79::v80::v81::v82::v83::v84::v85::v86::v87::v88::v89::v90::v91::v92::v93::v94::v95::v96::v97::v98::v99::v100::v101::v102::v103::v104::v105::v106::v107::v108::v109::v110::v111::v112::v113::v114::v115::v116::v117::v118::v119::v120::v121::v122::v123::v124::v125::v126::v127::v128::v129::v130::v131::v132::v133::v134::v135::v136::v137::v138::v139::v140::v141::v142::v143::v144::v145::v146::v147::v148::v149::v150::v151::v152::v153::v154::v155::v156::v157::v158::v159::v160::v161::v162::v163::v164::v165::v166::v167::v168::v169::v170::v171::v172::v173::v174::v175::v176::v177::v178::v179::v180::v181::v182::v183::v184::v185::v186::v187::v188::v189::v190::v191::v192::v193::v194::v195::v196::[]).toArray,[]⟩ w:=by
  have HH:Hid (∀ww,Turn (fun g=>g=b6∨bv.ownBlock=some g) w ww→Bl ww b5 28 [.pointer (some ⟨x,0,none⟩)]∧Bl ww x 54 sl∧Bl ww b12 47 ([.bool c.on,.bool c.tre,.bool c.afe,.int .i64 c.n,.bool c.pd0,.bool c.pd1,.int .u64 c.b0,.int .u64 c.b1,.int .u32 c.dacr,.int .u32 c.prrr,.int .u32 c.nmrr,.int .i64 c.asid])∧Bl ww b13 48 [dv]∧Bl ww bx 43 ([.int .i64 t.size,.int .u32 t.va,.int .u64 t.pa,.int .i64 t.dom,.int .i64 t.ap,.int .u32 t.bits,.bool t.ng,.bool t.xn])∧LtG encD 74 ww dlo dv D):=fun ww T=>by
    refine ⟨h5.turn T (h.apart h5 (by decide) (by decide)),hx.turn T (h.apart hx (by decide) (by decide)),h12.turn T (h.apart h12 (by decide) (by decide)),h13.turn T (h.apart h13 (by decide) (by decide)),hbx.turn T (h.apart hbx (by decide) (by decide)),?_⟩
    obtain ⟨a,cap,e,h0⟩:=hD
    refine ⟨a,cap,e,h0.imp id ?_⟩
    rintro ⟨g,rest,e1,e2,e3⟩
    exact ⟨g,rest,e1,e2,(show Bl ww g 74 _ from Bl.turn (show Bl w g 74 _ from e3) T (h.apart (show Bl w g 74 _ from e3) (by decide) (by decide)))⟩
  have HR:=hidW h
  have HTg:=hidW (tagged_any t c.asid w)
  have hss:(s == !s)=false:=by cases s <;>rfl
  have HS:=hidW hs
  have HSL:=hidW hsl
  have HB1:Hid (bk1 c.asid B t=if (B.any fun y=>y.same (tgB c.asid t))=true then B else B++[tgB c.asid t]):=rfl
  have c5:=h5.cell 0
  have c12:=h12.cell 11
  have cX:=hbx.cell
  simp only [List.getElem?_cons_zero,List.getElem?_cons_succ] at c5 c12
  clear h h5 hx h12 h13 hbx hD hs hsl
  generalize tgB c.asid t=b at *
  conv=>arg 4; whnf
  refine wpIn_block ?_
  gi_wp2_with fail
  refine ⟨trivial,fun h=>by simp [Fence.wide] at h,(CallsIn.inRound l (callsIn_wide.2 HTg.out)).mono ?_⟩
  rintro e w1 ⟨rfl,hb1⟩
  have hba:Below w.heap.size w (w1.alloc (.cells ([.int .i64 b.asid,.int .i64 b.t.size,.int .u32 b.t.va,.int .u64 b.t.pa,.int .i64 b.t.dom,.int .i64 b.t.ap,.int .u32 b.t.bits,.bool b.t.ng,.bool b.t.xn]).toArray 45)):=Below.step hb1 (below_new _ _)
  have HRa:=hidW (HR.out.below hba)
  have H15:=hidW (Bl.new w1 45 ([.int .i64 b.asid,.int .i64 b.t.size,.int .u32 b.t.va,.int .u64 b.t.pa,.int .i64 b.t.dom,.int .i64 b.t.ap,.int .u32 b.t.bits,.bool b.t.ng,.bool b.t.xn]))
  have HTa:Hid (Turn (fun g=>g=b6∨bv.ownBlock=some g) w (w1.alloc (.cells ([.int .i64 b.asid,.int .i64 b.t.size,.int .u32 b.t.va,.int .u64 b.t.pa,.int .i64 b.t.dom,.int .i64 b.t.ap,.int .u32 b.t.bits,.bool b.t.ng,.bool b.t.xn]).toArray 45))):=Turn.below hba
  have hz:w.heap.size≤w1.heap.size:=hb1.size
  have hr6:=HR.out.bb.lt
  have hrow:∀g,bv.ownBlock=some g→g<w.heap.size:=fun g hg=>(HR.out.own.lt g hg).2
  have HNE:Hid (¬(w1.heap.size=b6∨bv.ownBlock=some w1.heap.size)):=by
    rintro (e|e)
    · omega
    · have:=hrow _ e; omega
  have c6:=HRa.out.bb.cell 0
  have cB:=H15.out.cell
  simp only [List.getElem?_cons_zero] at c6
  have HHa:=hidW (has_any _ bv B HRa.out.sli (by omega) b)
  clear hb1 hba c5 c12 cX HTg hrow
  gi_wp2_with fail
  generalize hw3:w1.alloc (.cells ([.int .i64 b.asid,.int .i64 b.t.size,.int .u32 b.t.va,.int .u64 b.t.pa,.int .i64 b.t.dom,.int .i64 b.t.ap,.int .u32 b.t.bits,.bool b.t.ng,.bool b.t.xn]).toArray 45)=w3 at *
  clear hw3
  generalize w1.heap.size=b15 at *
  refine ⟨trivial,fun h=>by simp [Fence.wide] at h,(CallsIn.inRound l (callsIn_wide.2 HHa.out)).mono ?_⟩
  rintro e w4 ⟨rfl,hb4⟩
  have HR4:=hidW (HRa.out.below hb4)
  have HT4:Hid (Turn (fun g=>g=b6∨bv.ownBlock=some g) w w4):=HTa.out.trans (S':=(fun g=>g=b6∨bv.ownBlock=some g)) (Turn.below hb4) (fun g hg=> .inl hg)
  have H154:=hidW (H15.out.below hb4)
  clear hb4 HHa c6 cB HRa HTa H15
  cases hany:(B.any fun y=>y.same b) with
  | true =>
    rw [hany,if_pos rfl] at HB1
    gi_wp2_with fail
    have HI:Hid (∃bv',RdX w2 w4 b6 bv0 bv' (bk1 c.asid B t)∧Turn (fun g=>g=b6∨bv.ownBlock=some g) w w4∧Bl w4 b15 45 ([.int .i64 b.asid,.int .i64 b.t.size,.int .u32 b.t.va,.int .u64 b.t.pa,.int .i64 b.t.dom,.int .i64 b.t.ap,.int .u32 b.t.bits,.bool b.t.ng,.bool b.t.xn])):=⟨bv,by rw [HB1.out]; exact HR4.out,HT4.out,H154.out⟩
    obtain ⟨bv',hR6,hT6,hB6⟩:=HI.out
    have HR6:=hidW hR6
    have HT6:=hidW hT6
    have HC:Hid (∀ww,Below w4.heap.size w4 ww→ww.cell? ⟨b5,0,none⟩=some (.pointer (some ⟨x,0,none⟩))∧ww.cell? ⟨x,5,none⟩=some iv∧ww.cell? ⟨b12,0,none⟩=some (.bool c.on)∧ww.cell? ⟨b12,1,none⟩=some (.bool c.tre)∧ww.cell? ⟨b12,2,none⟩=some (.bool c.afe)∧ww.cell? ⟨b12,3,none⟩=some (.int .i64 c.n)∧ww.cell? ⟨b12,4,none⟩=some (.bool c.pd0)∧ww.cell? ⟨b12,5,none⟩=some (.bool c.pd1)∧ww.cell? ⟨b12,6,none⟩=some (.int .u64 c.b0)∧ww.cell? ⟨b12,7,none⟩=some (.int .u64 c.b1)∧ww.cell? ⟨b12,8,none⟩=some (.int .u32 c.dacr)∧ww.cell? ⟨b12,9,none⟩=some (.int .u32 c.prrr)∧ww.cell? ⟨b12,10,none⟩=some (.int .u32 c.nmrr)∧ww.cell? ⟨b12,11,none⟩=some (.int .i64 c.asid)∧ww.cell? ⟨bx,0,none⟩=some (.int .i64 t.size)∧ww.cell? ⟨bx,1,none⟩=some (.int .u32 t.va)∧ww.cell? ⟨bx,2,none⟩=some (.int .u64 t.pa)∧ww.cell? ⟨bx,3,none⟩=some (.int .i64 t.dom)∧ww.cell? ⟨bx,4,none⟩=some (.int .i64 t.ap)∧ww.cell? ⟨bx,5,none⟩=some (.int .u32 t.bits)∧ww.cell? ⟨bx,6,none⟩=some (.bool t.ng)∧ww.cell? ⟨bx,7,none⟩=some (.bool t.xn)∧ww.cell? ⟨b13,0,none⟩=some dv∧ww.cell? ⟨b15,0,none⟩=some (.int .i64 b.asid)∧ww.cell? ⟨b15,1,none⟩=some (.int .i64 b.t.size)∧ww.cell? ⟨b15,2,none⟩=some (.int .u32 b.t.va)∧ww.cell? ⟨b15,3,none⟩=some (.int .u64 b.t.pa)∧ww.cell? ⟨b15,4,none⟩=some (.int .i64 b.t.dom)∧ww.cell? ⟨b15,5,none⟩=some (.int .i64 b.t.ap)∧ww.cell? ⟨b15,6,none⟩=some (.int .u32 b.t.bits)∧ww.cell? ⟨b15,7,none⟩=some (.bool b.t.ng)∧ww.cell? ⟨b15,8,none⟩=some (.bool b.t.xn)):=fun ww hb=>by
      have hT:=hT6.trans (S':=(fun g=>g=b6∨bv.ownBlock=some g)) (Turn.below hb) (fun g hg=> .inl hg)
      obtain ⟨q5,qx,q12,q13,qb,_⟩:=HH.out ww hT
      have q15:=hB6.below hb
      exact ⟨q5.cell 0,(qx.cell 5).trans HSL.out,q12.cell 0,q12.cell 1,q12.cell 2,q12.cell 3,q12.cell 4,q12.cell 5,q12.cell 6,q12.cell 7,q12.cell 8,q12.cell 9,q12.cell 10,q12.cell 11,qb.cell 0,qb.cell 1,qb.cell 2,qb.cell 3,qb.cell 4,qb.cell 5,qb.cell 6,qb.cell 7,q13.cell 0,q15.cell 0,q15.cell 1,q15.cell 2,q15.cell 3,q15.cell 4,q15.cell 5,q15.cell 6,q15.cell 7,q15.cell 8⟩
    have HDi:Hid (∀ww,Below w4.heap.size w4 ww→Calls Tryz.prog 18 #[dv,.int .i64 c.asid,.agg #[.int .i64 b.asid,.int .i64 b.t.size,.int .u32 b.t.va,.int .u64 b.t.pa,.int .i64 b.t.dom,.int .i64 b.t.ap,.int .u32 b.t.bits,.bool b.t.ng,.bool b.t.xn]] ww fun e w'=>e= .returned (.bool (!s))∧Below ww.heap.size ww w'):=fun ww hb=>by
      have hT:=hT6.trans (S':=(fun g=>g=b6∨bv.ownBlock=some g)) (Turn.below hb) (fun g hg=> .inl hg)
      obtain ⟨_,_,_,_,_,q6⟩:=HH.out ww hT
      have:=isDirty_any ww dv D (Sli.of (k:=10) (fun _=>rfl) q6) hlD c.asid b
      rw [HS.out] at this
      exact this
    have hd6:=below_drew (Below.refl w4.heap.size w4)
    have HJ:=hidW (HC.out _ hd6)
    have HSa:=hidW (HSm.out w4.drew (hT6.trans (S':=(fun g=>g=b6∨bv.ownBlock=some g)) (Turn.below hd6) (fun g hg=> .inl hg)))
    clear HI hR6 hT6 hB6 HR4 HT4 H154
    refine regionIn_held (k:=13) (fun ww=>ww.cell? ⟨b5,0,none⟩=some (.pointer (some ⟨x,0,none⟩))∧ww.cell? ⟨x,5,none⟩=some iv∧ww.cell? ⟨b12,0,none⟩=some (.bool c.on)∧ww.cell? ⟨b12,1,none⟩=some (.bool c.tre)∧ww.cell? ⟨b12,2,none⟩=some (.bool c.afe)∧ww.cell? ⟨b12,3,none⟩=some (.int .i64 c.n)∧ww.cell? ⟨b12,4,none⟩=some (.bool c.pd0)∧ww.cell? ⟨b12,5,none⟩=some (.bool c.pd1)∧ww.cell? ⟨b12,6,none⟩=some (.int .u64 c.b0)∧ww.cell? ⟨b12,7,none⟩=some (.int .u64 c.b1)∧ww.cell? ⟨b12,8,none⟩=some (.int .u32 c.dacr)∧ww.cell? ⟨b12,9,none⟩=some (.int .u32 c.prrr)∧ww.cell? ⟨b12,10,none⟩=some (.int .u32 c.nmrr)∧ww.cell? ⟨b12,11,none⟩=some (.int .i64 c.asid)∧ww.cell? ⟨bx,0,none⟩=some (.int .i64 t.size)∧ww.cell? ⟨bx,1,none⟩=some (.int .u32 t.va)∧ww.cell? ⟨bx,2,none⟩=some (.int .u64 t.pa)∧ww.cell? ⟨bx,3,none⟩=some (.int .i64 t.dom)∧ww.cell? ⟨bx,4,none⟩=some (.int .i64 t.ap)∧ww.cell? ⟨bx,5,none⟩=some (.int .u32 t.bits)∧ww.cell? ⟨bx,6,none⟩=some (.bool t.ng)∧ww.cell? ⟨bx,7,none⟩=some (.bool t.xn)∧ww.cell? ⟨b13,0,none⟩=some dv∧ww.cell? ⟨b15,0,none⟩=some (.int .i64 b.asid)∧ww.cell? ⟨b15,1,none⟩=some (.int .i64 b.t.size)∧ww.cell? ⟨b15,2,none⟩=some (.int .u32 b.t.va)∧ww.cell? ⟨b15,3,none⟩=some (.int .u64 b.t.pa)∧ww.cell? ⟨b15,4,none⟩=some (.int .i64 b.t.dom)∧ww.cell? ⟨b15,5,none⟩=some (.int .i64 b.t.ap)∧ww.cell? ⟨b15,6,none⟩=some (.int .u32 b.t.bits)∧ww.cell? ⟨b15,7,none⟩=some (.bool b.t.ng)∧ww.cell? ⟨b15,8,none⟩=some (.bool b.t.xn)) (by rfl) (by kernel_rfl) (no_defer (by kernel_rfl)) (by rintro ⟨a,w,h⟩; exact hQ a w h) ?_
    have hHeld:=HJ.out
    refine wpAnyH_take (i:=0) (oi:=⟨some 128,.load 28 (.tmp 5),28,_,#[],none⟩) (v:=?_) rfl (by kernel_rfl) (by kernel_rfl) (by kernel_rfl) (fun _ _ _ h=>hpan h) (Or.inl ⟨by rfl,?_⟩) (by assumption) ?_
    rotate_left
    · (intro w hSw; (try dsimp only at hSw); go_simp; try with_reducible rfl)
    simp only [Act.put,List.setIfInBounds_toArray,List.set_cons_zero,List.set_cons_succ]
    refine wpAnyH_take (i:=1) (oi:=⟨some 129,.nilCheck (.tmp 128),0,_,#[⟨0,.data⟩],none⟩) (v:=?_) rfl (by kernel_rfl) (by kernel_rfl) (by kernel_rfl) (fun _ _ _ h=>hpan h) (Or.inl ⟨by rfl,?_⟩) (by assumption) ?_
    rotate_left
    · (intro w hSw; (try dsimp only at hSw); go_simp; try with_reducible rfl)
    simp only [Act.put,List.setIfInBounds_toArray,List.set_cons_zero,List.set_cons_succ]
    refine wpAnyH_take (i:=2) (oi:=⟨some 130,.fieldAddr 54 (.tmp 129) 2,0,_,#[⟨1,.data⟩],none⟩) (v:=?_) rfl (by kernel_rfl) (by kernel_rfl) (by kernel_rfl) (fun _ _ _ h=>hpan h) (Or.inl ⟨by rfl,?_⟩) (by assumption) ?_
    rotate_left
    · (intro w hSw; (try dsimp only at hSw); go_simp; try with_reducible rfl)
    simp only [Act.put,List.setIfInBounds_toArray,List.set_cons_zero,List.set_cons_succ]
    refine wpAnyH_take (i:=3) (oi:=⟨some 131,.load 51 (.tmp 130),51,_,#[⟨2,.data⟩],none⟩) (v:=?_) rfl (by kernel_rfl) (by kernel_rfl) (by kernel_rfl) (fun _ _ _ h=>hpan h) (Or.inl ⟨by rfl,?_⟩) (by assumption) ?_
    rotate_left
    · (intro w hSw; (try dsimp only at hSw); go_simp; try with_reducible rfl)
    simp only [Act.put,List.setIfInBounds_toArray,List.set_cons_zero,List.set_cons_succ]
    refine wpAnyH_take (i:=4) (oi:=⟨some 132,.load 47 (.tmp 12),47,_,#[],none⟩) (v:=?_) rfl (by kernel_rfl) (by kernel_rfl) (by kernel_rfl) (fun _ _ _ h=>hpan h) (Or.inl ⟨by rfl,?_⟩) (by assumption) ?_
    rotate_left
    · (intro w hSw; (try dsimp only at hSw); go_simp; try with_reducible rfl)
    simp only [Act.put,List.setIfInBounds_toArray,List.set_cons_zero,List.set_cons_succ]
    refine wpAnyH_take (i:=5) (oi:=⟨some 133,.load 43 (.tmp 14),43,_,#[],none⟩) (v:=?_) rfl (by kernel_rfl) (by kernel_rfl) (by kernel_rfl) (fun _ _ _ h=>hpan h) (Or.inl ⟨by rfl,?_⟩) (by assumption) ?_
    rotate_left
    · (intro w hSw; (try dsimp only at hSw); go_simp; try with_reducible rfl)
    simp only [Act.put,List.setIfInBounds_toArray,List.set_cons_zero,List.set_cons_succ]
    refine wpAnyH_take (i:=7) (oi:=⟨some 135,.load 48 (.tmp 13),48,_,#[],none⟩) (v:=?_) rfl (by kernel_rfl) (by kernel_rfl) (by kernel_rfl) (fun _ _ _ h=>hpan h) (Or.inl ⟨by rfl,?_⟩) (by assumption) ?_
    rotate_left
    · (intro w hSw; (try dsimp only at hSw); go_simp; try with_reducible rfl)
    simp only [Act.put,List.setIfInBounds_toArray,List.set_cons_zero,List.set_cons_succ]
    refine wpAnyH_take (i:=8) (oi:=⟨some 136,.fieldAddr 47 (.tmp 12) 11,0,_,#[],none⟩) (v:=?_) rfl (by kernel_rfl) (by kernel_rfl) (by kernel_rfl) (fun _ _ _ h=>hpan h) (Or.inl ⟨by rfl,?_⟩) (by assumption) ?_
    rotate_left
    · (intro w hSw; (try dsimp only at hSw); go_simp; try with_reducible rfl)
    simp only [Act.put,List.setIfInBounds_toArray,List.set_cons_zero,List.set_cons_succ]
    refine wpAnyH_take (i:=9) (oi:=⟨some 137,.load 3 (.tmp 136),3,_,#[⟨8,.data⟩],none⟩) (v:=?_) rfl (by kernel_rfl) (by kernel_rfl) (by kernel_rfl) (fun _ _ _ h=>hpan h) (Or.inl ⟨by rfl,?_⟩) (by assumption) ?_
    rotate_left
    · (intro w hSw; (try dsimp only at hSw); go_simp; try with_reducible rfl)
    simp only [Act.put,List.setIfInBounds_toArray,List.set_cons_zero,List.set_cons_succ]
    refine wpAnyH_take (i:=10) (oi:=⟨some 138,.load 45 (.tmp 15),45,_,#[],none⟩) (v:=?_) rfl (by kernel_rfl) (by kernel_rfl) (by kernel_rfl) (fun _ _ _ h=>hpan h) (Or.inl ⟨by rfl,?_⟩) (by assumption) ?_
    rotate_left
    · (intro w hSw; (try dsimp only at hSw); go_simp; try with_reducible rfl)
    simp only [Act.put,List.setIfInBounds_toArray,List.set_cons_zero,List.set_cons_succ]
    refine wpAnyH_ready (rs:=[6]) (by kernel_rfl) (by simp) ?_
    refine AllReadyH.cons (o:=⟨some 134,.call ⟨.value (.func 17),#[.tmp 131,.tmp 132,.tmp 133],#[51,47,43]⟩,4,_,#[⟨3,.data⟩,⟨4,.data⟩,⟨5,.data⟩],none⟩) rfl (fun K hK=> ?_) AllReadyH.nil
    go_simp
    (go_at_call 17; refine HSa.out.mono ?_; rintro e w7 ⟨rfl,g7⟩; have HB7:=hidW (Below.step hd6 g7); have HJ:=hidW (HC.out _ HB7.out); clear g7)
    refine hK.out _ _ ?_ (fun hHeld=> ?_)
    · ((try dsimp only); with_reducible exact HJ.out)
    clear hK K
    try simp only [Act.put,List.setIfInBounds_toArray,List.set_cons_zero,List.set_cons_succ]
    refine wpAnyH_ready (rs:=[11]) (by kernel_rfl) (by simp) ?_
    refine AllReadyH.cons (o:=⟨some 139,.call ⟨.value (.func 18),#[.tmp 135,.tmp 137,.tmp 138],#[48,3,45]⟩,4,_,#[⟨7,.data⟩,⟨9,.data⟩,⟨10,.data⟩,⟨6,.chain⟩],none⟩) rfl (fun K hK=> ?_) AllReadyH.nil
    go_simp
    (go_at_call 18; refine (HDi.out _ HB7.out).mono ?_; rintro e w8 ⟨rfl,g8⟩; have HB8:=hidW (Below.step HB7.out g8); have HJ:=hidW (HC.out _ HB8.out); clear g8)
    refine hK.out _ _ ?_ (fun hHeld=> ?_)
    · ((try dsimp only); with_reducible exact HJ.out)
    clear hK K
    try simp only [Act.put,List.setIfInBounds_toArray,List.set_cons_zero,List.set_cons_succ]
    refine wpAnyH_take (i:=12) (oi:=⟨some 140,.binOp BinOp.eql 4 (.tmp 134) (.tmp 139) 4,4,_,#[⟨6,.data⟩,⟨11,.data⟩],none⟩) (v:=?_) rfl (by kernel_rfl) (by kernel_rfl) (by kernel_rfl) (fun _ _ _ h=>hpan h) (Or.inl ⟨by rfl,?_⟩) (by assumption) ?_
    rotate_left
    · (intro w hSw; (try dsimp only at hSw); go_simp; try with_reducible rfl)
    simp only [Act.put,List.setIfInBounds_toArray,List.set_cons_zero,List.set_cons_succ]
    refine wpAnyH_done (by kernel_rfl) ?_ _
    gi_wp2
    exact HN.out _ _ _ (HR6.out.below HB8.out) (HT6.out.trans (S':=(fun g=>g=b6∨bv.ownBlock=some g)) (Turn.below HB8.out) (fun g hg=> .inl hg))
  | false =>
    rw [hany,if_neg (by decide)] at HB1
    obtain ⟨v5,w5,hr,hbb5,hbl5,hR5,hT5⟩:=HR4.out.app b (by omega)
    obtain ⟨a5,cp5,e5⟩:=hR5.sli.form
    generalize (B++[b]).length=nb at e5
    subst e5
    have c6:=HR4.out.bb.cell 0
    have cB:=H154.out.cell
    simp only [List.getElem?_cons_zero] at c6
    have d6:=hbb5.cell 0
    have f6:=hbb5.frozen 0
    simp only [List.getElem?_cons_zero] at d6
    have HT5:Hid (Turn (fun g=>g=b6∨bv.ownBlock=some g) w (w5.setCell ⟨b6,0,none⟩ (.slice a5 nb cp5))):=HT4.out.trans (S':=(fun g=>g=b6∨bv.ownBlock=some g)) hT5 (fun g hg=> .inl hg)
    have HI:Hid (∃bv',RdX w2 (w5.setCell ⟨b6,0,none⟩ (.slice a5 nb cp5)) b6 bv0 bv' (bk1 c.asid B t)∧Turn (fun g=>g=b6∨bv.ownBlock=some g) w (w5.setCell ⟨b6,0,none⟩ (.slice a5 nb cp5))∧Bl (w5.setCell ⟨b6,0,none⟩ (.slice a5 nb cp5)) b15 45 ([.int .i64 b.asid,.int .i64 b.t.size,.int .u32 b.t.va,.int .u64 b.t.pa,.int .i64 b.t.dom,.int .i64 b.t.ap,.int .u32 b.t.bits,.bool b.t.ng,.bool b.t.xn])):=⟨_,by rw [HB1.out]; exact hR5,HT5.out,H154.out.turn hT5 HNE.out⟩
    clear hbb5 hbl5 hR5 hT5
    gi_wp2_with (first|(refine wpListIn_append_run _ rfl _ _ 31 rfl _ _ rfl rfl (hr _) ?_; clear hr))
    clear c6 cB d6 f6
    generalize w5.setCell ⟨b6,0,none⟩ (.slice a5 nb cp5)=w4 at *
    obtain ⟨bv',hR6,hT6,hB6⟩:=HI.out
    have HR6:=hidW hR6
    have HT6:=hidW hT6
    have HC:Hid (∀ww,Below w4.heap.size w4 ww→ww.cell? ⟨b5,0,none⟩=some (.pointer (some ⟨x,0,none⟩))∧ww.cell? ⟨x,5,none⟩=some iv∧ww.cell? ⟨b12,0,none⟩=some (.bool c.on)∧ww.cell? ⟨b12,1,none⟩=some (.bool c.tre)∧ww.cell? ⟨b12,2,none⟩=some (.bool c.afe)∧ww.cell? ⟨b12,3,none⟩=some (.int .i64 c.n)∧ww.cell? ⟨b12,4,none⟩=some (.bool c.pd0)∧ww.cell? ⟨b12,5,none⟩=some (.bool c.pd1)∧ww.cell? ⟨b12,6,none⟩=some (.int .u64 c.b0)∧ww.cell? ⟨b12,7,none⟩=some (.int .u64 c.b1)∧ww.cell? ⟨b12,8,none⟩=some (.int .u32 c.dacr)∧ww.cell? ⟨b12,9,none⟩=some (.int .u32 c.prrr)∧ww.cell? ⟨b12,10,none⟩=some (.int .u32 c.nmrr)∧ww.cell? ⟨b12,11,none⟩=some (.int .i64 c.asid)∧ww.cell? ⟨bx,0,none⟩=some (.int .i64 t.size)∧ww.cell? ⟨bx,1,none⟩=some (.int .u32 t.va)∧ww.cell? ⟨bx,2,none⟩=some (.int .u64 t.pa)∧ww.cell? ⟨bx,3,none⟩=some (.int .i64 t.dom)∧ww.cell? ⟨bx,4,none⟩=some (.int .i64 t.ap)∧ww.cell? ⟨bx,5,none⟩=some (.int .u32 t.bits)∧ww.cell? ⟨bx,6,none⟩=some (.bool t.ng)∧ww.cell? ⟨bx,7,none⟩=some (.bool t.xn)∧ww.cell? ⟨b13,0,none⟩=some dv∧ww.cell? ⟨b15,0,none⟩=some (.int .i64 b.asid)∧ww.cell? ⟨b15,1,none⟩=some (.int .i64 b.t.size)∧ww.cell? ⟨b15,2,none⟩=some (.int .u32 b.t.va)∧ww.cell? ⟨b15,3,none⟩=some (.int .u64 b.t.pa)∧ww.cell? ⟨b15,4,none⟩=some (.int .i64 b.t.dom)∧ww.cell? ⟨b15,5,none⟩=some (.int .i64 b.t.ap)∧ww.cell? ⟨b15,6,none⟩=some (.int .u32 b.t.bits)∧ww.cell? ⟨b15,7,none⟩=some (.bool b.t.ng)∧ww.cell? ⟨b15,8,none⟩=some (.bool b.t.xn)):=fun ww hb=>by
      have hT:=hT6.trans (S':=(fun g=>g=b6∨bv.ownBlock=some g)) (Turn.below hb) (fun g hg=> .inl hg)
      obtain ⟨q5,qx,q12,q13,qb,_⟩:=HH.out ww hT
      have q15:=hB6.below hb
      exact ⟨q5.cell 0,(qx.cell 5).trans HSL.out,q12.cell 0,q12.cell 1,q12.cell 2,q12.cell 3,q12.cell 4,q12.cell 5,q12.cell 6,q12.cell 7,q12.cell 8,q12.cell 9,q12.cell 10,q12.cell 11,qb.cell 0,qb.cell 1,qb.cell 2,qb.cell 3,qb.cell 4,qb.cell 5,qb.cell 6,qb.cell 7,q13.cell 0,q15.cell 0,q15.cell 1,q15.cell 2,q15.cell 3,q15.cell 4,q15.cell 5,q15.cell 6,q15.cell 7,q15.cell 8⟩
    have HDi:Hid (∀ww,Below w4.heap.size w4 ww→Calls Tryz.prog 18 #[dv,.int .i64 c.asid,.agg #[.int .i64 b.asid,.int .i64 b.t.size,.int .u32 b.t.va,.int .u64 b.t.pa,.int .i64 b.t.dom,.int .i64 b.t.ap,.int .u32 b.t.bits,.bool b.t.ng,.bool b.t.xn]] ww fun e w'=>e= .returned (.bool (!s))∧Below ww.heap.size ww w'):=fun ww hb=>by
      have hT:=hT6.trans (S':=(fun g=>g=b6∨bv.ownBlock=some g)) (Turn.below hb) (fun g hg=> .inl hg)
      obtain ⟨_,_,_,_,_,q6⟩:=HH.out ww hT
      have:=isDirty_any ww dv D (Sli.of (k:=10) (fun _=>rfl) q6) hlD c.asid b
      rw [HS.out] at this
      exact this
    have hd6:=below_drew (Below.refl w4.heap.size w4)
    have HJ:=hidW (HC.out _ hd6)
    have HSa:=hidW (HSm.out w4.drew (hT6.trans (S':=(fun g=>g=b6∨bv.ownBlock=some g)) (Turn.below hd6) (fun g hg=> .inl hg)))
    clear HI hR6 hT6 hB6 HR4 HT4 H154
    refine regionIn_held (k:=13) (fun ww=>ww.cell? ⟨b5,0,none⟩=some (.pointer (some ⟨x,0,none⟩))∧ww.cell? ⟨x,5,none⟩=some iv∧ww.cell? ⟨b12,0,none⟩=some (.bool c.on)∧ww.cell? ⟨b12,1,none⟩=some (.bool c.tre)∧ww.cell? ⟨b12,2,none⟩=some (.bool c.afe)∧ww.cell? ⟨b12,3,none⟩=some (.int .i64 c.n)∧ww.cell? ⟨b12,4,none⟩=some (.bool c.pd0)∧ww.cell? ⟨b12,5,none⟩=some (.bool c.pd1)∧ww.cell? ⟨b12,6,none⟩=some (.int .u64 c.b0)∧ww.cell? ⟨b12,7,none⟩=some (.int .u64 c.b1)∧ww.cell? ⟨b12,8,none⟩=some (.int .u32 c.dacr)∧ww.cell? ⟨b12,9,none⟩=some (.int .u32 c.prrr)∧ww.cell? ⟨b12,10,none⟩=some (.int .u32 c.nmrr)∧ww.cell? ⟨b12,11,none⟩=some (.int .i64 c.asid)∧ww.cell? ⟨bx,0,none⟩=some (.int .i64 t.size)∧ww.cell? ⟨bx,1,none⟩=some (.int .u32 t.va)∧ww.cell? ⟨bx,2,none⟩=some (.int .u64 t.pa)∧ww.cell? ⟨bx,3,none⟩=some (.int .i64 t.dom)∧ww.cell? ⟨bx,4,none⟩=some (.int .i64 t.ap)∧ww.cell? ⟨bx,5,none⟩=some (.int .u32 t.bits)∧ww.cell? ⟨bx,6,none⟩=some (.bool t.ng)∧ww.cell? ⟨bx,7,none⟩=some (.bool t.xn)∧ww.cell? ⟨b13,0,none⟩=some dv∧ww.cell? ⟨b15,0,none⟩=some (.int .i64 b.asid)∧ww.cell? ⟨b15,1,none⟩=some (.int .i64 b.t.size)∧ww.cell? ⟨b15,2,none⟩=some (.int .u32 b.t.va)∧ww.cell? ⟨b15,3,none⟩=some (.int .u64 b.t.pa)∧ww.cell? ⟨b15,4,none⟩=some (.int .i64 b.t.dom)∧ww.cell? ⟨b15,5,none⟩=some (.int .i64 b.t.ap)∧ww.cell? ⟨b15,6,none⟩=some (.int .u32 b.t.bits)∧ww.cell? ⟨b15,7,none⟩=some (.bool b.t.ng)∧ww.cell? ⟨b15,8,none⟩=some (.bool b.t.xn)) (by rfl) (by kernel_rfl) (no_defer (by kernel_rfl)) (by rintro ⟨a,w,h⟩; exact hQ a w h) ?_
    have hHeld:=HJ.out
    refine wpAnyH_take (i:=0) (oi:=⟨some 128,.load 28 (.tmp 5),28,_,#[],none⟩) (v:=?_) rfl (by kernel_rfl) (by kernel_rfl) (by kernel_rfl) (fun _ _ _ h=>hpan h) (Or.inl ⟨by rfl,?_⟩) (by assumption) ?_
    rotate_left
    · (intro w hSw; (try dsimp only at hSw); go_simp; try with_reducible rfl)
    simp only [Act.put,List.setIfInBounds_toArray,List.set_cons_zero,List.set_cons_succ]
    refine wpAnyH_take (i:=1) (oi:=⟨some 129,.nilCheck (.tmp 128),0,_,#[⟨0,.data⟩],none⟩) (v:=?_) rfl (by kernel_rfl) (by kernel_rfl) (by kernel_rfl) (fun _ _ _ h=>hpan h) (Or.inl ⟨by rfl,?_⟩) (by assumption) ?_
    rotate_left
    · (intro w hSw; (try dsimp only at hSw); go_simp; try with_reducible rfl)
    simp only [Act.put,List.setIfInBounds_toArray,List.set_cons_zero,List.set_cons_succ]
    refine wpAnyH_take (i:=2) (oi:=⟨some 130,.fieldAddr 54 (.tmp 129) 2,0,_,#[⟨1,.data⟩],none⟩) (v:=?_) rfl (by kernel_rfl) (by kernel_rfl) (by kernel_rfl) (fun _ _ _ h=>hpan h) (Or.inl ⟨by rfl,?_⟩) (by assumption) ?_
    rotate_left
    · (intro w hSw; (try dsimp only at hSw); go_simp; try with_reducible rfl)
    simp only [Act.put,List.setIfInBounds_toArray,List.set_cons_zero,List.set_cons_succ]
    refine wpAnyH_take (i:=3) (oi:=⟨some 131,.load 51 (.tmp 130),51,_,#[⟨2,.data⟩],none⟩) (v:=?_) rfl (by kernel_rfl) (by kernel_rfl) (by kernel_rfl) (fun _ _ _ h=>hpan h) (Or.inl ⟨by rfl,?_⟩) (by assumption) ?_
    rotate_left
    · (intro w hSw; (try dsimp only at hSw); go_simp; try with_reducible rfl)
    simp only [Act.put,List.setIfInBounds_toArray,List.set_cons_zero,List.set_cons_succ]
    refine wpAnyH_take (i:=4) (oi:=⟨some 132,.load 47 (.tmp 12),47,_,#[],none⟩) (v:=?_) rfl (by kernel_rfl) (by kernel_rfl) (by kernel_rfl) (fun _ _ _ h=>hpan h) (Or.inl ⟨by rfl,?_⟩) (by assumption) ?_
    rotate_left
    · (intro w hSw; (try dsimp only at hSw); go_simp; try with_reducible rfl)
    simp only [Act.put,List.setIfInBounds_toArray,List.set_cons_zero,List.set_cons_succ]
    refine wpAnyH_take (i:=5) (oi:=⟨some 133,.load 43 (.tmp 14),43,_,#[],none⟩) (v:=?_) rfl (by kernel_rfl) (by kernel_rfl) (by kernel_rfl) (fun _ _ _ h=>hpan h) (Or.inl ⟨by rfl,?_⟩) (by assumption) ?_
    rotate_left
    · (intro w hSw; (try dsimp only at hSw); go_simp; try with_reducible rfl)
    simp only [Act.put,List.setIfInBounds_toArray,List.set_cons_zero,List.set_cons_succ]
    refine wpAnyH_take (i:=7) (oi:=⟨some 135,.load 48 (.tmp 13),48,_,#[],none⟩) (v:=?_) rfl (by kernel_rfl) (by kernel_rfl) (by kernel_rfl) (fun _ _ _ h=>hpan h) (Or.inl ⟨by rfl,?_⟩) (by assumption) ?_
    rotate_left
    · (intro w hSw; (try dsimp only at hSw); go_simp; try with_reducible rfl)
    simp only [Act.put,List.setIfInBounds_toArray,List.set_cons_zero,List.set_cons_succ]
    refine wpAnyH_take (i:=8) (oi:=⟨some 136,.fieldAddr 47 (.tmp 12) 11,0,_,#[],none⟩) (v:=?_) rfl (by kernel_rfl) (by kernel_rfl) (by kernel_rfl) (fun _ _ _ h=>hpan h) (Or.inl ⟨by rfl,?_⟩) (by assumption) ?_
    rotate_left
    · (intro w hSw; (try dsimp only at hSw); go_simp; try with_reducible rfl)
    simp only [Act.put,List.setIfInBounds_toArray,List.set_cons_zero,List.set_cons_succ]
    refine wpAnyH_take (i:=9) (oi:=⟨some 137,.load 3 (.tmp 136),3,_,#[⟨8,.data⟩],none⟩) (v:=?_) rfl (by kernel_rfl) (by kernel_rfl) (by kernel_rfl) (fun _ _ _ h=>hpan h) (Or.inl ⟨by rfl,?_⟩) (by assumption) ?_
    rotate_left
    · (intro w hSw; (try dsimp only at hSw); go_simp; try with_reducible rfl)
    simp only [Act.put,List.setIfInBounds_toArray,List.set_cons_zero,List.set_cons_succ]
    refine wpAnyH_take (i:=10) (oi:=⟨some 138,.load 45 (.tmp 15),45,_,#[],none⟩) (v:=?_) rfl (by kernel_rfl) (by kernel_rfl) (by kernel_rfl) (fun _ _ _ h=>hpan h) (Or.inl ⟨by rfl,?_⟩) (by assumption) ?_
    rotate_left
    · (intro w hSw; (try dsimp only at hSw); go_simp; try with_reducible rfl)
    simp only [Act.put,List.setIfInBounds_toArray,List.set_cons_zero,List.set_cons_succ]
    refine wpAnyH_ready (rs:=[6]) (by kernel_rfl) (by simp) ?_
    refine AllReadyH.cons (o:=⟨some 134,.call ⟨.value (.func 17),#[.tmp 131,.tmp 132,.tmp 133],#[51,47,43]⟩,4,_,#[⟨3,.data⟩,⟨4,.data⟩,⟨5,.data⟩],none⟩) rfl (fun K hK=> ?_) AllReadyH.nil
    go_simp
    (go_at_call 17; refine HSa.out.mono ?_; rintro e w7 ⟨rfl,g7⟩; have HB7:=hidW (Below.step hd6 g7); have HJ:=hidW (HC.out _ HB7.out); clear g7)
    refine hK.out _ _ ?_ (fun hHeld=> ?_)
    · ((try dsimp only); with_reducible exact HJ.out)
    clear hK K
    try simp only [Act.put,List.setIfInBounds_toArray,List.set_cons_zero,List.set_cons_succ]
    refine wpAnyH_ready (rs:=[11]) (by kernel_rfl) (by simp) ?_
    refine AllReadyH.cons (o:=⟨some 139,.call ⟨.value (.func 18),#[.tmp 135,.tmp 137,.tmp 138],#[48,3,45]⟩,4,_,#[⟨7,.data⟩,⟨9,.data⟩,⟨10,.data⟩,⟨6,.chain⟩],none⟩) rfl (fun K hK=> ?_) AllReadyH.nil
    go_simp
    (go_at_call 18; refine (HDi.out _ HB7.out).mono ?_; rintro e w8 ⟨rfl,g8⟩; have HB8:=hidW (Below.step HB7.out g8); have HJ:=hidW (HC.out _ HB8.out); clear g8)
    refine hK.out _ _ ?_ (fun hHeld=> ?_)
    · ((try dsimp only); with_reducible exact HJ.out)
    clear hK K
    try simp only [Act.put,List.setIfInBounds_toArray,List.set_cons_zero,List.set_cons_succ]
    refine wpAnyH_take (i:=12) (oi:=⟨some 140,.binOp BinOp.eql 4 (.tmp 134) (.tmp 139) 4,4,_,#[⟨6,.data⟩,⟨11,.data⟩],none⟩) (v:=?_) rfl (by kernel_rfl) (by kernel_rfl) (by kernel_rfl) (fun _ _ _ h=>hpan h) (Or.inl ⟨by rfl,?_⟩) (by assumption) ?_
    rotate_left
    · (intro w hSw; (try dsimp only at hSw); go_simp; try with_reducible rfl)
    simp only [Act.put,List.setIfInBounds_toArray,List.set_cons_zero,List.set_cons_succ]
    refine wpAnyH_done (by kernel_rfl) ?_ _
    gi_wp2
    exact HN.out _ _ _ (HR6.out.below HB8.out) (HT6.out.trans (S':=(fun g=>g=b6∨bv.ownBlock=some g)) (Turn.below HB8.out) (fun g hg=> .inl hg))
end Go.Proofs.YtnjlajjjcmhfgaaGreatDoor
