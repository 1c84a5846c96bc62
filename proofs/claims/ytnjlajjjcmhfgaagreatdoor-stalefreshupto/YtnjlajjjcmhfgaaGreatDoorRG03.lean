import Derived.Test.YtnjlajjjcmhfgaaGreatDoorRG02
namespace Go.Proofs.YtnjlajjjcmhfgaaGreatDoor
open Go.RowKit
open Mm (Turn gr RM valV errV Byts setV RowAt)
set_option linter.unusedVariables false
set_option linter.unusedSimpArgs false
attribute [local go_sem] Oper.semAt_some
theorem own_form {k n:Nat} {T:TypeId} {w:World} {lo:Nat} {v:Value} {xs:List Value} (h:w.ownsRow lo T k v n xs):∃a cap,v= .slice a n cap:=by
  rcases Mm.row_of_own h with ⟨rfl,rfl,_⟩|⟨g,cap,cur,rfl,_⟩
  · exact ⟨none,0,rfl⟩
  · exact ⟨_,_,rfl⟩
structure Ux (w w':World) (v v':Value) (n:Nat) (c:Value):Prop where
  tu:Turn (fun x=>v.ownBlock=some x) w w'
  new:∃g cap,v'= .slice (some ⟨g,0,none⟩) (n+1) cap∧w'.cell? ⟨g,n*9,none⟩=some c∧(v.ownBlock=some g∨w.heap.size≤g)∧g<w'.heap.size
theorem appX (w:World) (lo:Nat) (v:Value) (K:List Blo) (b:Blo) (h:w.ownsRow lo 45 9 v K.length (rowG encB K)) (hlo:lo≤w.heap.size) (hl:(K.length+1)*56≤140737488355328) :
    ∃v' w',(∀ty,(Builtin.append_ #[31,31] ty #[v,.slice (some ⟨w.heap.size,0,none⟩) 1 1]).run Tryz.prog (w.alloc (.cells (encB b).toArray 45))= .ok v' w')∧w'.ownsRow lo 45 9 v K.length (rowG encB K)∧Ux w w' v v' K.length (.int .i64 b.asid):=by
  obtain ⟨i0,hi,hz0,hz1,hz2⟩:=info_parts infoB
  have hB:=Mm.row_new w (encB b) 45
  have ho:=own_below h (below_new w (.cells (encB b).toArray 45))
  obtain ⟨v',w',hr,ho1,ho2,hg,hb⟩:=append_both (P:=Tryz.prog) (w.alloc (.cells (encB b).toArray 45)) 31 45 i0 _ Tryz.underlying31 hi hz0 (by rw [hz1]; rfl) lo K.length 1 v (.slice (some ⟨w.heap.size,0,none⟩) 1 1) (rowG encB K) (encB b) (by rw [hz1]; exact ho)
    (by rw [hz1]; exact Src.ofSlice _ Tryz.underlying31 ⟨w.heap.size,0,none⟩ 1 1 _ (by rw [encB_len]) (fun j u hj=>by rw [Addr.add_lit,Nat.zero_add]; exact (hB.cell j).trans hj) (encB_one b)) (by simp; omega) (by unfold maxLen; omega) (by rw [hz2]; exact hl)
  rw [hz1] at ho1 ho2
  have T:=((Turn.refl (fun x=>v.ownBlock=some x) w).alloc (.cells (encB b).toArray 45)).trans (S':=fun x=>v.ownBlock=some x) (Turn.grown hg (fun x hx=> .inl hx)) (fun x hx=> .inl hx)
  refine ⟨v',w',hr,ho2,T,?_⟩
  rcases Mm.row_of_own ho1 with ⟨_,h0,_⟩|⟨g,cap,cur,rfl,_,hR,_,_,hcl,htk⟩
  · omega
  · refine ⟨g,cap,rfl,?_,?_,hR.lt⟩
    · rw [hR.cell]
      have e1:(cur.take ((K.length+1)*9))[K.length*9]? =some (.int .i64 b.asid):=by
        rw [htk,List.getElem?_append_right (by rw [rowG_len encB_len]; exact Nat.le_refl _),rowG_len encB_len,Nat.sub_self]
        rfl
      rw [List.getElem?_take] at e1
      split at e1
      · exact e1
      · cases e1
    · rcases hb g rfl with h1|h1
      · exact .inl h1
      · simp at h1; exact .inr (by omega)
theorem own_wa {k n cap:Nat} {T:TypeId} {w:World} {lo:Nat} {a:Option Addr} {xs:List Value} (h:w.ownsRow lo T k (.slice a n cap) n xs):Wa w T (n*k) a:=by
  rcases Mm.row_of_own h with ⟨_,rfl,_⟩|⟨g,cap',cur,e,_,hR,hc,_,hl,_⟩
  · exact .inl (by simp)
  · cases e
    exact .inr ⟨g,cur,rfl,hR,by rw [hl]; exact Nat.mul_le_mul_right _ hc⟩
theorem ltg_wa {α:Type} {enc:α→List Value} {k n cap:Nat} {T:TypeId} {w:World} {lo:Nat} {a:Option Addr} {L:List α} (hk:∀x,(enc x).length=k) (h:LtG enc T w lo (.slice a n cap) L) (hn:L.length=n):Wa w T (n*k) a:=by
  subst hn
  obtain ⟨a',cap',e,h⟩:=h
  cases e
  rcases h with rfl|⟨g,rest,rfl,_,hR⟩
  · exact .inl (by simp)
  · exact .inr ⟨g,_,rfl,hR,by rw [List.length_append,rowG_len hk]; omega⟩
theorem slice_own {k n cap:Nat} {T:TypeId} {w:World} {lo:Nat} {a:Option Addr} {xs:List Value} (h:w.ownsRow lo T k (.slice a n cap) n xs) {g:Nat} (hg:(Value.slice a n cap).ownBlock=some g):a=some ⟨g,0,none⟩:=by
  rcases Mm.row_of_own h with ⟨e,_,_⟩|⟨g',cap',cur,e,_⟩
  · cases e; cases hg
  · cases e; cases hg; rfl
theorem own_of {n cap g:Nat} {a:Option Addr} (h:a=some ⟨g,0,none⟩):(Value.slice a n cap).ownBlock=some g:=by rw [h]; rfl
set_option maxRecDepth 1000000 in
set_option maxHeartbeats 16000000 in
theorem fresh_tail {v0 v1 v3 v4 v5 v6 v8 v15 v16 v17 v18 v19 v20 v21 v22 v23 v24 v25 v26 v27 v28 v29 v30 v31 v32 v33 v34 v35 v36 v37 v38 v39 v40 v41 v42 v43 v44 v45 v46 v47 v48 v49 v50 v51 v52 v53 v54 v55 v56 v57 v58 v59 v60 v61 v62 v63 v64 v65 v66 v67 v68 v69 v70 v71 v72 v73 v74 v75 v76 v77 v78 v79 v80 v81 v82 v83 v84 v85 v86 v87 v88 v89 v90 v91 v92 v93 v94 v95 v96 v97 v98 v99 v100 v101 v102 v103 v104 v105 v106 v107 v108 v109 v110 v111 v112 v113 v114 v115 v116 v117 v118 v119 v120 v121 v122 v123 v124 v125 v126 v127 v128 v129 v130 v131 v132 v133 v134 v135 v136 v137 v138 v139 v140 v141 v142 v143 v144 v145 v146 v147 v148 v149 v150 v151 v152 v153 v154 v155 v156 v157 v158 v159 v160 v161 v162 v163 v164 v165 v166 v167 v168 v169 v170 v171 v172 v173 v174 v175 v176 v177 v178 v179 v180 v181 v182 v183 v184 v185 v186 v187 v188 v189 v190 v191 v192 v193 v194 v195 v196 v197 v198 v199 v200 v201 v202 v203 v204 v205 v206 v207 v208 v209 v210 v211 v212 v213 v214 v215 v216 v217 v218 v219 v220 v221 v222 v223 v224 v225 v226 v227 v228 v229 v230 v231 v232 v233 v234 v235 v236 v237 v238 v239 v240 v241 v242 v243 v244 v245 v246 v247 v248 v249 v250 v251 v252 v253:Value} (W W0 w3 w:World) (f asid:Int) (x p kb jb:Nat) (wv iv vs1 vs2 vs3:Value) (σ:Pst) (R:List Rm) (va vb vc vd vp vq:Value) (n4 n5 n6 n7 n8 n9:Nat) (ha: -9223372036854775808≤asid∧asid≤9223372036854775807) (hb0:Below W.heap.size W W0) (hD:TSd W0) (hX:SgX (fun _=>False) W0 w3 x p kb jb wv iv f vs1 vs2 vs3 σ) (hS:Sml σ) (hK:σ.K.length≤400000000000) (hI:IsP σ.mem.mo σ.K σ.J asid R) (hF:FrL w3 w σ.K (diL σ.mem.mo σ.K σ.J) R va vb vc vd vp vq n4 n5 n6 n7 n8 n9) :
    (frT Tryz.f7).wp Tryz.prog (bodyPost Tryz.prog Tryz.f7 fun e w'=>e= .returned (.bool true)∧Below W.heap.size W w') ⟨(v0::v1::(.int .i64 asid)::v3::v4::v5::v6::(.pointer (some ⟨x,0,none⟩))::v8::(va)::(vb)::(vc)::(vd)::(vp)::(vq)::v15::v16::v17::v18::v19::v20::v21::v22::v23::v24::v25::v26::v27::v28::v29::v30::v31::v32::v33::v34::v35::v36::v37::v38::v39::v40::v41::v42::v43::v44::v45::v46::v47::v48::v49::v50::v51::v52::v53::v54::v55::v56::v57::v58::v59::v60::v61::v62::v63::v64::v65::v66::v67::v68::v69::v70::v71::v72::v73::v74::v75::v76::v77::v78::v79::v80::v81::v82::v83::v84::v85::v86::v87::v88::v89::v90::v91::v92::v93::v94::v95::v96::v97::v98::v99::v100::v101::v102::v103::v104::v105::v106::v107::v108::v109::v110::v111::v112::v113::v114::v115::v116::v117::v118::v119::v120::v121::v122::v123::v124::v125::v126::v127::v128::v129::v130::v131::v132::v133::v134::v135::v136::v137::v138::v139::v140::v141::v142::v143::v144::v145::v146::v147::v148::v149::v150::v151::v152::v153::v154::v155::v156::v157::v158::v159::v160::v161::v162::v163::v164::v165::v166::v167::v168::v169::v170::v171::v172::v173::v174::v175::v176::v177::v178::v179::v180::v181::v182::v183::v184::v185::v186::v187::v188::v189::v190::v191::v192::v193::v194::v195::v196::v197::v198::v199::v200::v201::v202::v203::v204::v205::v206::v207::v208::v209::v210::v211::v212::v213::v214::v215::v216::v217::v218::v219::v220::v221::v222::v223::v224::v225::v226::v227::v228::v229::v230::v231::v232::v233::v234::v235::v236::v237::v238::v239::v240::v241::v242::v243::v244::v245::v246::v247::v248::v249::v250::v251::v252::v253::[]).toArray,[]⟩ w:=by
  obtain ⟨aa,ca,rfl⟩:=own_form hF.a
  obtain ⟨ab,cb,rfl⟩:=own_form hF.b
  obtain ⟨ac,cc,rfl⟩:=hF.c.form
  obtain ⟨ad,cd,rfl⟩:=hF.d.form
  obtain ⟨ap,cp,rfl⟩:=own_form hF.p
  obtain ⟨aq,cq,rfl⟩:=own_form hF.q
  have HB0:=hidW hb0
  have HD:=hidW hD
  have HX:=hidW hX
  have HS:=hidW hS
  have HK:=hidW hK
  have HI:=hidW hI
  have HF:=hidW hF
  have hN:=hI.len hS.ok.ok
  have hk56:=hS.known
  have hd64:=hS.dirty
  obtain ⟨v13,w13,happ13,ho13,hb13⟩:=app0 encB_len encB_one Tryz.underlying31 infoB rfl w w3.heap.size _ σ.K (own_ltg encB_len hF.a) hk56 (by omega)
  obtain ⟨v14,w14,happ14,ho14,hb14⟩:=app0 encD_len encD_one Tryz.underlying48 infoD rfl w13 n5 _ (diL σ.mem.mo σ.K σ.J) (hF.c.below hb13) hd64 (by omega)
  obtain ⟨v15,w15,happ15,ho15,hb15⟩:=app0 encR_len encR_one Tryz.underlying92 infoR rfl w14 n7 _ R (own_ltg encR_len (own_below hF.p (Below.step hb13 hb14))) (by omega) (by omega)
  have hbw:Below w.heap.size w w15:=Below.step hb13 (Below.step hb14 hb15)
  obtain ⟨v16,w16,happ16,ho16,hu16⟩:=appX w15 w3.heap.size _ σ.K ⟨1001,tZ⟩ (own_below hF.a hbw) (Nat.le_trans hF.bel.size hbw.size) (by omega)
  have hle:=hF.le
  have hsz15:=hbw.size
  have hsz16:=hu16.tu.size
  have hb16:=Mm.own_turn (own_below hF.b hbw) hu16.tu (fun g hg e=>by have h1:=(hF.b.lt g hg).1; have h2:=hF.a4 g e; omega)
  obtain ⟨v17,w17,happ17,ho17,hu17⟩:=appX w16 n4 _ σ.K ⟨1002,tZ⟩ hb16 (by omega) (by omega)
  obtain ⟨gu,cu,rfl,qu1,qu2,qu3⟩:=hu16.new
  obtain ⟨gv,cv,rfl,qv1,qv2,qv3⟩:=hu17.new
  have HQu:=hidW (And.intro qu1 (And.intro qu2 qu3))
  have HQv:=hidW (And.intro qv1 (And.intro qv2 qv3))
  clear qu1 qu2 qu3 qv1 qv2 qv3
  have HT16:=hidW hu16.tu
  have HT17:=hidW hu17.tu
  have HO13:=hidW ho13
  have HO14:=hidW ho14
  have HO15:=hidW ho15
  have HO16:=hidW ho16
  have HO17:=hidW ho17
  have H13:=hidW hb13
  have H14:=hidW hb14
  have H15:=hidW hb15
  simp only [encB,tZ] at happ16 happ17
  clear hX hS hI hF hb0 hD hb16 hb13 hb14 hb15 hbw
  generalize hnK:σ.K.length=nK at *
  generalize hnD:(diL σ.mem.mo σ.K σ.J).length=nD at *
  generalize hnR:R.length=nR at *
  clear ho13 ho14 ho15 ho16 ho17 hu16 hu17 hk56 hd64 hsz15 hsz16
  conv=>arg 2; whnf
  go_wp2_with (first
    | (at_builtin; refine Lib.wpList_append_run _ rfl _ _ 31 31 rfl _ _ rfl rfl _ _ (happ13 _) ?_; clear happ13)
    | (at_builtin; refine Lib.wpList_append_run _ rfl _ _ 48 48 rfl _ _ rfl rfl _ _ (happ14 _) ?_; clear happ14)
    | (at_builtin; refine Lib.wpList_append_run _ rfl _ _ 92 92 rfl _ _ rfl rfl _ _ (happ15 _) ?_; clear happ15)
    | (at_builtin; refine Lib.wpList_append_run _ rfl _ _ 31 31 rfl _ _ rfl rfl _ _ (happ16 _) ?_; clear happ16)
    | (at_builtin; refine Lib.wpList_append_run _ rfl _ _ 31 31 rfl _ _ rfl rfl _ _ (happ17 _) ?_; clear happ17))
  have HnK:=hidW hnK
  have HnD:=hidW hnD
  have HnR:=hidW hnR
  clear hnK hnD hnR
  have hn1:nK≤4611686018427387904:=by omega
  have hn2:nD≤4611686018427387904:=by have:=HnD.out; have:=HS.out.dirty; omega
  have hn3:nR≤4611686018427387904:=by omega
  have HLE:=hidW hle
  have hbw:Below w.heap.size w w15:=Below.step H13.out (Below.step H14.out H15.out)
  have HBW:=hidW hbw
  have HA4:Hid (∀g,aa=some ⟨g,0,none⟩→w3.heap.size≤g∧g<n4):=fun g e=>⟨(HF.out.a.lt g (own_of e)).1,HF.out.a4 g (own_of e)⟩
  have HB5:Hid (∀g,ab=some ⟨g,0,none⟩→n4≤g∧g<n5):=fun g e=>⟨(HF.out.b.lt g (own_of e)).1,HF.out.b5 g (own_of e)⟩
  have HC6:Hid (∀g,nD≠0→ac=some ⟨g,0,none⟩→n5≤g∧g<n6):=fun g h0 e=>by
    have hl:=HnD.out
    obtain ⟨a',c',e1,h1⟩:=HF.out.c
    rcases h1 with h1|⟨g1,rest,e2,h2,_⟩
    · rw [h1] at hl; exact absurd hl.symm h0
    · rcases HF.out.c6 with h3|⟨g3,c3,e3,h3⟩
      · rw [h3] at hl; exact absurd hl.symm h0
      · cases e1; cases e2; cases e3; cases e
        exact ⟨h2,h3⟩
  have HD7:Hid (∀g,nD≠0→ad=some ⟨g,0,none⟩→n6≤g∧g<n7):=fun g h0 e=>by
    have hl:=HnD.out
    obtain ⟨a',c',e1,h1⟩:=HF.out.d
    rcases h1 with h1|⟨g1,rest,e2,h2,_⟩
    · rw [h1] at hl; exact absurd hl.symm h0
    · rcases HF.out.d7 with h3|⟨g3,c3,e3,h3⟩
      · rw [h3] at hl; exact absurd hl.symm h0
      · cases e1; cases e2; cases e3; cases e
        exact ⟨h2,h3⟩
  have HP8:Hid (∀g,ap=some ⟨g,0,none⟩→n7≤g∧g<n8):=fun g e=>⟨(HF.out.p.lt g (own_of e)).1,HF.out.p8 g (own_of e)⟩
  have HQ9:Hid (∀g,aq=some ⟨g,0,none⟩→n8≤g∧g<n9):=fun g e=>⟨(HF.out.q.lt g (own_of e)).1,HF.out.q9 g (own_of e)⟩
  have HT17a:Hid (Turn (fun x=>w3.heap.size≤x∧x<n5) w15 w17):=by
    refine (Turn.trans (S:=fun x=>w3.heap.size≤x∧x<n5) (HT16.out.mono (fun x _ hx=> ?_)) HT17.out (fun x hx=> .inl ?_))
    · have h1:=(HF.out.a.lt x hx).1; have h2:=HF.out.a4 x hx; omega
    · have h1:=(HF.out.b.lt x hx).1; have h2:=HF.out.b5 x hx; omega
  have HAw:Hid (w17.ownsRow w3.heap.size 45 9 (.slice aa nK ca) nK (rowG encB σ.K)):=Mm.own_turn HO16.out HT17.out (fun g hg e=>by have h1:=HF.out.a4 g hg; have h2:=(HF.out.b.lt g e).1; omega)
  refine frA w17 nK ca cb aa ab hn1 (own_wa HAw.out) (own_wa HO17.out) (Classical.byContradiction fun hne=> ?_) (hidW ?_)
  · have h0:nK≠0:=fun h=>hne (.inl h)
    have he:aa=ab:=Classical.byContradiction fun h=>hne (.inr h)
    obtain ⟨g,_,e,_⟩:=(own_wa HAw.out).resolve_left (by omega)
    have h1:=HA4.out g e
    have h2:=HB5.out g (he▸e)
    omega
  intros
  rename_i w18 hL1
  have HL1:=hidW hL1
  have HT18:Hid (Turn (fun x=>w3.heap.size≤x∧x<n5) w15 w18):=HT17a.out.trans hL1.tu (fun x hx=> .inl (by
    rcases hx.2 with e|e
    · have:=HA4.out x e; omega
    · have:=HB5.out x e; omega))
  have HT18a:Hid (Turn (fun x=>w3.heap.size≤x∧x<n5) w17 w18):=hL1.tu.mono (fun x _ hx=>by
    rcases hx.2 with e|e
    · have:=HA4.out x e; omega
    · have:=HB5.out x e; omega)
  clear hL1
  have HC18:=hidW ((HF.out.c.below HBW.out).turn HT18.out (fun g hg=>hg.2))
  have HD18:=hidW ((HF.out.d.below HBW.out).turn HT18.out (fun g hg=>by omega))
  go_wp2_with fail
  refine frC w18 nD cc cd ac ad hn2 (ltg_wa encD_len HC18.out HnD.out) (ltg_wa encD_len HD18.out HnD.out) (Classical.byContradiction fun hne=> ?_) (hidW ?_)
  · have h0:nD≠0:=fun h=>hne (.inl h)
    have he:ac=ad:=Classical.byContradiction fun h=>hne (.inr h)
    obtain ⟨g,_,e,_⟩:=(ltg_wa encD_len HC18.out HnD.out).resolve_left (by omega)
    have h1:=HC6.out g h0 e
    have h2:=HD7.out g h0 (he▸e)
    omega
  intros
  rename_i w19 hL2
  have HT19:Hid (Turn (fun x=>n5≤x∧x<n7) w18 w19):=hL2.tu.mono (fun x _ hx=>by
    rcases hx.2 with e|e
    · have:=HC6.out x hx.1 e; omega
    · have:=HD7.out x hx.1 e; omega)
  clear hL2
  have HT19a:Hid (Turn (fun x=>w3.heap.size≤x∧x<n7) w15 w19):=Turn.trans (S:=fun x=>w3.heap.size≤x∧x<n7) (HT18.out.mono (fun x _ hx=>by omega)) HT19.out (fun x hx=> .inl (by omega))
  have HP19:Hid (w19.ownsRow n7 95 2 (.slice ap nR cp) nR (rowG Bs.encR R)):=by
    have h1:=Mm.own_turn (own_below HF.out.p HBW.out) HT19a.out (fun g hg e=>by have:=(HF.out.p.lt g hg).1; omega)
    rw [HnR.out] at h1
    exact h1
  have HQ19:Hid (w19.ownsRow n8 95 2 (.slice aq nR cq) nR (rowG Bs.encR R)):=by
    have h1:=Mm.own_turn (own_below HF.out.q HBW.out) HT19a.out (fun g hg e=>by have:=(HF.out.q.lt g hg).1; omega)
    rw [HnR.out] at h1
    exact h1
  go_wp2_with fail
  refine frP w19 nR cp cq ap aq hn3 (own_wa HP19.out) (own_wa HQ19.out) (Classical.byContradiction fun hne=> ?_) (hidW ?_)
  · have h0:nR≠0:=fun h=>hne (.inl h)
    have he:ap=aq:=Classical.byContradiction fun h=>hne (.inr h)
    obtain ⟨g,_,e,_⟩:=(own_wa HP19.out).resolve_left (by omega)
    have h1:=HP8.out g e
    have h2:=HQ9.out g (he▸e)
    omega
  intros
  rename_i w20 hL3
  have HT20:Hid (Turn (fun x=>n5≤x∧x<n9) w18 w20):=Turn.trans (S:=fun x=>n5≤x∧x<n9) (HT19.out.mono (fun x _ hx=>by omega)) hL3.tu (fun x hx=> .inl (by
    rcases hx.2 with e|e
    · have:=HP8.out x e; omega
    · have:=HQ9.out x e; omega))
  clear hL3
  have HT20a:Hid (Turn (fun x=>w3.heap.size≤x∧x<n9) w15 w20):=Turn.trans (S:=fun x=>w3.heap.size≤x∧x<n9) (HT18.out.mono (fun x _ hx=>by omega)) HT20.out (fun x hx=> .inl (by omega))
  have hz:w.heap.size≤w15.heap.size∧w15.heap.size≤w16.heap.size∧w16.heap.size≤w17.heap.size∧w17.heap.size≤w18.heap.size:=⟨HBW.out.size,HT16.out.size,HT17.out.size,HT18a.out.size⟩
  go_wp2_with fail
  refine frR w20 nK ca cb aa ab hn1 (hidW fun j hj=> ?_) (hidW fun j hj=> ?_) (hidW ?_)
  · obtain ⟨g,_,e,hR,_⟩:=HL1.out.ra.resolve_left (by omega)
    have h1:=HA4.out g e
    exact ⟨g,e,(HT20.out.cell hR.lt (by omega) _).trans (HL1.out.fa j hj g e)⟩
  · obtain ⟨g,_,e,hR,_⟩:=HL1.out.rb.resolve_left (by omega)
    have h1:=HB5.out g e
    exact ⟨g,e,(HT20.out.cell hR.lt (by omega) _).trans (HL1.out.fb j hj g e)⟩
  intros
  have cu20:w20.cell? ⟨gu,nK*9,none⟩=some (.int .i64 1001):=by
    obtain ⟨q1,q2,q3⟩:=HQu.out
    have e17:w17.cell? ⟨gu,nK*9,none⟩=some (.int .i64 1001):=(HT17.out.cell q3 (fun hx=>by
      have h1:=(HF.out.b.lt gu hx).1
      have h2:=HF.out.b5 gu hx
      rcases q2 with q|q
      · have:=HF.out.a4 gu q; omega
      · omega) _).trans q1
    have e18:w18.cell? ⟨gu,nK*9,none⟩=some (.int .i64 1001):=by
      rcases q2 with q|q
      · exact (HL1.out.ka gu (nK*9) (slice_own HAw.out q) (Nat.le_refl _)).trans e17
      · exact (HT18a.out.cell (by omega) (by omega) _).trans e17
    refine (HT20.out.cell (by omega) (fun hx=> ?_) _).trans e18
    rcases q2 with q|q
    · have:=HF.out.a4 gu q; omega
    · omega
  have cv20:w20.cell? ⟨gv,nK*9,none⟩=some (.int .i64 1002):=by
    obtain ⟨q1,q2,q3⟩:=HQv.out
    have e18:w18.cell? ⟨gv,nK*9,none⟩=some (.int .i64 1002):=by
      rcases q2 with q|q
      · exact (HL1.out.kb gv (nK*9) (slice_own HO17.out q) (Nat.le_refl _)).trans q1
      · exact (HT18a.out.cell (by omega) (by omega) _).trans q1
    refine (HT20.out.cell (by omega) (fun hx=> ?_) _).trans e18
    rcases q2 with q|q
    · have:=HF.out.b5 gv q; omega
    · omega
  have B20:Below w3.heap.size w3 w20:=(Below.step HF.out.bel HBW.out).trans (HT20a.out.to (fun x hx=>hx.1) (by have:=HF.out.bel.size; omega))
  have HX20:=hidW (HX.out.below B20)
  have HK20:Hid (w20.ownsRow w.heap.size 45 9 v13 σ.K.length (rowG encB σ.K)):=by
    have h1:=Mm.own_turn (own_below HO13.out (Below.step H14.out H15.out)) HT20a.out (fun g hg e=>by have:=(HO13.out.lt g hg).1; omega)
    rw [←HnK.out] at h1
    exact h1
  have HD20:Hid (w20.ownsRow w13.heap.size 74 10 v14 (diL σ.mem.mo σ.K σ.J).length (rowG encD (diL σ.mem.mo σ.K σ.J))):=by
    have h1:=Mm.own_turn (own_below HO14.out H15.out) HT20a.out (fun g hg e=>by have:=(HO14.out.lt g hg).1; have:=H13.out.size; omega)
    rw [←HnD.out] at h1
    exact h1
  have HR20:Hid (Bs.Lm w20 w14.heap.size v15 R):=by
    have h1:=Mm.own_turn HO15.out HT20a.out (fun g hg e=>by have:=(HO15.out.lt g hg).1; have:=H13.out.size; have:=H14.out.size; omega)
    rw [←HnR.out] at h1
    exact h1
  have HNR:Hid (R.length≤9000000):=by have:=HnR.out; show R.length≤9000000; omega
  have HKK:Hid (σ.K.length≤400000000000):=by have:=HnK.out; show σ.K.length≤400000000000; omega
  have hkz:(nK:Int)<(nK:Int)+1:=by omega
  clear B20 HT20a HT20 HT19a HT19 HT18 HT18a HT17 HT17a HT16 HO13 HO14 HO15 HO16 HO17 HL1 HAw HC18 HD18 HP19 HQ19 HQu HQv HA4 HB5 HC6 HD7 HP8 HQ9 HF HBW HLE H13 H14 H15 hle hz hbw HnD HnR
  have HXd:=hidW (HX20.out.below (below_drew (Below.refl _ w20)))
  have Hdr:=hidW (below_drew (Below.refl w20.heap.size w20))
  have HJ:=hidW (And.intro (HXd.out.box.cell 4) (HXd.out.box.cell 5))
  simp only [List.getElem?_cons_succ,List.getElem?_cons_zero] at HJ
  go_wp2_with fail
  refine wp_region_held_drew (S:=fun ww=>ww.cell? ⟨x,4,none⟩=some (.pointer (some ⟨p,0,none⟩))∧ww.cell? ⟨x,5,none⟩=some iv) (by kernel_rfl) ?_ (fun hHeld=> ?_)
  · exact HJ.out
  refine wpAnyH_take (i:=0) (oi:=⟨some 220,.move (.tmp 7),28,_,#[],none⟩) (v:=?_) rfl (by kernel_rfl) (by kernel_rfl) (by kernel_rfl) (fun _ _ _ h=>h) (Or.inl ⟨by rfl,?_⟩) (by assumption) ?_
  rotate_left
  · (intro w hSw; (try dsimp only at hSw); go_simp; try with_reducible rfl)
  simp only [Act.put,List.setIfInBounds_toArray,List.set_cons_zero,List.set_cons_succ]
  refine wpAnyH_take (i:=1) (oi:=⟨some 221,.nilCheck (.tmp 220),0,_,#[⟨0,.data⟩],none⟩) (v:=?_) rfl (by kernel_rfl) (by kernel_rfl) (by kernel_rfl) (fun _ _ _ h=>h) (Or.inl ⟨by rfl,?_⟩) (by assumption) ?_
  rotate_left
  · (intro w hSw; (try dsimp only at hSw); go_simp; try with_reducible rfl)
  simp only [Act.put,List.setIfInBounds_toArray,List.set_cons_zero,List.set_cons_succ]
  refine wpAnyH_take (i:=2) (oi:=⟨some 222,.fieldAddr 54 (.tmp 221) 1,0,_,#[⟨1,.data⟩],none⟩) (v:=?_) rfl (by kernel_rfl) (by kernel_rfl) (by kernel_rfl) (fun _ _ _ h=>h) (Or.inl ⟨by rfl,?_⟩) (by assumption) ?_
  rotate_left
  · (intro w hSw; (try dsimp only at hSw); go_simp; try with_reducible rfl)
  simp only [Act.put,List.setIfInBounds_toArray,List.set_cons_zero,List.set_cons_succ]
  refine wpAnyH_take (i:=3) (oi:=⟨some 223,.load 49 (.tmp 222),49,_,#[⟨2,.data⟩],none⟩) (v:=?_) rfl (by kernel_rfl) (by kernel_rfl) (by kernel_rfl) (fun _ _ _ h=>h) (Or.inl ⟨by rfl,?_⟩) (by assumption) ?_
  rotate_left
  · (intro w hSw; (try dsimp only at hSw); go_simp; try with_reducible rfl)
  simp only [Act.put,List.setIfInBounds_toArray,List.set_cons_zero,List.set_cons_succ]
  refine wpAnyH_take (i:=5) (oi:=⟨some 225,.move (.tmp 15),31,_,#[],none⟩) (v:=?_) rfl (by kernel_rfl) (by kernel_rfl) (by kernel_rfl) (fun _ _ _ h=>h) (Or.inl ⟨by rfl,?_⟩) (by assumption) ?_
  rotate_left
  · (intro w hSw; (try dsimp only at hSw); go_simp; try with_reducible rfl)
  simp only [Act.put,List.setIfInBounds_toArray,List.set_cons_zero,List.set_cons_succ]
  refine wpAnyH_ready (rs:=[4]) (by kernel_rfl) (by simp) ?_
  refine AllReadyH.cons (o:=⟨some 224,.call ⟨.value (.func 20),#[.tmp 223],#[49]⟩,31,_,#[⟨3,.data⟩],none⟩) rfl (fun K hK=> ?_) AllReadyH.nil
  go_simp
  (go_at_call 20; refine (HXd.out.tk.known HS.out.known).mono ?_; rintro e wa ⟨vk,rfl,hLk,gk⟩; have HLk:=hidW hLk; have HXa:=hidW (HXd.out.below gk); have HGa:=hidW (Below.step Hdr.out gk); have HJ:=hidW (And.intro (HXa.out.box.cell 4) (HXa.out.box.cell 5)); simp only [List.getElem?_cons_succ,List.getElem?_cons_zero] at HJ; clear gk hLk)
  refine hK.out _ _ ?_ (fun hHeld=> ?_)
  · ((try dsimp only); with_reducible exact HJ.out)
  clear hK K
  try simp only [Act.put,List.setIfInBounds_toArray,List.set_cons_zero,List.set_cons_succ]
  refine wpAnyH_ready (rs:=[6]) (by kernel_rfl) (by simp) ?_
  refine AllReadyH.cons (o:=⟨some 226,.call ⟨.value (.func 23),#[.tmp 224,.tmp 225],#[31,31]⟩,4,_,#[⟨4,.data⟩,⟨5,.data⟩,⟨4,.chain⟩],none⟩) rfl (fun K hK=> ?_) AllReadyH.nil
  go_simp
  (go_at_call 23; refine (sameB_any wa _ _ σ.K (Sli.of (k:=9) (fun _=>rfl) HLk.out) (Sli.of (k:=9) (fun _=>rfl) (own_ltg encB_len (own_below HK20.out HGa.out))) (by have:=HS.out.known; omega)).mono ?_; rintro e wb ⟨rfl,gs⟩; have HXb:=hidW (HXa.out.below gs); have HGb:=hidW (Below.step HGa.out gs); have HJ:=hidW (And.intro (HXb.out.box.cell 4) (HXb.out.box.cell 5)); simp only [List.getElem?_cons_succ,List.getElem?_cons_zero] at HJ; clear gs)
  refine hK.out _ _ ?_ (fun hHeld=> ?_)
  · ((try dsimp only); with_reducible exact HJ.out)
  clear hK K
  try simp only [Act.put,List.setIfInBounds_toArray,List.set_cons_zero,List.set_cons_succ]
  refine wpAnyH_take (i:=7) (oi:=⟨some 227,.move (.tmp 226),4,_,#[⟨6,.data⟩,⟨6,.chain⟩],none⟩) (v:=?_) rfl (by kernel_rfl) (by kernel_rfl) (by kernel_rfl) (fun _ _ _ h=>h) (Or.inl ⟨by rfl,?_⟩) (by assumption) ?_
  rotate_left
  · (intro w hSw; (try dsimp only at hSw); go_simp; try with_reducible rfl)
  simp only [Act.put,List.setIfInBounds_toArray,List.set_cons_zero,List.set_cons_succ]
  refine wpAnyH_take (i:=8) (oi:=⟨some 228,.move (.tmp 7),28,_,#[⟨7,.guard⟩],some (7,true)⟩) (v:=?_) rfl (by kernel_rfl) (by kernel_rfl) (by kernel_rfl) (fun _ _ _ h=>h) (Or.inl ⟨by rfl,?_⟩) (by assumption) ?_
  rotate_left
  · (intro w hSw; (try dsimp only at hSw); go_simp; try with_reducible rfl)
  simp only [Act.put,List.setIfInBounds_toArray,List.set_cons_zero,List.set_cons_succ]
  refine wpAnyH_take (i:=9) (oi:=⟨some 229,.nilCheck (.tmp 228),0,_,#[⟨8,.data⟩,⟨7,.guard⟩],some (7,true)⟩) (v:=?_) rfl (by kernel_rfl) (by kernel_rfl) (by kernel_rfl) (fun _ _ _ h=>h) (Or.inl ⟨by rfl,?_⟩) (by assumption) ?_
  rotate_left
  · (intro w hSw; (try dsimp only at hSw); go_simp; try with_reducible rfl)
  simp only [Act.put,List.setIfInBounds_toArray,List.set_cons_zero,List.set_cons_succ]
  refine wpAnyH_take (i:=10) (oi:=⟨some 230,.fieldAddr 54 (.tmp 229) 1,0,_,#[⟨9,.data⟩,⟨7,.guard⟩],some (7,true)⟩) (v:=?_) rfl (by kernel_rfl) (by kernel_rfl) (by kernel_rfl) (fun _ _ _ h=>h) (Or.inl ⟨by rfl,?_⟩) (by assumption) ?_
  rotate_left
  · (intro w hSw; (try dsimp only at hSw); go_simp; try with_reducible rfl)
  simp only [Act.put,List.setIfInBounds_toArray,List.set_cons_zero,List.set_cons_succ]
  refine wpAnyH_take (i:=11) (oi:=⟨some 231,.load 49 (.tmp 230),49,_,#[⟨10,.data⟩,⟨7,.guard⟩],some (7,true)⟩) (v:=?_) rfl (by kernel_rfl) (by kernel_rfl) (by kernel_rfl) (fun _ _ _ h=>h) (Or.inl ⟨by rfl,?_⟩) (by assumption) ?_
  rotate_left
  · (intro w hSw; (try dsimp only at hSw); go_simp; try with_reducible rfl)
  simp only [Act.put,List.setIfInBounds_toArray,List.set_cons_zero,List.set_cons_succ]
  refine wpAnyH_take (i:=12) (oi:=⟨some 232,.move (.tmp 7),28,_,#[⟨7,.guard⟩],some (7,true)⟩) (v:=?_) rfl (by kernel_rfl) (by kernel_rfl) (by kernel_rfl) (fun _ _ _ h=>h) (Or.inl ⟨by rfl,?_⟩) (by assumption) ?_
  rotate_left
  · (intro w hSw; (try dsimp only at hSw); go_simp; try with_reducible rfl)
  simp only [Act.put,List.setIfInBounds_toArray,List.set_cons_zero,List.set_cons_succ]
  refine wpAnyH_take (i:=13) (oi:=⟨some 233,.nilCheck (.tmp 232),0,_,#[⟨12,.data⟩,⟨7,.guard⟩],some (7,true)⟩) (v:=?_) rfl (by kernel_rfl) (by kernel_rfl) (by kernel_rfl) (fun _ _ _ h=>h) (Or.inl ⟨by rfl,?_⟩) (by assumption) ?_
  rotate_left
  · (intro w hSw; (try dsimp only at hSw); go_simp; try with_reducible rfl)
  simp only [Act.put,List.setIfInBounds_toArray,List.set_cons_zero,List.set_cons_succ]
  refine wpAnyH_take (i:=14) (oi:=⟨some 234,.fieldAddr 54 (.tmp 233) 2,0,_,#[⟨13,.data⟩,⟨7,.guard⟩],some (7,true)⟩) (v:=?_) rfl (by kernel_rfl) (by kernel_rfl) (by kernel_rfl) (fun _ _ _ h=>h) (Or.inl ⟨by rfl,?_⟩) (by assumption) ?_
  rotate_left
  · (intro w hSw; (try dsimp only at hSw); go_simp; try with_reducible rfl)
  simp only [Act.put,List.setIfInBounds_toArray,List.set_cons_zero,List.set_cons_succ]
  refine wpAnyH_take (i:=15) (oi:=⟨some 235,.load 51 (.tmp 234),51,_,#[⟨14,.data⟩,⟨7,.guard⟩],some (7,true)⟩) (v:=?_) rfl (by kernel_rfl) (by kernel_rfl) (by kernel_rfl) (fun _ _ _ h=>h) (Or.inl ⟨by rfl,?_⟩) (by assumption) ?_
  rotate_left
  · (intro w hSw; (try dsimp only at hSw); go_simp; try with_reducible rfl)
  simp only [Act.put,List.setIfInBounds_toArray,List.set_cons_zero,List.set_cons_succ]
  refine wpAnyH_take (i:=17) (oi:=⟨some 237,.move (.tmp 16),48,_,#[⟨7,.guard⟩],some (7,true)⟩) (v:=?_) rfl (by kernel_rfl) (by kernel_rfl) (by kernel_rfl) (fun _ _ _ h=>h) (Or.inl ⟨by rfl,?_⟩) (by assumption) ?_
  rotate_left
  · (intro w hSw; (try dsimp only at hSw); go_simp; try with_reducible rfl)
  simp only [Act.put,List.setIfInBounds_toArray,List.set_cons_zero,List.set_cons_succ]
  refine wpAnyH_ready (rs:=[16]) (by kernel_rfl) (by simp) ?_
  refine AllReadyH.cons (o:=⟨some 236,.call ⟨.value (.func 13),#[.tmp 231,.tmp 235],#[49,51]⟩,48,_,#[⟨11,.data⟩,⟨15,.data⟩,⟨7,.chain⟩,⟨7,.guard⟩],some (7,true)⟩) rfl (fun K hK=> ?_) AllReadyH.nil
  go_simp
  (go_at_call 13; refine (HXb.out.tk.dirty HS.out.dirty).mono ?_; rintro e wc ⟨vd,rfl,hLd,gd⟩; have HLd:=hidW hLd; have HXc:=hidW (HXb.out.below gd); have HGc:=hidW (Below.step HGb.out gd); have HJ:=hidW (And.intro (HXc.out.box.cell 4) (HXc.out.box.cell 5)); simp only [List.getElem?_cons_succ,List.getElem?_cons_zero] at HJ; clear gd hLd)
  refine hK.out _ _ ?_ (fun hHeld=> ?_)
  · ((try dsimp only); with_reducible exact HJ.out)
  clear hK K
  try simp only [Act.put,List.setIfInBounds_toArray,List.set_cons_zero,List.set_cons_succ]
  refine wpAnyH_ready (rs:=[18]) (by kernel_rfl) (by simp) ?_
  refine AllReadyH.cons (o:=⟨some 238,.call ⟨.value (.func 24),#[.tmp 236,.tmp 237],#[48,48]⟩,4,_,#[⟨16,.data⟩,⟨17,.data⟩,⟨16,.chain⟩,⟨7,.guard⟩],some (7,true)⟩) rfl (fun K hK=> ?_) AllReadyH.nil
  go_simp
  (go_at_call 24; refine (sameD_any wc _ _ _ (Sli.of (k:=10) (fun _=>rfl) HLd.out) (Sli.of (k:=10) (fun _=>rfl) (own_ltg encD_len (own_below HD20.out HGc.out))) (by have:=HS.out.dirty; omega)).mono ?_; rintro e wd ⟨rfl,gs⟩; have HXe:=hidW (HXc.out.below gs); have HGd:=hidW (Below.step HGc.out gs); have HJ:=hidW (And.intro (HXe.out.box.cell 4) (HXe.out.box.cell 5)); simp only [List.getElem?_cons_succ,List.getElem?_cons_zero] at HJ; clear gs)
  refine hK.out _ _ ?_ (fun hHeld=> ?_)
  · ((try dsimp only); with_reducible exact HJ.out)
  clear hK K
  try simp only [Act.put,List.setIfInBounds_toArray,List.set_cons_zero,List.set_cons_succ]
  refine wpAnyH_take (i:=19) (oi:=⟨some 239,.pick (.tmp 227) (.tmp 238) (.const (Value.bool false)),4,_,#[⟨7,.data⟩,⟨18,.data⟩],none⟩) (v:=?_) rfl (by kernel_rfl) (by kernel_rfl) (by kernel_rfl) (fun _ _ _ h=>h) (Or.inl ⟨by rfl,?_⟩) (by assumption) ?_
  rotate_left
  · (intro w hSw; (try dsimp only at hSw); go_simp; try with_reducible rfl)
  simp only [Act.put,List.setIfInBounds_toArray,List.set_cons_zero,List.set_cons_succ]
  refine wpAnyH_take (i:=20) (oi:=⟨some 240,.move (.tmp 239),4,_,#[⟨19,.data⟩,⟨18,.chain⟩],none⟩) (v:=?_) rfl (by kernel_rfl) (by kernel_rfl) (by kernel_rfl) (fun _ _ _ h=>h) (Or.inl ⟨by rfl,?_⟩) (by assumption) ?_
  rotate_left
  · (intro w hSw; (try dsimp only at hSw); go_simp; try with_reducible rfl)
  simp only [Act.put,List.setIfInBounds_toArray,List.set_cons_zero,List.set_cons_succ]
  refine wpAnyH_take (i:=21) (oi:=⟨some 241,.move (.tmp 7),28,_,#[⟨20,.guard⟩],some (20,true)⟩) (v:=?_) rfl (by kernel_rfl) (by kernel_rfl) (by kernel_rfl) (fun _ _ _ h=>h) (Or.inl ⟨by rfl,?_⟩) (by assumption) ?_
  rotate_left
  · (intro w hSw; (try dsimp only at hSw); go_simp; try with_reducible rfl)
  simp only [Act.put,List.setIfInBounds_toArray,List.set_cons_zero,List.set_cons_succ]
  refine wpAnyH_take (i:=22) (oi:=⟨some 242,.nilCheck (.tmp 241),0,_,#[⟨21,.data⟩,⟨20,.guard⟩],some (20,true)⟩) (v:=?_) rfl (by kernel_rfl) (by kernel_rfl) (by kernel_rfl) (fun _ _ _ h=>h) (Or.inl ⟨by rfl,?_⟩) (by assumption) ?_
  rotate_left
  · (intro w hSw; (try dsimp only at hSw); go_simp; try with_reducible rfl)
  simp only [Act.put,List.setIfInBounds_toArray,List.set_cons_zero,List.set_cons_succ]
  refine wpAnyH_take (i:=23) (oi:=⟨some 243,.fieldAddr 54 (.tmp 242) 1,0,_,#[⟨22,.data⟩,⟨20,.guard⟩],some (20,true)⟩) (v:=?_) rfl (by kernel_rfl) (by kernel_rfl) (by kernel_rfl) (fun _ _ _ h=>h) (Or.inl ⟨by rfl,?_⟩) (by assumption) ?_
  rotate_left
  · (intro w hSw; (try dsimp only at hSw); go_simp; try with_reducible rfl)
  simp only [Act.put,List.setIfInBounds_toArray,List.set_cons_zero,List.set_cons_succ]
  refine wpAnyH_take (i:=24) (oi:=⟨some 244,.load 49 (.tmp 243),49,_,#[⟨23,.data⟩,⟨20,.guard⟩],some (20,true)⟩) (v:=?_) rfl (by kernel_rfl) (by kernel_rfl) (by kernel_rfl) (fun _ _ _ h=>h) (Or.inl ⟨by rfl,?_⟩) (by assumption) ?_
  rotate_left
  · (intro w hSw; (try dsimp only at hSw); go_simp; try with_reducible rfl)
  simp only [Act.put,List.setIfInBounds_toArray,List.set_cons_zero,List.set_cons_succ]
  refine wpAnyH_take (i:=25) (oi:=⟨some 245,.move (.tmp 7),28,_,#[⟨20,.guard⟩],some (20,true)⟩) (v:=?_) rfl (by kernel_rfl) (by kernel_rfl) (by kernel_rfl) (fun _ _ _ h=>h) (Or.inl ⟨by rfl,?_⟩) (by assumption) ?_
  rotate_left
  · (intro w hSw; (try dsimp only at hSw); go_simp; try with_reducible rfl)
  simp only [Act.put,List.setIfInBounds_toArray,List.set_cons_zero,List.set_cons_succ]
  refine wpAnyH_take (i:=26) (oi:=⟨some 246,.nilCheck (.tmp 245),0,_,#[⟨25,.data⟩,⟨20,.guard⟩],some (20,true)⟩) (v:=?_) rfl (by kernel_rfl) (by kernel_rfl) (by kernel_rfl) (fun _ _ _ h=>h) (Or.inl ⟨by rfl,?_⟩) (by assumption) ?_
  rotate_left
  · (intro w hSw; (try dsimp only at hSw); go_simp; try with_reducible rfl)
  simp only [Act.put,List.setIfInBounds_toArray,List.set_cons_zero,List.set_cons_succ]
  refine wpAnyH_take (i:=27) (oi:=⟨some 247,.fieldAddr 54 (.tmp 246) 2,0,_,#[⟨26,.data⟩,⟨20,.guard⟩],some (20,true)⟩) (v:=?_) rfl (by kernel_rfl) (by kernel_rfl) (by kernel_rfl) (fun _ _ _ h=>h) (Or.inl ⟨by rfl,?_⟩) (by assumption) ?_
  rotate_left
  · (intro w hSw; (try dsimp only at hSw); go_simp; try with_reducible rfl)
  simp only [Act.put,List.setIfInBounds_toArray,List.set_cons_zero,List.set_cons_succ]
  refine wpAnyH_take (i:=28) (oi:=⟨some 248,.load 51 (.tmp 247),51,_,#[⟨27,.data⟩,⟨20,.guard⟩],some (20,true)⟩) (v:=?_) rfl (by kernel_rfl) (by kernel_rfl) (by kernel_rfl) (fun _ _ _ h=>h) (Or.inl ⟨by rfl,?_⟩) (by assumption) ?_
  rotate_left
  · (intro w hSw; (try dsimp only at hSw); go_simp; try with_reducible rfl)
  simp only [Act.put,List.setIfInBounds_toArray,List.set_cons_zero,List.set_cons_succ]
  refine wpAnyH_take (i:=29) (oi:=⟨some 249,.move (.tmp 2),3,_,#[⟨20,.guard⟩],some (20,true)⟩) (v:=?_) rfl (by kernel_rfl) (by kernel_rfl) (by kernel_rfl) (fun _ _ _ h=>h) (Or.inl ⟨by rfl,?_⟩) (by assumption) ?_
  rotate_left
  · (intro w hSw; (try dsimp only at hSw); go_simp; try with_reducible rfl)
  simp only [Act.put,List.setIfInBounds_toArray,List.set_cons_zero,List.set_cons_succ]
  refine wpAnyH_take (i:=31) (oi:=⟨some 251,.move (.tmp 17),92,_,#[⟨20,.guard⟩],some (20,true)⟩) (v:=?_) rfl (by kernel_rfl) (by kernel_rfl) (by kernel_rfl) (fun _ _ _ h=>h) (Or.inl ⟨by rfl,?_⟩) (by assumption) ?_
  rotate_left
  · (intro w hSw; (try dsimp only at hSw); go_simp; try with_reducible rfl)
  simp only [Act.put,List.setIfInBounds_toArray,List.set_cons_zero,List.set_cons_succ]
  refine wpAnyH_ready (rs:=[30]) (by kernel_rfl) (by simp) ?_
  refine AllReadyH.cons (o:=⟨some 250,.call ⟨.value (.func 33),#[.tmp 244,.tmp 248,.tmp 249],#[49,51,3]⟩,92,_,#[⟨24,.data⟩,⟨28,.data⟩,⟨29,.data⟩,⟨20,.chain⟩,⟨20,.guard⟩],some (20,true)⟩) rfl (fun K hK=> ?_) AllReadyH.nil
  go_simp
  (go_at_call 33; refine (HXe.out.tk.pages (HD.out.below HXe.out.bel) asid ha HKK.out).mono ?_; rintro e wf ⟨vr,R',rfl,hLr,hIr,gr⟩; have eR:=hIr.uniq HI.out; subst eR; have HLr:=hidW hLr; have HXf:=hidW (HXe.out.below gr); have HGf:=hidW (Below.step HGd.out gr); have HJ:=hidW (And.intro (HXf.out.box.cell 4) (HXf.out.box.cell 5)); simp only [List.getElem?_cons_succ,List.getElem?_cons_zero] at HJ; clear gr hLr hIr)
  refine hK.out _ _ ?_ (fun hHeld=> ?_)
  · ((try dsimp only); with_reducible exact HJ.out)
  clear hK K
  try simp only [Act.put,List.setIfInBounds_toArray,List.set_cons_zero,List.set_cons_succ]
  refine wpAnyH_ready (rs:=[32]) (by kernel_rfl) (by simp) ?_
  refine AllReadyH.cons (o:=⟨some 252,.call ⟨.value (.func 36),#[.tmp 250,.tmp 251],#[92,92]⟩,4,_,#[⟨30,.data⟩,⟨31,.data⟩,⟨30,.chain⟩,⟨20,.guard⟩],some (20,true)⟩) rfl (fun K hK=> ?_) AllReadyH.nil
  go_simp
  (go_at_call 36; refine (Bs.rooms_any wf _ _ _ _ _ HLr.out (own_below HR20.out HGf.out) HNR.out).mono ?_; rintro e wg ⟨rfl,gs⟩; have HXg:=hidW (HXf.out.below gs); have HJ:=hidW (And.intro (HXg.out.box.cell 4) (HXg.out.box.cell 5)); simp only [List.getElem?_cons_succ,List.getElem?_cons_zero] at HJ; clear gs)
  refine hK.out _ _ ?_ (fun hHeld=> ?_)
  · ((try dsimp only); with_reducible exact HJ.out)
  clear hK K
  try simp only [Act.put,List.setIfInBounds_toArray,List.set_cons_zero,List.set_cons_succ]
  refine wpAnyH_take (i:=33) (oi:=⟨some 253,.pick (.tmp 240) (.tmp 252) (.const (Value.bool false)),4,_,#[⟨20,.data⟩,⟨32,.data⟩],none⟩) (v:=?_) rfl (by kernel_rfl) (by kernel_rfl) (by kernel_rfl) (fun _ _ _ h=>h) (Or.inl ⟨by rfl,?_⟩) (by assumption) ?_
  rotate_left
  · (intro w hSw; (try dsimp only at hSw); go_simp; try with_reducible rfl)
  simp only [Act.put,List.setIfInBounds_toArray,List.set_cons_zero,List.set_cons_succ]
  refine wpAnyH_take (i:=34) (oi:=⟨some 6,.assign (.tmp 253),4,_,#[⟨33,.data⟩,⟨32,.chain⟩,⟨0,.phase⟩,⟨1,.phase⟩,⟨2,.phase⟩,⟨3,.phase⟩,⟨4,.phase⟩,⟨5,.phase⟩,⟨6,.phase⟩,⟨7,.phase⟩,⟨8,.phase⟩,⟨9,.phase⟩,⟨10,.phase⟩,⟨11,.phase⟩,⟨12,.phase⟩,⟨13,.phase⟩,⟨14,.phase⟩,⟨15,.phase⟩,⟨16,.phase⟩,⟨17,.phase⟩,⟨18,.phase⟩,⟨19,.phase⟩,⟨20,.phase⟩,⟨21,.phase⟩,⟨22,.phase⟩,⟨23,.phase⟩,⟨24,.phase⟩,⟨25,.phase⟩,⟨26,.phase⟩,⟨27,.phase⟩,⟨28,.phase⟩,⟨29,.phase⟩,⟨30,.phase⟩,⟨31,.phase⟩,⟨32,.phase⟩,⟨33,.phase⟩],none⟩) (v:=?_) rfl (by kernel_rfl) (by kernel_rfl) (by kernel_rfl) (fun _ _ _ h=>h) (Or.inl ⟨by rfl,?_⟩) (by assumption) ?_
  rotate_left
  · (intro w hSw; (try dsimp only at hSw); go_simp; try with_reducible rfl)
  simp only [Act.put,List.setIfInBounds_toArray,List.set_cons_zero,List.set_cons_succ]
  refine wpAnyH_done (by kernel_rfl) ?_ _
  have HE:=hidW (Below.step HB0.out HXg.out.bel)
  go_wp2
  go_ret
  exact ⟨rfl,HE.out⟩
end Go.Proofs.YtnjlajjjcmhfgaaGreatDoor
