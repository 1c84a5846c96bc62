import Derived.Test.YtbbnodhpafiplaaDoorMQ2
namespace Go.Proofs.YtbbnodhpafiplaaDoor
open Go.RowKit
set_option linter.unusedVariables false
set_option linter.unusedSimpArgs false
set_option maxRecDepth 1000000 in
set_option maxHeartbeats 64000000 in
theorem only_1a {v0 v1 v2 v4 v5 v6 v7 v8 v10 v11 v12 v13 v14 v17 v18 v19 v20 v21 v22 v23 v24 v25 v26 v27 v28 v29 v30 v31 v32 v33 v34 v35 v36 v37 v38 v39 v40 v41 v42 v43 v44 v45 v46 v47 v48 v49 v50 v51 v52 v53 v54 v55 v56 v57 v58 v59 v60 v61 v62 v63 v64 v65 v66 v67 v68 v69 v70 v71 v72 v73 v74 v75 v76 v77 v78 v79 v80 v81 v82 v83 v84 v85 v86 v87 v88 v89 v90 v91 v92 v93 v94 v95 v96 v97 v98 v99 v100 v101 v102 v103 v104 v105 v106 v107 v108 v109 v110 v111 v112 v113 v114 v115 v116 v117 v118 v119 v120 v121 v122 v123 v124 v125 v126 v127 v128 v129 v130 v131 v132 v133 v134 v135 v136 v137 v138 v139 v140 v141 v142 v143 v144 v145 v146 v147 v148 v149 v150 v151 v152 v153 v154 v155 v156 v157 v158 v159 v160 v161 v162 v163 v164 v165 v166 v167 v168 v169 v170 v171 v172 v173 v174 v175 v176 v177 v178 v179 v180 v181 v182 v183 v184 v185 v186 v187 v188 v189 v190 v191 v192 v193 v194 v195 v196 v197 v198 v199 v200 v201 v202 v203 v204 v205 v206 v207 v208 v209 v210 v211 v212 v213 v214 v215 v216 v217 v218 v219 v220 v221 v222 v223 v224 v225 v226 v227 v228 v229 v230 v231 v232 v233 : Value} {Q : Exit → Act → World → Prop} (W wr : World) (A : Ad) (X : Hi) (K : List Blo) (a : Option Addr) (cp b off k n cap : Nat) (oa op ow ova : Int) (of om : Bool) (ob : Blo) (od : Dro) (hlt : k < n) (HL : Hid (n * 120 ≤ 140737488351232)) (HKl : Hid (K.length ≤ k + 1)) (HT : Hid (∀ w, Below W.heap.size W w → TR w)) (HI : Hid (Inv X K)) (HX : Hid (OX W wr A X K (.slice a K.length cp))) (HR : Hid (wr.rangeAt b (off + k * 19) [.int .i64 1, .int .i64 oa, .int .i64 op, .int .i64 ow, .int .u32 ova, .bool of, .bool om, .int .i64 ob.asid, .int .i64 ob.t.size, .int .u32 ob.t.va, .int .u64 ob.t.pa, .int .i64 ob.t.dom, .int .i64 ob.t.ap, .int .u32 ob.t.bits, .bool ob.t.ng, .bool ob.t.xn, .int .i64 od.kind, .int .u32 od.va, .int .i64 od.asid])) (HO : Hid (OOk ⟨1, oa, op, ow, ova, of, om, ob, od⟩)) (hrn : (fiF X ova oa of op om).1.2 = 0)
    (HQ : Hid (∀ {u8 u17 u18 u19 u20 u21 u22 u100 u101 u102 u103 u104 u105 u106 u107 u108 u109 u110 u111 u112 u113 u114 u115 u116 u117 u118 u119 u120 u121 u122 u123 u124 u125 u126 u127 u128 u129 u130 u131 u132 u133 u134 u135 u136 u137 u138 u139 u140 u141 u142 u143 u144 u145 u146 u147 u148 u149 u150 u151 u152 u153 u154 u155 u156 u157 u158 u159 u160 u161 u162 u163 u164 u165 u166 u167 u168 u169 u170 u171 u172 u173 u174 u175 u176 u177 u178 u179 u180 u181 u182 u183 u184 u185 u186 u187 u188 u189 u190 u191 u192 u193 u194 u195 u196 u197 u198 u199 u200 u201 u202 u203 u204 u205 u206 u207 u208 u209 u210 u211 u212 u213 u214 u215 u216 u217 u218 u219 u220 u221 u222 u223 u224 u225 u226 u227 u228 u229 u230 u231 u232 u233 v' : Value} {w : World} {Y : Hi} {M : List Blo}, OX W w A Y M v' → Inv Y M → M.length ≤ k + 2 → Q .normal ⟨(v0 :: v1 :: v2 :: (.slice (some ⟨b, off, none⟩) n cap) :: v4 :: v5 :: v6 :: v7 :: u8 :: (.pointer (some ⟨A.h, 0, none⟩)) :: v10 :: v11 :: v12 :: v13 :: v14 :: v' :: (.int .i64 ((k + 1 : Nat) : Int)) :: u17 :: u18 :: u19 :: u20 :: u21 :: u22 :: v23 :: v24 :: v25 :: v26 :: v27 :: v28 :: v29 :: v30 :: v31 :: v32 :: v33 :: v34 :: v35 :: v36 :: v37 :: v38 :: v39 :: v40 :: v41 :: v42 :: v43 :: v44 :: v45 :: v46 :: v47 :: v48 :: v49 :: v50 :: v51 :: v52 :: v53 :: v54 :: v55 :: v56 :: v57 :: v58 :: v59 :: v60 :: v61 :: v62 :: v63 :: v64 :: v65 :: v66 :: v67 :: v68 :: v69 :: v70 :: v71 :: v72 :: v73 :: v74 :: v75 :: v76 :: v77 :: v78 :: v79 :: v80 :: v81 :: v82 :: v83 :: v84 :: v85 :: v86 :: v87 :: v88 :: v89 :: v90 :: v91 :: v92 :: v93 :: v94 :: v95 :: v96 :: v97 :: v98 :: v99 :: u100 :: u101 :: u102 :: u103 :: u104 :: u105 :: u106 :: u107 :: u108 :: u109 :: u110 :: u111 :: u112 :: u113 :: u114 :: u115 :: u116 :: u117 :: u118 :: u119 :: u120 :: u121 :: u122 :: u123 :: u124 :: u125 :: u126 :: u127 :: u128 :: u129 :: u130 :: u131 :: u132 :: u133 :: u134 :: u135 :: u136 :: u137 :: u138 :: u139 :: u140 :: u141 :: u142 :: u143 :: u144 :: u145 :: u146 :: u147 :: u148 :: u149 :: u150 :: u151 :: u152 :: u153 :: u154 :: u155 :: u156 :: u157 :: u158 :: u159 :: u160 :: u161 :: u162 :: u163 :: u164 :: u165 :: u166 :: u167 :: u168 :: u169 :: u170 :: u171 :: u172 :: u173 :: u174 :: u175 :: u176 :: u177 :: u178 :: u179 :: u180 :: u181 :: u182 :: u183 :: u184 :: u185 :: u186 :: u187 :: u188 :: u189 :: u190 :: u191 :: u192 :: u193 :: u194 :: u195 :: u196 :: u197 :: u198 :: u199 :: u200 :: u201 :: u202 :: u203 :: u204 :: u205 :: u206 :: u207 :: u208 :: u209 :: u210 :: u211 :: u212 :: u213 :: u214 :: u215 :: u216 :: u217 :: u218 :: u219 :: u220 :: u221 :: u222 :: u223 :: u224 :: u225 :: u226 :: u227 :: u228 :: u229 :: u230 :: u231 :: u232 :: u233 :: []).toArray, []⟩ w)) :
    (inL Tryd.f4).wp Tryd.prog Q ⟨(v0 :: v1 :: v2 :: (.slice (some ⟨b, off, none⟩) n cap) :: v4 :: v5 :: v6 :: v7 :: v8 :: (.pointer (some ⟨A.h, 0, none⟩)) :: v10 :: v11 :: v12 :: v13 :: v14 :: (.slice a K.length cp) :: (.int .i64 (k : Int)) :: v17 :: v18 :: v19 :: v20 :: v21 :: v22 :: v23 :: v24 :: v25 :: v26 :: v27 :: v28 :: v29 :: v30 :: v31 :: v32 :: v33 :: v34 :: v35 :: v36 :: v37 :: v38 :: v39 :: v40 :: v41 :: v42 :: v43 :: v44 :: v45 :: v46 :: v47 :: v48 :: v49 :: v50 :: v51 :: v52 :: v53 :: v54 :: v55 :: v56 :: v57 :: v58 :: v59 :: v60 :: v61 :: v62 :: v63 :: v64 :: v65 :: v66 :: v67 :: v68 :: v69 :: v70 :: v71 :: v72 :: v73 :: v74 :: v75 :: v76 :: v77 :: v78 :: v79 :: v80 :: v81 :: v82 :: v83 :: v84 :: v85 :: v86 :: v87 :: v88 :: v89 :: v90 :: v91 :: v92 :: v93 :: v94 :: v95 :: v96 :: v97 :: v98 :: v99 :: v100 :: v101 :: v102 :: v103 :: v104 :: v105 :: v106 :: v107 :: v108 :: v109 :: v110 :: v111 :: v112 :: v113 :: v114 :: v115 :: v116 :: v117 :: v118 :: v119 :: v120 :: v121 :: v122 :: v123 :: v124 :: v125 :: v126 :: v127 :: v128 :: v129 :: v130 :: v131 :: v132 :: v133 :: v134 :: v135 :: v136 :: v137 :: v138 :: v139 :: v140 :: v141 :: v142 :: v143 :: v144 :: v145 :: v146 :: v147 :: v148 :: v149 :: v150 :: v151 :: v152 :: v153 :: v154 :: v155 :: v156 :: v157 :: v158 :: v159 :: v160 :: v161 :: v162 :: v163 :: v164 :: v165 :: v166 :: v167 :: v168 :: v169 :: v170 :: v171 :: v172 :: v173 :: v174 :: v175 :: v176 :: v177 :: v178 :: v179 :: v180 :: v181 :: v182 :: v183 :: v184 :: v185 :: v186 :: v187 :: v188 :: v189 :: v190 :: v191 :: v192 :: v193 :: v194 :: v195 :: v196 :: v197 :: v198 :: v199 :: v200 :: v201 :: v202 :: v203 :: v204 :: v205 :: v206 :: v207 :: v208 :: v209 :: v210 :: v211 :: v212 :: v213 :: v214 :: v215 :: v216 :: v217 :: v218 :: v219 :: v220 :: v221 :: v222 :: v223 :: v224 :: v225 :: v226 :: v227 :: v228 :: v229 :: v230 :: v231 :: v232 :: v233 :: []).toArray, []⟩ wr := by
  conv => arg 2; whnf
  have hlk : n ≤ 9223372036854775807 := by have := HL.out; omega
  have HFd : Hid (∀ w, PH 73 95 [] w A X → TR w → Calls Tryd.prog 12 #[.pointer (some ⟨A.h, 0, none⟩), .int .u32 ova, .int .i64 oa, .bool of, .int .i64 op, .bool om] w fun e w' => e = .returned (.tuple #[.agg #[.int .i64 ((fiF X ova oa of op om).1.1).asid, .int .i64 ((fiF X ova oa of op om).1.1).t.size, .int .u32 ((fiF X ova oa of op om).1.1).t.va, .int .u64 ((fiF X ova oa of op om).1.1).t.pa, .int .i64 ((fiF X ova oa of op om).1.1).t.dom, .int .i64 ((fiF X ova oa of op om).1.1).t.ap, .int .u32 ((fiF X ova oa of op om).1.1).t.bits, .bool ((fiF X ova oa of op om).1.1).t.ng, .bool ((fiF X ova oa of op om).1.1).t.xn], .int .i64 (((fiF X ova oa of op om).1.2 : Nat) : Int)]) ∧ PH 73 95 [] w' A (fiF X ova oa of op om).2 ∧ Turn A.S w w') := hidW (fun w k1 k2 => hfind_any w A X ova oa of op om k1 k2 HO.out.va)
  have HI1 := hidW (HI.out.find ova oa of op om)
  have HOne : Hid ((fiF X ova oa of op om).1.2 = 1 → (fiF X ova oa of op om).1.1 ∈ K ∧ ovF (fiF X ova oa of op om).1.1 ova oa = true) := hidW (fun h1 => fi_one HI.out h1)
  have HNe : Hid (¬ (fiF X ova oa of op om).1.2 = 1 → (fiF X ova oa of op om).1.1 = bZ) := hidW (fun h1 => fi_ne h1)
  replace HI := HI1
  clear HI1
  generalize (fiF X ova oa of op om) = R at *
  obtain ⟨⟨rb, rn⟩, Y⟩ := R
  dsimp only at HFd HI HOne HNe hrn
  subst hrn
  have HA : Hid (∀ w b, OX W w A Y K (.slice a K.length cp) → b ∈ K → Calls Tryd.prog 13 #[.slice a K.length cp, .agg #[.int .i64 b.asid, .int .i64 b.t.size, .int .u32 b.t.va, .int .u64 b.t.pa, .int .i64 b.t.dom, .int .i64 b.t.ap, .int .u32 b.t.bits, .bool b.t.ng, .bool b.t.xn]] w fun e w' => e = .returned (.bool true) ∧ Below w.heap.size w w') := hidW (fun w b h1 hb => h1.among (by have := HKl.out; have := HL.out; omega) hb)
  have hz : rb = bZ := HNe.out (by decide)
  have he : ∀ w, (Op.equalIn 10000 38 (.agg #[.int .i64 rb.asid, .int .i64 rb.t.size, .int .u32 rb.t.va, .int .u64 rb.t.pa, .int .i64 rb.t.dom, .int .i64 rb.t.ap, .int .u32 rb.t.bits, .bool rb.t.ng, .bool rb.t.xn]) (.agg #[.int .i64 0, .int .i64 0, .int .u32 0, .int .u64 0, .int .i64 0, .int .i64 0, .int .u32 0, .bool false, .bool false])).run Tryd.prog w = .ok true w := fun w => by
    have := eqB rb bZ w
    rw [hz, Blo.same_self] at this
    rw [hz]
    exact this
  clear hz
  clear HNe HOne
  have HZ := hidW (box_big wr 44 [.int .i64 0, .int .i64 0, .int .i64 0, .int .i64 0, .int .u32 0, .bool false, .bool false, .int .i64 0, .int .i64 0, .int .u32 0, .int .u64 0, .int .i64 0, .int .i64 0, .int .u32 0, .bool false, .bool false, .int .i64 0, .int .u32 0, .int .i64 0] [.int .i64 1, .int .i64 oa, .int .i64 op, .int .i64 ow, .int .u32 ova, .bool of, .bool om, .int .i64 ob.asid, .int .i64 ob.t.size, .int .u32 ob.t.va, .int .u64 ob.t.pa, .int .i64 ob.t.dom, .int .i64 ob.t.ap, .int .u32 ob.t.bits, .bool ob.t.ng, .bool ob.t.xn, .int .i64 od.kind, .int .u32 od.va, .int .i64 od.asid] rfl)
  have HTh := hidW (there_new wr 44 [.int .i64 0, .int .i64 0, .int .i64 0, .int .i64 0, .int .u32 0, .bool false, .bool false, .int .i64 0, .int .i64 0, .int .u32 0, .int .u64 0, .int .i64 0, .int .i64 0, .int .u32 0, .bool false, .bool false, .int .i64 0, .int .u32 0, .int .i64 0] 19 rfl)
  have HBx : Hid (Bl ((wr.alloc (.cells ([.int .i64 0, .int .i64 0, .int .i64 0, .int .i64 0, .int .u32 0, .bool false, .bool false, .int .i64 0, .int .i64 0, .int .u32 0, .int .u64 0, .int .i64 0, .int .i64 0, .int .u32 0, .bool false, .bool false, .int .i64 0, .int .u32 0, .int .i64 0]).toArray 44)).setCells wr.heap.size 0 [.int .i64 1, .int .i64 oa, .int .i64 op, .int .i64 ow, .int .u32 ova, .bool of, .bool om, .int .i64 ob.asid, .int .i64 ob.t.size, .int .u32 ob.t.va, .int .u64 ob.t.pa, .int .i64 ob.t.dom, .int .i64 ob.t.ap, .int .u32 ob.t.bits, .bool ob.t.ng, .bool ob.t.xn, .int .i64 od.kind, .int .u32 od.va, .int .i64 od.asid]) wr.heap.size 44 [.int .i64 1, .int .i64 oa, .int .i64 op, .int .i64 ow, .int .u32 ova, .bool of, .bool om, .int .i64 ob.asid, .int .i64 ob.t.size, .int .u32 ob.t.va, .int .u64 ob.t.pa, .int .i64 ob.t.dom, .int .i64 ob.t.ap, .int .u32 ob.t.bits, .bool ob.t.ng, .bool ob.t.xn, .int .i64 od.kind, .int .u32 od.va, .int .i64 od.asid]) := hidW HZ.out.1
  replace HX := hidW (HX.out.step HZ.out.2)
  clear HZ
  go_wp2_with (first | (guard_target =~ wpList _ _ _ (Oper.mk (some 109) _ _ _ _ _ :: _) _ _; refine wpList_load_mid rfl _ _ rfl b (off + k * 19) rfl [.int .i64 1, .int .i64 oa, .int .i64 op, .int .i64 ow, .int .u32 ova, .bool of, .bool om, .int .i64 ob.asid, .int .i64 ob.t.size, .int .u32 ob.t.va, .int .u64 ob.t.pa, .int .i64 ob.t.dom, .int .i64 ob.t.ap, .int .u32 ob.t.bits, .bool ob.t.ng, .bool ob.t.xn, .int .i64 od.kind, .int .u32 od.va, .int .i64 od.asid] _ HR.out Tryd.underlying44 rfl (by kernel_rfl) ?_; clear HR) | (guard_target =~ wpList _ _ _ (Oper.mk none _ _ _ _ _ :: []) _ _; refine wpList_store_mid rfl _ _ _ rfl wr.heap.size 0 [.int .i64 1, .int .i64 oa, .int .i64 op, .int .i64 ow, .int .u32 ova, .bool of, .bool om, .int .i64 ob.asid, .int .i64 ob.t.size, .int .u32 ob.t.va, .int .u64 ob.t.pa, .int .i64 ob.t.dom, .int .i64 ob.t.ap, .int .u32 ob.t.bits, .bool ob.t.ng, .bool ob.t.xn, .int .i64 od.kind, .int .u32 od.va, .int .i64 od.asid].toArray rfl rfl HTh.out (by kernel_rfl) (ol_one ⟨1, oa, op, ow, ova, of, om, ob, od⟩) ?_; clear HTh; generalize World.setCells _ _ _ _ = w6 at *; generalize wr.heap.size = C at *; have c1 := HBx.out.cell))
  go_at_call 12
  refine (HFd.out _ HX.out.ph (HT.out _ HX.out.bel)).mono ?_
  rintro e w7 ⟨rfl, hp, hT⟩
  replace HBx := hidW ((HBx.out.turn hT (fun hs => by obtain ⟨c, hc⟩ := HX.out.ph.row _ hs; exact HBx.out.ne hc (by decide) rfl)).below (below_new _ (.cells ([.int .i64 rb.asid, .int .i64 rb.t.size, .int .u32 rb.t.va, .int .u64 rb.t.pa, .int .i64 rb.t.dom, .int .i64 rb.t.ap, .int .u32 rb.t.bits, .bool rb.t.ng, .bool rb.t.xn]).toArray 38)))
  replace HX := hidW ((HX.out.turn hp hT).step (below_new _ (.cells ([.int .i64 rb.asid, .int .i64 rb.t.size, .int .u32 rb.t.va, .int .u64 rb.t.pa, .int .i64 rb.t.dom, .int .i64 rb.t.ap, .int .u32 rb.t.bits, .bool rb.t.ng, .bool rb.t.xn]).toArray 38)))
  have HBy := hidW (Bl.new w7 38 ([.int .i64 rb.asid, .int .i64 rb.t.size, .int .u32 rb.t.va, .int .u64 rb.t.pa, .int .i64 rb.t.dom, .int .i64 rb.t.ap, .int .u32 rb.t.bits, .bool rb.t.ng, .bool rb.t.xn]))
  clear hp hT HFd c1
  have c2 := HBy.out.cell
  go_wp2
  refine only_W A.h (fun w => OX W w A Y K (.slice a K.length cp)) (hidW (fun w w' h1 h2 => h1.step h2)) K Y.i Y.d Y.m Y.i.length Y.d.length Y.m.length HX.out.ph.ti.hi HX.out.ph.td.hi HX.out.ph.tm.hi (hidW rfl) (hidW rfl) (hidW rfl) (hidW (fun s hs hf => HI.out s (.inl hs) hf)) (hidW (fun s hs hf => HI.out s (.inr (.inl hs)) hf)) (hidW (fun s hs hf => HI.out s (.inr (.inr hs)) hf)) (hidW (fun w h1 => hplaces_1 w A Y h1.ph)) (hidW (fun w h1 => hplaces_2 w A Y h1.ph)) (hidW (fun w h1 => hplaces_3 w A Y h1.ph)) HA _ HX ?_
  refine hidW ?_
  intros
  rename_i wq hX
  have HX := hidW hX
  clear hX
  go_wp2
  exact HQ.out HX.out HI.out (by have := HKl.out; omega)
set_option maxRecDepth 1000000 in
set_option maxHeartbeats 64000000 in
theorem only_1b {v0 v1 v2 v4 v5 v6 v7 v8 v10 v11 v12 v13 v14 v17 v18 v19 v20 v21 v22 v23 v24 v25 v26 v27 v28 v29 v30 v31 v32 v33 v34 v35 v36 v37 v38 v39 v40 v41 v42 v43 v44 v45 v46 v47 v48 v49 v50 v51 v52 v53 v54 v55 v56 v57 v58 v59 v60 v61 v62 v63 v64 v65 v66 v67 v68 v69 v70 v71 v72 v73 v74 v75 v76 v77 v78 v79 v80 v81 v82 v83 v84 v85 v86 v87 v88 v89 v90 v91 v92 v93 v94 v95 v96 v97 v98 v99 v100 v101 v102 v103 v104 v105 v106 v107 v108 v109 v110 v111 v112 v113 v114 v115 v116 v117 v118 v119 v120 v121 v122 v123 v124 v125 v126 v127 v128 v129 v130 v131 v132 v133 v134 v135 v136 v137 v138 v139 v140 v141 v142 v143 v144 v145 v146 v147 v148 v149 v150 v151 v152 v153 v154 v155 v156 v157 v158 v159 v160 v161 v162 v163 v164 v165 v166 v167 v168 v169 v170 v171 v172 v173 v174 v175 v176 v177 v178 v179 v180 v181 v182 v183 v184 v185 v186 v187 v188 v189 v190 v191 v192 v193 v194 v195 v196 v197 v198 v199 v200 v201 v202 v203 v204 v205 v206 v207 v208 v209 v210 v211 v212 v213 v214 v215 v216 v217 v218 v219 v220 v221 v222 v223 v224 v225 v226 v227 v228 v229 v230 v231 v232 v233 : Value} {Q : Exit → Act → World → Prop} (W wr : World) (A : Ad) (X : Hi) (K : List Blo) (a : Option Addr) (cp b off k n cap : Nat) (oa op ow ova : Int) (of om : Bool) (ob : Blo) (od : Dro) (hlt : k < n) (HL : Hid (n * 120 ≤ 140737488351232)) (HKl : Hid (K.length ≤ k + 1)) (HT : Hid (∀ w, Below W.heap.size W w → TR w)) (HI : Hid (Inv X K)) (HX : Hid (OX W wr A X K (.slice a K.length cp))) (HR : Hid (wr.rangeAt b (off + k * 19) [.int .i64 1, .int .i64 oa, .int .i64 op, .int .i64 ow, .int .u32 ova, .bool of, .bool om, .int .i64 ob.asid, .int .i64 ob.t.size, .int .u32 ob.t.va, .int .u64 ob.t.pa, .int .i64 ob.t.dom, .int .i64 ob.t.ap, .int .u32 ob.t.bits, .bool ob.t.ng, .bool ob.t.xn, .int .i64 od.kind, .int .u32 od.va, .int .i64 od.asid])) (HO : Hid (OOk ⟨1, oa, op, ow, ova, of, om, ob, od⟩)) (hrn : (fiF X ova oa of op om).1.2 = 1)
    (HQ : Hid (∀ {u8 u17 u18 u19 u20 u21 u22 u100 u101 u102 u103 u104 u105 u106 u107 u108 u109 u110 u111 u112 u113 u114 u115 u116 u117 u118 u119 u120 u121 u122 u123 u124 u125 u126 u127 u128 u129 u130 u131 u132 u133 u134 u135 u136 u137 u138 u139 u140 u141 u142 u143 u144 u145 u146 u147 u148 u149 u150 u151 u152 u153 u154 u155 u156 u157 u158 u159 u160 u161 u162 u163 u164 u165 u166 u167 u168 u169 u170 u171 u172 u173 u174 u175 u176 u177 u178 u179 u180 u181 u182 u183 u184 u185 u186 u187 u188 u189 u190 u191 u192 u193 u194 u195 u196 u197 u198 u199 u200 u201 u202 u203 u204 u205 u206 u207 u208 u209 u210 u211 u212 u213 u214 u215 u216 u217 u218 u219 u220 u221 u222 u223 u224 u225 u226 u227 u228 u229 u230 u231 u232 u233 v' : Value} {w : World} {Y : Hi} {M : List Blo}, OX W w A Y M v' → Inv Y M → M.length ≤ k + 2 → Q .normal ⟨(v0 :: v1 :: v2 :: (.slice (some ⟨b, off, none⟩) n cap) :: v4 :: v5 :: v6 :: v7 :: u8 :: (.pointer (some ⟨A.h, 0, none⟩)) :: v10 :: v11 :: v12 :: v13 :: v14 :: v' :: (.int .i64 ((k + 1 : Nat) : Int)) :: u17 :: u18 :: u19 :: u20 :: u21 :: u22 :: v23 :: v24 :: v25 :: v26 :: v27 :: v28 :: v29 :: v30 :: v31 :: v32 :: v33 :: v34 :: v35 :: v36 :: v37 :: v38 :: v39 :: v40 :: v41 :: v42 :: v43 :: v44 :: v45 :: v46 :: v47 :: v48 :: v49 :: v50 :: v51 :: v52 :: v53 :: v54 :: v55 :: v56 :: v57 :: v58 :: v59 :: v60 :: v61 :: v62 :: v63 :: v64 :: v65 :: v66 :: v67 :: v68 :: v69 :: v70 :: v71 :: v72 :: v73 :: v74 :: v75 :: v76 :: v77 :: v78 :: v79 :: v80 :: v81 :: v82 :: v83 :: v84 :: v85 :: v86 :: v87 :: v88 :: v89 :: v90 :: v91 :: v92 :: v93 :: v94 :: v95 :: v96 :: v97 :: v98 :: v99 :: u100 :: u101 :: u102 :: u103 :: u104 :: u105 :: u106 :: u107 :: u108 :: u109 :: u110 :: u111 :: u112 :: u113 :: u114 :: u115 :: u116 :: u117 :: u118 :: u119 :: u120 :: u121 :: u122 :: u123 :: u124 :: u125 :: u126 :: u127 :: u128 :: u129 :: u130 :: u131 :: u132 :: u133 :: u134 :: u135 :: u136 :: u137 :: u138 :: u139 :: u140 :: u141 :: u142 :: u143 :: u144 :: u145 :: u146 :: u147 :: u148 :: u149 :: u150 :: u151 :: u152 :: u153 :: u154 :: u155 :: u156 :: u157 :: u158 :: u159 :: u160 :: u161 :: u162 :: u163 :: u164 :: u165 :: u166 :: u167 :: u168 :: u169 :: u170 :: u171 :: u172 :: u173 :: u174 :: u175 :: u176 :: u177 :: u178 :: u179 :: u180 :: u181 :: u182 :: u183 :: u184 :: u185 :: u186 :: u187 :: u188 :: u189 :: u190 :: u191 :: u192 :: u193 :: u194 :: u195 :: u196 :: u197 :: u198 :: u199 :: u200 :: u201 :: u202 :: u203 :: u204 :: u205 :: u206 :: u207 :: u208 :: u209 :: u210 :: u211 :: u212 :: u213 :: u214 :: u215 :: u216 :: u217 :: u218 :: u219 :: u220 :: u221 :: u222 :: u223 :: u224 :: u225 :: u226 :: u227 :: u228 :: u229 :: u230 :: u231 :: u232 :: u233 :: []).toArray, []⟩ w)) :
    (inL Tryd.f4).wp Tryd.prog Q ⟨(v0 :: v1 :: v2 :: (.slice (some ⟨b, off, none⟩) n cap) :: v4 :: v5 :: v6 :: v7 :: v8 :: (.pointer (some ⟨A.h, 0, none⟩)) :: v10 :: v11 :: v12 :: v13 :: v14 :: (.slice a K.length cp) :: (.int .i64 (k : Int)) :: v17 :: v18 :: v19 :: v20 :: v21 :: v22 :: v23 :: v24 :: v25 :: v26 :: v27 :: v28 :: v29 :: v30 :: v31 :: v32 :: v33 :: v34 :: v35 :: v36 :: v37 :: v38 :: v39 :: v40 :: v41 :: v42 :: v43 :: v44 :: v45 :: v46 :: v47 :: v48 :: v49 :: v50 :: v51 :: v52 :: v53 :: v54 :: v55 :: v56 :: v57 :: v58 :: v59 :: v60 :: v61 :: v62 :: v63 :: v64 :: v65 :: v66 :: v67 :: v68 :: v69 :: v70 :: v71 :: v72 :: v73 :: v74 :: v75 :: v76 :: v77 :: v78 :: v79 :: v80 :: v81 :: v82 :: v83 :: v84 :: v85 :: v86 :: v87 :: v88 :: v89 :: v90 :: v91 :: v92 :: v93 :: v94 :: v95 :: v96 :: v97 :: v98 :: v99 :: v100 :: v101 :: v102 :: v103 :: v104 :: v105 :: v106 :: v107 :: v108 :: v109 :: v110 :: v111 :: v112 :: v113 :: v114 :: v115 :: v116 :: v117 :: v118 :: v119 :: v120 :: v121 :: v122 :: v123 :: v124 :: v125 :: v126 :: v127 :: v128 :: v129 :: v130 :: v131 :: v132 :: v133 :: v134 :: v135 :: v136 :: v137 :: v138 :: v139 :: v140 :: v141 :: v142 :: v143 :: v144 :: v145 :: v146 :: v147 :: v148 :: v149 :: v150 :: v151 :: v152 :: v153 :: v154 :: v155 :: v156 :: v157 :: v158 :: v159 :: v160 :: v161 :: v162 :: v163 :: v164 :: v165 :: v166 :: v167 :: v168 :: v169 :: v170 :: v171 :: v172 :: v173 :: v174 :: v175 :: v176 :: v177 :: v178 :: v179 :: v180 :: v181 :: v182 :: v183 :: v184 :: v185 :: v186 :: v187 :: v188 :: v189 :: v190 :: v191 :: v192 :: v193 :: v194 :: v195 :: v196 :: v197 :: v198 :: v199 :: v200 :: v201 :: v202 :: v203 :: v204 :: v205 :: v206 :: v207 :: v208 :: v209 :: v210 :: v211 :: v212 :: v213 :: v214 :: v215 :: v216 :: v217 :: v218 :: v219 :: v220 :: v221 :: v222 :: v223 :: v224 :: v225 :: v226 :: v227 :: v228 :: v229 :: v230 :: v231 :: v232 :: v233 :: []).toArray, []⟩ wr := by
  conv => arg 2; whnf
  have hlk : n ≤ 9223372036854775807 := by have := HL.out; omega
  have HFd : Hid (∀ w, PH 73 95 [] w A X → TR w → Calls Tryd.prog 12 #[.pointer (some ⟨A.h, 0, none⟩), .int .u32 ova, .int .i64 oa, .bool of, .int .i64 op, .bool om] w fun e w' => e = .returned (.tuple #[.agg #[.int .i64 ((fiF X ova oa of op om).1.1).asid, .int .i64 ((fiF X ova oa of op om).1.1).t.size, .int .u32 ((fiF X ova oa of op om).1.1).t.va, .int .u64 ((fiF X ova oa of op om).1.1).t.pa, .int .i64 ((fiF X ova oa of op om).1.1).t.dom, .int .i64 ((fiF X ova oa of op om).1.1).t.ap, .int .u32 ((fiF X ova oa of op om).1.1).t.bits, .bool ((fiF X ova oa of op om).1.1).t.ng, .bool ((fiF X ova oa of op om).1.1).t.xn], .int .i64 (((fiF X ova oa of op om).1.2 : Nat) : Int)]) ∧ PH 73 95 [] w' A (fiF X ova oa of op om).2 ∧ Turn A.S w w') := hidW (fun w k1 k2 => hfind_any w A X ova oa of op om k1 k2 HO.out.va)
  have HI1 := hidW (HI.out.find ova oa of op om)
  have HOne : Hid ((fiF X ova oa of op om).1.2 = 1 → (fiF X ova oa of op om).1.1 ∈ K ∧ ovF (fiF X ova oa of op om).1.1 ova oa = true) := hidW (fun h1 => fi_one HI.out h1)
  have HNe : Hid (¬ (fiF X ova oa of op om).1.2 = 1 → (fiF X ova oa of op om).1.1 = bZ) := hidW (fun h1 => fi_ne h1)
  replace HI := HI1
  clear HI1
  generalize (fiF X ova oa of op om) = R at *
  obtain ⟨⟨rb, rn⟩, Y⟩ := R
  dsimp only at HFd HI HOne HNe hrn
  subst hrn
  have HA : Hid (∀ w b, OX W w A Y K (.slice a K.length cp) → b ∈ K → Calls Tryd.prog 13 #[.slice a K.length cp, .agg #[.int .i64 b.asid, .int .i64 b.t.size, .int .u32 b.t.va, .int .u64 b.t.pa, .int .i64 b.t.dom, .int .i64 b.t.ap, .int .u32 b.t.bits, .bool b.t.ng, .bool b.t.xn]] w fun e w' => e = .returned (.bool true) ∧ Below w.heap.size w w') := hidW (fun w b h1 hb => h1.among (by have := HKl.out; have := HL.out; omega) hb)
  have HMem := hidW (HOne.out rfl)
  have HBo := hidW (HX.out.kok rb HMem.out.1)
  have HC := hidW (fun w hw => HA.out w rb hw HMem.out.1)
  have HV : Hid (∀ w, TR w → Calls Tryd.prog 14 #[.agg #[.int .i64 rb.asid, .int .i64 rb.t.size, .int .u32 rb.t.va, .int .u64 rb.t.pa, .int .i64 rb.t.dom, .int .i64 rb.t.ap, .int .u32 rb.t.bits, .bool rb.t.ng, .bool rb.t.xn], .int .u32 ova, .int .i64 oa] w fun e w' => e = .returned (.bool true) ∧ Below w.heap.size w w') := hidW (fun w k1 => by have := over_any rb ova oa w k1 HBo.out HO.out.va; rw [HMem.out.2] at this; exact this)
  clear HMem HBo
  clear HNe HOne
  have HZ := hidW (box_big wr 44 [.int .i64 0, .int .i64 0, .int .i64 0, .int .i64 0, .int .u32 0, .bool false, .bool false, .int .i64 0, .int .i64 0, .int .u32 0, .int .u64 0, .int .i64 0, .int .i64 0, .int .u32 0, .bool false, .bool false, .int .i64 0, .int .u32 0, .int .i64 0] [.int .i64 1, .int .i64 oa, .int .i64 op, .int .i64 ow, .int .u32 ova, .bool of, .bool om, .int .i64 ob.asid, .int .i64 ob.t.size, .int .u32 ob.t.va, .int .u64 ob.t.pa, .int .i64 ob.t.dom, .int .i64 ob.t.ap, .int .u32 ob.t.bits, .bool ob.t.ng, .bool ob.t.xn, .int .i64 od.kind, .int .u32 od.va, .int .i64 od.asid] rfl)
  have HTh := hidW (there_new wr 44 [.int .i64 0, .int .i64 0, .int .i64 0, .int .i64 0, .int .u32 0, .bool false, .bool false, .int .i64 0, .int .i64 0, .int .u32 0, .int .u64 0, .int .i64 0, .int .i64 0, .int .u32 0, .bool false, .bool false, .int .i64 0, .int .u32 0, .int .i64 0] 19 rfl)
  have HBx : Hid (Bl ((wr.alloc (.cells ([.int .i64 0, .int .i64 0, .int .i64 0, .int .i64 0, .int .u32 0, .bool false, .bool false, .int .i64 0, .int .i64 0, .int .u32 0, .int .u64 0, .int .i64 0, .int .i64 0, .int .u32 0, .bool false, .bool false, .int .i64 0, .int .u32 0, .int .i64 0]).toArray 44)).setCells wr.heap.size 0 [.int .i64 1, .int .i64 oa, .int .i64 op, .int .i64 ow, .int .u32 ova, .bool of, .bool om, .int .i64 ob.asid, .int .i64 ob.t.size, .int .u32 ob.t.va, .int .u64 ob.t.pa, .int .i64 ob.t.dom, .int .i64 ob.t.ap, .int .u32 ob.t.bits, .bool ob.t.ng, .bool ob.t.xn, .int .i64 od.kind, .int .u32 od.va, .int .i64 od.asid]) wr.heap.size 44 [.int .i64 1, .int .i64 oa, .int .i64 op, .int .i64 ow, .int .u32 ova, .bool of, .bool om, .int .i64 ob.asid, .int .i64 ob.t.size, .int .u32 ob.t.va, .int .u64 ob.t.pa, .int .i64 ob.t.dom, .int .i64 ob.t.ap, .int .u32 ob.t.bits, .bool ob.t.ng, .bool ob.t.xn, .int .i64 od.kind, .int .u32 od.va, .int .i64 od.asid]) := hidW HZ.out.1
  replace HX := hidW (HX.out.step HZ.out.2)
  clear HZ
  go_wp2_with (first | (guard_target =~ wpList _ _ _ (Oper.mk (some 109) _ _ _ _ _ :: _) _ _; refine wpList_load_mid rfl _ _ rfl b (off + k * 19) rfl [.int .i64 1, .int .i64 oa, .int .i64 op, .int .i64 ow, .int .u32 ova, .bool of, .bool om, .int .i64 ob.asid, .int .i64 ob.t.size, .int .u32 ob.t.va, .int .u64 ob.t.pa, .int .i64 ob.t.dom, .int .i64 ob.t.ap, .int .u32 ob.t.bits, .bool ob.t.ng, .bool ob.t.xn, .int .i64 od.kind, .int .u32 od.va, .int .i64 od.asid] _ HR.out Tryd.underlying44 rfl (by kernel_rfl) ?_; clear HR) | (guard_target =~ wpList _ _ _ (Oper.mk none _ _ _ _ _ :: []) _ _; refine wpList_store_mid rfl _ _ _ rfl wr.heap.size 0 [.int .i64 1, .int .i64 oa, .int .i64 op, .int .i64 ow, .int .u32 ova, .bool of, .bool om, .int .i64 ob.asid, .int .i64 ob.t.size, .int .u32 ob.t.va, .int .u64 ob.t.pa, .int .i64 ob.t.dom, .int .i64 ob.t.ap, .int .u32 ob.t.bits, .bool ob.t.ng, .bool ob.t.xn, .int .i64 od.kind, .int .u32 od.va, .int .i64 od.asid].toArray rfl rfl HTh.out (by kernel_rfl) (ol_one ⟨1, oa, op, ow, ova, of, om, ob, od⟩) ?_; clear HTh; generalize World.setCells _ _ _ _ = w6 at *; generalize wr.heap.size = C at *; have c1 := HBx.out.cell))
  go_at_call 12
  refine (HFd.out _ HX.out.ph (HT.out _ HX.out.bel)).mono ?_
  rintro e w7 ⟨rfl, hp, hT⟩
  replace HBx := hidW ((HBx.out.turn hT (fun hs => by obtain ⟨c, hc⟩ := HX.out.ph.row _ hs; exact HBx.out.ne hc (by decide) rfl)).below (below_new _ (.cells ([.int .i64 rb.asid, .int .i64 rb.t.size, .int .u32 rb.t.va, .int .u64 rb.t.pa, .int .i64 rb.t.dom, .int .i64 rb.t.ap, .int .u32 rb.t.bits, .bool rb.t.ng, .bool rb.t.xn]).toArray 38)))
  replace HX := hidW ((HX.out.turn hp hT).step (below_new _ (.cells ([.int .i64 rb.asid, .int .i64 rb.t.size, .int .u32 rb.t.va, .int .u64 rb.t.pa, .int .i64 rb.t.dom, .int .i64 rb.t.ap, .int .u32 rb.t.bits, .bool rb.t.ng, .bool rb.t.xn]).toArray 38)))
  have HBy := hidW (Bl.new w7 38 ([.int .i64 rb.asid, .int .i64 rb.t.size, .int .u32 rb.t.va, .int .u64 rb.t.pa, .int .i64 rb.t.dom, .int .i64 rb.t.ap, .int .u32 rb.t.bits, .bool rb.t.ng, .bool rb.t.xn]))
  clear hp hT HFd c1
  have c2 := HBy.out.cell
  go_wp2_with (fail)
  go_at_call 13
  generalize World.alloc _ _ = w8 at *
  generalize w7.heap.size = D at *
  refine (HC.out _ HX.out).mono ?_
  rintro e w9 ⟨rfl, hb⟩
  replace HX := hidW (HX.out.step hb)
  replace HBx := hidW (HBx.out.below hb)
  replace HBy := hidW (HBy.out.below hb)
  clear hb HC c2
  have c2 := HBy.out.cell
  have c1 := HBx.out.cell
  go_wp2_with (fail)
  go_at_call 14
  refine (HV.out _ (HT.out _ HX.out.bel)).mono ?_
  rintro e w10 ⟨rfl, hb⟩
  replace HX := hidW (HX.out.step hb)
  clear hb HV c1 c2 HBx HBy
  go_wp2
  refine only_W A.h (fun w => OX W w A Y K (.slice a K.length cp)) (hidW (fun w w' h1 h2 => h1.step h2)) K Y.i Y.d Y.m Y.i.length Y.d.length Y.m.length HX.out.ph.ti.hi HX.out.ph.td.hi HX.out.ph.tm.hi (hidW rfl) (hidW rfl) (hidW rfl) (hidW (fun s hs hf => HI.out s (.inl hs) hf)) (hidW (fun s hs hf => HI.out s (.inr (.inl hs)) hf)) (hidW (fun s hs hf => HI.out s (.inr (.inr hs)) hf)) (hidW (fun w h1 => hplaces_1 w A Y h1.ph)) (hidW (fun w h1 => hplaces_2 w A Y h1.ph)) (hidW (fun w h1 => hplaces_3 w A Y h1.ph)) HA _ HX ?_
  refine hidW ?_
  intros
  rename_i wq hX
  have HX := hidW hX
  clear hX
  go_wp2
  exact HQ.out HX.out HI.out (by have := HKl.out; omega)
set_option maxRecDepth 1000000 in
set_option maxHeartbeats 64000000 in
theorem only_1c {v0 v1 v2 v4 v5 v6 v7 v8 v10 v11 v12 v13 v14 v17 v18 v19 v20 v21 v22 v23 v24 v25 v26 v27 v28 v29 v30 v31 v32 v33 v34 v35 v36 v37 v38 v39 v40 v41 v42 v43 v44 v45 v46 v47 v48 v49 v50 v51 v52 v53 v54 v55 v56 v57 v58 v59 v60 v61 v62 v63 v64 v65 v66 v67 v68 v69 v70 v71 v72 v73 v74 v75 v76 v77 v78 v79 v80 v81 v82 v83 v84 v85 v86 v87 v88 v89 v90 v91 v92 v93 v94 v95 v96 v97 v98 v99 v100 v101 v102 v103 v104 v105 v106 v107 v108 v109 v110 v111 v112 v113 v114 v115 v116 v117 v118 v119 v120 v121 v122 v123 v124 v125 v126 v127 v128 v129 v130 v131 v132 v133 v134 v135 v136 v137 v138 v139 v140 v141 v142 v143 v144 v145 v146 v147 v148 v149 v150 v151 v152 v153 v154 v155 v156 v157 v158 v159 v160 v161 v162 v163 v164 v165 v166 v167 v168 v169 v170 v171 v172 v173 v174 v175 v176 v177 v178 v179 v180 v181 v182 v183 v184 v185 v186 v187 v188 v189 v190 v191 v192 v193 v194 v195 v196 v197 v198 v199 v200 v201 v202 v203 v204 v205 v206 v207 v208 v209 v210 v211 v212 v213 v214 v215 v216 v217 v218 v219 v220 v221 v222 v223 v224 v225 v226 v227 v228 v229 v230 v231 v232 v233 : Value} {Q : Exit → Act → World → Prop} (W wr : World) (A : Ad) (X : Hi) (K : List Blo) (a : Option Addr) (cp b off k n cap : Nat) (oa op ow ova : Int) (of om : Bool) (ob : Blo) (od : Dro) (hlt : k < n) (HL : Hid (n * 120 ≤ 140737488351232)) (HKl : Hid (K.length ≤ k + 1)) (HT : Hid (∀ w, Below W.heap.size W w → TR w)) (HI : Hid (Inv X K)) (HX : Hid (OX W wr A X K (.slice a K.length cp))) (HR : Hid (wr.rangeAt b (off + k * 19) [.int .i64 1, .int .i64 oa, .int .i64 op, .int .i64 ow, .int .u32 ova, .bool of, .bool om, .int .i64 ob.asid, .int .i64 ob.t.size, .int .u32 ob.t.va, .int .u64 ob.t.pa, .int .i64 ob.t.dom, .int .i64 ob.t.ap, .int .u32 ob.t.bits, .bool ob.t.ng, .bool ob.t.xn, .int .i64 od.kind, .int .u32 od.va, .int .i64 od.asid])) (HO : Hid (OOk ⟨1, oa, op, ow, ova, of, om, ob, od⟩)) (hrn : (fiF X ova oa of op om).1.2 = 2)
    (HQ : Hid (∀ {u8 u17 u18 u19 u20 u21 u22 u100 u101 u102 u103 u104 u105 u106 u107 u108 u109 u110 u111 u112 u113 u114 u115 u116 u117 u118 u119 u120 u121 u122 u123 u124 u125 u126 u127 u128 u129 u130 u131 u132 u133 u134 u135 u136 u137 u138 u139 u140 u141 u142 u143 u144 u145 u146 u147 u148 u149 u150 u151 u152 u153 u154 u155 u156 u157 u158 u159 u160 u161 u162 u163 u164 u165 u166 u167 u168 u169 u170 u171 u172 u173 u174 u175 u176 u177 u178 u179 u180 u181 u182 u183 u184 u185 u186 u187 u188 u189 u190 u191 u192 u193 u194 u195 u196 u197 u198 u199 u200 u201 u202 u203 u204 u205 u206 u207 u208 u209 u210 u211 u212 u213 u214 u215 u216 u217 u218 u219 u220 u221 u222 u223 u224 u225 u226 u227 u228 u229 u230 u231 u232 u233 v' : Value} {w : World} {Y : Hi} {M : List Blo}, OX W w A Y M v' → Inv Y M → M.length ≤ k + 2 → Q .normal ⟨(v0 :: v1 :: v2 :: (.slice (some ⟨b, off, none⟩) n cap) :: v4 :: v5 :: v6 :: v7 :: u8 :: (.pointer (some ⟨A.h, 0, none⟩)) :: v10 :: v11 :: v12 :: v13 :: v14 :: v' :: (.int .i64 ((k + 1 : Nat) : Int)) :: u17 :: u18 :: u19 :: u20 :: u21 :: u22 :: v23 :: v24 :: v25 :: v26 :: v27 :: v28 :: v29 :: v30 :: v31 :: v32 :: v33 :: v34 :: v35 :: v36 :: v37 :: v38 :: v39 :: v40 :: v41 :: v42 :: v43 :: v44 :: v45 :: v46 :: v47 :: v48 :: v49 :: v50 :: v51 :: v52 :: v53 :: v54 :: v55 :: v56 :: v57 :: v58 :: v59 :: v60 :: v61 :: v62 :: v63 :: v64 :: v65 :: v66 :: v67 :: v68 :: v69 :: v70 :: v71 :: v72 :: v73 :: v74 :: v75 :: v76 :: v77 :: v78 :: v79 :: v80 :: v81 :: v82 :: v83 :: v84 :: v85 :: v86 :: v87 :: v88 :: v89 :: v90 :: v91 :: v92 :: v93 :: v94 :: v95 :: v96 :: v97 :: v98 :: v99 :: u100 :: u101 :: u102 :: u103 :: u104 :: u105 :: u106 :: u107 :: u108 :: u109 :: u110 :: u111 :: u112 :: u113 :: u114 :: u115 :: u116 :: u117 :: u118 :: u119 :: u120 :: u121 :: u122 :: u123 :: u124 :: u125 :: u126 :: u127 :: u128 :: u129 :: u130 :: u131 :: u132 :: u133 :: u134 :: u135 :: u136 :: u137 :: u138 :: u139 :: u140 :: u141 :: u142 :: u143 :: u144 :: u145 :: u146 :: u147 :: u148 :: u149 :: u150 :: u151 :: u152 :: u153 :: u154 :: u155 :: u156 :: u157 :: u158 :: u159 :: u160 :: u161 :: u162 :: u163 :: u164 :: u165 :: u166 :: u167 :: u168 :: u169 :: u170 :: u171 :: u172 :: u173 :: u174 :: u175 :: u176 :: u177 :: u178 :: u179 :: u180 :: u181 :: u182 :: u183 :: u184 :: u185 :: u186 :: u187 :: u188 :: u189 :: u190 :: u191 :: u192 :: u193 :: u194 :: u195 :: u196 :: u197 :: u198 :: u199 :: u200 :: u201 :: u202 :: u203 :: u204 :: u205 :: u206 :: u207 :: u208 :: u209 :: u210 :: u211 :: u212 :: u213 :: u214 :: u215 :: u216 :: u217 :: u218 :: u219 :: u220 :: u221 :: u222 :: u223 :: u224 :: u225 :: u226 :: u227 :: u228 :: u229 :: u230 :: u231 :: u232 :: u233 :: []).toArray, []⟩ w)) :
    (inL Tryd.f4).wp Tryd.prog Q ⟨(v0 :: v1 :: v2 :: (.slice (some ⟨b, off, none⟩) n cap) :: v4 :: v5 :: v6 :: v7 :: v8 :: (.pointer (some ⟨A.h, 0, none⟩)) :: v10 :: v11 :: v12 :: v13 :: v14 :: (.slice a K.length cp) :: (.int .i64 (k : Int)) :: v17 :: v18 :: v19 :: v20 :: v21 :: v22 :: v23 :: v24 :: v25 :: v26 :: v27 :: v28 :: v29 :: v30 :: v31 :: v32 :: v33 :: v34 :: v35 :: v36 :: v37 :: v38 :: v39 :: v40 :: v41 :: v42 :: v43 :: v44 :: v45 :: v46 :: v47 :: v48 :: v49 :: v50 :: v51 :: v52 :: v53 :: v54 :: v55 :: v56 :: v57 :: v58 :: v59 :: v60 :: v61 :: v62 :: v63 :: v64 :: v65 :: v66 :: v67 :: v68 :: v69 :: v70 :: v71 :: v72 :: v73 :: v74 :: v75 :: v76 :: v77 :: v78 :: v79 :: v80 :: v81 :: v82 :: v83 :: v84 :: v85 :: v86 :: v87 :: v88 :: v89 :: v90 :: v91 :: v92 :: v93 :: v94 :: v95 :: v96 :: v97 :: v98 :: v99 :: v100 :: v101 :: v102 :: v103 :: v104 :: v105 :: v106 :: v107 :: v108 :: v109 :: v110 :: v111 :: v112 :: v113 :: v114 :: v115 :: v116 :: v117 :: v118 :: v119 :: v120 :: v121 :: v122 :: v123 :: v124 :: v125 :: v126 :: v127 :: v128 :: v129 :: v130 :: v131 :: v132 :: v133 :: v134 :: v135 :: v136 :: v137 :: v138 :: v139 :: v140 :: v141 :: v142 :: v143 :: v144 :: v145 :: v146 :: v147 :: v148 :: v149 :: v150 :: v151 :: v152 :: v153 :: v154 :: v155 :: v156 :: v157 :: v158 :: v159 :: v160 :: v161 :: v162 :: v163 :: v164 :: v165 :: v166 :: v167 :: v168 :: v169 :: v170 :: v171 :: v172 :: v173 :: v174 :: v175 :: v176 :: v177 :: v178 :: v179 :: v180 :: v181 :: v182 :: v183 :: v184 :: v185 :: v186 :: v187 :: v188 :: v189 :: v190 :: v191 :: v192 :: v193 :: v194 :: v195 :: v196 :: v197 :: v198 :: v199 :: v200 :: v201 :: v202 :: v203 :: v204 :: v205 :: v206 :: v207 :: v208 :: v209 :: v210 :: v211 :: v212 :: v213 :: v214 :: v215 :: v216 :: v217 :: v218 :: v219 :: v220 :: v221 :: v222 :: v223 :: v224 :: v225 :: v226 :: v227 :: v228 :: v229 :: v230 :: v231 :: v232 :: v233 :: []).toArray, []⟩ wr := by
  conv => arg 2; whnf
  have hlk : n ≤ 9223372036854775807 := by have := HL.out; omega
  have HFd : Hid (∀ w, PH 73 95 [] w A X → TR w → Calls Tryd.prog 12 #[.pointer (some ⟨A.h, 0, none⟩), .int .u32 ova, .int .i64 oa, .bool of, .int .i64 op, .bool om] w fun e w' => e = .returned (.tuple #[.agg #[.int .i64 ((fiF X ova oa of op om).1.1).asid, .int .i64 ((fiF X ova oa of op om).1.1).t.size, .int .u32 ((fiF X ova oa of op om).1.1).t.va, .int .u64 ((fiF X ova oa of op om).1.1).t.pa, .int .i64 ((fiF X ova oa of op om).1.1).t.dom, .int .i64 ((fiF X ova oa of op om).1.1).t.ap, .int .u32 ((fiF X ova oa of op om).1.1).t.bits, .bool ((fiF X ova oa of op om).1.1).t.ng, .bool ((fiF X ova oa of op om).1.1).t.xn], .int .i64 (((fiF X ova oa of op om).1.2 : Nat) : Int)]) ∧ PH 73 95 [] w' A (fiF X ova oa of op om).2 ∧ Turn A.S w w') := hidW (fun w k1 k2 => hfind_any w A X ova oa of op om k1 k2 HO.out.va)
  have HI1 := hidW (HI.out.find ova oa of op om)
  have HOne : Hid ((fiF X ova oa of op om).1.2 = 1 → (fiF X ova oa of op om).1.1 ∈ K ∧ ovF (fiF X ova oa of op om).1.1 ova oa = true) := hidW (fun h1 => fi_one HI.out h1)
  have HNe : Hid (¬ (fiF X ova oa of op om).1.2 = 1 → (fiF X ova oa of op om).1.1 = bZ) := hidW (fun h1 => fi_ne h1)
  replace HI := HI1
  clear HI1
  generalize (fiF X ova oa of op om) = R at *
  obtain ⟨⟨rb, rn⟩, Y⟩ := R
  dsimp only at HFd HI HOne HNe hrn
  subst hrn
  have HA : Hid (∀ w b, OX W w A Y K (.slice a K.length cp) → b ∈ K → Calls Tryd.prog 13 #[.slice a K.length cp, .agg #[.int .i64 b.asid, .int .i64 b.t.size, .int .u32 b.t.va, .int .u64 b.t.pa, .int .i64 b.t.dom, .int .i64 b.t.ap, .int .u32 b.t.bits, .bool b.t.ng, .bool b.t.xn]] w fun e w' => e = .returned (.bool true) ∧ Below w.heap.size w w') := hidW (fun w b h1 hb => h1.among (by have := HKl.out; have := HL.out; omega) hb)
  have hz : rb = bZ := HNe.out (by decide)
  have he : ∀ w, (Op.equalIn 10000 38 (.agg #[.int .i64 rb.asid, .int .i64 rb.t.size, .int .u32 rb.t.va, .int .u64 rb.t.pa, .int .i64 rb.t.dom, .int .i64 rb.t.ap, .int .u32 rb.t.bits, .bool rb.t.ng, .bool rb.t.xn]) (.agg #[.int .i64 0, .int .i64 0, .int .u32 0, .int .u64 0, .int .i64 0, .int .i64 0, .int .u32 0, .bool false, .bool false])).run Tryd.prog w = .ok true w := fun w => by
    have := eqB rb bZ w
    rw [hz, Blo.same_self] at this
    rw [hz]
    exact this
  clear hz
  clear HNe HOne
  have HZ := hidW (box_big wr 44 [.int .i64 0, .int .i64 0, .int .i64 0, .int .i64 0, .int .u32 0, .bool false, .bool false, .int .i64 0, .int .i64 0, .int .u32 0, .int .u64 0, .int .i64 0, .int .i64 0, .int .u32 0, .bool false, .bool false, .int .i64 0, .int .u32 0, .int .i64 0] [.int .i64 1, .int .i64 oa, .int .i64 op, .int .i64 ow, .int .u32 ova, .bool of, .bool om, .int .i64 ob.asid, .int .i64 ob.t.size, .int .u32 ob.t.va, .int .u64 ob.t.pa, .int .i64 ob.t.dom, .int .i64 ob.t.ap, .int .u32 ob.t.bits, .bool ob.t.ng, .bool ob.t.xn, .int .i64 od.kind, .int .u32 od.va, .int .i64 od.asid] rfl)
  have HTh := hidW (there_new wr 44 [.int .i64 0, .int .i64 0, .int .i64 0, .int .i64 0, .int .u32 0, .bool false, .bool false, .int .i64 0, .int .i64 0, .int .u32 0, .int .u64 0, .int .i64 0, .int .i64 0, .int .u32 0, .bool false, .bool false, .int .i64 0, .int .u32 0, .int .i64 0] 19 rfl)
  have HBx : Hid (Bl ((wr.alloc (.cells ([.int .i64 0, .int .i64 0, .int .i64 0, .int .i64 0, .int .u32 0, .bool false, .bool false, .int .i64 0, .int .i64 0, .int .u32 0, .int .u64 0, .int .i64 0, .int .i64 0, .int .u32 0, .bool false, .bool false, .int .i64 0, .int .u32 0, .int .i64 0]).toArray 44)).setCells wr.heap.size 0 [.int .i64 1, .int .i64 oa, .int .i64 op, .int .i64 ow, .int .u32 ova, .bool of, .bool om, .int .i64 ob.asid, .int .i64 ob.t.size, .int .u32 ob.t.va, .int .u64 ob.t.pa, .int .i64 ob.t.dom, .int .i64 ob.t.ap, .int .u32 ob.t.bits, .bool ob.t.ng, .bool ob.t.xn, .int .i64 od.kind, .int .u32 od.va, .int .i64 od.asid]) wr.heap.size 44 [.int .i64 1, .int .i64 oa, .int .i64 op, .int .i64 ow, .int .u32 ova, .bool of, .bool om, .int .i64 ob.asid, .int .i64 ob.t.size, .int .u32 ob.t.va, .int .u64 ob.t.pa, .int .i64 ob.t.dom, .int .i64 ob.t.ap, .int .u32 ob.t.bits, .bool ob.t.ng, .bool ob.t.xn, .int .i64 od.kind, .int .u32 od.va, .int .i64 od.asid]) := hidW HZ.out.1
  replace HX := hidW (HX.out.step HZ.out.2)
  clear HZ
  go_wp2_with (first | (guard_target =~ wpList _ _ _ (Oper.mk (some 109) _ _ _ _ _ :: _) _ _; refine wpList_load_mid rfl _ _ rfl b (off + k * 19) rfl [.int .i64 1, .int .i64 oa, .int .i64 op, .int .i64 ow, .int .u32 ova, .bool of, .bool om, .int .i64 ob.asid, .int .i64 ob.t.size, .int .u32 ob.t.va, .int .u64 ob.t.pa, .int .i64 ob.t.dom, .int .i64 ob.t.ap, .int .u32 ob.t.bits, .bool ob.t.ng, .bool ob.t.xn, .int .i64 od.kind, .int .u32 od.va, .int .i64 od.asid] _ HR.out Tryd.underlying44 rfl (by kernel_rfl) ?_; clear HR) | (guard_target =~ wpList _ _ _ (Oper.mk none _ _ _ _ _ :: []) _ _; refine wpList_store_mid rfl _ _ _ rfl wr.heap.size 0 [.int .i64 1, .int .i64 oa, .int .i64 op, .int .i64 ow, .int .u32 ova, .bool of, .bool om, .int .i64 ob.asid, .int .i64 ob.t.size, .int .u32 ob.t.va, .int .u64 ob.t.pa, .int .i64 ob.t.dom, .int .i64 ob.t.ap, .int .u32 ob.t.bits, .bool ob.t.ng, .bool ob.t.xn, .int .i64 od.kind, .int .u32 od.va, .int .i64 od.asid].toArray rfl rfl HTh.out (by kernel_rfl) (ol_one ⟨1, oa, op, ow, ova, of, om, ob, od⟩) ?_; clear HTh; generalize World.setCells _ _ _ _ = w6 at *; generalize wr.heap.size = C at *; have c1 := HBx.out.cell))
  go_at_call 12
  refine (HFd.out _ HX.out.ph (HT.out _ HX.out.bel)).mono ?_
  rintro e w7 ⟨rfl, hp, hT⟩
  replace HBx := hidW ((HBx.out.turn hT (fun hs => by obtain ⟨c, hc⟩ := HX.out.ph.row _ hs; exact HBx.out.ne hc (by decide) rfl)).below (below_new _ (.cells ([.int .i64 rb.asid, .int .i64 rb.t.size, .int .u32 rb.t.va, .int .u64 rb.t.pa, .int .i64 rb.t.dom, .int .i64 rb.t.ap, .int .u32 rb.t.bits, .bool rb.t.ng, .bool rb.t.xn]).toArray 38)))
  replace HX := hidW ((HX.out.turn hp hT).step (below_new _ (.cells ([.int .i64 rb.asid, .int .i64 rb.t.size, .int .u32 rb.t.va, .int .u64 rb.t.pa, .int .i64 rb.t.dom, .int .i64 rb.t.ap, .int .u32 rb.t.bits, .bool rb.t.ng, .bool rb.t.xn]).toArray 38)))
  have HBy := hidW (Bl.new w7 38 ([.int .i64 rb.asid, .int .i64 rb.t.size, .int .u32 rb.t.va, .int .u64 rb.t.pa, .int .i64 rb.t.dom, .int .i64 rb.t.ap, .int .u32 rb.t.bits, .bool rb.t.ng, .bool rb.t.xn]))
  clear hp hT HFd c1
  have c2 := HBy.out.cell
  go_wp2
  refine only_W A.h (fun w => OX W w A Y K (.slice a K.length cp)) (hidW (fun w w' h1 h2 => h1.step h2)) K Y.i Y.d Y.m Y.i.length Y.d.length Y.m.length HX.out.ph.ti.hi HX.out.ph.td.hi HX.out.ph.tm.hi (hidW rfl) (hidW rfl) (hidW rfl) (hidW (fun s hs hf => HI.out s (.inl hs) hf)) (hidW (fun s hs hf => HI.out s (.inr (.inl hs)) hf)) (hidW (fun s hs hf => HI.out s (.inr (.inr hs)) hf)) (hidW (fun w h1 => hplaces_1 w A Y h1.ph)) (hidW (fun w h1 => hplaces_2 w A Y h1.ph)) (hidW (fun w h1 => hplaces_3 w A Y h1.ph)) HA _ HX ?_
  refine hidW ?_
  intros
  rename_i wq hX
  have HX := hidW hX
  clear hX
  go_wp2
  exact HQ.out HX.out HI.out (by have := HKl.out; omega)
end Go.Proofs.YtbbnodhpafiplaaDoor
namespace Go.Proofs.YtbbnodhpafiplaaDoor
open Go.RowKit
set_option linter.unusedVariables false
set_option linter.unusedSimpArgs false
set_option maxRecDepth 1000000 in
set_option maxHeartbeats 64000000 in
theorem only_2y {v0 v1 v2 v4 v5 v6 v7 v8 v10 v11 v12 v13 v14 v17 v18 v19 v20 v21 v22 v23 v24 v25 v26 v27 v28 v29 v30 v31 v32 v33 v34 v35 v36 v37 v38 v39 v40 v41 v42 v43 v44 v45 v46 v47 v48 v49 v50 v51 v52 v53 v54 v55 v56 v57 v58 v59 v60 v61 v62 v63 v64 v65 v66 v67 v68 v69 v70 v71 v72 v73 v74 v75 v76 v77 v78 v79 v80 v81 v82 v83 v84 v85 v86 v87 v88 v89 v90 v91 v92 v93 v94 v95 v96 v97 v98 v99 v100 v101 v102 v103 v104 v105 v106 v107 v108 v109 v110 v111 v112 v113 v114 v115 v116 v117 v118 v119 v120 v121 v122 v123 v124 v125 v126 v127 v128 v129 v130 v131 v132 v133 v134 v135 v136 v137 v138 v139 v140 v141 v142 v143 v144 v145 v146 v147 v148 v149 v150 v151 v152 v153 v154 v155 v156 v157 v158 v159 v160 v161 v162 v163 v164 v165 v166 v167 v168 v169 v170 v171 v172 v173 v174 v175 v176 v177 v178 v179 v180 v181 v182 v183 v184 v185 v186 v187 v188 v189 v190 v191 v192 v193 v194 v195 v196 v197 v198 v199 v200 v201 v202 v203 v204 v205 v206 v207 v208 v209 v210 v211 v212 v213 v214 v215 v216 v217 v218 v219 v220 v221 v222 v223 v224 v225 v226 v227 v228 v229 v230 v231 v232 v233 : Value} {Q : Exit → Act → World → Prop} (W wr : World) (A : Ad) (X : Hi) (K : List Blo) (a : Option Addr) (cp b off k n cap : Nat) (oa op ow ova : Int) (of om : Bool) (ob : Blo) (od : Dro) (hlt : k < n) (HL : Hid (n * 120 ≤ 140737488351232)) (HKl : Hid (K.length ≤ k + 1)) (HT : Hid (∀ w, Below W.heap.size W w → TR w)) (HI : Hid (Inv X K)) (HX : Hid (OX W wr A X K (.slice a K.length cp))) (HR : Hid (wr.rangeAt b (off + k * 19) [.int .i64 2, .int .i64 oa, .int .i64 op, .int .i64 ow, .int .u32 ova, .bool of, .bool om, .int .i64 ob.asid, .int .i64 ob.t.size, .int .u32 ob.t.va, .int .u64 ob.t.pa, .int .i64 ob.t.dom, .int .i64 ob.t.ap, .int .u32 ob.t.bits, .bool ob.t.ng, .bool ob.t.xn, .int .i64 od.kind, .int .u32 od.va, .int .i64 od.asid])) (HO : Hid (OOk ⟨2, oa, op, ow, ova, of, om, ob, od⟩)) (hre : (keF X ob ova oa of op).1 = 0)
    (HQ : Hid (∀ {u8 u17 u18 u19 u20 u21 u22 u100 u101 u102 u103 u104 u105 u106 u107 u108 u109 u110 u111 u112 u113 u114 u115 u116 u117 u118 u119 u120 u121 u122 u123 u124 u125 u126 u127 u128 u129 u130 u131 u132 u133 u134 u135 u136 u137 u138 u139 u140 u141 u142 u143 u144 u145 u146 u147 u148 u149 u150 u151 u152 u153 u154 u155 u156 u157 u158 u159 u160 u161 u162 u163 u164 u165 u166 u167 u168 u169 u170 u171 u172 u173 u174 u175 u176 u177 u178 u179 u180 u181 u182 u183 u184 u185 u186 u187 u188 u189 u190 u191 u192 u193 u194 u195 u196 u197 u198 u199 u200 u201 u202 u203 u204 u205 u206 u207 u208 u209 u210 u211 u212 u213 u214 u215 u216 u217 u218 u219 u220 u221 u222 u223 u224 u225 u226 u227 u228 u229 u230 u231 u232 u233 v' : Value} {w : World} {Y : Hi} {M : List Blo}, OX W w A Y M v' → Inv Y M → M.length ≤ k + 2 → Q .normal ⟨(v0 :: v1 :: v2 :: (.slice (some ⟨b, off, none⟩) n cap) :: v4 :: v5 :: v6 :: v7 :: u8 :: (.pointer (some ⟨A.h, 0, none⟩)) :: v10 :: v11 :: v12 :: v13 :: v14 :: v' :: (.int .i64 ((k + 1 : Nat) : Int)) :: u17 :: u18 :: u19 :: u20 :: u21 :: u22 :: v23 :: v24 :: v25 :: v26 :: v27 :: v28 :: v29 :: v30 :: v31 :: v32 :: v33 :: v34 :: v35 :: v36 :: v37 :: v38 :: v39 :: v40 :: v41 :: v42 :: v43 :: v44 :: v45 :: v46 :: v47 :: v48 :: v49 :: v50 :: v51 :: v52 :: v53 :: v54 :: v55 :: v56 :: v57 :: v58 :: v59 :: v60 :: v61 :: v62 :: v63 :: v64 :: v65 :: v66 :: v67 :: v68 :: v69 :: v70 :: v71 :: v72 :: v73 :: v74 :: v75 :: v76 :: v77 :: v78 :: v79 :: v80 :: v81 :: v82 :: v83 :: v84 :: v85 :: v86 :: v87 :: v88 :: v89 :: v90 :: v91 :: v92 :: v93 :: v94 :: v95 :: v96 :: v97 :: v98 :: v99 :: u100 :: u101 :: u102 :: u103 :: u104 :: u105 :: u106 :: u107 :: u108 :: u109 :: u110 :: u111 :: u112 :: u113 :: u114 :: u115 :: u116 :: u117 :: u118 :: u119 :: u120 :: u121 :: u122 :: u123 :: u124 :: u125 :: u126 :: u127 :: u128 :: u129 :: u130 :: u131 :: u132 :: u133 :: u134 :: u135 :: u136 :: u137 :: u138 :: u139 :: u140 :: u141 :: u142 :: u143 :: u144 :: u145 :: u146 :: u147 :: u148 :: u149 :: u150 :: u151 :: u152 :: u153 :: u154 :: u155 :: u156 :: u157 :: u158 :: u159 :: u160 :: u161 :: u162 :: u163 :: u164 :: u165 :: u166 :: u167 :: u168 :: u169 :: u170 :: u171 :: u172 :: u173 :: u174 :: u175 :: u176 :: u177 :: u178 :: u179 :: u180 :: u181 :: u182 :: u183 :: u184 :: u185 :: u186 :: u187 :: u188 :: u189 :: u190 :: u191 :: u192 :: u193 :: u194 :: u195 :: u196 :: u197 :: u198 :: u199 :: u200 :: u201 :: u202 :: u203 :: u204 :: u205 :: u206 :: u207 :: u208 :: u209 :: u210 :: u211 :: u212 :: u213 :: u214 :: u215 :: u216 :: u217 :: u218 :: u219 :: u220 :: u221 :: u222 :: u223 :: u224 :: u225 :: u226 :: u227 :: u228 :: u229 :: u230 :: u231 :: u232 :: u233 :: []).toArray, []⟩ w)) :
    (inL Tryd.f4).wp Tryd.prog Q ⟨(v0 :: v1 :: v2 :: (.slice (some ⟨b, off, none⟩) n cap) :: v4 :: v5 :: v6 :: v7 :: v8 :: (.pointer (some ⟨A.h, 0, none⟩)) :: v10 :: v11 :: v12 :: v13 :: v14 :: (.slice a K.length cp) :: (.int .i64 (k : Int)) :: v17 :: v18 :: v19 :: v20 :: v21 :: v22 :: v23 :: v24 :: v25 :: v26 :: v27 :: v28 :: v29 :: v30 :: v31 :: v32 :: v33 :: v34 :: v35 :: v36 :: v37 :: v38 :: v39 :: v40 :: v41 :: v42 :: v43 :: v44 :: v45 :: v46 :: v47 :: v48 :: v49 :: v50 :: v51 :: v52 :: v53 :: v54 :: v55 :: v56 :: v57 :: v58 :: v59 :: v60 :: v61 :: v62 :: v63 :: v64 :: v65 :: v66 :: v67 :: v68 :: v69 :: v70 :: v71 :: v72 :: v73 :: v74 :: v75 :: v76 :: v77 :: v78 :: v79 :: v80 :: v81 :: v82 :: v83 :: v84 :: v85 :: v86 :: v87 :: v88 :: v89 :: v90 :: v91 :: v92 :: v93 :: v94 :: v95 :: v96 :: v97 :: v98 :: v99 :: v100 :: v101 :: v102 :: v103 :: v104 :: v105 :: v106 :: v107 :: v108 :: v109 :: v110 :: v111 :: v112 :: v113 :: v114 :: v115 :: v116 :: v117 :: v118 :: v119 :: v120 :: v121 :: v122 :: v123 :: v124 :: v125 :: v126 :: v127 :: v128 :: v129 :: v130 :: v131 :: v132 :: v133 :: v134 :: v135 :: v136 :: v137 :: v138 :: v139 :: v140 :: v141 :: v142 :: v143 :: v144 :: v145 :: v146 :: v147 :: v148 :: v149 :: v150 :: v151 :: v152 :: v153 :: v154 :: v155 :: v156 :: v157 :: v158 :: v159 :: v160 :: v161 :: v162 :: v163 :: v164 :: v165 :: v166 :: v167 :: v168 :: v169 :: v170 :: v171 :: v172 :: v173 :: v174 :: v175 :: v176 :: v177 :: v178 :: v179 :: v180 :: v181 :: v182 :: v183 :: v184 :: v185 :: v186 :: v187 :: v188 :: v189 :: v190 :: v191 :: v192 :: v193 :: v194 :: v195 :: v196 :: v197 :: v198 :: v199 :: v200 :: v201 :: v202 :: v203 :: v204 :: v205 :: v206 :: v207 :: v208 :: v209 :: v210 :: v211 :: v212 :: v213 :: v214 :: v215 :: v216 :: v217 :: v218 :: v219 :: v220 :: v221 :: v222 :: v223 :: v224 :: v225 :: v226 :: v227 :: v228 :: v229 :: v230 :: v231 :: v232 :: v233 :: []).toArray, []⟩ wr := by
  conv => arg 2; whnf
  have hlk : n ≤ 9223372036854775807 := by have := HL.out; omega
  have HKp : Hid (∀ w, PH 73 95 [] w A X → TR w → Calls Tryd.prog 11 #[.pointer (some ⟨A.h, 0, none⟩), .agg #[.int .i64 ob.asid, .int .i64 ob.t.size, .int .u32 ob.t.va, .int .u64 ob.t.pa, .int .i64 ob.t.dom, .int .i64 ob.t.ap, .int .u32 ob.t.bits, .bool ob.t.ng, .bool ob.t.xn], .int .u32 ova, .int .i64 oa, .bool of, .int .i64 op] w fun e w' => e = .returned (.int .i64 (keF X ob ova oa of op).1) ∧ PH 73 95 [] w' A (keF X ob ova oa of op).2 ∧ Turn A.S w w') := hidW (fun w k1 k2 => hkeep_any w A X ob ova oa of op k1 k2 HO.out.b HO.out.va)
  have hov := ke_ok hre
  have hri : riF ob.t = true := by
    unfold ovF bR at hov
    cases hr : riF ob.t
    · rw [hr] at hov; cases hov
    · rfl
  replace HI := hidW (HI.out.keep ob ova oa of op)
  have HRt : Hid (∀ w, TR w → Calls Tryd.prog 15 #[.agg #[.int .i64 (ob.t).size, .int .u32 (ob.t).va, .int .u64 (ob.t).pa, .int .i64 (ob.t).dom, .int .i64 (ob.t).ap, .int .u32 (ob.t).bits, .bool (ob.t).ng, .bool (ob.t).xn]] w fun r w' => r = .returned (.bool true) ∧ Below w.heap.size w w') := hidW (fun w k1 => by have := right_any ob.t w k1 HO.out.b.va ⟨HO.out.b.pa, HO.out.b.bits⟩; rw [hri] at this; exact this)
  have HBo := hidW HO.out.b
  clear hov hri
  generalize (keF X ob ova oa of op) = R at *
  obtain ⟨re, Y⟩ := R
  dsimp only at HKp HI hre
  subst hre
  have HZ := hidW (box_big wr 44 [.int .i64 0, .int .i64 0, .int .i64 0, .int .i64 0, .int .u32 0, .bool false, .bool false, .int .i64 0, .int .i64 0, .int .u32 0, .int .u64 0, .int .i64 0, .int .i64 0, .int .u32 0, .bool false, .bool false, .int .i64 0, .int .u32 0, .int .i64 0] [.int .i64 2, .int .i64 oa, .int .i64 op, .int .i64 ow, .int .u32 ova, .bool of, .bool om, .int .i64 ob.asid, .int .i64 ob.t.size, .int .u32 ob.t.va, .int .u64 ob.t.pa, .int .i64 ob.t.dom, .int .i64 ob.t.ap, .int .u32 ob.t.bits, .bool ob.t.ng, .bool ob.t.xn, .int .i64 od.kind, .int .u32 od.va, .int .i64 od.asid] rfl)
  have HTh := hidW (there_new wr 44 [.int .i64 0, .int .i64 0, .int .i64 0, .int .i64 0, .int .u32 0, .bool false, .bool false, .int .i64 0, .int .i64 0, .int .u32 0, .int .u64 0, .int .i64 0, .int .i64 0, .int .u32 0, .bool false, .bool false, .int .i64 0, .int .u32 0, .int .i64 0] 19 rfl)
  have HBx : Hid (Bl ((wr.alloc (.cells ([.int .i64 0, .int .i64 0, .int .i64 0, .int .i64 0, .int .u32 0, .bool false, .bool false, .int .i64 0, .int .i64 0, .int .u32 0, .int .u64 0, .int .i64 0, .int .i64 0, .int .u32 0, .bool false, .bool false, .int .i64 0, .int .u32 0, .int .i64 0]).toArray 44)).setCells wr.heap.size 0 [.int .i64 2, .int .i64 oa, .int .i64 op, .int .i64 ow, .int .u32 ova, .bool of, .bool om, .int .i64 ob.asid, .int .i64 ob.t.size, .int .u32 ob.t.va, .int .u64 ob.t.pa, .int .i64 ob.t.dom, .int .i64 ob.t.ap, .int .u32 ob.t.bits, .bool ob.t.ng, .bool ob.t.xn, .int .i64 od.kind, .int .u32 od.va, .int .i64 od.asid]) wr.heap.size 44 [.int .i64 2, .int .i64 oa, .int .i64 op, .int .i64 ow, .int .u32 ova, .bool of, .bool om, .int .i64 ob.asid, .int .i64 ob.t.size, .int .u32 ob.t.va, .int .u64 ob.t.pa, .int .i64 ob.t.dom, .int .i64 ob.t.ap, .int .u32 ob.t.bits, .bool ob.t.ng, .bool ob.t.xn, .int .i64 od.kind, .int .u32 od.va, .int .i64 od.asid]) := hidW HZ.out.1
  replace HX := hidW (HX.out.step HZ.out.2)
  clear HZ
  go_wp2_with (first | (guard_target =~ wpList _ _ _ (Oper.mk (some 109) _ _ _ _ _ :: _) _ _; refine wpList_load_mid rfl _ _ rfl b (off + k * 19) rfl [.int .i64 2, .int .i64 oa, .int .i64 op, .int .i64 ow, .int .u32 ova, .bool of, .bool om, .int .i64 ob.asid, .int .i64 ob.t.size, .int .u32 ob.t.va, .int .u64 ob.t.pa, .int .i64 ob.t.dom, .int .i64 ob.t.ap, .int .u32 ob.t.bits, .bool ob.t.ng, .bool ob.t.xn, .int .i64 od.kind, .int .u32 od.va, .int .i64 od.asid] _ HR.out Tryd.underlying44 rfl (by kernel_rfl) ?_; clear HR) | (guard_target =~ wpList _ _ _ (Oper.mk none _ _ _ _ _ :: []) _ _; refine wpList_store_mid rfl _ _ _ rfl wr.heap.size 0 [.int .i64 2, .int .i64 oa, .int .i64 op, .int .i64 ow, .int .u32 ova, .bool of, .bool om, .int .i64 ob.asid, .int .i64 ob.t.size, .int .u32 ob.t.va, .int .u64 ob.t.pa, .int .i64 ob.t.dom, .int .i64 ob.t.ap, .int .u32 ob.t.bits, .bool ob.t.ng, .bool ob.t.xn, .int .i64 od.kind, .int .u32 od.va, .int .i64 od.asid].toArray rfl rfl HTh.out (by kernel_rfl) (ol_one ⟨2, oa, op, ow, ova, of, om, ob, od⟩) ?_; clear HTh; generalize World.setCells _ _ _ _ = w6 at *; generalize wr.heap.size = C at *; have c1 := HBx.out.cell))
  go_at_call 11
  refine (HKp.out _ HX.out.ph (HT.out _ HX.out.bel)).mono ?_
  rintro e w7 ⟨rfl, hp, hT⟩
  replace HBx := hidW (HBx.out.turn hT (fun hs => by obtain ⟨c, hc⟩ := HX.out.ph.row _ hs; exact HBx.out.ne hc (by decide) rfl))
  replace HX := hidW (HX.out.turn hp hT)
  clear hp hT HKp c1
  have c1 := HBx.out.cell
  obtain ⟨v', w8, hr, ho, hT⟩ := appB _ _ _ K ob HX.out.own HX.out.bel.size (by have := HKl.out; have := HL.out; omega)
  replace HBx := hidW (HBx.out.turn hT (fun hs => by obtain ⟨_, _, c, hc⟩ := HX.out.own.block hs; exact HBx.out.ne hc (by decide) rfl))
  replace HX := hidW (HX.out.app ho hT HBo.out)
  have HRn := hidW hr
  clear ho hT hr HBo
  have HMl : Hid ((K ++ [ob]).length ≤ k + 2) := hidW (by have := HKl.out; simp; omega)
  generalize K ++ [ob] = M at HX HI HMl
  go_wp2_with (first | (at_builtin; refine wpList_append_eq rfl (.tmp 178) (.tmp 181) 24 rfl _ _ rfl rfl HRn.out ?_; clear HRn c1; have c1 := HBx.out.cell))
  go_at_call 15
  refine (HRt.out _ (HT.out _ HX.out.bel)).mono ?_
  rintro e w9 ⟨rfl, hb⟩
  replace HX := hidW (HX.out.step hb)
  clear hb HRt c1 HBx
  obtain ⟨a', cp', rfl, _⟩ := HX.out.own.rb
  have HA : Hid (∀ w b, OX W w A Y M (.slice a' M.length cp') → b ∈ M → Calls Tryd.prog 13 #[.slice a' M.length cp', .agg #[.int .i64 b.asid, .int .i64 b.t.size, .int .u32 b.t.va, .int .u64 b.t.pa, .int .i64 b.t.dom, .int .i64 b.t.ap, .int .u32 b.t.bits, .bool b.t.ng, .bool b.t.xn]] w fun e w' => e = .returned (.bool true) ∧ Below w.heap.size w w') := hidW (fun w b h1 hb => h1.among (by have := HMl.out; have := HL.out; omega) hb)
  go_wp2
  refine only_W A.h (fun w => OX W w A Y M (.slice a' M.length cp')) (hidW (fun w w' h1 h2 => h1.step h2)) M Y.i Y.d Y.m Y.i.length Y.d.length Y.m.length HX.out.ph.ti.hi HX.out.ph.td.hi HX.out.ph.tm.hi (hidW rfl) (hidW rfl) (hidW rfl) (hidW (fun s hs hf => HI.out s (.inl hs) hf)) (hidW (fun s hs hf => HI.out s (.inr (.inl hs)) hf)) (hidW (fun s hs hf => HI.out s (.inr (.inr hs)) hf)) (hidW (fun w h1 => hplaces_1 w A Y h1.ph)) (hidW (fun w h1 => hplaces_2 w A Y h1.ph)) (hidW (fun w h1 => hplaces_3 w A Y h1.ph)) HA _ HX ?_
  refine hidW ?_
  intros
  rename_i wq hX
  have HX := hidW hX
  clear hX
  go_wp2
  exact HQ.out HX.out HI.out (by have := HKl.out; have := HMl.out; omega)
set_option maxRecDepth 1000000 in
set_option maxHeartbeats 64000000 in
theorem only_2n {v0 v1 v2 v4 v5 v6 v7 v8 v10 v11 v12 v13 v14 v17 v18 v19 v20 v21 v22 v23 v24 v25 v26 v27 v28 v29 v30 v31 v32 v33 v34 v35 v36 v37 v38 v39 v40 v41 v42 v43 v44 v45 v46 v47 v48 v49 v50 v51 v52 v53 v54 v55 v56 v57 v58 v59 v60 v61 v62 v63 v64 v65 v66 v67 v68 v69 v70 v71 v72 v73 v74 v75 v76 v77 v78 v79 v80 v81 v82 v83 v84 v85 v86 v87 v88 v89 v90 v91 v92 v93 v94 v95 v96 v97 v98 v99 v100 v101 v102 v103 v104 v105 v106 v107 v108 v109 v110 v111 v112 v113 v114 v115 v116 v117 v118 v119 v120 v121 v122 v123 v124 v125 v126 v127 v128 v129 v130 v131 v132 v133 v134 v135 v136 v137 v138 v139 v140 v141 v142 v143 v144 v145 v146 v147 v148 v149 v150 v151 v152 v153 v154 v155 v156 v157 v158 v159 v160 v161 v162 v163 v164 v165 v166 v167 v168 v169 v170 v171 v172 v173 v174 v175 v176 v177 v178 v179 v180 v181 v182 v183 v184 v185 v186 v187 v188 v189 v190 v191 v192 v193 v194 v195 v196 v197 v198 v199 v200 v201 v202 v203 v204 v205 v206 v207 v208 v209 v210 v211 v212 v213 v214 v215 v216 v217 v218 v219 v220 v221 v222 v223 v224 v225 v226 v227 v228 v229 v230 v231 v232 v233 : Value} {Q : Exit → Act → World → Prop} (W wr : World) (A : Ad) (X : Hi) (K : List Blo) (a : Option Addr) (cp b off k n cap : Nat) (oa op ow ova : Int) (of om : Bool) (ob : Blo) (od : Dro) (hlt : k < n) (HL : Hid (n * 120 ≤ 140737488351232)) (HKl : Hid (K.length ≤ k + 1)) (HT : Hid (∀ w, Below W.heap.size W w → TR w)) (HI : Hid (Inv X K)) (HX : Hid (OX W wr A X K (.slice a K.length cp))) (HR : Hid (wr.rangeAt b (off + k * 19) [.int .i64 2, .int .i64 oa, .int .i64 op, .int .i64 ow, .int .u32 ova, .bool of, .bool om, .int .i64 ob.asid, .int .i64 ob.t.size, .int .u32 ob.t.va, .int .u64 ob.t.pa, .int .i64 ob.t.dom, .int .i64 ob.t.ap, .int .u32 ob.t.bits, .bool ob.t.ng, .bool ob.t.xn, .int .i64 od.kind, .int .u32 od.va, .int .i64 od.asid])) (HO : Hid (OOk ⟨2, oa, op, ow, ova, of, om, ob, od⟩)) (hre : ¬ (keF X ob ova oa of op).1 = 0)
    (HQ : Hid (∀ {u8 u17 u18 u19 u20 u21 u22 u100 u101 u102 u103 u104 u105 u106 u107 u108 u109 u110 u111 u112 u113 u114 u115 u116 u117 u118 u119 u120 u121 u122 u123 u124 u125 u126 u127 u128 u129 u130 u131 u132 u133 u134 u135 u136 u137 u138 u139 u140 u141 u142 u143 u144 u145 u146 u147 u148 u149 u150 u151 u152 u153 u154 u155 u156 u157 u158 u159 u160 u161 u162 u163 u164 u165 u166 u167 u168 u169 u170 u171 u172 u173 u174 u175 u176 u177 u178 u179 u180 u181 u182 u183 u184 u185 u186 u187 u188 u189 u190 u191 u192 u193 u194 u195 u196 u197 u198 u199 u200 u201 u202 u203 u204 u205 u206 u207 u208 u209 u210 u211 u212 u213 u214 u215 u216 u217 u218 u219 u220 u221 u222 u223 u224 u225 u226 u227 u228 u229 u230 u231 u232 u233 v' : Value} {w : World} {Y : Hi} {M : List Blo}, OX W w A Y M v' → Inv Y M → M.length ≤ k + 2 → Q .normal ⟨(v0 :: v1 :: v2 :: (.slice (some ⟨b, off, none⟩) n cap) :: v4 :: v5 :: v6 :: v7 :: u8 :: (.pointer (some ⟨A.h, 0, none⟩)) :: v10 :: v11 :: v12 :: v13 :: v14 :: v' :: (.int .i64 ((k + 1 : Nat) : Int)) :: u17 :: u18 :: u19 :: u20 :: u21 :: u22 :: v23 :: v24 :: v25 :: v26 :: v27 :: v28 :: v29 :: v30 :: v31 :: v32 :: v33 :: v34 :: v35 :: v36 :: v37 :: v38 :: v39 :: v40 :: v41 :: v42 :: v43 :: v44 :: v45 :: v46 :: v47 :: v48 :: v49 :: v50 :: v51 :: v52 :: v53 :: v54 :: v55 :: v56 :: v57 :: v58 :: v59 :: v60 :: v61 :: v62 :: v63 :: v64 :: v65 :: v66 :: v67 :: v68 :: v69 :: v70 :: v71 :: v72 :: v73 :: v74 :: v75 :: v76 :: v77 :: v78 :: v79 :: v80 :: v81 :: v82 :: v83 :: v84 :: v85 :: v86 :: v87 :: v88 :: v89 :: v90 :: v91 :: v92 :: v93 :: v94 :: v95 :: v96 :: v97 :: v98 :: v99 :: u100 :: u101 :: u102 :: u103 :: u104 :: u105 :: u106 :: u107 :: u108 :: u109 :: u110 :: u111 :: u112 :: u113 :: u114 :: u115 :: u116 :: u117 :: u118 :: u119 :: u120 :: u121 :: u122 :: u123 :: u124 :: u125 :: u126 :: u127 :: u128 :: u129 :: u130 :: u131 :: u132 :: u133 :: u134 :: u135 :: u136 :: u137 :: u138 :: u139 :: u140 :: u141 :: u142 :: u143 :: u144 :: u145 :: u146 :: u147 :: u148 :: u149 :: u150 :: u151 :: u152 :: u153 :: u154 :: u155 :: u156 :: u157 :: u158 :: u159 :: u160 :: u161 :: u162 :: u163 :: u164 :: u165 :: u166 :: u167 :: u168 :: u169 :: u170 :: u171 :: u172 :: u173 :: u174 :: u175 :: u176 :: u177 :: u178 :: u179 :: u180 :: u181 :: u182 :: u183 :: u184 :: u185 :: u186 :: u187 :: u188 :: u189 :: u190 :: u191 :: u192 :: u193 :: u194 :: u195 :: u196 :: u197 :: u198 :: u199 :: u200 :: u201 :: u202 :: u203 :: u204 :: u205 :: u206 :: u207 :: u208 :: u209 :: u210 :: u211 :: u212 :: u213 :: u214 :: u215 :: u216 :: u217 :: u218 :: u219 :: u220 :: u221 :: u222 :: u223 :: u224 :: u225 :: u226 :: u227 :: u228 :: u229 :: u230 :: u231 :: u232 :: u233 :: []).toArray, []⟩ w)) :
    (inL Tryd.f4).wp Tryd.prog Q ⟨(v0 :: v1 :: v2 :: (.slice (some ⟨b, off, none⟩) n cap) :: v4 :: v5 :: v6 :: v7 :: v8 :: (.pointer (some ⟨A.h, 0, none⟩)) :: v10 :: v11 :: v12 :: v13 :: v14 :: (.slice a K.length cp) :: (.int .i64 (k : Int)) :: v17 :: v18 :: v19 :: v20 :: v21 :: v22 :: v23 :: v24 :: v25 :: v26 :: v27 :: v28 :: v29 :: v30 :: v31 :: v32 :: v33 :: v34 :: v35 :: v36 :: v37 :: v38 :: v39 :: v40 :: v41 :: v42 :: v43 :: v44 :: v45 :: v46 :: v47 :: v48 :: v49 :: v50 :: v51 :: v52 :: v53 :: v54 :: v55 :: v56 :: v57 :: v58 :: v59 :: v60 :: v61 :: v62 :: v63 :: v64 :: v65 :: v66 :: v67 :: v68 :: v69 :: v70 :: v71 :: v72 :: v73 :: v74 :: v75 :: v76 :: v77 :: v78 :: v79 :: v80 :: v81 :: v82 :: v83 :: v84 :: v85 :: v86 :: v87 :: v88 :: v89 :: v90 :: v91 :: v92 :: v93 :: v94 :: v95 :: v96 :: v97 :: v98 :: v99 :: v100 :: v101 :: v102 :: v103 :: v104 :: v105 :: v106 :: v107 :: v108 :: v109 :: v110 :: v111 :: v112 :: v113 :: v114 :: v115 :: v116 :: v117 :: v118 :: v119 :: v120 :: v121 :: v122 :: v123 :: v124 :: v125 :: v126 :: v127 :: v128 :: v129 :: v130 :: v131 :: v132 :: v133 :: v134 :: v135 :: v136 :: v137 :: v138 :: v139 :: v140 :: v141 :: v142 :: v143 :: v144 :: v145 :: v146 :: v147 :: v148 :: v149 :: v150 :: v151 :: v152 :: v153 :: v154 :: v155 :: v156 :: v157 :: v158 :: v159 :: v160 :: v161 :: v162 :: v163 :: v164 :: v165 :: v166 :: v167 :: v168 :: v169 :: v170 :: v171 :: v172 :: v173 :: v174 :: v175 :: v176 :: v177 :: v178 :: v179 :: v180 :: v181 :: v182 :: v183 :: v184 :: v185 :: v186 :: v187 :: v188 :: v189 :: v190 :: v191 :: v192 :: v193 :: v194 :: v195 :: v196 :: v197 :: v198 :: v199 :: v200 :: v201 :: v202 :: v203 :: v204 :: v205 :: v206 :: v207 :: v208 :: v209 :: v210 :: v211 :: v212 :: v213 :: v214 :: v215 :: v216 :: v217 :: v218 :: v219 :: v220 :: v221 :: v222 :: v223 :: v224 :: v225 :: v226 :: v227 :: v228 :: v229 :: v230 :: v231 :: v232 :: v233 :: []).toArray, []⟩ wr := by
  conv => arg 2; whnf
  have hlk : n ≤ 9223372036854775807 := by have := HL.out; omega
  have HKp : Hid (∀ w, PH 73 95 [] w A X → TR w → Calls Tryd.prog 11 #[.pointer (some ⟨A.h, 0, none⟩), .agg #[.int .i64 ob.asid, .int .i64 ob.t.size, .int .u32 ob.t.va, .int .u64 ob.t.pa, .int .i64 ob.t.dom, .int .i64 ob.t.ap, .int .u32 ob.t.bits, .bool ob.t.ng, .bool ob.t.xn], .int .u32 ova, .int .i64 oa, .bool of, .int .i64 op] w fun e w' => e = .returned (.int .i64 (keF X ob ova oa of op).1) ∧ PH 73 95 [] w' A (keF X ob ova oa of op).2 ∧ Turn A.S w w') := hidW (fun w k1 k2 => hkeep_any w A X ob ova oa of op k1 k2 HO.out.b HO.out.va)
  have HY := hidW (ke_no hre)
  rw [HY.out] at HKp
  clear HY
  generalize (keF X ob ova oa of op).1 = re at *
  have HA : Hid (∀ w b, OX W w A X K (.slice a K.length cp) → b ∈ K → Calls Tryd.prog 13 #[.slice a K.length cp, .agg #[.int .i64 b.asid, .int .i64 b.t.size, .int .u32 b.t.va, .int .u64 b.t.pa, .int .i64 b.t.dom, .int .i64 b.t.ap, .int .u32 b.t.bits, .bool b.t.ng, .bool b.t.xn]] w fun e w' => e = .returned (.bool true) ∧ Below w.heap.size w w') := hidW (fun w b h1 hb => h1.among (by have := HKl.out; have := HL.out; omega) hb)
  have HZ := hidW (box_big wr 44 [.int .i64 0, .int .i64 0, .int .i64 0, .int .i64 0, .int .u32 0, .bool false, .bool false, .int .i64 0, .int .i64 0, .int .u32 0, .int .u64 0, .int .i64 0, .int .i64 0, .int .u32 0, .bool false, .bool false, .int .i64 0, .int .u32 0, .int .i64 0] [.int .i64 2, .int .i64 oa, .int .i64 op, .int .i64 ow, .int .u32 ova, .bool of, .bool om, .int .i64 ob.asid, .int .i64 ob.t.size, .int .u32 ob.t.va, .int .u64 ob.t.pa, .int .i64 ob.t.dom, .int .i64 ob.t.ap, .int .u32 ob.t.bits, .bool ob.t.ng, .bool ob.t.xn, .int .i64 od.kind, .int .u32 od.va, .int .i64 od.asid] rfl)
  have HTh := hidW (there_new wr 44 [.int .i64 0, .int .i64 0, .int .i64 0, .int .i64 0, .int .u32 0, .bool false, .bool false, .int .i64 0, .int .i64 0, .int .u32 0, .int .u64 0, .int .i64 0, .int .i64 0, .int .u32 0, .bool false, .bool false, .int .i64 0, .int .u32 0, .int .i64 0] 19 rfl)
  have HBx : Hid (Bl ((wr.alloc (.cells ([.int .i64 0, .int .i64 0, .int .i64 0, .int .i64 0, .int .u32 0, .bool false, .bool false, .int .i64 0, .int .i64 0, .int .u32 0, .int .u64 0, .int .i64 0, .int .i64 0, .int .u32 0, .bool false, .bool false, .int .i64 0, .int .u32 0, .int .i64 0]).toArray 44)).setCells wr.heap.size 0 [.int .i64 2, .int .i64 oa, .int .i64 op, .int .i64 ow, .int .u32 ova, .bool of, .bool om, .int .i64 ob.asid, .int .i64 ob.t.size, .int .u32 ob.t.va, .int .u64 ob.t.pa, .int .i64 ob.t.dom, .int .i64 ob.t.ap, .int .u32 ob.t.bits, .bool ob.t.ng, .bool ob.t.xn, .int .i64 od.kind, .int .u32 od.va, .int .i64 od.asid]) wr.heap.size 44 [.int .i64 2, .int .i64 oa, .int .i64 op, .int .i64 ow, .int .u32 ova, .bool of, .bool om, .int .i64 ob.asid, .int .i64 ob.t.size, .int .u32 ob.t.va, .int .u64 ob.t.pa, .int .i64 ob.t.dom, .int .i64 ob.t.ap, .int .u32 ob.t.bits, .bool ob.t.ng, .bool ob.t.xn, .int .i64 od.kind, .int .u32 od.va, .int .i64 od.asid]) := hidW HZ.out.1
  replace HX := hidW (HX.out.step HZ.out.2)
  clear HZ
  go_wp2_with (first | (guard_target =~ wpList _ _ _ (Oper.mk (some 109) _ _ _ _ _ :: _) _ _; refine wpList_load_mid rfl _ _ rfl b (off + k * 19) rfl [.int .i64 2, .int .i64 oa, .int .i64 op, .int .i64 ow, .int .u32 ova, .bool of, .bool om, .int .i64 ob.asid, .int .i64 ob.t.size, .int .u32 ob.t.va, .int .u64 ob.t.pa, .int .i64 ob.t.dom, .int .i64 ob.t.ap, .int .u32 ob.t.bits, .bool ob.t.ng, .bool ob.t.xn, .int .i64 od.kind, .int .u32 od.va, .int .i64 od.asid] _ HR.out Tryd.underlying44 rfl (by kernel_rfl) ?_; clear HR) | (guard_target =~ wpList _ _ _ (Oper.mk none _ _ _ _ _ :: []) _ _; refine wpList_store_mid rfl _ _ _ rfl wr.heap.size 0 [.int .i64 2, .int .i64 oa, .int .i64 op, .int .i64 ow, .int .u32 ova, .bool of, .bool om, .int .i64 ob.asid, .int .i64 ob.t.size, .int .u32 ob.t.va, .int .u64 ob.t.pa, .int .i64 ob.t.dom, .int .i64 ob.t.ap, .int .u32 ob.t.bits, .bool ob.t.ng, .bool ob.t.xn, .int .i64 od.kind, .int .u32 od.va, .int .i64 od.asid].toArray rfl rfl HTh.out (by kernel_rfl) (ol_one ⟨2, oa, op, ow, ova, of, om, ob, od⟩) ?_; clear HTh; generalize World.setCells _ _ _ _ = w6 at *; generalize wr.heap.size = C at *; have c1 := HBx.out.cell))
  go_at_call 11
  refine (HKp.out _ HX.out.ph (HT.out _ HX.out.bel)).mono ?_
  rintro e w7 ⟨rfl, hp, hT⟩
  replace HBx := hidW (HBx.out.turn hT (fun hs => by obtain ⟨c, hc⟩ := HX.out.ph.row _ hs; exact HBx.out.ne hc (by decide) rfl))
  replace HX := hidW (HX.out.turn hp hT)
  clear hp hT HKp c1
  go_wp2
  refine only_W A.h (fun w => OX W w A X K (.slice a K.length cp)) (hidW (fun w w' h1 h2 => h1.step h2)) K X.i X.d X.m X.i.length X.d.length X.m.length HX.out.ph.ti.hi HX.out.ph.td.hi HX.out.ph.tm.hi (hidW rfl) (hidW rfl) (hidW rfl) (hidW (fun s hs hf => HI.out s (.inl hs) hf)) (hidW (fun s hs hf => HI.out s (.inr (.inl hs)) hf)) (hidW (fun s hs hf => HI.out s (.inr (.inr hs)) hf)) (hidW (fun w h1 => hplaces_1 w A X h1.ph)) (hidW (fun w h1 => hplaces_2 w A X h1.ph)) (hidW (fun w h1 => hplaces_3 w A X h1.ph)) HA _ HX ?_
  refine hidW ?_
  intros
  rename_i wq hX
  have HX := hidW hX
  clear hX
  go_wp2
  exact HQ.out HX.out HI.out (by have := HKl.out; omega)
end Go.Proofs.YtbbnodhpafiplaaDoor
namespace Go.Proofs.YtbbnodhpafiplaaDoor
open Go.RowKit
set_option linter.unusedVariables false
set_option linter.unusedSimpArgs false
set_option maxRecDepth 1000000 in
set_option maxHeartbeats 64000000 in
theorem only_3 {v0 v1 v2 v4 v5 v6 v7 v8 v10 v11 v12 v13 v14 v17 v18 v19 v20 v21 v22 v23 v24 v25 v26 v27 v28 v29 v30 v31 v32 v33 v34 v35 v36 v37 v38 v39 v40 v41 v42 v43 v44 v45 v46 v47 v48 v49 v50 v51 v52 v53 v54 v55 v56 v57 v58 v59 v60 v61 v62 v63 v64 v65 v66 v67 v68 v69 v70 v71 v72 v73 v74 v75 v76 v77 v78 v79 v80 v81 v82 v83 v84 v85 v86 v87 v88 v89 v90 v91 v92 v93 v94 v95 v96 v97 v98 v99 v100 v101 v102 v103 v104 v105 v106 v107 v108 v109 v110 v111 v112 v113 v114 v115 v116 v117 v118 v119 v120 v121 v122 v123 v124 v125 v126 v127 v128 v129 v130 v131 v132 v133 v134 v135 v136 v137 v138 v139 v140 v141 v142 v143 v144 v145 v146 v147 v148 v149 v150 v151 v152 v153 v154 v155 v156 v157 v158 v159 v160 v161 v162 v163 v164 v165 v166 v167 v168 v169 v170 v171 v172 v173 v174 v175 v176 v177 v178 v179 v180 v181 v182 v183 v184 v185 v186 v187 v188 v189 v190 v191 v192 v193 v194 v195 v196 v197 v198 v199 v200 v201 v202 v203 v204 v205 v206 v207 v208 v209 v210 v211 v212 v213 v214 v215 v216 v217 v218 v219 v220 v221 v222 v223 v224 v225 v226 v227 v228 v229 v230 v231 v232 v233 : Value} {Q : Exit → Act → World → Prop} (W wr : World) (A : Ad) (X : Hi) (K : List Blo) (a : Option Addr) (cp b off k n cap : Nat) (oa op ow ova : Int) (of om : Bool) (ob : Blo) (od : Dro) (hlt : k < n) (HL : Hid (n * 120 ≤ 140737488351232)) (HKl : Hid (K.length ≤ k + 1)) (HT : Hid (∀ w, Below W.heap.size W w → TR w)) (HI : Hid (Inv X K)) (HX : Hid (OX W wr A X K (.slice a K.length cp))) (HR : Hid (wr.rangeAt b (off + k * 19) [.int .i64 3, .int .i64 oa, .int .i64 op, .int .i64 ow, .int .u32 ova, .bool of, .bool om, .int .i64 ob.asid, .int .i64 ob.t.size, .int .u32 ob.t.va, .int .u64 ob.t.pa, .int .i64 ob.t.dom, .int .i64 ob.t.ap, .int .u32 ob.t.bits, .bool ob.t.ng, .bool ob.t.xn, .int .i64 od.kind, .int .u32 od.va, .int .i64 od.asid])) (HO : Hid (OOk ⟨3, oa, op, ow, ova, of, om, ob, od⟩))
    (HQ : Hid (∀ {u8 u17 u18 u19 u20 u21 u22 u100 u101 u102 u103 u104 u105 u106 u107 u108 u109 u110 u111 u112 u113 u114 u115 u116 u117 u118 u119 u120 u121 u122 u123 u124 u125 u126 u127 u128 u129 u130 u131 u132 u133 u134 u135 u136 u137 u138 u139 u140 u141 u142 u143 u144 u145 u146 u147 u148 u149 u150 u151 u152 u153 u154 u155 u156 u157 u158 u159 u160 u161 u162 u163 u164 u165 u166 u167 u168 u169 u170 u171 u172 u173 u174 u175 u176 u177 u178 u179 u180 u181 u182 u183 u184 u185 u186 u187 u188 u189 u190 u191 u192 u193 u194 u195 u196 u197 u198 u199 u200 u201 u202 u203 u204 u205 u206 u207 u208 u209 u210 u211 u212 u213 u214 u215 u216 u217 u218 u219 u220 u221 u222 u223 u224 u225 u226 u227 u228 u229 u230 u231 u232 u233 v' : Value} {w : World} {Y : Hi} {M : List Blo}, OX W w A Y M v' → Inv Y M → M.length ≤ k + 2 → Q .normal ⟨(v0 :: v1 :: v2 :: (.slice (some ⟨b, off, none⟩) n cap) :: v4 :: v5 :: v6 :: v7 :: u8 :: (.pointer (some ⟨A.h, 0, none⟩)) :: v10 :: v11 :: v12 :: v13 :: v14 :: v' :: (.int .i64 ((k + 1 : Nat) : Int)) :: u17 :: u18 :: u19 :: u20 :: u21 :: u22 :: v23 :: v24 :: v25 :: v26 :: v27 :: v28 :: v29 :: v30 :: v31 :: v32 :: v33 :: v34 :: v35 :: v36 :: v37 :: v38 :: v39 :: v40 :: v41 :: v42 :: v43 :: v44 :: v45 :: v46 :: v47 :: v48 :: v49 :: v50 :: v51 :: v52 :: v53 :: v54 :: v55 :: v56 :: v57 :: v58 :: v59 :: v60 :: v61 :: v62 :: v63 :: v64 :: v65 :: v66 :: v67 :: v68 :: v69 :: v70 :: v71 :: v72 :: v73 :: v74 :: v75 :: v76 :: v77 :: v78 :: v79 :: v80 :: v81 :: v82 :: v83 :: v84 :: v85 :: v86 :: v87 :: v88 :: v89 :: v90 :: v91 :: v92 :: v93 :: v94 :: v95 :: v96 :: v97 :: v98 :: v99 :: u100 :: u101 :: u102 :: u103 :: u104 :: u105 :: u106 :: u107 :: u108 :: u109 :: u110 :: u111 :: u112 :: u113 :: u114 :: u115 :: u116 :: u117 :: u118 :: u119 :: u120 :: u121 :: u122 :: u123 :: u124 :: u125 :: u126 :: u127 :: u128 :: u129 :: u130 :: u131 :: u132 :: u133 :: u134 :: u135 :: u136 :: u137 :: u138 :: u139 :: u140 :: u141 :: u142 :: u143 :: u144 :: u145 :: u146 :: u147 :: u148 :: u149 :: u150 :: u151 :: u152 :: u153 :: u154 :: u155 :: u156 :: u157 :: u158 :: u159 :: u160 :: u161 :: u162 :: u163 :: u164 :: u165 :: u166 :: u167 :: u168 :: u169 :: u170 :: u171 :: u172 :: u173 :: u174 :: u175 :: u176 :: u177 :: u178 :: u179 :: u180 :: u181 :: u182 :: u183 :: u184 :: u185 :: u186 :: u187 :: u188 :: u189 :: u190 :: u191 :: u192 :: u193 :: u194 :: u195 :: u196 :: u197 :: u198 :: u199 :: u200 :: u201 :: u202 :: u203 :: u204 :: u205 :: u206 :: u207 :: u208 :: u209 :: u210 :: u211 :: u212 :: u213 :: u214 :: u215 :: u216 :: u217 :: u218 :: u219 :: u220 :: u221 :: u222 :: u223 :: u224 :: u225 :: u226 :: u227 :: u228 :: u229 :: u230 :: u231 :: u232 :: u233 :: []).toArray, []⟩ w)) :
    (inL Tryd.f4).wp Tryd.prog Q ⟨(v0 :: v1 :: v2 :: (.slice (some ⟨b, off, none⟩) n cap) :: v4 :: v5 :: v6 :: v7 :: v8 :: (.pointer (some ⟨A.h, 0, none⟩)) :: v10 :: v11 :: v12 :: v13 :: v14 :: (.slice a K.length cp) :: (.int .i64 (k : Int)) :: v17 :: v18 :: v19 :: v20 :: v21 :: v22 :: v23 :: v24 :: v25 :: v26 :: v27 :: v28 :: v29 :: v30 :: v31 :: v32 :: v33 :: v34 :: v35 :: v36 :: v37 :: v38 :: v39 :: v40 :: v41 :: v42 :: v43 :: v44 :: v45 :: v46 :: v47 :: v48 :: v49 :: v50 :: v51 :: v52 :: v53 :: v54 :: v55 :: v56 :: v57 :: v58 :: v59 :: v60 :: v61 :: v62 :: v63 :: v64 :: v65 :: v66 :: v67 :: v68 :: v69 :: v70 :: v71 :: v72 :: v73 :: v74 :: v75 :: v76 :: v77 :: v78 :: v79 :: v80 :: v81 :: v82 :: v83 :: v84 :: v85 :: v86 :: v87 :: v88 :: v89 :: v90 :: v91 :: v92 :: v93 :: v94 :: v95 :: v96 :: v97 :: v98 :: v99 :: v100 :: v101 :: v102 :: v103 :: v104 :: v105 :: v106 :: v107 :: v108 :: v109 :: v110 :: v111 :: v112 :: v113 :: v114 :: v115 :: v116 :: v117 :: v118 :: v119 :: v120 :: v121 :: v122 :: v123 :: v124 :: v125 :: v126 :: v127 :: v128 :: v129 :: v130 :: v131 :: v132 :: v133 :: v134 :: v135 :: v136 :: v137 :: v138 :: v139 :: v140 :: v141 :: v142 :: v143 :: v144 :: v145 :: v146 :: v147 :: v148 :: v149 :: v150 :: v151 :: v152 :: v153 :: v154 :: v155 :: v156 :: v157 :: v158 :: v159 :: v160 :: v161 :: v162 :: v163 :: v164 :: v165 :: v166 :: v167 :: v168 :: v169 :: v170 :: v171 :: v172 :: v173 :: v174 :: v175 :: v176 :: v177 :: v178 :: v179 :: v180 :: v181 :: v182 :: v183 :: v184 :: v185 :: v186 :: v187 :: v188 :: v189 :: v190 :: v191 :: v192 :: v193 :: v194 :: v195 :: v196 :: v197 :: v198 :: v199 :: v200 :: v201 :: v202 :: v203 :: v204 :: v205 :: v206 :: v207 :: v208 :: v209 :: v210 :: v211 :: v212 :: v213 :: v214 :: v215 :: v216 :: v217 :: v218 :: v219 :: v220 :: v221 :: v222 :: v223 :: v224 :: v225 :: v226 :: v227 :: v228 :: v229 :: v230 :: v231 :: v232 :: v233 :: []).toArray, []⟩ wr := by
  conv => arg 2; whnf
  have hlk : n ≤ 9223372036854775807 := by have := HL.out; omega
  have HEv : Hid (∀ w, PH 73 95 [] w A X → Calls Tryd.prog 16 #[.pointer (some ⟨A.h, 0, none⟩), .int .i64 ow, .int .i64 op] w fun e w' => e = .returned (.bool (evH X ow op).1) ∧ PH 73 95 [] w' A (evH X ow op).2 ∧ Turn A.S w w') := hidW (fun w k1 => hevict_any w A X ow op k1)
  replace HI := hidW (HI.out.evict ow op)
  generalize (evH X ow op) = R at *
  obtain ⟨re, Y⟩ := R
  dsimp only at HEv HI
  have HA : Hid (∀ w b, OX W w A Y K (.slice a K.length cp) → b ∈ K → Calls Tryd.prog 13 #[.slice a K.length cp, .agg #[.int .i64 b.asid, .int .i64 b.t.size, .int .u32 b.t.va, .int .u64 b.t.pa, .int .i64 b.t.dom, .int .i64 b.t.ap, .int .u32 b.t.bits, .bool b.t.ng, .bool b.t.xn]] w fun e w' => e = .returned (.bool true) ∧ Below w.heap.size w w') := hidW (fun w b h1 hb => h1.among (by have := HKl.out; have := HL.out; omega) hb)
  have HZ := hidW (box_big wr 44 [.int .i64 0, .int .i64 0, .int .i64 0, .int .i64 0, .int .u32 0, .bool false, .bool false, .int .i64 0, .int .i64 0, .int .u32 0, .int .u64 0, .int .i64 0, .int .i64 0, .int .u32 0, .bool false, .bool false, .int .i64 0, .int .u32 0, .int .i64 0] [.int .i64 3, .int .i64 oa, .int .i64 op, .int .i64 ow, .int .u32 ova, .bool of, .bool om, .int .i64 ob.asid, .int .i64 ob.t.size, .int .u32 ob.t.va, .int .u64 ob.t.pa, .int .i64 ob.t.dom, .int .i64 ob.t.ap, .int .u32 ob.t.bits, .bool ob.t.ng, .bool ob.t.xn, .int .i64 od.kind, .int .u32 od.va, .int .i64 od.asid] rfl)
  have HTh := hidW (there_new wr 44 [.int .i64 0, .int .i64 0, .int .i64 0, .int .i64 0, .int .u32 0, .bool false, .bool false, .int .i64 0, .int .i64 0, .int .u32 0, .int .u64 0, .int .i64 0, .int .i64 0, .int .u32 0, .bool false, .bool false, .int .i64 0, .int .u32 0, .int .i64 0] 19 rfl)
  have HBx : Hid (Bl ((wr.alloc (.cells ([.int .i64 0, .int .i64 0, .int .i64 0, .int .i64 0, .int .u32 0, .bool false, .bool false, .int .i64 0, .int .i64 0, .int .u32 0, .int .u64 0, .int .i64 0, .int .i64 0, .int .u32 0, .bool false, .bool false, .int .i64 0, .int .u32 0, .int .i64 0]).toArray 44)).setCells wr.heap.size 0 [.int .i64 3, .int .i64 oa, .int .i64 op, .int .i64 ow, .int .u32 ova, .bool of, .bool om, .int .i64 ob.asid, .int .i64 ob.t.size, .int .u32 ob.t.va, .int .u64 ob.t.pa, .int .i64 ob.t.dom, .int .i64 ob.t.ap, .int .u32 ob.t.bits, .bool ob.t.ng, .bool ob.t.xn, .int .i64 od.kind, .int .u32 od.va, .int .i64 od.asid]) wr.heap.size 44 [.int .i64 3, .int .i64 oa, .int .i64 op, .int .i64 ow, .int .u32 ova, .bool of, .bool om, .int .i64 ob.asid, .int .i64 ob.t.size, .int .u32 ob.t.va, .int .u64 ob.t.pa, .int .i64 ob.t.dom, .int .i64 ob.t.ap, .int .u32 ob.t.bits, .bool ob.t.ng, .bool ob.t.xn, .int .i64 od.kind, .int .u32 od.va, .int .i64 od.asid]) := hidW HZ.out.1
  replace HX := hidW (HX.out.step HZ.out.2)
  clear HZ
  go_wp2_with (first | (guard_target =~ wpList _ _ _ (Oper.mk (some 109) _ _ _ _ _ :: _) _ _; refine wpList_load_mid rfl _ _ rfl b (off + k * 19) rfl [.int .i64 3, .int .i64 oa, .int .i64 op, .int .i64 ow, .int .u32 ova, .bool of, .bool om, .int .i64 ob.asid, .int .i64 ob.t.size, .int .u32 ob.t.va, .int .u64 ob.t.pa, .int .i64 ob.t.dom, .int .i64 ob.t.ap, .int .u32 ob.t.bits, .bool ob.t.ng, .bool ob.t.xn, .int .i64 od.kind, .int .u32 od.va, .int .i64 od.asid] _ HR.out Tryd.underlying44 rfl (by kernel_rfl) ?_; clear HR) | (guard_target =~ wpList _ _ _ (Oper.mk none _ _ _ _ _ :: []) _ _; refine wpList_store_mid rfl _ _ _ rfl wr.heap.size 0 [.int .i64 3, .int .i64 oa, .int .i64 op, .int .i64 ow, .int .u32 ova, .bool of, .bool om, .int .i64 ob.asid, .int .i64 ob.t.size, .int .u32 ob.t.va, .int .u64 ob.t.pa, .int .i64 ob.t.dom, .int .i64 ob.t.ap, .int .u32 ob.t.bits, .bool ob.t.ng, .bool ob.t.xn, .int .i64 od.kind, .int .u32 od.va, .int .i64 od.asid].toArray rfl rfl HTh.out (by kernel_rfl) (ol_one ⟨3, oa, op, ow, ova, of, om, ob, od⟩) ?_; clear HTh; generalize World.setCells _ _ _ _ = w6 at *; generalize wr.heap.size = C at *; have c1 := HBx.out.cell))
  go_at_call 16
  refine (HEv.out _ HX.out.ph).mono ?_
  rintro e w7 ⟨rfl, hp, hT⟩
  replace HX := hidW (HX.out.turn hp hT)
  clear hp hT HEv c1 HBx
  go_wp2
  refine only_W A.h (fun w => OX W w A Y K (.slice a K.length cp)) (hidW (fun w w' h1 h2 => h1.step h2)) K Y.i Y.d Y.m Y.i.length Y.d.length Y.m.length HX.out.ph.ti.hi HX.out.ph.td.hi HX.out.ph.tm.hi (hidW rfl) (hidW rfl) (hidW rfl) (hidW (fun s hs hf => HI.out s (.inl hs) hf)) (hidW (fun s hs hf => HI.out s (.inr (.inl hs)) hf)) (hidW (fun s hs hf => HI.out s (.inr (.inr hs)) hf)) (hidW (fun w h1 => hplaces_1 w A Y h1.ph)) (hidW (fun w h1 => hplaces_2 w A Y h1.ph)) (hidW (fun w h1 => hplaces_3 w A Y h1.ph)) HA _ HX ?_
  refine hidW ?_
  intros
  rename_i wq hX
  have HX := hidW hX
  clear hX
  go_wp2
  exact HQ.out HX.out HI.out (by have := HKl.out; omega)
set_option maxRecDepth 1000000 in
set_option maxHeartbeats 64000000 in
theorem only_4 {v0 v1 v2 v4 v5 v6 v7 v8 v10 v11 v12 v13 v14 v17 v18 v19 v20 v21 v22 v23 v24 v25 v26 v27 v28 v29 v30 v31 v32 v33 v34 v35 v36 v37 v38 v39 v40 v41 v42 v43 v44 v45 v46 v47 v48 v49 v50 v51 v52 v53 v54 v55 v56 v57 v58 v59 v60 v61 v62 v63 v64 v65 v66 v67 v68 v69 v70 v71 v72 v73 v74 v75 v76 v77 v78 v79 v80 v81 v82 v83 v84 v85 v86 v87 v88 v89 v90 v91 v92 v93 v94 v95 v96 v97 v98 v99 v100 v101 v102 v103 v104 v105 v106 v107 v108 v109 v110 v111 v112 v113 v114 v115 v116 v117 v118 v119 v120 v121 v122 v123 v124 v125 v126 v127 v128 v129 v130 v131 v132 v133 v134 v135 v136 v137 v138 v139 v140 v141 v142 v143 v144 v145 v146 v147 v148 v149 v150 v151 v152 v153 v154 v155 v156 v157 v158 v159 v160 v161 v162 v163 v164 v165 v166 v167 v168 v169 v170 v171 v172 v173 v174 v175 v176 v177 v178 v179 v180 v181 v182 v183 v184 v185 v186 v187 v188 v189 v190 v191 v192 v193 v194 v195 v196 v197 v198 v199 v200 v201 v202 v203 v204 v205 v206 v207 v208 v209 v210 v211 v212 v213 v214 v215 v216 v217 v218 v219 v220 v221 v222 v223 v224 v225 v226 v227 v228 v229 v230 v231 v232 v233 : Value} {Q : Exit → Act → World → Prop} (W wr : World) (A : Ad) (X : Hi) (K : List Blo) (a : Option Addr) (cp b off k n cap : Nat) (oa op ow ova : Int) (of om : Bool) (ob : Blo) (od : Dro) (hlt : k < n) (HL : Hid (n * 120 ≤ 140737488351232)) (HKl : Hid (K.length ≤ k + 1)) (HT : Hid (∀ w, Below W.heap.size W w → TR w)) (HI : Hid (Inv X K)) (HX : Hid (OX W wr A X K (.slice a K.length cp))) (HR : Hid (wr.rangeAt b (off + k * 19) [.int .i64 4, .int .i64 oa, .int .i64 op, .int .i64 ow, .int .u32 ova, .bool of, .bool om, .int .i64 ob.asid, .int .i64 ob.t.size, .int .u32 ob.t.va, .int .u64 ob.t.pa, .int .i64 ob.t.dom, .int .i64 ob.t.ap, .int .u32 ob.t.bits, .bool ob.t.ng, .bool ob.t.xn, .int .i64 od.kind, .int .u32 od.va, .int .i64 od.asid])) (HO : Hid (OOk ⟨4, oa, op, ow, ova, of, om, ob, od⟩))
    (HQ : Hid (∀ {u8 u17 u18 u19 u20 u21 u22 u100 u101 u102 u103 u104 u105 u106 u107 u108 u109 u110 u111 u112 u113 u114 u115 u116 u117 u118 u119 u120 u121 u122 u123 u124 u125 u126 u127 u128 u129 u130 u131 u132 u133 u134 u135 u136 u137 u138 u139 u140 u141 u142 u143 u144 u145 u146 u147 u148 u149 u150 u151 u152 u153 u154 u155 u156 u157 u158 u159 u160 u161 u162 u163 u164 u165 u166 u167 u168 u169 u170 u171 u172 u173 u174 u175 u176 u177 u178 u179 u180 u181 u182 u183 u184 u185 u186 u187 u188 u189 u190 u191 u192 u193 u194 u195 u196 u197 u198 u199 u200 u201 u202 u203 u204 u205 u206 u207 u208 u209 u210 u211 u212 u213 u214 u215 u216 u217 u218 u219 u220 u221 u222 u223 u224 u225 u226 u227 u228 u229 u230 u231 u232 u233 v' : Value} {w : World} {Y : Hi} {M : List Blo}, OX W w A Y M v' → Inv Y M → M.length ≤ k + 2 → Q .normal ⟨(v0 :: v1 :: v2 :: (.slice (some ⟨b, off, none⟩) n cap) :: v4 :: v5 :: v6 :: v7 :: u8 :: (.pointer (some ⟨A.h, 0, none⟩)) :: v10 :: v11 :: v12 :: v13 :: v14 :: v' :: (.int .i64 ((k + 1 : Nat) : Int)) :: u17 :: u18 :: u19 :: u20 :: u21 :: u22 :: v23 :: v24 :: v25 :: v26 :: v27 :: v28 :: v29 :: v30 :: v31 :: v32 :: v33 :: v34 :: v35 :: v36 :: v37 :: v38 :: v39 :: v40 :: v41 :: v42 :: v43 :: v44 :: v45 :: v46 :: v47 :: v48 :: v49 :: v50 :: v51 :: v52 :: v53 :: v54 :: v55 :: v56 :: v57 :: v58 :: v59 :: v60 :: v61 :: v62 :: v63 :: v64 :: v65 :: v66 :: v67 :: v68 :: v69 :: v70 :: v71 :: v72 :: v73 :: v74 :: v75 :: v76 :: v77 :: v78 :: v79 :: v80 :: v81 :: v82 :: v83 :: v84 :: v85 :: v86 :: v87 :: v88 :: v89 :: v90 :: v91 :: v92 :: v93 :: v94 :: v95 :: v96 :: v97 :: v98 :: v99 :: u100 :: u101 :: u102 :: u103 :: u104 :: u105 :: u106 :: u107 :: u108 :: u109 :: u110 :: u111 :: u112 :: u113 :: u114 :: u115 :: u116 :: u117 :: u118 :: u119 :: u120 :: u121 :: u122 :: u123 :: u124 :: u125 :: u126 :: u127 :: u128 :: u129 :: u130 :: u131 :: u132 :: u133 :: u134 :: u135 :: u136 :: u137 :: u138 :: u139 :: u140 :: u141 :: u142 :: u143 :: u144 :: u145 :: u146 :: u147 :: u148 :: u149 :: u150 :: u151 :: u152 :: u153 :: u154 :: u155 :: u156 :: u157 :: u158 :: u159 :: u160 :: u161 :: u162 :: u163 :: u164 :: u165 :: u166 :: u167 :: u168 :: u169 :: u170 :: u171 :: u172 :: u173 :: u174 :: u175 :: u176 :: u177 :: u178 :: u179 :: u180 :: u181 :: u182 :: u183 :: u184 :: u185 :: u186 :: u187 :: u188 :: u189 :: u190 :: u191 :: u192 :: u193 :: u194 :: u195 :: u196 :: u197 :: u198 :: u199 :: u200 :: u201 :: u202 :: u203 :: u204 :: u205 :: u206 :: u207 :: u208 :: u209 :: u210 :: u211 :: u212 :: u213 :: u214 :: u215 :: u216 :: u217 :: u218 :: u219 :: u220 :: u221 :: u222 :: u223 :: u224 :: u225 :: u226 :: u227 :: u228 :: u229 :: u230 :: u231 :: u232 :: u233 :: []).toArray, []⟩ w)) :
    (inL Tryd.f4).wp Tryd.prog Q ⟨(v0 :: v1 :: v2 :: (.slice (some ⟨b, off, none⟩) n cap) :: v4 :: v5 :: v6 :: v7 :: v8 :: (.pointer (some ⟨A.h, 0, none⟩)) :: v10 :: v11 :: v12 :: v13 :: v14 :: (.slice a K.length cp) :: (.int .i64 (k : Int)) :: v17 :: v18 :: v19 :: v20 :: v21 :: v22 :: v23 :: v24 :: v25 :: v26 :: v27 :: v28 :: v29 :: v30 :: v31 :: v32 :: v33 :: v34 :: v35 :: v36 :: v37 :: v38 :: v39 :: v40 :: v41 :: v42 :: v43 :: v44 :: v45 :: v46 :: v47 :: v48 :: v49 :: v50 :: v51 :: v52 :: v53 :: v54 :: v55 :: v56 :: v57 :: v58 :: v59 :: v60 :: v61 :: v62 :: v63 :: v64 :: v65 :: v66 :: v67 :: v68 :: v69 :: v70 :: v71 :: v72 :: v73 :: v74 :: v75 :: v76 :: v77 :: v78 :: v79 :: v80 :: v81 :: v82 :: v83 :: v84 :: v85 :: v86 :: v87 :: v88 :: v89 :: v90 :: v91 :: v92 :: v93 :: v94 :: v95 :: v96 :: v97 :: v98 :: v99 :: v100 :: v101 :: v102 :: v103 :: v104 :: v105 :: v106 :: v107 :: v108 :: v109 :: v110 :: v111 :: v112 :: v113 :: v114 :: v115 :: v116 :: v117 :: v118 :: v119 :: v120 :: v121 :: v122 :: v123 :: v124 :: v125 :: v126 :: v127 :: v128 :: v129 :: v130 :: v131 :: v132 :: v133 :: v134 :: v135 :: v136 :: v137 :: v138 :: v139 :: v140 :: v141 :: v142 :: v143 :: v144 :: v145 :: v146 :: v147 :: v148 :: v149 :: v150 :: v151 :: v152 :: v153 :: v154 :: v155 :: v156 :: v157 :: v158 :: v159 :: v160 :: v161 :: v162 :: v163 :: v164 :: v165 :: v166 :: v167 :: v168 :: v169 :: v170 :: v171 :: v172 :: v173 :: v174 :: v175 :: v176 :: v177 :: v178 :: v179 :: v180 :: v181 :: v182 :: v183 :: v184 :: v185 :: v186 :: v187 :: v188 :: v189 :: v190 :: v191 :: v192 :: v193 :: v194 :: v195 :: v196 :: v197 :: v198 :: v199 :: v200 :: v201 :: v202 :: v203 :: v204 :: v205 :: v206 :: v207 :: v208 :: v209 :: v210 :: v211 :: v212 :: v213 :: v214 :: v215 :: v216 :: v217 :: v218 :: v219 :: v220 :: v221 :: v222 :: v223 :: v224 :: v225 :: v226 :: v227 :: v228 :: v229 :: v230 :: v231 :: v232 :: v233 :: []).toArray, []⟩ wr := by
  conv => arg 2; whnf
  have hlk : n ≤ 9223372036854775807 := by have := HL.out; omega
  have HDr : Hid (∀ w, PH 73 95 [] w A X → TR w → Calls Tryd.prog 17 #[.pointer (some ⟨A.h, 0, none⟩), .agg #[.int .i64 od.kind, .int .u32 od.va, .int .i64 od.asid]] w fun e w' => e = .returned (.int .i64 (((drH X od).1 : Nat) : Int)) ∧ PH 73 95 [] w' A (drH X od).2 ∧ Turn A.S w w') := hidW (fun w k1 k2 => hdrop_any w A X od k1 k2 HO.out.dva)
  replace HI := hidW (HI.out.drop od)
  have HWo : Hid (∀ w Y, OX W w A Y K (.slice a K.length cp) → Calls Tryd.prog 18 #[.slice a K.length cp, .agg #[.int .i64 od.kind, .int .u32 od.va, .int .i64 od.asid]] w fun e w' => ∃ v', e = .returned v' ∧ Ob w' w.heap.size v' (K.filter fun b => !tkF od b) ∧ Below w.heap.size w w') := hidW (fun w Y h1 => by
    obtain ⟨a2, cp2, hv, hr⟩ := h1.own.rb
    injection hv with h3 _ h4
    subst h3 h4
    exact without_any w a cp K od hr (HT.out _ h1.bel) h1.kok HO.out.dva (by have := HKl.out; have := HL.out; omega))
  generalize (drH X od) = R at *
  obtain ⟨re, Y⟩ := R
  dsimp only at HDr HI
  have HZ := hidW (box_big wr 44 [.int .i64 0, .int .i64 0, .int .i64 0, .int .i64 0, .int .u32 0, .bool false, .bool false, .int .i64 0, .int .i64 0, .int .u32 0, .int .u64 0, .int .i64 0, .int .i64 0, .int .u32 0, .bool false, .bool false, .int .i64 0, .int .u32 0, .int .i64 0] [.int .i64 4, .int .i64 oa, .int .i64 op, .int .i64 ow, .int .u32 ova, .bool of, .bool om, .int .i64 ob.asid, .int .i64 ob.t.size, .int .u32 ob.t.va, .int .u64 ob.t.pa, .int .i64 ob.t.dom, .int .i64 ob.t.ap, .int .u32 ob.t.bits, .bool ob.t.ng, .bool ob.t.xn, .int .i64 od.kind, .int .u32 od.va, .int .i64 od.asid] rfl)
  have HTh := hidW (there_new wr 44 [.int .i64 0, .int .i64 0, .int .i64 0, .int .i64 0, .int .u32 0, .bool false, .bool false, .int .i64 0, .int .i64 0, .int .u32 0, .int .u64 0, .int .i64 0, .int .i64 0, .int .u32 0, .bool false, .bool false, .int .i64 0, .int .u32 0, .int .i64 0] 19 rfl)
  have HBx : Hid (Bl ((wr.alloc (.cells ([.int .i64 0, .int .i64 0, .int .i64 0, .int .i64 0, .int .u32 0, .bool false, .bool false, .int .i64 0, .int .i64 0, .int .u32 0, .int .u64 0, .int .i64 0, .int .i64 0, .int .u32 0, .bool false, .bool false, .int .i64 0, .int .u32 0, .int .i64 0]).toArray 44)).setCells wr.heap.size 0 [.int .i64 4, .int .i64 oa, .int .i64 op, .int .i64 ow, .int .u32 ova, .bool of, .bool om, .int .i64 ob.asid, .int .i64 ob.t.size, .int .u32 ob.t.va, .int .u64 ob.t.pa, .int .i64 ob.t.dom, .int .i64 ob.t.ap, .int .u32 ob.t.bits, .bool ob.t.ng, .bool ob.t.xn, .int .i64 od.kind, .int .u32 od.va, .int .i64 od.asid]) wr.heap.size 44 [.int .i64 4, .int .i64 oa, .int .i64 op, .int .i64 ow, .int .u32 ova, .bool of, .bool om, .int .i64 ob.asid, .int .i64 ob.t.size, .int .u32 ob.t.va, .int .u64 ob.t.pa, .int .i64 ob.t.dom, .int .i64 ob.t.ap, .int .u32 ob.t.bits, .bool ob.t.ng, .bool ob.t.xn, .int .i64 od.kind, .int .u32 od.va, .int .i64 od.asid]) := hidW HZ.out.1
  replace HX := hidW (HX.out.step HZ.out.2)
  clear HZ
  go_wp2_with (first | (guard_target =~ wpList _ _ _ (Oper.mk (some 109) _ _ _ _ _ :: _) _ _; refine wpList_load_mid rfl _ _ rfl b (off + k * 19) rfl [.int .i64 4, .int .i64 oa, .int .i64 op, .int .i64 ow, .int .u32 ova, .bool of, .bool om, .int .i64 ob.asid, .int .i64 ob.t.size, .int .u32 ob.t.va, .int .u64 ob.t.pa, .int .i64 ob.t.dom, .int .i64 ob.t.ap, .int .u32 ob.t.bits, .bool ob.t.ng, .bool ob.t.xn, .int .i64 od.kind, .int .u32 od.va, .int .i64 od.asid] _ HR.out Tryd.underlying44 rfl (by kernel_rfl) ?_; clear HR) | (guard_target =~ wpList _ _ _ (Oper.mk none _ _ _ _ _ :: []) _ _; refine wpList_store_mid rfl _ _ _ rfl wr.heap.size 0 [.int .i64 4, .int .i64 oa, .int .i64 op, .int .i64 ow, .int .u32 ova, .bool of, .bool om, .int .i64 ob.asid, .int .i64 ob.t.size, .int .u32 ob.t.va, .int .u64 ob.t.pa, .int .i64 ob.t.dom, .int .i64 ob.t.ap, .int .u32 ob.t.bits, .bool ob.t.ng, .bool ob.t.xn, .int .i64 od.kind, .int .u32 od.va, .int .i64 od.asid].toArray rfl rfl HTh.out (by kernel_rfl) (ol_one ⟨4, oa, op, ow, ova, of, om, ob, od⟩) ?_; clear HTh; generalize World.setCells _ _ _ _ = w6 at *; generalize wr.heap.size = C at *; have c1 := HBx.out.cell))
  go_at_call 17
  refine (HDr.out _ HX.out.ph (HT.out _ HX.out.bel)).mono ?_
  rintro e w7 ⟨rfl, hp, hT⟩
  replace HBx := hidW (HBx.out.turn hT (fun hs => by obtain ⟨c, hc⟩ := HX.out.ph.row _ hs; exact HBx.out.ne hc (by decide) rfl))
  replace HX := hidW (HX.out.turn hp hT)
  clear hp hT HDr c1
  have c1 := HBx.out.cell
  go_wp2_with (fail)
  go_at_call 18
  refine (HWo.out _ _ HX.out).mono ?_
  rintro e w8 ⟨v', rfl, ho, hb⟩
  replace HX := hidW (HX.out.cut _ ho hb)
  have HMl : Hid ((K.filter fun b => !tkF od b).length ≤ k + 2) := hidW (by have := HKl.out; have := List.length_filter_le (fun b => !tkF od b) K; omega)
  generalize (K.filter fun b => !tkF od b) = M at HX HI HMl
  clear ho hb HWo c1 HBx
  obtain ⟨a', cp', rfl, _⟩ := HX.out.own.rb
  have HA : Hid (∀ w b, OX W w A Y M (.slice a' M.length cp') → b ∈ M → Calls Tryd.prog 13 #[.slice a' M.length cp', .agg #[.int .i64 b.asid, .int .i64 b.t.size, .int .u32 b.t.va, .int .u64 b.t.pa, .int .i64 b.t.dom, .int .i64 b.t.ap, .int .u32 b.t.bits, .bool b.t.ng, .bool b.t.xn]] w fun e w' => e = .returned (.bool true) ∧ Below w.heap.size w w') := hidW (fun w b h1 hb => h1.among (by have := HMl.out; have := HL.out; omega) hb)
  go_wp2
  refine only_W A.h (fun w => OX W w A Y M (.slice a' M.length cp')) (hidW (fun w w' h1 h2 => h1.step h2)) M Y.i Y.d Y.m Y.i.length Y.d.length Y.m.length HX.out.ph.ti.hi HX.out.ph.td.hi HX.out.ph.tm.hi (hidW rfl) (hidW rfl) (hidW rfl) (hidW (fun s hs hf => HI.out s (.inl hs) hf)) (hidW (fun s hs hf => HI.out s (.inr (.inl hs)) hf)) (hidW (fun s hs hf => HI.out s (.inr (.inr hs)) hf)) (hidW (fun w h1 => hplaces_1 w A Y h1.ph)) (hidW (fun w h1 => hplaces_2 w A Y h1.ph)) (hidW (fun w h1 => hplaces_3 w A Y h1.ph)) HA _ HX ?_
  refine hidW ?_
  intros
  rename_i wq hX
  have HX := hidW hX
  clear hX
  go_wp2
  exact HQ.out HX.out HI.out (by have := HKl.out; have := HMl.out; omega)
set_option maxRecDepth 1000000 in
set_option maxHeartbeats 64000000 in
theorem only_5 {v0 v1 v2 v4 v5 v6 v7 v8 v10 v11 v12 v13 v14 v17 v18 v19 v20 v21 v22 v23 v24 v25 v26 v27 v28 v29 v30 v31 v32 v33 v34 v35 v36 v37 v38 v39 v40 v41 v42 v43 v44 v45 v46 v47 v48 v49 v50 v51 v52 v53 v54 v55 v56 v57 v58 v59 v60 v61 v62 v63 v64 v65 v66 v67 v68 v69 v70 v71 v72 v73 v74 v75 v76 v77 v78 v79 v80 v81 v82 v83 v84 v85 v86 v87 v88 v89 v90 v91 v92 v93 v94 v95 v96 v97 v98 v99 v100 v101 v102 v103 v104 v105 v106 v107 v108 v109 v110 v111 v112 v113 v114 v115 v116 v117 v118 v119 v120 v121 v122 v123 v124 v125 v126 v127 v128 v129 v130 v131 v132 v133 v134 v135 v136 v137 v138 v139 v140 v141 v142 v143 v144 v145 v146 v147 v148 v149 v150 v151 v152 v153 v154 v155 v156 v157 v158 v159 v160 v161 v162 v163 v164 v165 v166 v167 v168 v169 v170 v171 v172 v173 v174 v175 v176 v177 v178 v179 v180 v181 v182 v183 v184 v185 v186 v187 v188 v189 v190 v191 v192 v193 v194 v195 v196 v197 v198 v199 v200 v201 v202 v203 v204 v205 v206 v207 v208 v209 v210 v211 v212 v213 v214 v215 v216 v217 v218 v219 v220 v221 v222 v223 v224 v225 v226 v227 v228 v229 v230 v231 v232 v233 : Value} {Q : Exit → Act → World → Prop} (W wr : World) (A : Ad) (X : Hi) (K : List Blo) (a : Option Addr) (cp b off k n cap : Nat) (ok oa op ow ova : Int) (of om : Bool) (ob : Blo) (od : Dro) (hlt : k < n) (HL : Hid (n * 120 ≤ 140737488351232)) (HKl : Hid (K.length ≤ k + 1)) (HT : Hid (∀ w, Below W.heap.size W w → TR w)) (HI : Hid (Inv X K)) (HX : Hid (OX W wr A X K (.slice a K.length cp))) (HR : Hid (wr.rangeAt b (off + k * 19) [.int .i64 ok, .int .i64 oa, .int .i64 op, .int .i64 ow, .int .u32 ova, .bool of, .bool om, .int .i64 ob.asid, .int .i64 ob.t.size, .int .u32 ob.t.va, .int .u64 ob.t.pa, .int .i64 ob.t.dom, .int .i64 ob.t.ap, .int .u32 ob.t.bits, .bool ob.t.ng, .bool ob.t.xn, .int .i64 od.kind, .int .u32 od.va, .int .i64 od.asid])) (HO : Hid (OOk ⟨ok, oa, op, ow, ova, of, om, ob, od⟩)) (h1 : ¬ ok = 1) (h2 : ¬ ok = 2) (h3 : ¬ ok = 3) (h4 : ¬ ok = 4)
    (HQ : Hid (∀ {u8 u17 u18 u19 u20 u21 u22 u100 u101 u102 u103 u104 u105 u106 u107 u108 u109 u110 u111 u112 u113 u114 u115 u116 u117 u118 u119 u120 u121 u122 u123 u124 u125 u126 u127 u128 u129 u130 u131 u132 u133 u134 u135 u136 u137 u138 u139 u140 u141 u142 u143 u144 u145 u146 u147 u148 u149 u150 u151 u152 u153 u154 u155 u156 u157 u158 u159 u160 u161 u162 u163 u164 u165 u166 u167 u168 u169 u170 u171 u172 u173 u174 u175 u176 u177 u178 u179 u180 u181 u182 u183 u184 u185 u186 u187 u188 u189 u190 u191 u192 u193 u194 u195 u196 u197 u198 u199 u200 u201 u202 u203 u204 u205 u206 u207 u208 u209 u210 u211 u212 u213 u214 u215 u216 u217 u218 u219 u220 u221 u222 u223 u224 u225 u226 u227 u228 u229 u230 u231 u232 u233 v' : Value} {w : World} {Y : Hi} {M : List Blo}, OX W w A Y M v' → Inv Y M → M.length ≤ k + 2 → Q .normal ⟨(v0 :: v1 :: v2 :: (.slice (some ⟨b, off, none⟩) n cap) :: v4 :: v5 :: v6 :: v7 :: u8 :: (.pointer (some ⟨A.h, 0, none⟩)) :: v10 :: v11 :: v12 :: v13 :: v14 :: v' :: (.int .i64 ((k + 1 : Nat) : Int)) :: u17 :: u18 :: u19 :: u20 :: u21 :: u22 :: v23 :: v24 :: v25 :: v26 :: v27 :: v28 :: v29 :: v30 :: v31 :: v32 :: v33 :: v34 :: v35 :: v36 :: v37 :: v38 :: v39 :: v40 :: v41 :: v42 :: v43 :: v44 :: v45 :: v46 :: v47 :: v48 :: v49 :: v50 :: v51 :: v52 :: v53 :: v54 :: v55 :: v56 :: v57 :: v58 :: v59 :: v60 :: v61 :: v62 :: v63 :: v64 :: v65 :: v66 :: v67 :: v68 :: v69 :: v70 :: v71 :: v72 :: v73 :: v74 :: v75 :: v76 :: v77 :: v78 :: v79 :: v80 :: v81 :: v82 :: v83 :: v84 :: v85 :: v86 :: v87 :: v88 :: v89 :: v90 :: v91 :: v92 :: v93 :: v94 :: v95 :: v96 :: v97 :: v98 :: v99 :: u100 :: u101 :: u102 :: u103 :: u104 :: u105 :: u106 :: u107 :: u108 :: u109 :: u110 :: u111 :: u112 :: u113 :: u114 :: u115 :: u116 :: u117 :: u118 :: u119 :: u120 :: u121 :: u122 :: u123 :: u124 :: u125 :: u126 :: u127 :: u128 :: u129 :: u130 :: u131 :: u132 :: u133 :: u134 :: u135 :: u136 :: u137 :: u138 :: u139 :: u140 :: u141 :: u142 :: u143 :: u144 :: u145 :: u146 :: u147 :: u148 :: u149 :: u150 :: u151 :: u152 :: u153 :: u154 :: u155 :: u156 :: u157 :: u158 :: u159 :: u160 :: u161 :: u162 :: u163 :: u164 :: u165 :: u166 :: u167 :: u168 :: u169 :: u170 :: u171 :: u172 :: u173 :: u174 :: u175 :: u176 :: u177 :: u178 :: u179 :: u180 :: u181 :: u182 :: u183 :: u184 :: u185 :: u186 :: u187 :: u188 :: u189 :: u190 :: u191 :: u192 :: u193 :: u194 :: u195 :: u196 :: u197 :: u198 :: u199 :: u200 :: u201 :: u202 :: u203 :: u204 :: u205 :: u206 :: u207 :: u208 :: u209 :: u210 :: u211 :: u212 :: u213 :: u214 :: u215 :: u216 :: u217 :: u218 :: u219 :: u220 :: u221 :: u222 :: u223 :: u224 :: u225 :: u226 :: u227 :: u228 :: u229 :: u230 :: u231 :: u232 :: u233 :: []).toArray, []⟩ w)) :
    (inL Tryd.f4).wp Tryd.prog Q ⟨(v0 :: v1 :: v2 :: (.slice (some ⟨b, off, none⟩) n cap) :: v4 :: v5 :: v6 :: v7 :: v8 :: (.pointer (some ⟨A.h, 0, none⟩)) :: v10 :: v11 :: v12 :: v13 :: v14 :: (.slice a K.length cp) :: (.int .i64 (k : Int)) :: v17 :: v18 :: v19 :: v20 :: v21 :: v22 :: v23 :: v24 :: v25 :: v26 :: v27 :: v28 :: v29 :: v30 :: v31 :: v32 :: v33 :: v34 :: v35 :: v36 :: v37 :: v38 :: v39 :: v40 :: v41 :: v42 :: v43 :: v44 :: v45 :: v46 :: v47 :: v48 :: v49 :: v50 :: v51 :: v52 :: v53 :: v54 :: v55 :: v56 :: v57 :: v58 :: v59 :: v60 :: v61 :: v62 :: v63 :: v64 :: v65 :: v66 :: v67 :: v68 :: v69 :: v70 :: v71 :: v72 :: v73 :: v74 :: v75 :: v76 :: v77 :: v78 :: v79 :: v80 :: v81 :: v82 :: v83 :: v84 :: v85 :: v86 :: v87 :: v88 :: v89 :: v90 :: v91 :: v92 :: v93 :: v94 :: v95 :: v96 :: v97 :: v98 :: v99 :: v100 :: v101 :: v102 :: v103 :: v104 :: v105 :: v106 :: v107 :: v108 :: v109 :: v110 :: v111 :: v112 :: v113 :: v114 :: v115 :: v116 :: v117 :: v118 :: v119 :: v120 :: v121 :: v122 :: v123 :: v124 :: v125 :: v126 :: v127 :: v128 :: v129 :: v130 :: v131 :: v132 :: v133 :: v134 :: v135 :: v136 :: v137 :: v138 :: v139 :: v140 :: v141 :: v142 :: v143 :: v144 :: v145 :: v146 :: v147 :: v148 :: v149 :: v150 :: v151 :: v152 :: v153 :: v154 :: v155 :: v156 :: v157 :: v158 :: v159 :: v160 :: v161 :: v162 :: v163 :: v164 :: v165 :: v166 :: v167 :: v168 :: v169 :: v170 :: v171 :: v172 :: v173 :: v174 :: v175 :: v176 :: v177 :: v178 :: v179 :: v180 :: v181 :: v182 :: v183 :: v184 :: v185 :: v186 :: v187 :: v188 :: v189 :: v190 :: v191 :: v192 :: v193 :: v194 :: v195 :: v196 :: v197 :: v198 :: v199 :: v200 :: v201 :: v202 :: v203 :: v204 :: v205 :: v206 :: v207 :: v208 :: v209 :: v210 :: v211 :: v212 :: v213 :: v214 :: v215 :: v216 :: v217 :: v218 :: v219 :: v220 :: v221 :: v222 :: v223 :: v224 :: v225 :: v226 :: v227 :: v228 :: v229 :: v230 :: v231 :: v232 :: v233 :: []).toArray, []⟩ wr := by
  conv => arg 2; whnf
  have hlk : n ≤ 9223372036854775807 := by have := HL.out; omega
  have HA : Hid (∀ w b, OX W w A X K (.slice a K.length cp) → b ∈ K → Calls Tryd.prog 13 #[.slice a K.length cp, .agg #[.int .i64 b.asid, .int .i64 b.t.size, .int .u32 b.t.va, .int .u64 b.t.pa, .int .i64 b.t.dom, .int .i64 b.t.ap, .int .u32 b.t.bits, .bool b.t.ng, .bool b.t.xn]] w fun e w' => e = .returned (.bool true) ∧ Below w.heap.size w w') := hidW (fun w b h1 hb => h1.among (by have := HKl.out; have := HL.out; omega) hb)
  have HZ := hidW (box_big wr 44 [.int .i64 0, .int .i64 0, .int .i64 0, .int .i64 0, .int .u32 0, .bool false, .bool false, .int .i64 0, .int .i64 0, .int .u32 0, .int .u64 0, .int .i64 0, .int .i64 0, .int .u32 0, .bool false, .bool false, .int .i64 0, .int .u32 0, .int .i64 0] [.int .i64 ok, .int .i64 oa, .int .i64 op, .int .i64 ow, .int .u32 ova, .bool of, .bool om, .int .i64 ob.asid, .int .i64 ob.t.size, .int .u32 ob.t.va, .int .u64 ob.t.pa, .int .i64 ob.t.dom, .int .i64 ob.t.ap, .int .u32 ob.t.bits, .bool ob.t.ng, .bool ob.t.xn, .int .i64 od.kind, .int .u32 od.va, .int .i64 od.asid] rfl)
  have HTh := hidW (there_new wr 44 [.int .i64 0, .int .i64 0, .int .i64 0, .int .i64 0, .int .u32 0, .bool false, .bool false, .int .i64 0, .int .i64 0, .int .u32 0, .int .u64 0, .int .i64 0, .int .i64 0, .int .u32 0, .bool false, .bool false, .int .i64 0, .int .u32 0, .int .i64 0] 19 rfl)
  have HBx : Hid (Bl ((wr.alloc (.cells ([.int .i64 0, .int .i64 0, .int .i64 0, .int .i64 0, .int .u32 0, .bool false, .bool false, .int .i64 0, .int .i64 0, .int .u32 0, .int .u64 0, .int .i64 0, .int .i64 0, .int .u32 0, .bool false, .bool false, .int .i64 0, .int .u32 0, .int .i64 0]).toArray 44)).setCells wr.heap.size 0 [.int .i64 ok, .int .i64 oa, .int .i64 op, .int .i64 ow, .int .u32 ova, .bool of, .bool om, .int .i64 ob.asid, .int .i64 ob.t.size, .int .u32 ob.t.va, .int .u64 ob.t.pa, .int .i64 ob.t.dom, .int .i64 ob.t.ap, .int .u32 ob.t.bits, .bool ob.t.ng, .bool ob.t.xn, .int .i64 od.kind, .int .u32 od.va, .int .i64 od.asid]) wr.heap.size 44 [.int .i64 ok, .int .i64 oa, .int .i64 op, .int .i64 ow, .int .u32 ova, .bool of, .bool om, .int .i64 ob.asid, .int .i64 ob.t.size, .int .u32 ob.t.va, .int .u64 ob.t.pa, .int .i64 ob.t.dom, .int .i64 ob.t.ap, .int .u32 ob.t.bits, .bool ob.t.ng, .bool ob.t.xn, .int .i64 od.kind, .int .u32 od.va, .int .i64 od.asid]) := hidW HZ.out.1
  replace HX := hidW (HX.out.step HZ.out.2)
  clear HZ
  go_wp2_with (first | (guard_target =~ wpList _ _ _ (Oper.mk (some 109) _ _ _ _ _ :: _) _ _; refine wpList_load_mid rfl _ _ rfl b (off + k * 19) rfl [.int .i64 ok, .int .i64 oa, .int .i64 op, .int .i64 ow, .int .u32 ova, .bool of, .bool om, .int .i64 ob.asid, .int .i64 ob.t.size, .int .u32 ob.t.va, .int .u64 ob.t.pa, .int .i64 ob.t.dom, .int .i64 ob.t.ap, .int .u32 ob.t.bits, .bool ob.t.ng, .bool ob.t.xn, .int .i64 od.kind, .int .u32 od.va, .int .i64 od.asid] _ HR.out Tryd.underlying44 rfl (by kernel_rfl) ?_; clear HR) | (guard_target =~ wpList _ _ _ (Oper.mk none _ _ _ _ _ :: []) _ _; refine wpList_store_mid rfl _ _ _ rfl wr.heap.size 0 [.int .i64 ok, .int .i64 oa, .int .i64 op, .int .i64 ow, .int .u32 ova, .bool of, .bool om, .int .i64 ob.asid, .int .i64 ob.t.size, .int .u32 ob.t.va, .int .u64 ob.t.pa, .int .i64 ob.t.dom, .int .i64 ob.t.ap, .int .u32 ob.t.bits, .bool ob.t.ng, .bool ob.t.xn, .int .i64 od.kind, .int .u32 od.va, .int .i64 od.asid].toArray rfl rfl HTh.out (by kernel_rfl) (ol_one ⟨ok, oa, op, ow, ova, of, om, ob, od⟩) ?_; clear HTh; generalize World.setCells _ _ _ _ = w6 at *; generalize wr.heap.size = C at *; have c1 := HBx.out.cell))
  clear c1 HBx h1 h2 h3 h4
  refine only_W A.h (fun w => OX W w A X K (.slice a K.length cp)) (hidW (fun w w' h1 h2 => h1.step h2)) K X.i X.d X.m X.i.length X.d.length X.m.length HX.out.ph.ti.hi HX.out.ph.td.hi HX.out.ph.tm.hi (hidW rfl) (hidW rfl) (hidW rfl) (hidW (fun s hs hf => HI.out s (.inl hs) hf)) (hidW (fun s hs hf => HI.out s (.inr (.inl hs)) hf)) (hidW (fun s hs hf => HI.out s (.inr (.inr hs)) hf)) (hidW (fun w h1 => hplaces_1 w A X h1.ph)) (hidW (fun w h1 => hplaces_2 w A X h1.ph)) (hidW (fun w h1 => hplaces_3 w A X h1.ph)) HA _ HX ?_
  refine hidW ?_
  intros
  rename_i wq hX
  have HX := hidW hX
  clear hX
  go_wp2
  exact HQ.out HX.out HI.out (by have := HKl.out; omega)
end Go.Proofs.YtbbnodhpafiplaaDoor
namespace Go.Proofs.YtbbnodhpafiplaaDoor
open Go.RowKit
set_option linter.unusedVariables false
set_option linter.unusedSimpArgs false
set_option maxRecDepth 1000000 in
set_option maxHeartbeats 64000000 in
theorem only_yes (W : World) (i d m : Int) (sa : Option Addr) (cap : Nat) (ops : List Opr) (hS : Scr W sa ops) (hT : TR W) (hl : ops.length ≤ maxLen) (hl2 : ops.length * 120 ≤ 140737488351232) (h : Okn i ∧ Okn d ∧ Okn m) :
    Calls Tryd.prog 4 #[.int .i64 i, .int .i64 d, .int .i64 m, .slice sa ops.length cap] W fun e w' => e = .returned (.bool true) ∧ Below W.heap.size W w' := by
  unfold maxLen at hl
  obtain ⟨X1, X2, hf1, hf2, hf3⟩ := only_first i d m h
  have HT : Hid (∀ w, Below W.heap.size W w → TR w) := hidW (fun w hb => hT.below hb)
  have HS0 : Hid (Scr W sa ops) := hS
  have HB := hidW (hnew_yes i d m W h)
  have HKp : Hid (∀ w A, PH 73 95 [] w A (zH i d m) → TR w → Calls Tryd.prog 11 #[.pointer (some ⟨A.h, 0, none⟩), .agg #[.int .i64 3, .int .i64 1, .int .u32 4096, .int .u64 8192, .int .i64 0, .int .i64 3, .int .u32 0, .bool true, .bool false], .int .u32 8188, .int .i64 3, .bool true, .int .i64 0] w fun e w' => e = .returned (.int .i64 0) ∧ PH 73 95 [] w' A X1 ∧ Turn A.S w w') := hidW (fun w A k1 k2 => by
    have := hkeep_any w A _ fB 8188 3 true 0 k1 k2 fB_ok (by decide)
    rw [hf1] at this
    exact this)
  have HFd : Hid (∀ w A, PH 73 95 [] w A X1 → TR w → Calls Tryd.prog 12 #[.pointer (some ⟨A.h, 0, none⟩), .int .u32 4096, .int .i64 3, .bool false, .int .i64 0, .bool false] w fun e w' => e = .returned (.tuple #[.agg #[.int .i64 3, .int .i64 1, .int .u32 4096, .int .u64 8192, .int .i64 0, .int .i64 3, .int .u32 0, .bool true, .bool false], .int .i64 1]) ∧ PH 73 95 [] w' A X2 ∧ Turn A.S w w') := hidW (fun w A k1 k2 => by
    have := hfind_any w A X1 4096 3 false 0 false k1 k2 (by decide)
    rw [hf2] at this
    exact this)
  have he : ∀ w, (Op.equalIn 10000 38 (.agg #[.int .i64 3, .int .i64 1, .int .u32 4096, .int .u64 8192, .int .i64 0, .int .i64 3, .int .u32 0, .bool true, .bool false]) (.agg #[.int .i64 3, .int .i64 1, .int .u32 4096, .int .u64 8192, .int .i64 0, .int .i64 3, .int .u32 0, .bool true, .bool false])).run Tryd.prog w = .ok true w := fun w => by
    have := eqB fB fB w
    rw [Blo.same_self] at this
    exact this
  have q0 : decide (1 ≤ i) = true := decide_eq_true h.1.1
  have q1 : decide (i ≤ 64) = true := decide_eq_true h.1.2
  have q2 : decide (1 ≤ d) = true := decide_eq_true h.2.1.1
  have q3 : decide (d ≤ 64) = true := decide_eq_true h.2.1.2
  have q4 : decide (1 ≤ m) = true := decide_eq_true h.2.2.1
  have q5 : decide (m ≤ 64) = true := decide_eq_true h.2.2.2
  have HF3 := hidW hf3
  generalize hn : ops.length = n at *
  have HM : Hid (ops.length = n) := hn
  clear hT hS hn h hf1 hf2 hf3
  go_enter Tryd.func4, Tryd.ntmps4
  go_wp2_with (fail)
  go_at_call 8
  refine HB.out.mono ?_
  rintro e w1 ⟨A, rfl, hp, hb, hna⟩
  have HX : Hid (OX W w1 A (zH i d m) [] (.slice none 0 0)) := hidW ⟨hb, hp, hna, Ob.nil _ _, fun b hb => by cases hb⟩
  clear hp hb hna HB
  have HBx := hidW (Bl.new w1 38 [.int .i64 3, .int .i64 1, .int .u32 4096, .int .u64 8192, .int .i64 0, .int .i64 3, .int .u32 0, .bool true, .bool false])
  replace HX := hidW (HX.out.step (below_new _ (.cells ([.int .i64 3, .int .i64 1, .int .u32 4096, .int .u64 8192, .int .i64 0, .int .i64 3, .int .u32 0, .bool true, .bool false]).toArray 38)))
  go_wp2_with (fail)
  go_at_call 11
  generalize World.alloc _ _ = w2 at *
  generalize w1.heap.size = C1 at *
  refine (HKp.out _ _ HX.out.ph (HT.out _ HX.out.bel)).mono ?_
  rintro e w3 ⟨rfl, hp, hT⟩
  replace HBx := hidW (HBx.out.turn hT (fun hs => by obtain ⟨c, hc⟩ := HX.out.ph.row _ hs; exact HBx.out.ne hc (by decide) rfl))
  replace HX := hidW (HX.out.turn hp hT)
  clear hp hT HKp
  go_wp2_with (fail)
  go_at_call 12
  refine (HFd.out _ _ HX.out.ph (HT.out _ HX.out.bel)).mono ?_
  rintro e w4 ⟨rfl, hp, hT⟩
  replace HBx := hidW (HBx.out.turn hT (fun hs => by obtain ⟨c, hc⟩ := HX.out.ph.row _ hs; exact HBx.out.ne hc (by decide) rfl))
  replace HX := hidW (HX.out.turn hp hT)
  clear hp hT HFd
  have HBy := hidW (Bl.new w4 38 [.int .i64 3, .int .i64 1, .int .u32 4096, .int .u64 8192, .int .i64 0, .int .i64 3, .int .u32 0, .bool true, .bool false])
  replace HX := hidW (HX.out.step (below_new _ (.cells ([.int .i64 3, .int .i64 1, .int .u32 4096, .int .u64 8192, .int .i64 0, .int .i64 3, .int .u32 0, .bool true, .bool false]).toArray 38)))
  replace HBx := hidW (HBx.out.below (below_new _ (.cells ([.int .i64 3, .int .i64 1, .int .u32 4096, .int .u64 8192, .int .i64 0, .int .i64 3, .int .u32 0, .bool true, .bool false]).toArray 38)))
  have c1 := HBx.out.cell
  have c2 := HBy.out.cell
  have HX2 := hidW HX.out.start
  rw [show (w4.alloc (.cells ([.int .i64 3, .int .i64 1, .int .u32 4096, .int .u64 8192, .int .i64 0, .int .i64 3, .int .u32 0, .bool true, .bool false]).toArray 38)).heap.size = w4.heap.size + 1 by simp] at HX2
  clear HX
  go_wp2
  clear c1 c2 HBx HBy he q0 q1 q2 q3 q4 q5
  generalize World.alloc _ _ = w5 at *
  generalize w4.heap.size + 1 = C2 at *
  have HX := HX2
  clear HX2
  go_loopw [15, 16] (fun v i wr => ∃ (k : Nat) (X : Hi) (K : List Blo), k ≤ n ∧ i = .int .i64 k ∧ K.length ≤ k + 1 ∧ Inv X K ∧ OX W wr A X K v) (fun _ i _ => n - (intOf i).toNat)
  case atStart => exact ⟨0, X2, [fB], by omega, rfl, by simp, HF3.out, HX.out⟩
  case round =>
    clear HX HF3
    obtain ⟨k, X, K, hk, rfl, hkl, hI, hX⟩ := hrel
    obtain ⟨a, cp, rfl, _⟩ := hX.own.rb
    have HX := hidW hX
    have HI := hidW hI
    have HKl := hidW hkl
    clear hX hI hkl
    by_cases hlt : k < n
    · obtain ⟨o, b, off, hok, rfl, hoo, hr⟩ := HS0.out.rng HX.out.bel (k := k) (by rw [HM.out]; exact hlt)
      have HR := hidW hr
      have HO := hidW hoo
      have HL := hidW (show n * 120 ≤ 140737488351232 from hl2)
      clear hok hr hoo HS0 HM hl2
      obtain ⟨ok, oa, op, ow, ova, of, om, ob, od⟩ := o
      dsimp only at HR
      by_cases h1 : ok = 1
      · subst h1
        have hle := fi_le X ova oa of op om
        rcases (show (fiF X ova oa of op om).1.2 = 0 ∨ (fiF X ova oa of op om).1.2 = 1 ∨ (fiF X ova oa of op om).1.2 = 2 by omega) with hrn | hrn | hrn
        · refine only_1a W _ A X K a cp b off k n cap oa op ow ova of om ob od hlt HL HKl HT HI HX HR HO hrn ?_
          refine hidW ?_
          intros
          rename_i wq Y M hX hI hM
          go_roundw
          case rel =>
            (repeat apply Exists.intro)
            refine ⟨?_, rfl⟩
            exact ⟨k + 1, Y, M, by omega, rfl, by omega, hI, hX⟩
          case measure => simp [intOf]; omega
        · refine only_1b W _ A X K a cp b off k n cap oa op ow ova of om ob od hlt HL HKl HT HI HX HR HO hrn ?_
          refine hidW ?_
          intros
          rename_i wq Y M hX hI hM
          go_roundw
          case rel =>
            (repeat apply Exists.intro)
            refine ⟨?_, rfl⟩
            exact ⟨k + 1, Y, M, by omega, rfl, by omega, hI, hX⟩
          case measure => simp [intOf]; omega
        · refine only_1c W _ A X K a cp b off k n cap oa op ow ova of om ob od hlt HL HKl HT HI HX HR HO hrn ?_
          refine hidW ?_
          intros
          rename_i wq Y M hX hI hM
          go_roundw
          case rel =>
            (repeat apply Exists.intro)
            refine ⟨?_, rfl⟩
            exact ⟨k + 1, Y, M, by omega, rfl, by omega, hI, hX⟩
          case measure => simp [intOf]; omega
      by_cases h2 : ok = 2
      · subst h2
        by_cases hre : (keF X ob ova oa of op).1 = 0
        · refine only_2y W _ A X K a cp b off k n cap oa op ow ova of om ob od hlt HL HKl HT HI HX HR HO hre ?_
          refine hidW ?_
          intros
          rename_i wq Y M hX hI hM
          go_roundw
          case rel =>
            (repeat apply Exists.intro)
            refine ⟨?_, rfl⟩
            exact ⟨k + 1, Y, M, by omega, rfl, by omega, hI, hX⟩
          case measure => simp [intOf]; omega
        · refine only_2n W _ A X K a cp b off k n cap oa op ow ova of om ob od hlt HL HKl HT HI HX HR HO hre ?_
          refine hidW ?_
          intros
          rename_i wq Y M hX hI hM
          go_roundw
          case rel =>
            (repeat apply Exists.intro)
            refine ⟨?_, rfl⟩
            exact ⟨k + 1, Y, M, by omega, rfl, by omega, hI, hX⟩
          case measure => simp [intOf]; omega
      by_cases h3 : ok = 3
      · subst h3
        refine only_3 W _ A X K a cp b off k n cap oa op ow ova of om ob od hlt HL HKl HT HI HX HR HO ?_
        refine hidW ?_
        intros
        rename_i wq Y M hX hI hM
        go_roundw
        case rel =>
          (repeat apply Exists.intro)
          refine ⟨?_, rfl⟩
          exact ⟨k + 1, Y, M, by omega, rfl, by omega, hI, hX⟩
        case measure => simp [intOf]; omega
      by_cases h4 : ok = 4
      · subst h4
        refine only_4 W _ A X K a cp b off k n cap oa op ow ova of om ob od hlt HL HKl HT HI HX HR HO ?_
        refine hidW ?_
        intros
        rename_i wq Y M hX hI hM
        go_roundw
        case rel =>
          (repeat apply Exists.intro)
          refine ⟨?_, rfl⟩
          exact ⟨k + 1, Y, M, by omega, rfl, by omega, hI, hX⟩
        case measure => simp [intOf]; omega
      refine only_5 W _ A X K a cp b off k n cap ok oa op ow ova of om ob od hlt HL HKl HT HI HX HR HO h1 h2 h3 h4 ?_
      refine hidW ?_
      intros
      rename_i wq Y M hX hI hM
      go_roundw
      case rel =>
        (repeat apply Exists.intro)
        refine ⟨?_, rfl⟩
        exact ⟨k + 1, Y, M, by omega, rfl, by omega, hI, hX⟩
      case measure => simp [intOf]; omega
    · obtain rfl : k = n := by omega
      go_wp2
      go_ret
      exact ⟨rfl, HX.out.bel⟩
theorem law_only (W : World) (i d m : Int) (sa : Option Addr) (cap : Nat) (ops : List Opr) (hS : Scr W sa ops) (hT : TR W) (hl : ops.length ≤ maxLen) (hl2 : ops.length * 120 ≤ 140737488351232) :
    Calls Tryd.prog 4 #[.int .i64 i, .int .i64 d, .int .i64 m, .slice sa ops.length cap] W fun e w' => e = .returned (.bool true) ∧ Below W.heap.size W w' := by
  by_cases h : Okn i ∧ Okn d ∧ Okn m
  · exact only_yes W i d m sa cap ops hS hT hl hl2 h
  · exact only_no W i d m sa ops.length cap h
end Go.Proofs.YtbbnodhpafiplaaDoor
