import Derived.Test.YtbbnodhpafiplaaDoorMQ6
import Derived.Test.YtbbnodhpafiplaaDoorOw
namespace Go.Proofs.YtbbnodhpafiplaaDoor
open Go.RowKit
set_option linter.unusedVariables false
set_option linter.unusedSimpArgs false
set_option maxRecDepth 1000000 in
set_option maxHeartbeats 64000000 in
theorem order_S00 {v0 v2 v3 v4 v5 v6 v8 v9 v10 v12 v14 v15 v16 v17 v19 v20 v21 v22 v23 v24 v25 v26 v27 v28 v29 v30 v31 v32 v33 v34 v35 v36 v37 v38 v39 v40 v41 v42 v43 v44 v45 v46 v47 v48 v49 v50 v51 v52 v53 v54 v55 v56 v57 v58 v59 v60 v61 v62 v63 v64 v65 v66 v67 v68 v69 v70 v71 v72 v73 v74 v75 v76 v77 v78 v79 v80 v81 v82 v83 v84 v85 v86 v87 v88 v89 v90 v91 v92 v93 v94 v95 v96 v97 v98 v99 v100 v101 v102 v103 v104 v105 v106 v107 v108 v109 v110 v111 v112 v113 v114 v115 v116 v117 v118 v119 v120 v121 v122 v123 v124 v125 v126 v127 v128 v129 v130 v131 v132 v133 v134 v135 v136 v137 v138 v139 v140 v141 v142 v143 v144 v145 v146 v147 v148 v149 v150 v151 v152 v153 v154 v155 v156 v157 v158 v159 v160 v161 v162 v163 v164 v165 v166 v167 v168 v169 v170 v171 v172 v173 v174 v175 v176 v177 v178 v179 v180 v181 v182 v183 v184 v185 v186 v187 v188 v189 v190 v191 v192 v193 v194 v195 v196 v197 v198 v199 v200 v201 v202 v203 v204 v205 v206 v207 v208 v209 v210 v211 v212 v213 v214 v215 v216 v217 v218 v219 v220 v221 v222 v223 v224 v225 v226 v227 v228 v229 v230 v231 v232 v233 v234 v235 v236 : Value} {Q : Exit → Act → World → Prop} (W wr : World) (A B : Ad) (X Y : Hi) (K : List Blo) (a : Option Addr) (cp b off k n cap : Nat) (ok oa op ow ova pk : Int) (of om : Bool) (ob : Blo) (od : Dro) (hlt : k < n) (hln : n ≤ 9223372036854775807) (hkl : K.length ≤ 4611686018427387904) (hpk : IntKind.i64.wrap (-op) = pk) (HT : Hid (∀ w, Below W.heap.size W w → TR w)) (HX : Hid (QX W wr A B X Y K (.slice a K.length cp))) (HI : Hid (PI X Y K)) (HR : Hid (wr.rangeAt b (off + k * 19) [.int .i64 ok, .int .i64 oa, .int .i64 op, .int .i64 ow, .int .u32 ova, .bool of, .bool om, .int .i64 ob.asid, .int .i64 ob.t.size, .int .u32 ob.t.va, .int .u64 ob.t.pa, .int .i64 ob.t.dom, .int .i64 ob.t.ap, .int .u32 ob.t.bits, .bool ob.t.ng, .bool ob.t.xn, .int .i64 od.kind, .int .u32 od.va, .int .i64 od.asid])) (hva : 0 ≤ ova ∧ ova < 4294967296) (hr1 : (fiF X ova oa of op om).1.2 = 0) (hr2 : (fiF Y ova oa (!of) pk (!om)).1.2 = 0)
    (HQ : Hid (∀ {u6 u19 u20 u21 u22 u23 u155 u156 u157 u158 u159 u160 u161 u162 u163 u164 u165 u166 u167 u168 u169 u170 u171 u172 u173 u174 u175 u176 u177 u178 u179 u180 u181 u182 u183 u184 u185 u186 u187 u188 u189 u190 u191 u192 u193 u194 u195 u196 u197 u198 u199 u200 u201 u202 u203 u204 u205 u206 u207 u208 u209 u210 u211 u212 u213 u214 u215 u216 u217 u218 u219 u220 u221 u222 u223 u224 u225 u226 u227 u228 u229 u230 u231 u232 u233 u234 u235 u236 : Value} {w : World} {X' Y' : Hi}, QX W w A B X' Y' K (.slice a K.length cp) → PI X' Y' K → Q .normal ⟨(v0 :: (.slice (some ⟨b, off, none⟩) n cap) :: v2 :: v3 :: v4 :: v5 :: u6 :: (.pointer (some ⟨A.h, 0, none⟩)) :: v8 :: v9 :: v10 :: (.pointer (some ⟨B.h, 0, none⟩)) :: v12 :: (.slice a K.length cp) :: v14 :: v15 :: v16 :: v17 :: (.int .i64 ((k + 1 : Nat) : Int)) :: u19 :: u20 :: u21 :: u22 :: u23 :: v24 :: v25 :: v26 :: v27 :: v28 :: v29 :: v30 :: v31 :: v32 :: v33 :: v34 :: v35 :: v36 :: v37 :: v38 :: v39 :: v40 :: v41 :: v42 :: v43 :: v44 :: v45 :: v46 :: v47 :: v48 :: v49 :: v50 :: v51 :: v52 :: v53 :: v54 :: v55 :: v56 :: v57 :: v58 :: v59 :: v60 :: v61 :: v62 :: v63 :: v64 :: v65 :: v66 :: v67 :: v68 :: v69 :: v70 :: v71 :: v72 :: v73 :: v74 :: v75 :: v76 :: v77 :: v78 :: v79 :: v80 :: v81 :: v82 :: v83 :: v84 :: v85 :: v86 :: v87 :: v88 :: v89 :: v90 :: v91 :: v92 :: v93 :: v94 :: v95 :: v96 :: v97 :: v98 :: v99 :: v100 :: v101 :: v102 :: v103 :: v104 :: v105 :: v106 :: v107 :: v108 :: v109 :: v110 :: v111 :: v112 :: v113 :: v114 :: v115 :: v116 :: v117 :: v118 :: v119 :: v120 :: v121 :: v122 :: v123 :: v124 :: v125 :: v126 :: v127 :: v128 :: v129 :: v130 :: v131 :: v132 :: v133 :: v134 :: v135 :: v136 :: v137 :: v138 :: v139 :: v140 :: v141 :: v142 :: v143 :: v144 :: v145 :: v146 :: v147 :: v148 :: v149 :: v150 :: v151 :: v152 :: v153 :: v154 :: u155 :: u156 :: u157 :: u158 :: u159 :: u160 :: u161 :: u162 :: u163 :: u164 :: u165 :: u166 :: u167 :: u168 :: u169 :: u170 :: u171 :: u172 :: u173 :: u174 :: u175 :: u176 :: u177 :: u178 :: u179 :: u180 :: u181 :: u182 :: u183 :: u184 :: u185 :: u186 :: u187 :: u188 :: u189 :: u190 :: u191 :: u192 :: u193 :: u194 :: u195 :: u196 :: u197 :: u198 :: u199 :: u200 :: u201 :: u202 :: u203 :: u204 :: u205 :: u206 :: u207 :: u208 :: u209 :: u210 :: u211 :: u212 :: u213 :: u214 :: u215 :: u216 :: u217 :: u218 :: u219 :: u220 :: u221 :: u222 :: u223 :: u224 :: u225 :: u226 :: u227 :: u228 :: u229 :: u230 :: u231 :: u232 :: u233 :: u234 :: u235 :: u236 :: []).toArray, []⟩ w)) :
    (inS Tryd.f3).wp Tryd.prog Q ⟨(v0 :: (.slice (some ⟨b, off, none⟩) n cap) :: v2 :: v3 :: v4 :: v5 :: v6 :: (.pointer (some ⟨A.h, 0, none⟩)) :: v8 :: v9 :: v10 :: (.pointer (some ⟨B.h, 0, none⟩)) :: v12 :: (.slice a K.length cp) :: v14 :: v15 :: v16 :: v17 :: (.int .i64 (k : Int)) :: v19 :: v20 :: v21 :: v22 :: v23 :: v24 :: v25 :: v26 :: v27 :: v28 :: v29 :: v30 :: v31 :: v32 :: v33 :: v34 :: v35 :: v36 :: v37 :: v38 :: v39 :: v40 :: v41 :: v42 :: v43 :: v44 :: v45 :: v46 :: v47 :: v48 :: v49 :: v50 :: v51 :: v52 :: v53 :: v54 :: v55 :: v56 :: v57 :: v58 :: v59 :: v60 :: v61 :: v62 :: v63 :: v64 :: v65 :: v66 :: v67 :: v68 :: v69 :: v70 :: v71 :: v72 :: v73 :: v74 :: v75 :: v76 :: v77 :: v78 :: v79 :: v80 :: v81 :: v82 :: v83 :: v84 :: v85 :: v86 :: v87 :: v88 :: v89 :: v90 :: v91 :: v92 :: v93 :: v94 :: v95 :: v96 :: v97 :: v98 :: v99 :: v100 :: v101 :: v102 :: v103 :: v104 :: v105 :: v106 :: v107 :: v108 :: v109 :: v110 :: v111 :: v112 :: v113 :: v114 :: v115 :: v116 :: v117 :: v118 :: v119 :: v120 :: v121 :: v122 :: v123 :: v124 :: v125 :: v126 :: v127 :: v128 :: v129 :: v130 :: v131 :: v132 :: v133 :: v134 :: v135 :: v136 :: v137 :: v138 :: v139 :: v140 :: v141 :: v142 :: v143 :: v144 :: v145 :: v146 :: v147 :: v148 :: v149 :: v150 :: v151 :: v152 :: v153 :: v154 :: v155 :: v156 :: v157 :: v158 :: v159 :: v160 :: v161 :: v162 :: v163 :: v164 :: v165 :: v166 :: v167 :: v168 :: v169 :: v170 :: v171 :: v172 :: v173 :: v174 :: v175 :: v176 :: v177 :: v178 :: v179 :: v180 :: v181 :: v182 :: v183 :: v184 :: v185 :: v186 :: v187 :: v188 :: v189 :: v190 :: v191 :: v192 :: v193 :: v194 :: v195 :: v196 :: v197 :: v198 :: v199 :: v200 :: v201 :: v202 :: v203 :: v204 :: v205 :: v206 :: v207 :: v208 :: v209 :: v210 :: v211 :: v212 :: v213 :: v214 :: v215 :: v216 :: v217 :: v218 :: v219 :: v220 :: v221 :: v222 :: v223 :: v224 :: v225 :: v226 :: v227 :: v228 :: v229 :: v230 :: v231 :: v232 :: v233 :: v234 :: v235 :: v236 :: []).toArray, []⟩ wr := by
  conv => arg 2; whnf
  have HFa : Hid (∀ w, PH 73 95 [] w A X → TR w → Calls Tryd.prog 12 #[.pointer (some ⟨A.h, 0, none⟩), .int .u32 ova, .int .i64 oa, .bool of, .int .i64 op, .bool om] w fun e w' => e = .returned (.tuple #[.agg #[.int .i64 ((fiF X ova oa of op om).1.1).asid, .int .i64 ((fiF X ova oa of op om).1.1).t.size, .int .u32 ((fiF X ova oa of op om).1.1).t.va, .int .u64 ((fiF X ova oa of op om).1.1).t.pa, .int .i64 ((fiF X ova oa of op om).1.1).t.dom, .int .i64 ((fiF X ova oa of op om).1.1).t.ap, .int .u32 ((fiF X ova oa of op om).1.1).t.bits, .bool ((fiF X ova oa of op om).1.1).t.ng, .bool ((fiF X ova oa of op om).1.1).t.xn], .int .i64 (((fiF X ova oa of op om).1.2 : Nat) : Int)]) ∧ PH 73 95 [] w' A (fiF X ova oa of op om).2 ∧ Turn A.S w w') := hidW (fun w k1 k2 => hfind_any w A X ova oa of op om k1 k2 hva)
  have HFb : Hid (∀ w, PH 73 95 [] w B Y → TR w → Calls Tryd.prog 12 #[.pointer (some ⟨B.h, 0, none⟩), .int .u32 ova, .int .i64 oa, .bool (!of), .int .i64 pk, .bool (!om)] w fun e w' => e = .returned (.tuple #[.agg #[.int .i64 ((fiF Y ova oa (!of) pk (!om)).1.1).asid, .int .i64 ((fiF Y ova oa (!of) pk (!om)).1.1).t.size, .int .u32 ((fiF Y ova oa (!of) pk (!om)).1.1).t.va, .int .u64 ((fiF Y ova oa (!of) pk (!om)).1.1).t.pa, .int .i64 ((fiF Y ova oa (!of) pk (!om)).1.1).t.dom, .int .i64 ((fiF Y ova oa (!of) pk (!om)).1.1).t.ap, .int .u32 ((fiF Y ova oa (!of) pk (!om)).1.1).t.bits, .bool ((fiF Y ova oa (!of) pk (!om)).1.1).t.ng, .bool ((fiF Y ova oa (!of) pk (!om)).1.1).t.xn], .int .i64 (((fiF Y ova oa (!of) pk (!om)).1.2 : Nat) : Int)]) ∧ PH 73 95 [] w' B (fiF Y ova oa (!of) pk (!om)).2 ∧ Turn B.S w w') := hidW (fun w k1 k2 => hfind_any w B Y ova oa (!of) pk (!om) k1 k2 hva)
  have HP : Hid (PI (fiF X ova oa of op om).2 (fiF Y ova oa (!of) pk (!om)).2 K) := hidW ⟨HI.out.ia.find _ _ _ _ _, HI.out.ib.find _ _ _ _ _, HI.out.ua.find _ _ _ _ _, HI.out.ub.find _ _ _ _ _, HI.out.ap⟩
  have HOa : Hid ((fiF X ova oa of op om).1.2 = 1 → (fiF X ova oa of op om).1.1 ∈ K ∧ ovF (fiF X ova oa of op om).1.1 ova oa = true) := hidW (fun h1 => fi_one HI.out.ia h1)
  have HOb : Hid ((fiF Y ova oa (!of) pk (!om)).1.2 = 1 → (fiF Y ova oa (!of) pk (!om)).1.1 ∈ K ∧ ovF (fiF Y ova oa (!of) pk (!om)).1.1 ova oa = true) := hidW (fun h1 => fi_one HI.out.ib h1)
  have HAp := hidW HI.out.ap
  generalize (fiF X ova oa of op om) = R1 at *
  generalize (fiF Y ova oa (!of) pk (!om)) = R2 at *
  obtain ⟨⟨rb, rn⟩, X'⟩ := R1
  obtain ⟨⟨sb, sn⟩, Y'⟩ := R2
  dsimp only at HFa HFb HP HOa HOb hr1 hr2
  subst hr1 hr2
  have HAm : Hid (∀ w b, QX W w A B X' Y' K (.slice a K.length cp) → b ∈ K → Calls Tryd.prog 13 #[.slice a K.length cp, .agg #[.int .i64 b.asid, .int .i64 b.t.size, .int .u32 b.t.va, .int .u64 b.t.pa, .int .i64 b.t.dom, .int .i64 b.t.ap, .int .u32 b.t.bits, .bool b.t.ng, .bool b.t.xn]] w fun e w' => e = .returned (.bool true) ∧ Below w.heap.size w w') := hidW (fun w b h1 hb => h1.among hkl hb)
  clear HOa HOb HAp HI
  have HZ := hidW (box_big wr 44 [.int .i64 0, .int .i64 0, .int .i64 0, .int .i64 0, .int .u32 0, .bool false, .bool false, .int .i64 0, .int .i64 0, .int .u32 0, .int .u64 0, .int .i64 0, .int .i64 0, .int .u32 0, .bool false, .bool false, .int .i64 0, .int .u32 0, .int .i64 0] [.int .i64 ok, .int .i64 oa, .int .i64 op, .int .i64 ow, .int .u32 ova, .bool of, .bool om, .int .i64 ob.asid, .int .i64 ob.t.size, .int .u32 ob.t.va, .int .u64 ob.t.pa, .int .i64 ob.t.dom, .int .i64 ob.t.ap, .int .u32 ob.t.bits, .bool ob.t.ng, .bool ob.t.xn, .int .i64 od.kind, .int .u32 od.va, .int .i64 od.asid] rfl)
  have HTh := hidW (there_new wr 44 [.int .i64 0, .int .i64 0, .int .i64 0, .int .i64 0, .int .u32 0, .bool false, .bool false, .int .i64 0, .int .i64 0, .int .u32 0, .int .u64 0, .int .i64 0, .int .i64 0, .int .u32 0, .bool false, .bool false, .int .i64 0, .int .u32 0, .int .i64 0] 19 rfl)
  have HBx : Hid (Bl ((wr.alloc (.cells ([.int .i64 0, .int .i64 0, .int .i64 0, .int .i64 0, .int .u32 0, .bool false, .bool false, .int .i64 0, .int .i64 0, .int .u32 0, .int .u64 0, .int .i64 0, .int .i64 0, .int .u32 0, .bool false, .bool false, .int .i64 0, .int .u32 0, .int .i64 0]).toArray 44)).setCells wr.heap.size 0 [.int .i64 ok, .int .i64 oa, .int .i64 op, .int .i64 ow, .int .u32 ova, .bool of, .bool om, .int .i64 ob.asid, .int .i64 ob.t.size, .int .u32 ob.t.va, .int .u64 ob.t.pa, .int .i64 ob.t.dom, .int .i64 ob.t.ap, .int .u32 ob.t.bits, .bool ob.t.ng, .bool ob.t.xn, .int .i64 od.kind, .int .u32 od.va, .int .i64 od.asid]) wr.heap.size 44 [.int .i64 ok, .int .i64 oa, .int .i64 op, .int .i64 ow, .int .u32 ova, .bool of, .bool om, .int .i64 ob.asid, .int .i64 ob.t.size, .int .u32 ob.t.va, .int .u64 ob.t.pa, .int .i64 ob.t.dom, .int .i64 ob.t.ap, .int .u32 ob.t.bits, .bool ob.t.ng, .bool ob.t.xn, .int .i64 od.kind, .int .u32 od.va, .int .i64 od.asid]) := hidW HZ.out.1
  replace HX := hidW (HX.out.step HZ.out.2)
  clear HZ
  go_wp2_with (first | (guard_target =~ wpList _ _ _ (Oper.mk (some 164) _ _ _ _ _ :: _) _ _; refine wpList_load_mid rfl _ _ rfl b (off + k * 19) rfl [.int .i64 ok, .int .i64 oa, .int .i64 op, .int .i64 ow, .int .u32 ova, .bool of, .bool om, .int .i64 ob.asid, .int .i64 ob.t.size, .int .u32 ob.t.va, .int .u64 ob.t.pa, .int .i64 ob.t.dom, .int .i64 ob.t.ap, .int .u32 ob.t.bits, .bool ob.t.ng, .bool ob.t.xn, .int .i64 od.kind, .int .u32 od.va, .int .i64 od.asid] _ HR.out Tryd.underlying44 rfl (by kernel_rfl) ?_; clear HR) | (guard_target =~ wpList _ _ _ (Oper.mk none _ _ _ _ _ :: []) _ _; refine wpList_store_mid rfl _ _ _ rfl wr.heap.size 0 [.int .i64 ok, .int .i64 oa, .int .i64 op, .int .i64 ow, .int .u32 ova, .bool of, .bool om, .int .i64 ob.asid, .int .i64 ob.t.size, .int .u32 ob.t.va, .int .u64 ob.t.pa, .int .i64 ob.t.dom, .int .i64 ob.t.ap, .int .u32 ob.t.bits, .bool ob.t.ng, .bool ob.t.xn, .int .i64 od.kind, .int .u32 od.va, .int .i64 od.asid].toArray rfl rfl HTh.out (by kernel_rfl) (ol_one ⟨ok, oa, op, ow, ova, of, om, ob, od⟩) ?_; clear HTh; generalize World.setCells _ _ _ _ = w6 at *; generalize wr.heap.size = C at *; have c1 := HBx.out.cell))
  go_at_call 12
  refine (HFa.out _ HX.out.pa (HT.out _ HX.out.bel)).mono ?_
  rintro e w7 ⟨rfl, hp, hT⟩
  replace HBx := hidW ((HBx.out.turn hT (fun hs => by obtain ⟨c, hc⟩ := HX.out.pa.row _ hs; exact HBx.out.ne hc (by decide) rfl)).below (below_new _ (.cells ([.int .i64 rb.asid, .int .i64 rb.t.size, .int .u32 rb.t.va, .int .u64 rb.t.pa, .int .i64 rb.t.dom, .int .i64 rb.t.ap, .int .u32 rb.t.bits, .bool rb.t.ng, .bool rb.t.xn]).toArray 38)))
  replace HX := hidW ((HX.out.turnA hp hT).step (below_new _ (.cells ([.int .i64 rb.asid, .int .i64 rb.t.size, .int .u32 rb.t.va, .int .u64 rb.t.pa, .int .i64 rb.t.dom, .int .i64 rb.t.ap, .int .u32 rb.t.bits, .bool rb.t.ng, .bool rb.t.xn]).toArray 38)))
  have HBy := hidW (Bl.new w7 38 ([.int .i64 rb.asid, .int .i64 rb.t.size, .int .u32 rb.t.va, .int .u64 rb.t.pa, .int .i64 rb.t.dom, .int .i64 rb.t.ap, .int .u32 rb.t.bits, .bool rb.t.ng, .bool rb.t.xn]))
  clear hp hT HFa c1
  have c1 := HBx.out.cell
  go_wp2_with (fail)
  go_at_call 12
  generalize World.alloc _ _ = w8 at *
  generalize w7.heap.size = D at *
  refine (HFb.out _ HX.out.pb (HT.out _ HX.out.bel)).mono ?_
  rintro e w9 ⟨rfl, hp, hT⟩
  replace HBy := hidW ((HBy.out.turn hT (fun hs => by obtain ⟨c, hc⟩ := HX.out.pb.row _ hs; exact HBy.out.ne hc (by decide) rfl)).below (below_new _ (.cells ([.int .i64 sb.asid, .int .i64 sb.t.size, .int .u32 sb.t.va, .int .u64 sb.t.pa, .int .i64 sb.t.dom, .int .i64 sb.t.ap, .int .u32 sb.t.bits, .bool sb.t.ng, .bool sb.t.xn]).toArray 38)))
  replace HX := hidW ((HX.out.turnB hp hT).step (below_new _ (.cells ([.int .i64 sb.asid, .int .i64 sb.t.size, .int .u32 sb.t.va, .int .u64 sb.t.pa, .int .i64 sb.t.dom, .int .i64 sb.t.ap, .int .u32 sb.t.bits, .bool sb.t.ng, .bool sb.t.xn]).toArray 38)))
  have HBz := hidW (Bl.new w9 38 ([.int .i64 sb.asid, .int .i64 sb.t.size, .int .u32 sb.t.va, .int .u64 sb.t.pa, .int .i64 sb.t.dom, .int .i64 sb.t.ap, .int .u32 sb.t.bits, .bool sb.t.ng, .bool sb.t.xn]))
  clear hp hT HFb c1 HBx
  have c2 := HBy.out.cell
  have c3 := HBz.out.cell
  go_wp2
  exact HQ.out HX.out HP.out
set_option maxRecDepth 1000000 in
set_option maxHeartbeats 64000000 in
theorem order_S01 {v0 v2 v3 v4 v5 v6 v8 v9 v10 v12 v14 v15 v16 v17 v19 v20 v21 v22 v23 v24 v25 v26 v27 v28 v29 v30 v31 v32 v33 v34 v35 v36 v37 v38 v39 v40 v41 v42 v43 v44 v45 v46 v47 v48 v49 v50 v51 v52 v53 v54 v55 v56 v57 v58 v59 v60 v61 v62 v63 v64 v65 v66 v67 v68 v69 v70 v71 v72 v73 v74 v75 v76 v77 v78 v79 v80 v81 v82 v83 v84 v85 v86 v87 v88 v89 v90 v91 v92 v93 v94 v95 v96 v97 v98 v99 v100 v101 v102 v103 v104 v105 v106 v107 v108 v109 v110 v111 v112 v113 v114 v115 v116 v117 v118 v119 v120 v121 v122 v123 v124 v125 v126 v127 v128 v129 v130 v131 v132 v133 v134 v135 v136 v137 v138 v139 v140 v141 v142 v143 v144 v145 v146 v147 v148 v149 v150 v151 v152 v153 v154 v155 v156 v157 v158 v159 v160 v161 v162 v163 v164 v165 v166 v167 v168 v169 v170 v171 v172 v173 v174 v175 v176 v177 v178 v179 v180 v181 v182 v183 v184 v185 v186 v187 v188 v189 v190 v191 v192 v193 v194 v195 v196 v197 v198 v199 v200 v201 v202 v203 v204 v205 v206 v207 v208 v209 v210 v211 v212 v213 v214 v215 v216 v217 v218 v219 v220 v221 v222 v223 v224 v225 v226 v227 v228 v229 v230 v231 v232 v233 v234 v235 v236 : Value} {Q : Exit → Act → World → Prop} (W wr : World) (A B : Ad) (X Y : Hi) (K : List Blo) (a : Option Addr) (cp b off k n cap : Nat) (ok oa op ow ova pk : Int) (of om : Bool) (ob : Blo) (od : Dro) (hlt : k < n) (hln : n ≤ 9223372036854775807) (hkl : K.length ≤ 4611686018427387904) (hpk : IntKind.i64.wrap (-op) = pk) (HT : Hid (∀ w, Below W.heap.size W w → TR w)) (HX : Hid (QX W wr A B X Y K (.slice a K.length cp))) (HI : Hid (PI X Y K)) (HR : Hid (wr.rangeAt b (off + k * 19) [.int .i64 ok, .int .i64 oa, .int .i64 op, .int .i64 ow, .int .u32 ova, .bool of, .bool om, .int .i64 ob.asid, .int .i64 ob.t.size, .int .u32 ob.t.va, .int .u64 ob.t.pa, .int .i64 ob.t.dom, .int .i64 ob.t.ap, .int .u32 ob.t.bits, .bool ob.t.ng, .bool ob.t.xn, .int .i64 od.kind, .int .u32 od.va, .int .i64 od.asid])) (hva : 0 ≤ ova ∧ ova < 4294967296) (hr1 : (fiF X ova oa of op om).1.2 = 0) (hr2 : (fiF Y ova oa (!of) pk (!om)).1.2 = 1)
    (HQ : Hid (∀ {u6 u19 u20 u21 u22 u23 u155 u156 u157 u158 u159 u160 u161 u162 u163 u164 u165 u166 u167 u168 u169 u170 u171 u172 u173 u174 u175 u176 u177 u178 u179 u180 u181 u182 u183 u184 u185 u186 u187 u188 u189 u190 u191 u192 u193 u194 u195 u196 u197 u198 u199 u200 u201 u202 u203 u204 u205 u206 u207 u208 u209 u210 u211 u212 u213 u214 u215 u216 u217 u218 u219 u220 u221 u222 u223 u224 u225 u226 u227 u228 u229 u230 u231 u232 u233 u234 u235 u236 : Value} {w : World} {X' Y' : Hi}, QX W w A B X' Y' K (.slice a K.length cp) → PI X' Y' K → Q .normal ⟨(v0 :: (.slice (some ⟨b, off, none⟩) n cap) :: v2 :: v3 :: v4 :: v5 :: u6 :: (.pointer (some ⟨A.h, 0, none⟩)) :: v8 :: v9 :: v10 :: (.pointer (some ⟨B.h, 0, none⟩)) :: v12 :: (.slice a K.length cp) :: v14 :: v15 :: v16 :: v17 :: (.int .i64 ((k + 1 : Nat) : Int)) :: u19 :: u20 :: u21 :: u22 :: u23 :: v24 :: v25 :: v26 :: v27 :: v28 :: v29 :: v30 :: v31 :: v32 :: v33 :: v34 :: v35 :: v36 :: v37 :: v38 :: v39 :: v40 :: v41 :: v42 :: v43 :: v44 :: v45 :: v46 :: v47 :: v48 :: v49 :: v50 :: v51 :: v52 :: v53 :: v54 :: v55 :: v56 :: v57 :: v58 :: v59 :: v60 :: v61 :: v62 :: v63 :: v64 :: v65 :: v66 :: v67 :: v68 :: v69 :: v70 :: v71 :: v72 :: v73 :: v74 :: v75 :: v76 :: v77 :: v78 :: v79 :: v80 :: v81 :: v82 :: v83 :: v84 :: v85 :: v86 :: v87 :: v88 :: v89 :: v90 :: v91 :: v92 :: v93 :: v94 :: v95 :: v96 :: v97 :: v98 :: v99 :: v100 :: v101 :: v102 :: v103 :: v104 :: v105 :: v106 :: v107 :: v108 :: v109 :: v110 :: v111 :: v112 :: v113 :: v114 :: v115 :: v116 :: v117 :: v118 :: v119 :: v120 :: v121 :: v122 :: v123 :: v124 :: v125 :: v126 :: v127 :: v128 :: v129 :: v130 :: v131 :: v132 :: v133 :: v134 :: v135 :: v136 :: v137 :: v138 :: v139 :: v140 :: v141 :: v142 :: v143 :: v144 :: v145 :: v146 :: v147 :: v148 :: v149 :: v150 :: v151 :: v152 :: v153 :: v154 :: u155 :: u156 :: u157 :: u158 :: u159 :: u160 :: u161 :: u162 :: u163 :: u164 :: u165 :: u166 :: u167 :: u168 :: u169 :: u170 :: u171 :: u172 :: u173 :: u174 :: u175 :: u176 :: u177 :: u178 :: u179 :: u180 :: u181 :: u182 :: u183 :: u184 :: u185 :: u186 :: u187 :: u188 :: u189 :: u190 :: u191 :: u192 :: u193 :: u194 :: u195 :: u196 :: u197 :: u198 :: u199 :: u200 :: u201 :: u202 :: u203 :: u204 :: u205 :: u206 :: u207 :: u208 :: u209 :: u210 :: u211 :: u212 :: u213 :: u214 :: u215 :: u216 :: u217 :: u218 :: u219 :: u220 :: u221 :: u222 :: u223 :: u224 :: u225 :: u226 :: u227 :: u228 :: u229 :: u230 :: u231 :: u232 :: u233 :: u234 :: u235 :: u236 :: []).toArray, []⟩ w)) :
    (inS Tryd.f3).wp Tryd.prog Q ⟨(v0 :: (.slice (some ⟨b, off, none⟩) n cap) :: v2 :: v3 :: v4 :: v5 :: v6 :: (.pointer (some ⟨A.h, 0, none⟩)) :: v8 :: v9 :: v10 :: (.pointer (some ⟨B.h, 0, none⟩)) :: v12 :: (.slice a K.length cp) :: v14 :: v15 :: v16 :: v17 :: (.int .i64 (k : Int)) :: v19 :: v20 :: v21 :: v22 :: v23 :: v24 :: v25 :: v26 :: v27 :: v28 :: v29 :: v30 :: v31 :: v32 :: v33 :: v34 :: v35 :: v36 :: v37 :: v38 :: v39 :: v40 :: v41 :: v42 :: v43 :: v44 :: v45 :: v46 :: v47 :: v48 :: v49 :: v50 :: v51 :: v52 :: v53 :: v54 :: v55 :: v56 :: v57 :: v58 :: v59 :: v60 :: v61 :: v62 :: v63 :: v64 :: v65 :: v66 :: v67 :: v68 :: v69 :: v70 :: v71 :: v72 :: v73 :: v74 :: v75 :: v76 :: v77 :: v78 :: v79 :: v80 :: v81 :: v82 :: v83 :: v84 :: v85 :: v86 :: v87 :: v88 :: v89 :: v90 :: v91 :: v92 :: v93 :: v94 :: v95 :: v96 :: v97 :: v98 :: v99 :: v100 :: v101 :: v102 :: v103 :: v104 :: v105 :: v106 :: v107 :: v108 :: v109 :: v110 :: v111 :: v112 :: v113 :: v114 :: v115 :: v116 :: v117 :: v118 :: v119 :: v120 :: v121 :: v122 :: v123 :: v124 :: v125 :: v126 :: v127 :: v128 :: v129 :: v130 :: v131 :: v132 :: v133 :: v134 :: v135 :: v136 :: v137 :: v138 :: v139 :: v140 :: v141 :: v142 :: v143 :: v144 :: v145 :: v146 :: v147 :: v148 :: v149 :: v150 :: v151 :: v152 :: v153 :: v154 :: v155 :: v156 :: v157 :: v158 :: v159 :: v160 :: v161 :: v162 :: v163 :: v164 :: v165 :: v166 :: v167 :: v168 :: v169 :: v170 :: v171 :: v172 :: v173 :: v174 :: v175 :: v176 :: v177 :: v178 :: v179 :: v180 :: v181 :: v182 :: v183 :: v184 :: v185 :: v186 :: v187 :: v188 :: v189 :: v190 :: v191 :: v192 :: v193 :: v194 :: v195 :: v196 :: v197 :: v198 :: v199 :: v200 :: v201 :: v202 :: v203 :: v204 :: v205 :: v206 :: v207 :: v208 :: v209 :: v210 :: v211 :: v212 :: v213 :: v214 :: v215 :: v216 :: v217 :: v218 :: v219 :: v220 :: v221 :: v222 :: v223 :: v224 :: v225 :: v226 :: v227 :: v228 :: v229 :: v230 :: v231 :: v232 :: v233 :: v234 :: v235 :: v236 :: []).toArray, []⟩ wr := by
  conv => arg 2; whnf
  have HFa : Hid (∀ w, PH 73 95 [] w A X → TR w → Calls Tryd.prog 12 #[.pointer (some ⟨A.h, 0, none⟩), .int .u32 ova, .int .i64 oa, .bool of, .int .i64 op, .bool om] w fun e w' => e = .returned (.tuple #[.agg #[.int .i64 ((fiF X ova oa of op om).1.1).asid, .int .i64 ((fiF X ova oa of op om).1.1).t.size, .int .u32 ((fiF X ova oa of op om).1.1).t.va, .int .u64 ((fiF X ova oa of op om).1.1).t.pa, .int .i64 ((fiF X ova oa of op om).1.1).t.dom, .int .i64 ((fiF X ova oa of op om).1.1).t.ap, .int .u32 ((fiF X ova oa of op om).1.1).t.bits, .bool ((fiF X ova oa of op om).1.1).t.ng, .bool ((fiF X ova oa of op om).1.1).t.xn], .int .i64 (((fiF X ova oa of op om).1.2 : Nat) : Int)]) ∧ PH 73 95 [] w' A (fiF X ova oa of op om).2 ∧ Turn A.S w w') := hidW (fun w k1 k2 => hfind_any w A X ova oa of op om k1 k2 hva)
  have HFb : Hid (∀ w, PH 73 95 [] w B Y → TR w → Calls Tryd.prog 12 #[.pointer (some ⟨B.h, 0, none⟩), .int .u32 ova, .int .i64 oa, .bool (!of), .int .i64 pk, .bool (!om)] w fun e w' => e = .returned (.tuple #[.agg #[.int .i64 ((fiF Y ova oa (!of) pk (!om)).1.1).asid, .int .i64 ((fiF Y ova oa (!of) pk (!om)).1.1).t.size, .int .u32 ((fiF Y ova oa (!of) pk (!om)).1.1).t.va, .int .u64 ((fiF Y ova oa (!of) pk (!om)).1.1).t.pa, .int .i64 ((fiF Y ova oa (!of) pk (!om)).1.1).t.dom, .int .i64 ((fiF Y ova oa (!of) pk (!om)).1.1).t.ap, .int .u32 ((fiF Y ova oa (!of) pk (!om)).1.1).t.bits, .bool ((fiF Y ova oa (!of) pk (!om)).1.1).t.ng, .bool ((fiF Y ova oa (!of) pk (!om)).1.1).t.xn], .int .i64 (((fiF Y ova oa (!of) pk (!om)).1.2 : Nat) : Int)]) ∧ PH 73 95 [] w' B (fiF Y ova oa (!of) pk (!om)).2 ∧ Turn B.S w w') := hidW (fun w k1 k2 => hfind_any w B Y ova oa (!of) pk (!om) k1 k2 hva)
  have HP : Hid (PI (fiF X ova oa of op om).2 (fiF Y ova oa (!of) pk (!om)).2 K) := hidW ⟨HI.out.ia.find _ _ _ _ _, HI.out.ib.find _ _ _ _ _, HI.out.ua.find _ _ _ _ _, HI.out.ub.find _ _ _ _ _, HI.out.ap⟩
  have HOa : Hid ((fiF X ova oa of op om).1.2 = 1 → (fiF X ova oa of op om).1.1 ∈ K ∧ ovF (fiF X ova oa of op om).1.1 ova oa = true) := hidW (fun h1 => fi_one HI.out.ia h1)
  have HOb : Hid ((fiF Y ova oa (!of) pk (!om)).1.2 = 1 → (fiF Y ova oa (!of) pk (!om)).1.1 ∈ K ∧ ovF (fiF Y ova oa (!of) pk (!om)).1.1 ova oa = true) := hidW (fun h1 => fi_one HI.out.ib h1)
  have HAp := hidW HI.out.ap
  generalize (fiF X ova oa of op om) = R1 at *
  generalize (fiF Y ova oa (!of) pk (!om)) = R2 at *
  obtain ⟨⟨rb, rn⟩, X'⟩ := R1
  obtain ⟨⟨sb, sn⟩, Y'⟩ := R2
  dsimp only at HFa HFb HP HOa HOb hr1 hr2
  subst hr1 hr2
  have HAm : Hid (∀ w b, QX W w A B X' Y' K (.slice a K.length cp) → b ∈ K → Calls Tryd.prog 13 #[.slice a K.length cp, .agg #[.int .i64 b.asid, .int .i64 b.t.size, .int .u32 b.t.va, .int .u64 b.t.pa, .int .i64 b.t.dom, .int .i64 b.t.ap, .int .u32 b.t.bits, .bool b.t.ng, .bool b.t.xn]] w fun e w' => e = .returned (.bool true) ∧ Below w.heap.size w w') := hidW (fun w b h1 hb => h1.among hkl hb)
  have HMb := hidW (HOb.out rfl)
  have HCb := hidW (fun w hw => HAm.out w sb hw HMb.out.1)
  clear HOa HOb HAp HI
  clear HMb
  have HZ := hidW (box_big wr 44 [.int .i64 0, .int .i64 0, .int .i64 0, .int .i64 0, .int .u32 0, .bool false, .bool false, .int .i64 0, .int .i64 0, .int .u32 0, .int .u64 0, .int .i64 0, .int .i64 0, .int .u32 0, .bool false, .bool false, .int .i64 0, .int .u32 0, .int .i64 0] [.int .i64 ok, .int .i64 oa, .int .i64 op, .int .i64 ow, .int .u32 ova, .bool of, .bool om, .int .i64 ob.asid, .int .i64 ob.t.size, .int .u32 ob.t.va, .int .u64 ob.t.pa, .int .i64 ob.t.dom, .int .i64 ob.t.ap, .int .u32 ob.t.bits, .bool ob.t.ng, .bool ob.t.xn, .int .i64 od.kind, .int .u32 od.va, .int .i64 od.asid] rfl)
  have HTh := hidW (there_new wr 44 [.int .i64 0, .int .i64 0, .int .i64 0, .int .i64 0, .int .u32 0, .bool false, .bool false, .int .i64 0, .int .i64 0, .int .u32 0, .int .u64 0, .int .i64 0, .int .i64 0, .int .u32 0, .bool false, .bool false, .int .i64 0, .int .u32 0, .int .i64 0] 19 rfl)
  have HBx : Hid (Bl ((wr.alloc (.cells ([.int .i64 0, .int .i64 0, .int .i64 0, .int .i64 0, .int .u32 0, .bool false, .bool false, .int .i64 0, .int .i64 0, .int .u32 0, .int .u64 0, .int .i64 0, .int .i64 0, .int .u32 0, .bool false, .bool false, .int .i64 0, .int .u32 0, .int .i64 0]).toArray 44)).setCells wr.heap.size 0 [.int .i64 ok, .int .i64 oa, .int .i64 op, .int .i64 ow, .int .u32 ova, .bool of, .bool om, .int .i64 ob.asid, .int .i64 ob.t.size, .int .u32 ob.t.va, .int .u64 ob.t.pa, .int .i64 ob.t.dom, .int .i64 ob.t.ap, .int .u32 ob.t.bits, .bool ob.t.ng, .bool ob.t.xn, .int .i64 od.kind, .int .u32 od.va, .int .i64 od.asid]) wr.heap.size 44 [.int .i64 ok, .int .i64 oa, .int .i64 op, .int .i64 ow, .int .u32 ova, .bool of, .bool om, .int .i64 ob.asid, .int .i64 ob.t.size, .int .u32 ob.t.va, .int .u64 ob.t.pa, .int .i64 ob.t.dom, .int .i64 ob.t.ap, .int .u32 ob.t.bits, .bool ob.t.ng, .bool ob.t.xn, .int .i64 od.kind, .int .u32 od.va, .int .i64 od.asid]) := hidW HZ.out.1
  replace HX := hidW (HX.out.step HZ.out.2)
  clear HZ
  go_wp2_with (first | (guard_target =~ wpList _ _ _ (Oper.mk (some 164) _ _ _ _ _ :: _) _ _; refine wpList_load_mid rfl _ _ rfl b (off + k * 19) rfl [.int .i64 ok, .int .i64 oa, .int .i64 op, .int .i64 ow, .int .u32 ova, .bool of, .bool om, .int .i64 ob.asid, .int .i64 ob.t.size, .int .u32 ob.t.va, .int .u64 ob.t.pa, .int .i64 ob.t.dom, .int .i64 ob.t.ap, .int .u32 ob.t.bits, .bool ob.t.ng, .bool ob.t.xn, .int .i64 od.kind, .int .u32 od.va, .int .i64 od.asid] _ HR.out Tryd.underlying44 rfl (by kernel_rfl) ?_; clear HR) | (guard_target =~ wpList _ _ _ (Oper.mk none _ _ _ _ _ :: []) _ _; refine wpList_store_mid rfl _ _ _ rfl wr.heap.size 0 [.int .i64 ok, .int .i64 oa, .int .i64 op, .int .i64 ow, .int .u32 ova, .bool of, .bool om, .int .i64 ob.asid, .int .i64 ob.t.size, .int .u32 ob.t.va, .int .u64 ob.t.pa, .int .i64 ob.t.dom, .int .i64 ob.t.ap, .int .u32 ob.t.bits, .bool ob.t.ng, .bool ob.t.xn, .int .i64 od.kind, .int .u32 od.va, .int .i64 od.asid].toArray rfl rfl HTh.out (by kernel_rfl) (ol_one ⟨ok, oa, op, ow, ova, of, om, ob, od⟩) ?_; clear HTh; generalize World.setCells _ _ _ _ = w6 at *; generalize wr.heap.size = C at *; have c1 := HBx.out.cell))
  go_at_call 12
  refine (HFa.out _ HX.out.pa (HT.out _ HX.out.bel)).mono ?_
  rintro e w7 ⟨rfl, hp, hT⟩
  replace HBx := hidW ((HBx.out.turn hT (fun hs => by obtain ⟨c, hc⟩ := HX.out.pa.row _ hs; exact HBx.out.ne hc (by decide) rfl)).below (below_new _ (.cells ([.int .i64 rb.asid, .int .i64 rb.t.size, .int .u32 rb.t.va, .int .u64 rb.t.pa, .int .i64 rb.t.dom, .int .i64 rb.t.ap, .int .u32 rb.t.bits, .bool rb.t.ng, .bool rb.t.xn]).toArray 38)))
  replace HX := hidW ((HX.out.turnA hp hT).step (below_new _ (.cells ([.int .i64 rb.asid, .int .i64 rb.t.size, .int .u32 rb.t.va, .int .u64 rb.t.pa, .int .i64 rb.t.dom, .int .i64 rb.t.ap, .int .u32 rb.t.bits, .bool rb.t.ng, .bool rb.t.xn]).toArray 38)))
  have HBy := hidW (Bl.new w7 38 ([.int .i64 rb.asid, .int .i64 rb.t.size, .int .u32 rb.t.va, .int .u64 rb.t.pa, .int .i64 rb.t.dom, .int .i64 rb.t.ap, .int .u32 rb.t.bits, .bool rb.t.ng, .bool rb.t.xn]))
  clear hp hT HFa c1
  have c1 := HBx.out.cell
  go_wp2_with (fail)
  go_at_call 12
  generalize World.alloc _ _ = w8 at *
  generalize w7.heap.size = D at *
  refine (HFb.out _ HX.out.pb (HT.out _ HX.out.bel)).mono ?_
  rintro e w9 ⟨rfl, hp, hT⟩
  replace HBy := hidW ((HBy.out.turn hT (fun hs => by obtain ⟨c, hc⟩ := HX.out.pb.row _ hs; exact HBy.out.ne hc (by decide) rfl)).below (below_new _ (.cells ([.int .i64 sb.asid, .int .i64 sb.t.size, .int .u32 sb.t.va, .int .u64 sb.t.pa, .int .i64 sb.t.dom, .int .i64 sb.t.ap, .int .u32 sb.t.bits, .bool sb.t.ng, .bool sb.t.xn]).toArray 38)))
  replace HX := hidW ((HX.out.turnB hp hT).step (below_new _ (.cells ([.int .i64 sb.asid, .int .i64 sb.t.size, .int .u32 sb.t.va, .int .u64 sb.t.pa, .int .i64 sb.t.dom, .int .i64 sb.t.ap, .int .u32 sb.t.bits, .bool sb.t.ng, .bool sb.t.xn]).toArray 38)))
  have HBz := hidW (Bl.new w9 38 ([.int .i64 sb.asid, .int .i64 sb.t.size, .int .u32 sb.t.va, .int .u64 sb.t.pa, .int .i64 sb.t.dom, .int .i64 sb.t.ap, .int .u32 sb.t.bits, .bool sb.t.ng, .bool sb.t.xn]))
  clear hp hT HFb c1 HBx
  have c2 := HBy.out.cell
  have c3 := HBz.out.cell
  go_wp2_with (fail)
  go_at_call 13
  generalize World.alloc _ _ = w10 at *
  generalize w9.heap.size = E at *
  refine (HCb.out _ HX.out).mono ?_
  rintro e w12 ⟨rfl, hb⟩
  replace HX := hidW (HX.out.step hb)
  replace HBy := hidW (HBy.out.below hb)
  replace HBz := hidW (HBz.out.below hb)
  clear hb HCb c2 c3
  have c2 := HBy.out.cell
  have c3 := HBz.out.cell
  go_wp2
  exact HQ.out HX.out HP.out
set_option maxRecDepth 1000000 in
set_option maxHeartbeats 64000000 in
theorem order_S10 {v0 v2 v3 v4 v5 v6 v8 v9 v10 v12 v14 v15 v16 v17 v19 v20 v21 v22 v23 v24 v25 v26 v27 v28 v29 v30 v31 v32 v33 v34 v35 v36 v37 v38 v39 v40 v41 v42 v43 v44 v45 v46 v47 v48 v49 v50 v51 v52 v53 v54 v55 v56 v57 v58 v59 v60 v61 v62 v63 v64 v65 v66 v67 v68 v69 v70 v71 v72 v73 v74 v75 v76 v77 v78 v79 v80 v81 v82 v83 v84 v85 v86 v87 v88 v89 v90 v91 v92 v93 v94 v95 v96 v97 v98 v99 v100 v101 v102 v103 v104 v105 v106 v107 v108 v109 v110 v111 v112 v113 v114 v115 v116 v117 v118 v119 v120 v121 v122 v123 v124 v125 v126 v127 v128 v129 v130 v131 v132 v133 v134 v135 v136 v137 v138 v139 v140 v141 v142 v143 v144 v145 v146 v147 v148 v149 v150 v151 v152 v153 v154 v155 v156 v157 v158 v159 v160 v161 v162 v163 v164 v165 v166 v167 v168 v169 v170 v171 v172 v173 v174 v175 v176 v177 v178 v179 v180 v181 v182 v183 v184 v185 v186 v187 v188 v189 v190 v191 v192 v193 v194 v195 v196 v197 v198 v199 v200 v201 v202 v203 v204 v205 v206 v207 v208 v209 v210 v211 v212 v213 v214 v215 v216 v217 v218 v219 v220 v221 v222 v223 v224 v225 v226 v227 v228 v229 v230 v231 v232 v233 v234 v235 v236 : Value} {Q : Exit → Act → World → Prop} (W wr : World) (A B : Ad) (X Y : Hi) (K : List Blo) (a : Option Addr) (cp b off k n cap : Nat) (ok oa op ow ova pk : Int) (of om : Bool) (ob : Blo) (od : Dro) (hlt : k < n) (hln : n ≤ 9223372036854775807) (hkl : K.length ≤ 4611686018427387904) (hpk : IntKind.i64.wrap (-op) = pk) (HT : Hid (∀ w, Below W.heap.size W w → TR w)) (HX : Hid (QX W wr A B X Y K (.slice a K.length cp))) (HI : Hid (PI X Y K)) (HR : Hid (wr.rangeAt b (off + k * 19) [.int .i64 ok, .int .i64 oa, .int .i64 op, .int .i64 ow, .int .u32 ova, .bool of, .bool om, .int .i64 ob.asid, .int .i64 ob.t.size, .int .u32 ob.t.va, .int .u64 ob.t.pa, .int .i64 ob.t.dom, .int .i64 ob.t.ap, .int .u32 ob.t.bits, .bool ob.t.ng, .bool ob.t.xn, .int .i64 od.kind, .int .u32 od.va, .int .i64 od.asid])) (hva : 0 ≤ ova ∧ ova < 4294967296) (hr1 : (fiF X ova oa of op om).1.2 = 1) (hr2 : (fiF Y ova oa (!of) pk (!om)).1.2 = 0)
    (HQ : Hid (∀ {u6 u19 u20 u21 u22 u23 u155 u156 u157 u158 u159 u160 u161 u162 u163 u164 u165 u166 u167 u168 u169 u170 u171 u172 u173 u174 u175 u176 u177 u178 u179 u180 u181 u182 u183 u184 u185 u186 u187 u188 u189 u190 u191 u192 u193 u194 u195 u196 u197 u198 u199 u200 u201 u202 u203 u204 u205 u206 u207 u208 u209 u210 u211 u212 u213 u214 u215 u216 u217 u218 u219 u220 u221 u222 u223 u224 u225 u226 u227 u228 u229 u230 u231 u232 u233 u234 u235 u236 : Value} {w : World} {X' Y' : Hi}, QX W w A B X' Y' K (.slice a K.length cp) → PI X' Y' K → Q .normal ⟨(v0 :: (.slice (some ⟨b, off, none⟩) n cap) :: v2 :: v3 :: v4 :: v5 :: u6 :: (.pointer (some ⟨A.h, 0, none⟩)) :: v8 :: v9 :: v10 :: (.pointer (some ⟨B.h, 0, none⟩)) :: v12 :: (.slice a K.length cp) :: v14 :: v15 :: v16 :: v17 :: (.int .i64 ((k + 1 : Nat) : Int)) :: u19 :: u20 :: u21 :: u22 :: u23 :: v24 :: v25 :: v26 :: v27 :: v28 :: v29 :: v30 :: v31 :: v32 :: v33 :: v34 :: v35 :: v36 :: v37 :: v38 :: v39 :: v40 :: v41 :: v42 :: v43 :: v44 :: v45 :: v46 :: v47 :: v48 :: v49 :: v50 :: v51 :: v52 :: v53 :: v54 :: v55 :: v56 :: v57 :: v58 :: v59 :: v60 :: v61 :: v62 :: v63 :: v64 :: v65 :: v66 :: v67 :: v68 :: v69 :: v70 :: v71 :: v72 :: v73 :: v74 :: v75 :: v76 :: v77 :: v78 :: v79 :: v80 :: v81 :: v82 :: v83 :: v84 :: v85 :: v86 :: v87 :: v88 :: v89 :: v90 :: v91 :: v92 :: v93 :: v94 :: v95 :: v96 :: v97 :: v98 :: v99 :: v100 :: v101 :: v102 :: v103 :: v104 :: v105 :: v106 :: v107 :: v108 :: v109 :: v110 :: v111 :: v112 :: v113 :: v114 :: v115 :: v116 :: v117 :: v118 :: v119 :: v120 :: v121 :: v122 :: v123 :: v124 :: v125 :: v126 :: v127 :: v128 :: v129 :: v130 :: v131 :: v132 :: v133 :: v134 :: v135 :: v136 :: v137 :: v138 :: v139 :: v140 :: v141 :: v142 :: v143 :: v144 :: v145 :: v146 :: v147 :: v148 :: v149 :: v150 :: v151 :: v152 :: v153 :: v154 :: u155 :: u156 :: u157 :: u158 :: u159 :: u160 :: u161 :: u162 :: u163 :: u164 :: u165 :: u166 :: u167 :: u168 :: u169 :: u170 :: u171 :: u172 :: u173 :: u174 :: u175 :: u176 :: u177 :: u178 :: u179 :: u180 :: u181 :: u182 :: u183 :: u184 :: u185 :: u186 :: u187 :: u188 :: u189 :: u190 :: u191 :: u192 :: u193 :: u194 :: u195 :: u196 :: u197 :: u198 :: u199 :: u200 :: u201 :: u202 :: u203 :: u204 :: u205 :: u206 :: u207 :: u208 :: u209 :: u210 :: u211 :: u212 :: u213 :: u214 :: u215 :: u216 :: u217 :: u218 :: u219 :: u220 :: u221 :: u222 :: u223 :: u224 :: u225 :: u226 :: u227 :: u228 :: u229 :: u230 :: u231 :: u232 :: u233 :: u234 :: u235 :: u236 :: []).toArray, []⟩ w)) :
    (inS Tryd.f3).wp Tryd.prog Q ⟨(v0 :: (.slice (some ⟨b, off, none⟩) n cap) :: v2 :: v3 :: v4 :: v5 :: v6 :: (.pointer (some ⟨A.h, 0, none⟩)) :: v8 :: v9 :: v10 :: (.pointer (some ⟨B.h, 0, none⟩)) :: v12 :: (.slice a K.length cp) :: v14 :: v15 :: v16 :: v17 :: (.int .i64 (k : Int)) :: v19 :: v20 :: v21 :: v22 :: v23 :: v24 :: v25 :: v26 :: v27 :: v28 :: v29 :: v30 :: v31 :: v32 :: v33 :: v34 :: v35 :: v36 :: v37 :: v38 :: v39 :: v40 :: v41 :: v42 :: v43 :: v44 :: v45 :: v46 :: v47 :: v48 :: v49 :: v50 :: v51 :: v52 :: v53 :: v54 :: v55 :: v56 :: v57 :: v58 :: v59 :: v60 :: v61 :: v62 :: v63 :: v64 :: v65 :: v66 :: v67 :: v68 :: v69 :: v70 :: v71 :: v72 :: v73 :: v74 :: v75 :: v76 :: v77 :: v78 :: v79 :: v80 :: v81 :: v82 :: v83 :: v84 :: v85 :: v86 :: v87 :: v88 :: v89 :: v90 :: v91 :: v92 :: v93 :: v94 :: v95 :: v96 :: v97 :: v98 :: v99 :: v100 :: v101 :: v102 :: v103 :: v104 :: v105 :: v106 :: v107 :: v108 :: v109 :: v110 :: v111 :: v112 :: v113 :: v114 :: v115 :: v116 :: v117 :: v118 :: v119 :: v120 :: v121 :: v122 :: v123 :: v124 :: v125 :: v126 :: v127 :: v128 :: v129 :: v130 :: v131 :: v132 :: v133 :: v134 :: v135 :: v136 :: v137 :: v138 :: v139 :: v140 :: v141 :: v142 :: v143 :: v144 :: v145 :: v146 :: v147 :: v148 :: v149 :: v150 :: v151 :: v152 :: v153 :: v154 :: v155 :: v156 :: v157 :: v158 :: v159 :: v160 :: v161 :: v162 :: v163 :: v164 :: v165 :: v166 :: v167 :: v168 :: v169 :: v170 :: v171 :: v172 :: v173 :: v174 :: v175 :: v176 :: v177 :: v178 :: v179 :: v180 :: v181 :: v182 :: v183 :: v184 :: v185 :: v186 :: v187 :: v188 :: v189 :: v190 :: v191 :: v192 :: v193 :: v194 :: v195 :: v196 :: v197 :: v198 :: v199 :: v200 :: v201 :: v202 :: v203 :: v204 :: v205 :: v206 :: v207 :: v208 :: v209 :: v210 :: v211 :: v212 :: v213 :: v214 :: v215 :: v216 :: v217 :: v218 :: v219 :: v220 :: v221 :: v222 :: v223 :: v224 :: v225 :: v226 :: v227 :: v228 :: v229 :: v230 :: v231 :: v232 :: v233 :: v234 :: v235 :: v236 :: []).toArray, []⟩ wr := by
  conv => arg 2; whnf
  have HFa : Hid (∀ w, PH 73 95 [] w A X → TR w → Calls Tryd.prog 12 #[.pointer (some ⟨A.h, 0, none⟩), .int .u32 ova, .int .i64 oa, .bool of, .int .i64 op, .bool om] w fun e w' => e = .returned (.tuple #[.agg #[.int .i64 ((fiF X ova oa of op om).1.1).asid, .int .i64 ((fiF X ova oa of op om).1.1).t.size, .int .u32 ((fiF X ova oa of op om).1.1).t.va, .int .u64 ((fiF X ova oa of op om).1.1).t.pa, .int .i64 ((fiF X ova oa of op om).1.1).t.dom, .int .i64 ((fiF X ova oa of op om).1.1).t.ap, .int .u32 ((fiF X ova oa of op om).1.1).t.bits, .bool ((fiF X ova oa of op om).1.1).t.ng, .bool ((fiF X ova oa of op om).1.1).t.xn], .int .i64 (((fiF X ova oa of op om).1.2 : Nat) : Int)]) ∧ PH 73 95 [] w' A (fiF X ova oa of op om).2 ∧ Turn A.S w w') := hidW (fun w k1 k2 => hfind_any w A X ova oa of op om k1 k2 hva)
  have HFb : Hid (∀ w, PH 73 95 [] w B Y → TR w → Calls Tryd.prog 12 #[.pointer (some ⟨B.h, 0, none⟩), .int .u32 ova, .int .i64 oa, .bool (!of), .int .i64 pk, .bool (!om)] w fun e w' => e = .returned (.tuple #[.agg #[.int .i64 ((fiF Y ova oa (!of) pk (!om)).1.1).asid, .int .i64 ((fiF Y ova oa (!of) pk (!om)).1.1).t.size, .int .u32 ((fiF Y ova oa (!of) pk (!om)).1.1).t.va, .int .u64 ((fiF Y ova oa (!of) pk (!om)).1.1).t.pa, .int .i64 ((fiF Y ova oa (!of) pk (!om)).1.1).t.dom, .int .i64 ((fiF Y ova oa (!of) pk (!om)).1.1).t.ap, .int .u32 ((fiF Y ova oa (!of) pk (!om)).1.1).t.bits, .bool ((fiF Y ova oa (!of) pk (!om)).1.1).t.ng, .bool ((fiF Y ova oa (!of) pk (!om)).1.1).t.xn], .int .i64 (((fiF Y ova oa (!of) pk (!om)).1.2 : Nat) : Int)]) ∧ PH 73 95 [] w' B (fiF Y ova oa (!of) pk (!om)).2 ∧ Turn B.S w w') := hidW (fun w k1 k2 => hfind_any w B Y ova oa (!of) pk (!om) k1 k2 hva)
  have HP : Hid (PI (fiF X ova oa of op om).2 (fiF Y ova oa (!of) pk (!om)).2 K) := hidW ⟨HI.out.ia.find _ _ _ _ _, HI.out.ib.find _ _ _ _ _, HI.out.ua.find _ _ _ _ _, HI.out.ub.find _ _ _ _ _, HI.out.ap⟩
  have HOa : Hid ((fiF X ova oa of op om).1.2 = 1 → (fiF X ova oa of op om).1.1 ∈ K ∧ ovF (fiF X ova oa of op om).1.1 ova oa = true) := hidW (fun h1 => fi_one HI.out.ia h1)
  have HOb : Hid ((fiF Y ova oa (!of) pk (!om)).1.2 = 1 → (fiF Y ova oa (!of) pk (!om)).1.1 ∈ K ∧ ovF (fiF Y ova oa (!of) pk (!om)).1.1 ova oa = true) := hidW (fun h1 => fi_one HI.out.ib h1)
  have HAp := hidW HI.out.ap
  generalize (fiF X ova oa of op om) = R1 at *
  generalize (fiF Y ova oa (!of) pk (!om)) = R2 at *
  obtain ⟨⟨rb, rn⟩, X'⟩ := R1
  obtain ⟨⟨sb, sn⟩, Y'⟩ := R2
  dsimp only at HFa HFb HP HOa HOb hr1 hr2
  subst hr1 hr2
  have HAm : Hid (∀ w b, QX W w A B X' Y' K (.slice a K.length cp) → b ∈ K → Calls Tryd.prog 13 #[.slice a K.length cp, .agg #[.int .i64 b.asid, .int .i64 b.t.size, .int .u32 b.t.va, .int .u64 b.t.pa, .int .i64 b.t.dom, .int .i64 b.t.ap, .int .u32 b.t.bits, .bool b.t.ng, .bool b.t.xn]] w fun e w' => e = .returned (.bool true) ∧ Below w.heap.size w w') := hidW (fun w b h1 hb => h1.among hkl hb)
  have HMa := hidW (HOa.out rfl)
  have HCa := hidW (fun w hw => HAm.out w rb hw HMa.out.1)
  clear HOa HOb HAp HI
  clear HMa
  have HZ := hidW (box_big wr 44 [.int .i64 0, .int .i64 0, .int .i64 0, .int .i64 0, .int .u32 0, .bool false, .bool false, .int .i64 0, .int .i64 0, .int .u32 0, .int .u64 0, .int .i64 0, .int .i64 0, .int .u32 0, .bool false, .bool false, .int .i64 0, .int .u32 0, .int .i64 0] [.int .i64 ok, .int .i64 oa, .int .i64 op, .int .i64 ow, .int .u32 ova, .bool of, .bool om, .int .i64 ob.asid, .int .i64 ob.t.size, .int .u32 ob.t.va, .int .u64 ob.t.pa, .int .i64 ob.t.dom, .int .i64 ob.t.ap, .int .u32 ob.t.bits, .bool ob.t.ng, .bool ob.t.xn, .int .i64 od.kind, .int .u32 od.va, .int .i64 od.asid] rfl)
  have HTh := hidW (there_new wr 44 [.int .i64 0, .int .i64 0, .int .i64 0, .int .i64 0, .int .u32 0, .bool false, .bool false, .int .i64 0, .int .i64 0, .int .u32 0, .int .u64 0, .int .i64 0, .int .i64 0, .int .u32 0, .bool false, .bool false, .int .i64 0, .int .u32 0, .int .i64 0] 19 rfl)
  have HBx : Hid (Bl ((wr.alloc (.cells ([.int .i64 0, .int .i64 0, .int .i64 0, .int .i64 0, .int .u32 0, .bool false, .bool false, .int .i64 0, .int .i64 0, .int .u32 0, .int .u64 0, .int .i64 0, .int .i64 0, .int .u32 0, .bool false, .bool false, .int .i64 0, .int .u32 0, .int .i64 0]).toArray 44)).setCells wr.heap.size 0 [.int .i64 ok, .int .i64 oa, .int .i64 op, .int .i64 ow, .int .u32 ova, .bool of, .bool om, .int .i64 ob.asid, .int .i64 ob.t.size, .int .u32 ob.t.va, .int .u64 ob.t.pa, .int .i64 ob.t.dom, .int .i64 ob.t.ap, .int .u32 ob.t.bits, .bool ob.t.ng, .bool ob.t.xn, .int .i64 od.kind, .int .u32 od.va, .int .i64 od.asid]) wr.heap.size 44 [.int .i64 ok, .int .i64 oa, .int .i64 op, .int .i64 ow, .int .u32 ova, .bool of, .bool om, .int .i64 ob.asid, .int .i64 ob.t.size, .int .u32 ob.t.va, .int .u64 ob.t.pa, .int .i64 ob.t.dom, .int .i64 ob.t.ap, .int .u32 ob.t.bits, .bool ob.t.ng, .bool ob.t.xn, .int .i64 od.kind, .int .u32 od.va, .int .i64 od.asid]) := hidW HZ.out.1
  replace HX := hidW (HX.out.step HZ.out.2)
  clear HZ
  go_wp2_with (first | (guard_target =~ wpList _ _ _ (Oper.mk (some 164) _ _ _ _ _ :: _) _ _; refine wpList_load_mid rfl _ _ rfl b (off + k * 19) rfl [.int .i64 ok, .int .i64 oa, .int .i64 op, .int .i64 ow, .int .u32 ova, .bool of, .bool om, .int .i64 ob.asid, .int .i64 ob.t.size, .int .u32 ob.t.va, .int .u64 ob.t.pa, .int .i64 ob.t.dom, .int .i64 ob.t.ap, .int .u32 ob.t.bits, .bool ob.t.ng, .bool ob.t.xn, .int .i64 od.kind, .int .u32 od.va, .int .i64 od.asid] _ HR.out Tryd.underlying44 rfl (by kernel_rfl) ?_; clear HR) | (guard_target =~ wpList _ _ _ (Oper.mk none _ _ _ _ _ :: []) _ _; refine wpList_store_mid rfl _ _ _ rfl wr.heap.size 0 [.int .i64 ok, .int .i64 oa, .int .i64 op, .int .i64 ow, .int .u32 ova, .bool of, .bool om, .int .i64 ob.asid, .int .i64 ob.t.size, .int .u32 ob.t.va, .int .u64 ob.t.pa, .int .i64 ob.t.dom, .int .i64 ob.t.ap, .int .u32 ob.t.bits, .bool ob.t.ng, .bool ob.t.xn, .int .i64 od.kind, .int .u32 od.va, .int .i64 od.asid].toArray rfl rfl HTh.out (by kernel_rfl) (ol_one ⟨ok, oa, op, ow, ova, of, om, ob, od⟩) ?_; clear HTh; generalize World.setCells _ _ _ _ = w6 at *; generalize wr.heap.size = C at *; have c1 := HBx.out.cell))
  go_at_call 12
  refine (HFa.out _ HX.out.pa (HT.out _ HX.out.bel)).mono ?_
  rintro e w7 ⟨rfl, hp, hT⟩
  replace HBx := hidW ((HBx.out.turn hT (fun hs => by obtain ⟨c, hc⟩ := HX.out.pa.row _ hs; exact HBx.out.ne hc (by decide) rfl)).below (below_new _ (.cells ([.int .i64 rb.asid, .int .i64 rb.t.size, .int .u32 rb.t.va, .int .u64 rb.t.pa, .int .i64 rb.t.dom, .int .i64 rb.t.ap, .int .u32 rb.t.bits, .bool rb.t.ng, .bool rb.t.xn]).toArray 38)))
  replace HX := hidW ((HX.out.turnA hp hT).step (below_new _ (.cells ([.int .i64 rb.asid, .int .i64 rb.t.size, .int .u32 rb.t.va, .int .u64 rb.t.pa, .int .i64 rb.t.dom, .int .i64 rb.t.ap, .int .u32 rb.t.bits, .bool rb.t.ng, .bool rb.t.xn]).toArray 38)))
  have HBy := hidW (Bl.new w7 38 ([.int .i64 rb.asid, .int .i64 rb.t.size, .int .u32 rb.t.va, .int .u64 rb.t.pa, .int .i64 rb.t.dom, .int .i64 rb.t.ap, .int .u32 rb.t.bits, .bool rb.t.ng, .bool rb.t.xn]))
  clear hp hT HFa c1
  have c1 := HBx.out.cell
  go_wp2_with (fail)
  go_at_call 12
  generalize World.alloc _ _ = w8 at *
  generalize w7.heap.size = D at *
  refine (HFb.out _ HX.out.pb (HT.out _ HX.out.bel)).mono ?_
  rintro e w9 ⟨rfl, hp, hT⟩
  replace HBy := hidW ((HBy.out.turn hT (fun hs => by obtain ⟨c, hc⟩ := HX.out.pb.row _ hs; exact HBy.out.ne hc (by decide) rfl)).below (below_new _ (.cells ([.int .i64 sb.asid, .int .i64 sb.t.size, .int .u32 sb.t.va, .int .u64 sb.t.pa, .int .i64 sb.t.dom, .int .i64 sb.t.ap, .int .u32 sb.t.bits, .bool sb.t.ng, .bool sb.t.xn]).toArray 38)))
  replace HX := hidW ((HX.out.turnB hp hT).step (below_new _ (.cells ([.int .i64 sb.asid, .int .i64 sb.t.size, .int .u32 sb.t.va, .int .u64 sb.t.pa, .int .i64 sb.t.dom, .int .i64 sb.t.ap, .int .u32 sb.t.bits, .bool sb.t.ng, .bool sb.t.xn]).toArray 38)))
  have HBz := hidW (Bl.new w9 38 ([.int .i64 sb.asid, .int .i64 sb.t.size, .int .u32 sb.t.va, .int .u64 sb.t.pa, .int .i64 sb.t.dom, .int .i64 sb.t.ap, .int .u32 sb.t.bits, .bool sb.t.ng, .bool sb.t.xn]))
  clear hp hT HFb c1 HBx
  have c2 := HBy.out.cell
  have c3 := HBz.out.cell
  go_wp2_with (fail)
  go_at_call 13
  generalize World.alloc _ _ = w10 at *
  generalize w9.heap.size = E at *
  refine (HCa.out _ HX.out).mono ?_
  rintro e w11 ⟨rfl, hb⟩
  replace HX := hidW (HX.out.step hb)
  replace HBy := hidW (HBy.out.below hb)
  replace HBz := hidW (HBz.out.below hb)
  clear hb HCa c2 c3
  have c2 := HBy.out.cell
  have c3 := HBz.out.cell
  go_wp2
  exact HQ.out HX.out HP.out
set_option maxRecDepth 1000000 in
set_option maxHeartbeats 64000000 in
theorem order_S11 {v0 v2 v3 v4 v5 v6 v8 v9 v10 v12 v14 v15 v16 v17 v19 v20 v21 v22 v23 v24 v25 v26 v27 v28 v29 v30 v31 v32 v33 v34 v35 v36 v37 v38 v39 v40 v41 v42 v43 v44 v45 v46 v47 v48 v49 v50 v51 v52 v53 v54 v55 v56 v57 v58 v59 v60 v61 v62 v63 v64 v65 v66 v67 v68 v69 v70 v71 v72 v73 v74 v75 v76 v77 v78 v79 v80 v81 v82 v83 v84 v85 v86 v87 v88 v89 v90 v91 v92 v93 v94 v95 v96 v97 v98 v99 v100 v101 v102 v103 v104 v105 v106 v107 v108 v109 v110 v111 v112 v113 v114 v115 v116 v117 v118 v119 v120 v121 v122 v123 v124 v125 v126 v127 v128 v129 v130 v131 v132 v133 v134 v135 v136 v137 v138 v139 v140 v141 v142 v143 v144 v145 v146 v147 v148 v149 v150 v151 v152 v153 v154 v155 v156 v157 v158 v159 v160 v161 v162 v163 v164 v165 v166 v167 v168 v169 v170 v171 v172 v173 v174 v175 v176 v177 v178 v179 v180 v181 v182 v183 v184 v185 v186 v187 v188 v189 v190 v191 v192 v193 v194 v195 v196 v197 v198 v199 v200 v201 v202 v203 v204 v205 v206 v207 v208 v209 v210 v211 v212 v213 v214 v215 v216 v217 v218 v219 v220 v221 v222 v223 v224 v225 v226 v227 v228 v229 v230 v231 v232 v233 v234 v235 v236 : Value} {Q : Exit → Act → World → Prop} (W wr : World) (A B : Ad) (X Y : Hi) (K : List Blo) (a : Option Addr) (cp b off k n cap : Nat) (ok oa op ow ova pk : Int) (of om : Bool) (ob : Blo) (od : Dro) (hlt : k < n) (hln : n ≤ 9223372036854775807) (hkl : K.length ≤ 4611686018427387904) (hpk : IntKind.i64.wrap (-op) = pk) (HT : Hid (∀ w, Below W.heap.size W w → TR w)) (HX : Hid (QX W wr A B X Y K (.slice a K.length cp))) (HI : Hid (PI X Y K)) (HR : Hid (wr.rangeAt b (off + k * 19) [.int .i64 ok, .int .i64 oa, .int .i64 op, .int .i64 ow, .int .u32 ova, .bool of, .bool om, .int .i64 ob.asid, .int .i64 ob.t.size, .int .u32 ob.t.va, .int .u64 ob.t.pa, .int .i64 ob.t.dom, .int .i64 ob.t.ap, .int .u32 ob.t.bits, .bool ob.t.ng, .bool ob.t.xn, .int .i64 od.kind, .int .u32 od.va, .int .i64 od.asid])) (hva : 0 ≤ ova ∧ ova < 4294967296) (hr1 : (fiF X ova oa of op om).1.2 = 1) (hr2 : (fiF Y ova oa (!of) pk (!om)).1.2 = 1)
    (HQ : Hid (∀ {u6 u19 u20 u21 u22 u23 u155 u156 u157 u158 u159 u160 u161 u162 u163 u164 u165 u166 u167 u168 u169 u170 u171 u172 u173 u174 u175 u176 u177 u178 u179 u180 u181 u182 u183 u184 u185 u186 u187 u188 u189 u190 u191 u192 u193 u194 u195 u196 u197 u198 u199 u200 u201 u202 u203 u204 u205 u206 u207 u208 u209 u210 u211 u212 u213 u214 u215 u216 u217 u218 u219 u220 u221 u222 u223 u224 u225 u226 u227 u228 u229 u230 u231 u232 u233 u234 u235 u236 : Value} {w : World} {X' Y' : Hi}, QX W w A B X' Y' K (.slice a K.length cp) → PI X' Y' K → Q .normal ⟨(v0 :: (.slice (some ⟨b, off, none⟩) n cap) :: v2 :: v3 :: v4 :: v5 :: u6 :: (.pointer (some ⟨A.h, 0, none⟩)) :: v8 :: v9 :: v10 :: (.pointer (some ⟨B.h, 0, none⟩)) :: v12 :: (.slice a K.length cp) :: v14 :: v15 :: v16 :: v17 :: (.int .i64 ((k + 1 : Nat) : Int)) :: u19 :: u20 :: u21 :: u22 :: u23 :: v24 :: v25 :: v26 :: v27 :: v28 :: v29 :: v30 :: v31 :: v32 :: v33 :: v34 :: v35 :: v36 :: v37 :: v38 :: v39 :: v40 :: v41 :: v42 :: v43 :: v44 :: v45 :: v46 :: v47 :: v48 :: v49 :: v50 :: v51 :: v52 :: v53 :: v54 :: v55 :: v56 :: v57 :: v58 :: v59 :: v60 :: v61 :: v62 :: v63 :: v64 :: v65 :: v66 :: v67 :: v68 :: v69 :: v70 :: v71 :: v72 :: v73 :: v74 :: v75 :: v76 :: v77 :: v78 :: v79 :: v80 :: v81 :: v82 :: v83 :: v84 :: v85 :: v86 :: v87 :: v88 :: v89 :: v90 :: v91 :: v92 :: v93 :: v94 :: v95 :: v96 :: v97 :: v98 :: v99 :: v100 :: v101 :: v102 :: v103 :: v104 :: v105 :: v106 :: v107 :: v108 :: v109 :: v110 :: v111 :: v112 :: v113 :: v114 :: v115 :: v116 :: v117 :: v118 :: v119 :: v120 :: v121 :: v122 :: v123 :: v124 :: v125 :: v126 :: v127 :: v128 :: v129 :: v130 :: v131 :: v132 :: v133 :: v134 :: v135 :: v136 :: v137 :: v138 :: v139 :: v140 :: v141 :: v142 :: v143 :: v144 :: v145 :: v146 :: v147 :: v148 :: v149 :: v150 :: v151 :: v152 :: v153 :: v154 :: u155 :: u156 :: u157 :: u158 :: u159 :: u160 :: u161 :: u162 :: u163 :: u164 :: u165 :: u166 :: u167 :: u168 :: u169 :: u170 :: u171 :: u172 :: u173 :: u174 :: u175 :: u176 :: u177 :: u178 :: u179 :: u180 :: u181 :: u182 :: u183 :: u184 :: u185 :: u186 :: u187 :: u188 :: u189 :: u190 :: u191 :: u192 :: u193 :: u194 :: u195 :: u196 :: u197 :: u198 :: u199 :: u200 :: u201 :: u202 :: u203 :: u204 :: u205 :: u206 :: u207 :: u208 :: u209 :: u210 :: u211 :: u212 :: u213 :: u214 :: u215 :: u216 :: u217 :: u218 :: u219 :: u220 :: u221 :: u222 :: u223 :: u224 :: u225 :: u226 :: u227 :: u228 :: u229 :: u230 :: u231 :: u232 :: u233 :: u234 :: u235 :: u236 :: []).toArray, []⟩ w)) :
    (inS Tryd.f3).wp Tryd.prog Q ⟨(v0 :: (.slice (some ⟨b, off, none⟩) n cap) :: v2 :: v3 :: v4 :: v5 :: v6 :: (.pointer (some ⟨A.h, 0, none⟩)) :: v8 :: v9 :: v10 :: (.pointer (some ⟨B.h, 0, none⟩)) :: v12 :: (.slice a K.length cp) :: v14 :: v15 :: v16 :: v17 :: (.int .i64 (k : Int)) :: v19 :: v20 :: v21 :: v22 :: v23 :: v24 :: v25 :: v26 :: v27 :: v28 :: v29 :: v30 :: v31 :: v32 :: v33 :: v34 :: v35 :: v36 :: v37 :: v38 :: v39 :: v40 :: v41 :: v42 :: v43 :: v44 :: v45 :: v46 :: v47 :: v48 :: v49 :: v50 :: v51 :: v52 :: v53 :: v54 :: v55 :: v56 :: v57 :: v58 :: v59 :: v60 :: v61 :: v62 :: v63 :: v64 :: v65 :: v66 :: v67 :: v68 :: v69 :: v70 :: v71 :: v72 :: v73 :: v74 :: v75 :: v76 :: v77 :: v78 :: v79 :: v80 :: v81 :: v82 :: v83 :: v84 :: v85 :: v86 :: v87 :: v88 :: v89 :: v90 :: v91 :: v92 :: v93 :: v94 :: v95 :: v96 :: v97 :: v98 :: v99 :: v100 :: v101 :: v102 :: v103 :: v104 :: v105 :: v106 :: v107 :: v108 :: v109 :: v110 :: v111 :: v112 :: v113 :: v114 :: v115 :: v116 :: v117 :: v118 :: v119 :: v120 :: v121 :: v122 :: v123 :: v124 :: v125 :: v126 :: v127 :: v128 :: v129 :: v130 :: v131 :: v132 :: v133 :: v134 :: v135 :: v136 :: v137 :: v138 :: v139 :: v140 :: v141 :: v142 :: v143 :: v144 :: v145 :: v146 :: v147 :: v148 :: v149 :: v150 :: v151 :: v152 :: v153 :: v154 :: v155 :: v156 :: v157 :: v158 :: v159 :: v160 :: v161 :: v162 :: v163 :: v164 :: v165 :: v166 :: v167 :: v168 :: v169 :: v170 :: v171 :: v172 :: v173 :: v174 :: v175 :: v176 :: v177 :: v178 :: v179 :: v180 :: v181 :: v182 :: v183 :: v184 :: v185 :: v186 :: v187 :: v188 :: v189 :: v190 :: v191 :: v192 :: v193 :: v194 :: v195 :: v196 :: v197 :: v198 :: v199 :: v200 :: v201 :: v202 :: v203 :: v204 :: v205 :: v206 :: v207 :: v208 :: v209 :: v210 :: v211 :: v212 :: v213 :: v214 :: v215 :: v216 :: v217 :: v218 :: v219 :: v220 :: v221 :: v222 :: v223 :: v224 :: v225 :: v226 :: v227 :: v228 :: v229 :: v230 :: v231 :: v232 :: v233 :: v234 :: v235 :: v236 :: []).toArray, []⟩ wr := by
  conv => arg 2; whnf
  have HFa : Hid (∀ w, PH 73 95 [] w A X → TR w → Calls Tryd.prog 12 #[.pointer (some ⟨A.h, 0, none⟩), .int .u32 ova, .int .i64 oa, .bool of, .int .i64 op, .bool om] w fun e w' => e = .returned (.tuple #[.agg #[.int .i64 ((fiF X ova oa of op om).1.1).asid, .int .i64 ((fiF X ova oa of op om).1.1).t.size, .int .u32 ((fiF X ova oa of op om).1.1).t.va, .int .u64 ((fiF X ova oa of op om).1.1).t.pa, .int .i64 ((fiF X ova oa of op om).1.1).t.dom, .int .i64 ((fiF X ova oa of op om).1.1).t.ap, .int .u32 ((fiF X ova oa of op om).1.1).t.bits, .bool ((fiF X ova oa of op om).1.1).t.ng, .bool ((fiF X ova oa of op om).1.1).t.xn], .int .i64 (((fiF X ova oa of op om).1.2 : Nat) : Int)]) ∧ PH 73 95 [] w' A (fiF X ova oa of op om).2 ∧ Turn A.S w w') := hidW (fun w k1 k2 => hfind_any w A X ova oa of op om k1 k2 hva)
  have HFb : Hid (∀ w, PH 73 95 [] w B Y → TR w → Calls Tryd.prog 12 #[.pointer (some ⟨B.h, 0, none⟩), .int .u32 ova, .int .i64 oa, .bool (!of), .int .i64 pk, .bool (!om)] w fun e w' => e = .returned (.tuple #[.agg #[.int .i64 ((fiF Y ova oa (!of) pk (!om)).1.1).asid, .int .i64 ((fiF Y ova oa (!of) pk (!om)).1.1).t.size, .int .u32 ((fiF Y ova oa (!of) pk (!om)).1.1).t.va, .int .u64 ((fiF Y ova oa (!of) pk (!om)).1.1).t.pa, .int .i64 ((fiF Y ova oa (!of) pk (!om)).1.1).t.dom, .int .i64 ((fiF Y ova oa (!of) pk (!om)).1.1).t.ap, .int .u32 ((fiF Y ova oa (!of) pk (!om)).1.1).t.bits, .bool ((fiF Y ova oa (!of) pk (!om)).1.1).t.ng, .bool ((fiF Y ova oa (!of) pk (!om)).1.1).t.xn], .int .i64 (((fiF Y ova oa (!of) pk (!om)).1.2 : Nat) : Int)]) ∧ PH 73 95 [] w' B (fiF Y ova oa (!of) pk (!om)).2 ∧ Turn B.S w w') := hidW (fun w k1 k2 => hfind_any w B Y ova oa (!of) pk (!om) k1 k2 hva)
  have HP : Hid (PI (fiF X ova oa of op om).2 (fiF Y ova oa (!of) pk (!om)).2 K) := hidW ⟨HI.out.ia.find _ _ _ _ _, HI.out.ib.find _ _ _ _ _, HI.out.ua.find _ _ _ _ _, HI.out.ub.find _ _ _ _ _, HI.out.ap⟩
  have HOa : Hid ((fiF X ova oa of op om).1.2 = 1 → (fiF X ova oa of op om).1.1 ∈ K ∧ ovF (fiF X ova oa of op om).1.1 ova oa = true) := hidW (fun h1 => fi_one HI.out.ia h1)
  have HOb : Hid ((fiF Y ova oa (!of) pk (!om)).1.2 = 1 → (fiF Y ova oa (!of) pk (!om)).1.1 ∈ K ∧ ovF (fiF Y ova oa (!of) pk (!om)).1.1 ova oa = true) := hidW (fun h1 => fi_one HI.out.ib h1)
  have HAp := hidW HI.out.ap
  generalize (fiF X ova oa of op om) = R1 at *
  generalize (fiF Y ova oa (!of) pk (!om)) = R2 at *
  obtain ⟨⟨rb, rn⟩, X'⟩ := R1
  obtain ⟨⟨sb, sn⟩, Y'⟩ := R2
  dsimp only at HFa HFb HP HOa HOb hr1 hr2
  subst hr1 hr2
  have HAm : Hid (∀ w b, QX W w A B X' Y' K (.slice a K.length cp) → b ∈ K → Calls Tryd.prog 13 #[.slice a K.length cp, .agg #[.int .i64 b.asid, .int .i64 b.t.size, .int .u32 b.t.va, .int .u64 b.t.pa, .int .i64 b.t.dom, .int .i64 b.t.ap, .int .u32 b.t.bits, .bool b.t.ng, .bool b.t.xn]] w fun e w' => e = .returned (.bool true) ∧ Below w.heap.size w w') := hidW (fun w b h1 hb => h1.among hkl hb)
  have HMa := hidW (HOa.out rfl)
  have HCa := hidW (fun w hw => HAm.out w rb hw HMa.out.1)
  have HMb := hidW (HOb.out rfl)
  have HCb := hidW (fun w hw => HAm.out w sb hw HMb.out.1)
  have hsame : sb = rb := aps_same HAp.out HMb.out.1 HMa.out.1 (ov_li HMb.out.2) (ov_li HMa.out.2)
  subst hsame
  have he := eqB sb sb
  rw [Blo.same_self] at he
  clear HOa HOb HAp HI
  clear HMa
  clear HMb
  have HZ := hidW (box_big wr 44 [.int .i64 0, .int .i64 0, .int .i64 0, .int .i64 0, .int .u32 0, .bool false, .bool false, .int .i64 0, .int .i64 0, .int .u32 0, .int .u64 0, .int .i64 0, .int .i64 0, .int .u32 0, .bool false, .bool false, .int .i64 0, .int .u32 0, .int .i64 0] [.int .i64 ok, .int .i64 oa, .int .i64 op, .int .i64 ow, .int .u32 ova, .bool of, .bool om, .int .i64 ob.asid, .int .i64 ob.t.size, .int .u32 ob.t.va, .int .u64 ob.t.pa, .int .i64 ob.t.dom, .int .i64 ob.t.ap, .int .u32 ob.t.bits, .bool ob.t.ng, .bool ob.t.xn, .int .i64 od.kind, .int .u32 od.va, .int .i64 od.asid] rfl)
  have HTh := hidW (there_new wr 44 [.int .i64 0, .int .i64 0, .int .i64 0, .int .i64 0, .int .u32 0, .bool false, .bool false, .int .i64 0, .int .i64 0, .int .u32 0, .int .u64 0, .int .i64 0, .int .i64 0, .int .u32 0, .bool false, .bool false, .int .i64 0, .int .u32 0, .int .i64 0] 19 rfl)
  have HBx : Hid (Bl ((wr.alloc (.cells ([.int .i64 0, .int .i64 0, .int .i64 0, .int .i64 0, .int .u32 0, .bool false, .bool false, .int .i64 0, .int .i64 0, .int .u32 0, .int .u64 0, .int .i64 0, .int .i64 0, .int .u32 0, .bool false, .bool false, .int .i64 0, .int .u32 0, .int .i64 0]).toArray 44)).setCells wr.heap.size 0 [.int .i64 ok, .int .i64 oa, .int .i64 op, .int .i64 ow, .int .u32 ova, .bool of, .bool om, .int .i64 ob.asid, .int .i64 ob.t.size, .int .u32 ob.t.va, .int .u64 ob.t.pa, .int .i64 ob.t.dom, .int .i64 ob.t.ap, .int .u32 ob.t.bits, .bool ob.t.ng, .bool ob.t.xn, .int .i64 od.kind, .int .u32 od.va, .int .i64 od.asid]) wr.heap.size 44 [.int .i64 ok, .int .i64 oa, .int .i64 op, .int .i64 ow, .int .u32 ova, .bool of, .bool om, .int .i64 ob.asid, .int .i64 ob.t.size, .int .u32 ob.t.va, .int .u64 ob.t.pa, .int .i64 ob.t.dom, .int .i64 ob.t.ap, .int .u32 ob.t.bits, .bool ob.t.ng, .bool ob.t.xn, .int .i64 od.kind, .int .u32 od.va, .int .i64 od.asid]) := hidW HZ.out.1
  replace HX := hidW (HX.out.step HZ.out.2)
  clear HZ
  go_wp2_with (first | (guard_target =~ wpList _ _ _ (Oper.mk (some 164) _ _ _ _ _ :: _) _ _; refine wpList_load_mid rfl _ _ rfl b (off + k * 19) rfl [.int .i64 ok, .int .i64 oa, .int .i64 op, .int .i64 ow, .int .u32 ova, .bool of, .bool om, .int .i64 ob.asid, .int .i64 ob.t.size, .int .u32 ob.t.va, .int .u64 ob.t.pa, .int .i64 ob.t.dom, .int .i64 ob.t.ap, .int .u32 ob.t.bits, .bool ob.t.ng, .bool ob.t.xn, .int .i64 od.kind, .int .u32 od.va, .int .i64 od.asid] _ HR.out Tryd.underlying44 rfl (by kernel_rfl) ?_; clear HR) | (guard_target =~ wpList _ _ _ (Oper.mk none _ _ _ _ _ :: []) _ _; refine wpList_store_mid rfl _ _ _ rfl wr.heap.size 0 [.int .i64 ok, .int .i64 oa, .int .i64 op, .int .i64 ow, .int .u32 ova, .bool of, .bool om, .int .i64 ob.asid, .int .i64 ob.t.size, .int .u32 ob.t.va, .int .u64 ob.t.pa, .int .i64 ob.t.dom, .int .i64 ob.t.ap, .int .u32 ob.t.bits, .bool ob.t.ng, .bool ob.t.xn, .int .i64 od.kind, .int .u32 od.va, .int .i64 od.asid].toArray rfl rfl HTh.out (by kernel_rfl) (ol_one ⟨ok, oa, op, ow, ova, of, om, ob, od⟩) ?_; clear HTh; generalize World.setCells _ _ _ _ = w6 at *; generalize wr.heap.size = C at *; have c1 := HBx.out.cell))
  go_at_call 12
  refine (HFa.out _ HX.out.pa (HT.out _ HX.out.bel)).mono ?_
  rintro e w7 ⟨rfl, hp, hT⟩
  replace HBx := hidW ((HBx.out.turn hT (fun hs => by obtain ⟨c, hc⟩ := HX.out.pa.row _ hs; exact HBx.out.ne hc (by decide) rfl)).below (below_new _ (.cells ([.int .i64 sb.asid, .int .i64 sb.t.size, .int .u32 sb.t.va, .int .u64 sb.t.pa, .int .i64 sb.t.dom, .int .i64 sb.t.ap, .int .u32 sb.t.bits, .bool sb.t.ng, .bool sb.t.xn]).toArray 38)))
  replace HX := hidW ((HX.out.turnA hp hT).step (below_new _ (.cells ([.int .i64 sb.asid, .int .i64 sb.t.size, .int .u32 sb.t.va, .int .u64 sb.t.pa, .int .i64 sb.t.dom, .int .i64 sb.t.ap, .int .u32 sb.t.bits, .bool sb.t.ng, .bool sb.t.xn]).toArray 38)))
  have HBy := hidW (Bl.new w7 38 ([.int .i64 sb.asid, .int .i64 sb.t.size, .int .u32 sb.t.va, .int .u64 sb.t.pa, .int .i64 sb.t.dom, .int .i64 sb.t.ap, .int .u32 sb.t.bits, .bool sb.t.ng, .bool sb.t.xn]))
  clear hp hT HFa c1
  have c1 := HBx.out.cell
  go_wp2_with (fail)
  go_at_call 12
  generalize World.alloc _ _ = w8 at *
  generalize w7.heap.size = D at *
  refine (HFb.out _ HX.out.pb (HT.out _ HX.out.bel)).mono ?_
  rintro e w9 ⟨rfl, hp, hT⟩
  replace HBy := hidW ((HBy.out.turn hT (fun hs => by obtain ⟨c, hc⟩ := HX.out.pb.row _ hs; exact HBy.out.ne hc (by decide) rfl)).below (below_new _ (.cells ([.int .i64 sb.asid, .int .i64 sb.t.size, .int .u32 sb.t.va, .int .u64 sb.t.pa, .int .i64 sb.t.dom, .int .i64 sb.t.ap, .int .u32 sb.t.bits, .bool sb.t.ng, .bool sb.t.xn]).toArray 38)))
  replace HX := hidW ((HX.out.turnB hp hT).step (below_new _ (.cells ([.int .i64 sb.asid, .int .i64 sb.t.size, .int .u32 sb.t.va, .int .u64 sb.t.pa, .int .i64 sb.t.dom, .int .i64 sb.t.ap, .int .u32 sb.t.bits, .bool sb.t.ng, .bool sb.t.xn]).toArray 38)))
  have HBz := hidW (Bl.new w9 38 ([.int .i64 sb.asid, .int .i64 sb.t.size, .int .u32 sb.t.va, .int .u64 sb.t.pa, .int .i64 sb.t.dom, .int .i64 sb.t.ap, .int .u32 sb.t.bits, .bool sb.t.ng, .bool sb.t.xn]))
  clear hp hT HFb c1 HBx
  have c2 := HBy.out.cell
  have c3 := HBz.out.cell
  go_wp2_with (fail)
  go_at_call 13
  generalize World.alloc _ _ = w10 at *
  generalize w9.heap.size = E at *
  refine (HCa.out _ HX.out).mono ?_
  rintro e w11 ⟨rfl, hb⟩
  replace HX := hidW (HX.out.step hb)
  replace HBy := hidW (HBy.out.below hb)
  replace HBz := hidW (HBz.out.below hb)
  clear hb HCa c2 c3
  have c2 := HBy.out.cell
  have c3 := HBz.out.cell
  go_wp2_with (fail)
  go_at_call 13
  refine (HCb.out _ HX.out).mono ?_
  rintro e w12 ⟨rfl, hb⟩
  replace HX := hidW (HX.out.step hb)
  replace HBy := hidW (HBy.out.below hb)
  replace HBz := hidW (HBz.out.below hb)
  clear hb HCb c2 c3
  have c2 := HBy.out.cell
  have c3 := HBz.out.cell
  go_wp2
  exact HQ.out HX.out HP.out
end Go.Proofs.YtbbnodhpafiplaaDoor
namespace Go.Proofs.YtbbnodhpafiplaaDoor
open Go.RowKit
set_option linter.unusedVariables false
set_option linter.unusedSimpArgs false
theorem Scr.rng {W w : World} {a : Option Addr} {ops : List Opr} (h : Scr W a ops) (hb : Below W.heap.size W w) {k : Nat} (hk : k < ops.length) :
    ∃ o b off, ops[k]? = some o ∧ a = some ⟨b, off, none⟩ ∧ OOk o ∧ w.rangeAt b (off + k * 19) ([.int .i64 o.kind, .int .i64 o.asid, .int .i64 o.pick, .int .i64 o.which, .int .u32 o.va, .bool o.fetch, .bool o.mfirst, .int .i64 o.b.asid, .int .i64 o.b.t.size, .int .u32 o.b.t.va, .int .u64 o.b.t.pa, .int .i64 o.b.t.dom, .int .i64 o.b.t.ap, .int .u32 o.b.t.bits, .bool o.b.t.ng, .bool o.b.t.xn, .int .i64 o.d.kind, .int .u32 o.d.va, .int .i64 o.d.asid]) := by
  obtain ⟨b, off, ha, hlt, hc⟩ := h.1 k ops[k] (List.getElem?_eq_getElem hk)
  refine ⟨ops[k], b, off, List.getElem?_eq_getElem hk, ha, h.2 _ (List.getElem_mem _), fun j v hv => ?_⟩
  rw [← hc j v hv]
  exact hb.cell (p := ⟨b, off + k * 19 + j, none⟩) hlt
theorem IsK.at {W : World} {a : Option Addr} {ks : List Blo} (h : IsK W a ks) {k : Nat} (hk : k < ks.length) :
    ∃ x b off, a = some ⟨b, off, none⟩ ∧ BOk x ∧ ∀ w, Below W.heap.size W w → w.cell? ⟨b, off + k * 9, none⟩ = some (.int .i64 x.asid) ∧ w.cell? ⟨b, off + k * 9 + 1, none⟩ = some (.int .i64 x.t.size) ∧ w.cell? ⟨b, off + k * 9 + 2, none⟩ = some (.int .u32 x.t.va) ∧ w.cell? ⟨b, off + k * 9 + 3, none⟩ = some (.int .u64 x.t.pa) ∧ w.cell? ⟨b, off + k * 9 + 4, none⟩ = some (.int .i64 x.t.dom) ∧ w.cell? ⟨b, off + k * 9 + 5, none⟩ = some (.int .i64 x.t.ap) ∧ w.cell? ⟨b, off + k * 9 + 6, none⟩ = some (.int .u32 x.t.bits) ∧ w.cell? ⟨b, off + k * 9 + 7, none⟩ = some (.bool x.t.ng) ∧ w.cell? ⟨b, off + k * 9 + 8, none⟩ = some (.bool x.t.xn) := by
  obtain ⟨b, off, ha, hlt, hc⟩ := h.1 k ks[k] (List.getElem?_eq_getElem hk)
  refine ⟨ks[k], b, off, ha, h.2 _ (List.getElem_mem _), fun w hb => ?_⟩
  have e : ∀ j v, ([.int .i64 (ks[k]).asid, .int .i64 (ks[k]).t.size, .int .u32 (ks[k]).t.va, .int .u64 (ks[k]).t.pa, .int .i64 (ks[k]).t.dom, .int .i64 (ks[k]).t.ap, .int .u32 (ks[k]).t.bits, .bool (ks[k]).t.ng, .bool (ks[k]).t.xn])[j]? = some v → w.cell? ⟨b, off + k * 9 + j, none⟩ = some v := fun j v hv => by
    rw [← hc j v hv]
    exact hb.cell (p := ⟨b, off + k * 9 + j, none⟩) hlt
  exact ⟨e 0 _ rfl, e 1 _ rfl, e 2 _ rfl, e 3 _ rfl, e 4 _ rfl, e 5 _ rfl, e 6 _ rfl, e 7 _ rfl, e 8 _ rfl⟩
theorem IsI.at {W w : World} {a : Option Addr} {zs : List Int} (h : IsI W a zs) (hb : Below W.heap.size W w) {k : Nat} (hk : k < zs.length) :
    ∃ z b off, a = some ⟨b, off, none⟩ ∧ (-9223372036854775808 ≤ z ∧ z ≤ 9223372036854775807) ∧ w.cell? ⟨b, off + k, none⟩ = some (.int .i64 z) := by
  obtain ⟨b, off, ha, hlt, hc⟩ := h.1 k zs[k] (List.getElem?_eq_getElem hk)
  refine ⟨zs[k], b, off, ha, h.2 _ (List.getElem_mem _), ?_⟩
  rw [← hc]
  exact hb.cell (p := ⟨b, off + k, none⟩) hlt
/-- The first one, the numbers of places. -/
structure ZX (W wr : World) (A : Ad) (C : Nat) (x0 x1 x2 : Int) : Prop where
  bel : Below W.heap.size W wr
  pa : PH 73 95 [] wr A (zH 1 1 1)
  na : ∀ x, A.S x → W.heap.size ≤ x
  arr : Bl wr C 29 [.int .i64 x0, .int .i64 x1, .int .i64 x2]
  hC : W.heap.size ≤ C
  o0 : Okn x0
  o1 : Okn x1
  o2 : Okn x2
def inR (f : Func) : Code := sq2 (sq2 (sq2 (sq2 (f.body.getD .skip))))
set_option maxRecDepth 1000000 in
set_option maxHeartbeats 64000000 in
theorem order_R {v0 v3 v4 v5 v6 v10 v11 v12 v13 v14 v15 v16 v17 v18 v19 v20 v21 v22 v23 v24 v25 v26 v27 v28 v29 v30 v31 v32 v33 v34 v35 v36 v37 v38 v39 v40 v41 v42 v43 v44 v45 v46 v47 v48 v49 v50 v51 v52 v53 v54 v55 v56 v57 v58 v59 v60 v61 v62 v63 v64 v65 v66 v67 v68 v69 v70 v71 v72 v73 v74 v75 v76 v77 v78 v79 v80 v81 v82 v83 v84 v85 v86 v87 v88 v89 v90 v91 v92 v93 v94 v95 v96 v97 v98 v99 v100 v101 v102 v103 v104 v105 v106 v107 v108 v109 v110 v111 v112 v113 v114 v115 v116 v117 v118 v119 v120 v121 v122 v123 v124 v125 v126 v127 v128 v129 v130 v131 v132 v133 v134 v135 v136 v137 v138 v139 v140 v141 v142 v143 v144 v145 v146 v147 v148 v149 v150 v151 v152 v153 v154 v155 v156 v157 v158 v159 v160 v161 v162 v163 v164 v165 v166 v167 v168 v169 v170 v171 v172 v173 v174 v175 v176 v177 v178 v179 v180 v181 v182 v183 v184 v185 v186 v187 v188 v189 v190 v191 v192 v193 v194 v195 v196 v197 v198 v199 v200 v201 v202 v203 v204 v205 v206 v207 v208 v209 v210 v211 v212 v213 v214 v215 v216 v217 v218 v219 v220 v221 v222 v223 v224 v225 v226 v227 v228 v229 v230 v231 v232 v233 v234 v235 v236 : Value} (W wr : World) (A : Ad) (C n cap1 kn kcap : Nat) (x0 x1 x2 : Int) (sa1 sa2 : Option Addr) (ops : List Opr) (ks : List Blo) (hn : n ≤ 9223372036854775807) (HM : Hid (ops.length = n)) (HMk : Hid (ks.length = kn)) (HS : Hid (Scr W sa1 ops)) (HK : Hid (IsK W sa2 ks)) (HL : Hid (kn * 56 ≤ 140737488351232)) (HT : Hid (∀ w, Below W.heap.size W w → TR w)) (HZ : Hid (ZX W wr A C x0 x1 x2)) :
    (inR Tryd.f3).wp Tryd.prog (bodyPost Tryd.prog Tryd.f3 (fun e w' => e = .returned (.bool true) ∧ Below W.heap.size W w')) ⟨(v0 :: (.slice sa1 n cap1) :: (.slice sa2 kn kcap) :: v3 :: v4 :: v5 :: v6 :: (.pointer (some ⟨A.h, 0, none⟩)) :: (.int .i64 0) :: (.pointer (some ⟨C, 0, none⟩)) :: v10 :: v11 :: v12 :: v13 :: v14 :: v15 :: v16 :: v17 :: v18 :: v19 :: v20 :: v21 :: v22 :: v23 :: v24 :: v25 :: v26 :: v27 :: v28 :: v29 :: v30 :: v31 :: v32 :: v33 :: v34 :: v35 :: v36 :: v37 :: v38 :: v39 :: v40 :: v41 :: v42 :: v43 :: v44 :: v45 :: v46 :: v47 :: v48 :: v49 :: v50 :: v51 :: v52 :: v53 :: v54 :: v55 :: v56 :: v57 :: v58 :: v59 :: v60 :: v61 :: v62 :: v63 :: v64 :: v65 :: v66 :: v67 :: v68 :: v69 :: v70 :: v71 :: v72 :: v73 :: v74 :: v75 :: v76 :: v77 :: v78 :: v79 :: v80 :: v81 :: v82 :: v83 :: v84 :: v85 :: v86 :: v87 :: v88 :: v89 :: v90 :: v91 :: v92 :: v93 :: v94 :: v95 :: v96 :: v97 :: v98 :: v99 :: v100 :: v101 :: v102 :: v103 :: v104 :: v105 :: v106 :: v107 :: v108 :: v109 :: v110 :: v111 :: v112 :: v113 :: v114 :: v115 :: v116 :: v117 :: v118 :: v119 :: v120 :: v121 :: v122 :: v123 :: v124 :: v125 :: v126 :: v127 :: v128 :: v129 :: v130 :: v131 :: v132 :: v133 :: v134 :: v135 :: v136 :: v137 :: v138 :: v139 :: v140 :: v141 :: v142 :: v143 :: v144 :: v145 :: v146 :: v147 :: v148 :: v149 :: v150 :: v151 :: v152 :: v153 :: v154 :: v155 :: v156 :: v157 :: v158 :: v159 :: v160 :: v161 :: v162 :: v163 :: v164 :: v165 :: v166 :: v167 :: v168 :: v169 :: v170 :: v171 :: v172 :: v173 :: v174 :: v175 :: v176 :: v177 :: v178 :: v179 :: v180 :: v181 :: v182 :: v183 :: v184 :: v185 :: v186 :: v187 :: v188 :: v189 :: v190 :: v191 :: v192 :: v193 :: v194 :: v195 :: v196 :: v197 :: v198 :: v199 :: v200 :: v201 :: v202 :: v203 :: v204 :: v205 :: v206 :: v207 :: v208 :: v209 :: v210 :: v211 :: v212 :: v213 :: v214 :: v215 :: v216 :: v217 :: v218 :: v219 :: v220 :: v221 :: v222 :: v223 :: v224 :: v225 :: v226 :: v227 :: v228 :: v229 :: v230 :: v231 :: v232 :: v233 :: v234 :: v235 :: v236 :: []).toArray, []⟩ wr := by
  conv => arg 2; whnf
  have hkn : kn ≤ 9223372036854775807 := by have := HL.out; omega
  have HN := hidW (hnew_yes x0 x1 x2 wr ⟨HZ.out.o0, HZ.out.o1, HZ.out.o2⟩)
  have c1 := HZ.out.arr.cell
  go_wp2_with (fail)
  go_at_call 8
  refine HN.out.mono ?_
  rintro e w1 ⟨B, rfl, hp, hb, hnb⟩
  have HX : Hid (QX W w1 A B (zH 1 1 1) (zH x0 x1 x2) [] (.slice none 0 0)) := hidW ⟨Below.step HZ.out.bel hb, HZ.out.pa.below hb, hp, fun x hx hy => by have h1 := HZ.out.pa.lt x hx; have h2 := hnb x hy; omega, HZ.out.na, fun x hx => Nat.le_trans HZ.out.bel.size (hnb x hx), Ob.nil _ _, fun b hb => by cases hb⟩
  have HI : Hid (PI (zH 1 1 1) (zH x0 x1 x2) []) := hidW ⟨Inv.zeros _ _ _, Inv.zeros _ _ _, UniH.zeros _ _ _, UniH.zeros _ _ _, .nil⟩
  clear hp hb hnb HN c1 HZ
  go_wp2
  go_loopw [13, 14] (fun v i wr => ∃ (k : Nat) (X Y : Hi) (K : List Blo), k ≤ kn ∧ i = .int .i64 k ∧ K.length ≤ k ∧ PI X Y K ∧ QX W wr A B X Y K v) (fun _ i _ => kn - (intOf i).toNat)
  case atStart => exact ⟨0, _, _, [], by omega, rfl, by simp, HI.out, HX.out⟩
  case round =>
    clear HX HI
    obtain ⟨k, X, Y, K, hk, rfl, hkl, hI, hX⟩ := hrel
    obtain ⟨a, cp, rfl, _⟩ := hX.own.rb
    have HX := hidW hX
    have HI := hidW hI
    have HKl := hidW hkl
    clear hX hI hkl
    by_cases hlt : k < kn
    · obtain ⟨x, b, off, rfl, hbo, hc⟩ := HK.out.at (k := k) (by rw [HMk.out]; exact hlt)
      have HB := hidW hbo
      have HC := hidW hc
      clear hbo hc HK HS HM HMk
      cases hr : bR x
      · refine order_K0 (fun {_ _ d _ _} h => by cases d <;> exact h) W _ A B X Y K x a cp b off kn kcap k hlt HL HKl HT HX HI HB HC (by rw [hr]; rfl) ?_
        refine hidW ?_
        intros
        rename_i wq X' Y' M hX hI hM
        go_roundw
        case rel =>
          (repeat apply Exists.intro)
          refine ⟨?_, rfl⟩
          exact ⟨k + 1, X', Y', M, by omega, rfl, hM, hI, hX⟩
        case measure => simp [intOf]; omega
      · cases hal : K.all (fun y => apF y x)
        · refine order_K0 (fun {_ _ d _ _} h => by cases d <;> exact h) W _ A B X Y K x a cp b off kn kcap k hlt HL HKl HT HX HI HB HC (by rw [hal, Bool.and_false]) ?_
          refine hidW ?_
          intros
          rename_i wq X' Y' M hX hI hM
          go_roundw
          case rel =>
            (repeat apply Exists.intro)
            refine ⟨?_, rfl⟩
            exact ⟨k + 1, X', Y', M, by omega, rfl, hM, hI, hX⟩
          case measure => simp [intOf]; omega
        · refine order_K1 (fun {_ _ d _ _} h => by cases d <;> exact h) W _ A B X Y K x a cp b off kn kcap k hlt HL HKl HT HX HI HB HC hr hal ?_
          refine hidW ?_
          intros
          rename_i wq X' Y' M hX hI hM
          go_roundw
          case rel =>
            (repeat apply Exists.intro)
            refine ⟨?_, rfl⟩
            exact ⟨k + 1, X', Y', M, by omega, rfl, hM, hI, hX⟩
          case measure => simp [intOf]; omega
    · obtain rfl : k = kn := by omega
      have hkl : K.length ≤ 4611686018427387904 := by have := HKl.out; have := HL.out; omega
      clear HK HL HKl HMk hlt
      go_wp2
      generalize wr = wz at *
      go_loopw [18] (fun i wr => ∃ (j : Nat) (X Y : Hi), j ≤ n ∧ i = .int .i64 j ∧ PI X Y K ∧ QX W wr A B X Y K (.slice a K.length cp)) (fun i _ => n - (intOf i).toNat)
      case atStart => exact ⟨0, X, Y, by omega, rfl, HI.out, HX.out⟩
      case round =>
        clear HX HI
        obtain ⟨j, X, Y, hj, rfl, hI, hX⟩ := hrel
        have HX := hidW hX
        have HI := hidW hI
        clear hX hI
        by_cases hlj : j < n
        · obtain ⟨o, b, off, hok, rfl, hoo, hr⟩ := HS.out.rng HX.out.bel (k := j) (by rw [HM.out]; exact hlj)
          have HR := hidW hr
          have hva := hoo.va
          clear hok hr hoo HS HM
          obtain ⟨ok, oa, op, ow, ova, of, om, ob, od⟩ := o
          dsimp only at HR hva
          generalize hpk : IntKind.i64.wrap (-op) = pk
          have h1 := fi_two HI.out.ua HI.out.ia HI.out.ap ova oa of op om
          have h2 := fi_two HI.out.ub HI.out.ib HI.out.ap ova oa (!of) pk (!om)
          rcases (show (fiF X ova oa of op om).1.2 = 0 ∨ (fiF X ova oa of op om).1.2 = 1 by omega) with hr1 | hr1
          · rcases (show (fiF Y ova oa (!of) pk (!om)).1.2 = 0 ∨ (fiF Y ova oa (!of) pk (!om)).1.2 = 1 by omega) with hr2 | hr2
            · refine order_S00 W _ A B X Y K a cp b off j n cap1 ok oa op ow ova pk of om ob od hlj hn hkl hpk HT HX HI HR hva hr1 hr2 ?_
              refine hidW ?_
              intros
              rename_i wq X' Y' hX hI
              go_roundw
              case rel =>
                (repeat apply Exists.intro)
                refine ⟨?_, rfl⟩
                exact ⟨j + 1, X', Y', by omega, rfl, hI, hX⟩
              case measure => simp [intOf]; omega
            · refine order_S01 W _ A B X Y K a cp b off j n cap1 ok oa op ow ova pk of om ob od hlj hn hkl hpk HT HX HI HR hva hr1 hr2 ?_
              refine hidW ?_
              intros
              rename_i wq X' Y' hX hI
              go_roundw
              case rel =>
                (repeat apply Exists.intro)
                refine ⟨?_, rfl⟩
                exact ⟨j + 1, X', Y', by omega, rfl, hI, hX⟩
              case measure => simp [intOf]; omega
          · rcases (show (fiF Y ova oa (!of) pk (!om)).1.2 = 0 ∨ (fiF Y ova oa (!of) pk (!om)).1.2 = 1 by omega) with hr2 | hr2
            · refine order_S10 W _ A B X Y K a cp b off j n cap1 ok oa op ow ova pk of om ob od hlj hn hkl hpk HT HX HI HR hva hr1 hr2 ?_
              refine hidW ?_
              intros
              rename_i wq X' Y' hX hI
              go_roundw
              case rel =>
                (repeat apply Exists.intro)
                refine ⟨?_, rfl⟩
                exact ⟨j + 1, X', Y', by omega, rfl, hI, hX⟩
              case measure => simp [intOf]; omega
            · refine order_S11 W _ A B X Y K a cp b off j n cap1 ok oa op ow ova pk of om ob od hlj hn hkl hpk HT HX HI HR hva hr1 hr2 ?_
              refine hidW ?_
              intros
              rename_i wq X' Y' hX hI
              go_roundw
              case rel =>
                (repeat apply Exists.intro)
                refine ⟨?_, rfl⟩
                exact ⟨j + 1, X', Y', by omega, rfl, hI, hX⟩
              case measure => simp [intOf]; omega
        · obtain rfl : j = n := by omega
          go_wp2
          go_ret
          exact ⟨rfl, HX.out.bel⟩
end Go.Proofs.YtbbnodhpafiplaaDoor
namespace Go.Proofs.YtbbnodhpafiplaaDoor
open Go.RowKit
set_option linter.unusedVariables false
set_option linter.unusedSimpArgs false
theorem ZX.step {W wr w' : World} {A : Ad} {C : Nat} {x0 x1 x2 : Int} (h : ZX W wr A C x0 x1 x2) (hb : Below wr.heap.size wr w') : ZX W w' A C x0 x1 x2 := ⟨Below.step h.bel hb, h.pa.below hb, h.na, h.arr.below hb, h.hC, h.o0, h.o1, h.o2⟩
theorem ZX.put {W wr : World} {A : Ad} {C : Nat} {x0 x1 x2 : Int} (h : ZX W wr A C x0 x1 x2) (j : Nat) (v : Value) {y0 y1 y2 : Int} (hl : [Value.int .i64 x0, Value.int .i64 x1, Value.int .i64 x2].set j v = [Value.int .i64 y0, Value.int .i64 y1, Value.int .i64 y2]) (h0 : Okn y0) (h1 : Okn y1) (h2 : Okn y2) : ZX W (wr.setCell ⟨C, j, none⟩ v) A C y0 y1 y2 := by
  have hC := h.hC
  have ha := h.arr.set j v
  rw [hl] at ha
  have hT : Turn (· = C) wr (wr.setCell ⟨C, j, none⟩ v) := (Turn.refl (· = C) wr).setCell (p := ⟨C, j, none⟩) (.inl rfl) v
  have f : ∀ {p : Nat} {t : TypeId} {c : List Value}, Bl wr p t c → t ≠ 29 → ¬ p = C := fun hq ht => hq.ne h.arr ht
  exact ⟨Below.setCell h.bel hC _, ⟨h.pa.box.turn hT (f h.pa.box (by decide)), h.pa.ti.turn hT (f h.pa.ti.box (by decide)) (f h.pa.ti.row (by decide)), h.pa.td.turn hT (f h.pa.td.box (by decide)) (f h.pa.td.row (by decide)), h.pa.tm.turn hT (f h.pa.tm.box (by decide)) (f h.pa.tm.row (by decide)), h.pa.n1, h.pa.n2, h.pa.n3, h.pa.ne⟩, h.na, ha, h.hC, h0, h1, h2⟩
theorem tm64 (x : Int) : -64 < x.tmod 64 ∧ x.tmod 64 < 64 := by
  have := tmod_rest x 64 (by decide)
  exact ⟨this.1, this.2.1⟩
/-- The number of places out of any number. -/
def plc (z : Int) : Int := 1 + (z.tmod 64 + 64).tmod 64
theorem plc_ok (z : Int) : Okn (plc z) := by
  unfold plc Okn
  have h1 := Int.tmod_lt_of_pos z (show (0 : Int) < 64 by decide)
  obtain ⟨h2, _⟩ := tm64 z
  have h3 := Int.tmod_lt_of_pos (z.tmod 64 + 64) (show (0 : Int) < 64 by decide)
  have h4 := Int.tmod_nonneg 64 (show 0 ≤ z.tmod 64 + 64 by omega)
  omega
set_option maxRecDepth 1000000 in
set_option maxHeartbeats 64000000 in
theorem law_order (W : World) (sa0 : Option Addr) (cap0 : Nat) (zs : List Int) (hS0 : IsI W sa0 zs) (hl0 : zs.length ≤ maxLen) (sa1 : Option Addr) (cap1 : Nat) (ops : List Opr) (hS1 : Scr W sa1 ops) (hl1 : ops.length ≤ maxLen) (sa2 : Option Addr) (cap2 : Nat) (ks : List Blo) (hS2 : IsK W sa2 ks) (hT : TR W) (hl2 : ks.length ≤ maxLen) (hlw : ks.length * 56 ≤ 140737488351232) :
    Calls Tryd.prog 3 #[.slice sa0 zs.length cap0, .slice sa1 ops.length cap1, .slice sa2 ks.length cap2] W fun e w' => e = .returned (.bool true) ∧ Below W.heap.size W w' := by
  unfold maxLen at hl0 hl1 hl2
  have HT : Hid (∀ w, Below W.heap.size W w → TR w) := hidW (fun w hb => hT.below hb)
  have HS0 := hidW hS0
  have HS1 := hidW hS1
  have HS2 := hidW hS2
  have HL := hidW hlw
  have HN := hidW (hnew_yes 1 1 1 W ⟨⟨by decide, by decide⟩, ⟨by decide, by decide⟩, by decide, by decide⟩)
  generalize hn0 : zs.length = n0 at *
  generalize hn1 : ops.length = n1 at *
  generalize hn2 : ks.length = n2 at *
  have HM0 := hidW hn0
  have HM1 := hidW hn1
  have HM2 := hidW hn2
  clear hT hS0 hS1 hS2 hlw hn0 hn1 hn2 hl2
  go_enter Tryd.func3, Tryd.ntmps3
  go_wp2_with (fail)
  go_at_call 8
  refine HN.out.mono ?_
  rintro e w1 ⟨A, rfl, hp, hb, hna⟩
  have HZ : Hid (ZX W (w1.alloc (.cells ([.int .i64 64, .int .i64 64, .int .i64 64]).toArray 29)) A w1.heap.size 64 64 64) := hidW ⟨Below.step hb (below_new _ _), hp.below (below_new _ _), hna, Bl.new _ _ _, hb.size, ⟨by decide, by decide⟩, ⟨by decide, by decide⟩, ⟨by decide, by decide⟩⟩
  clear hp hb hna HN
  go_wp2
  generalize World.alloc _ _ = w2 at *
  generalize w1.heap.size = C at *
  rename_i Q' KK hKK
  have HKK := hidW hKK
  clear hKK
  go_loopw [10] (fun i wr => ∃ (j : Nat) (x0 x1 x2 : Int), j ≤ 3 ∧ i = .int .i64 j ∧ ZX W wr A C x0 x1 x2) (fun i _ => 3 - (intOf i).toNat)
  case atStart => exact ⟨0, 64, 64, 64, by omega, rfl, HZ.out⟩
  case round =>
    clear HZ
    obtain ⟨j, x0, x1, x2, hj, rfl, hX⟩ := hrel
    have HZ := hidW hX
    clear hX
    by_cases hj3 : j < 3
    · by_cases hlt : j < n0
      · obtain ⟨z, b, off, rfl, hz, hc⟩ := HS0.out.at HZ.out.bel (k := j) (by rw [HM0.out]; exact hlt)
        obtain ⟨h2, h1⟩ := tm64 z
        have t1 : IntKind.i64.wrap (z.tmod 64) = z.tmod 64 := by rw [IntKind.wrap_i64]; omega
        have t2 : IntKind.i64.wrap (z.tmod 64 + 64) = z.tmod 64 + 64 := by rw [IntKind.wrap_i64]; omega
        obtain ⟨h4, h3⟩ := tm64 (z.tmod 64 + 64)
        have t3 : IntKind.i64.wrap ((z.tmod 64 + 64).tmod 64) = (z.tmod 64 + 64).tmod 64 := by rw [IntKind.wrap_i64]; omega
        have t4 : IntKind.i64.wrap (1 + (z.tmod 64 + 64).tmod 64) = 1 + (z.tmod 64 + 64).tmod 64 := by rw [IntKind.wrap_i64]; omega
        have HOk : Hid (Okn (1 + (z.tmod 64 + 64).tmod 64)) := hidW (plc_ok z)
        clear hz h1 h2 h3 h4 HS0 HM0
        have a1 := HZ.out.arr.cell
        have a2 := HZ.out.arr.frozen
        have a3 := HZ.out.arr.lt
        rcases (show j = 0 ∨ j = 1 ∨ j = 2 by omega) with rfl | rfl | rfl
        · have HZ2 := hidW (HZ.out.put 0 (.int .i64 (1 + (z.tmod 64 + 64).tmod 64)) (y0 := 1 + (z.tmod 64 + 64).tmod 64) (y1 := x1) (y2 := x2) rfl HOk.out HZ.out.o1 HZ.out.o2)
          clear HZ HOk
          rw [Nat.add_zero] at hc
          go_wp2
          go_roundw
          case rel => exact ⟨1, 1 + (z.tmod 64 + 64).tmod 64, x1, x2, by omega, by go_num, HZ2.out⟩
          case measure => simp [intOf]
        · have HZ2 := hidW (HZ.out.put 1 (.int .i64 (1 + (z.tmod 64 + 64).tmod 64)) (y0 := x0) (y1 := 1 + (z.tmod 64 + 64).tmod 64) (y2 := x2) rfl HZ.out.o0 HOk.out HZ.out.o2)
          clear HZ HOk
          go_wp2
          go_roundw
          case rel => exact ⟨2, x0, 1 + (z.tmod 64 + 64).tmod 64, x2, by omega, by go_num, HZ2.out⟩
          case measure => simp [intOf]
        · have HZ2 := hidW (HZ.out.put 2 (.int .i64 (1 + (z.tmod 64 + 64).tmod 64)) (y0 := x0) (y1 := x1) (y2 := 1 + (z.tmod 64 + 64).tmod 64) rfl HZ.out.o0 HZ.out.o1 HOk.out)
          clear HZ HOk
          go_wp2
          go_roundw
          case rel => exact ⟨3, x0, x1, 1 + (z.tmod 64 + 64).tmod 64, by omega, by go_num, HZ2.out⟩
          case measure => simp [intOf]
      · clear HS0 HM0
        go_wp2
        refine HKK.out _ _ ?_
        exact order_R W _ A C n1 cap1 n2 cap2 x0 x1 x2 sa1 sa2 ops ks (by omega) HM1 HM2 HS1 HS2 HL HT HZ
    · obtain rfl : j = 3 := by omega
      clear HS0 HM0
      go_wp2
      refine HKK.out _ _ ?_
      exact order_R W _ A C n1 cap1 n2 cap2 x0 x1 x2 sa1 sa2 ops ks (by omega) HM1 HM2 HS1 HS2 HL HT HZ
end Go.Proofs.YtbbnodhpafiplaaDoor
