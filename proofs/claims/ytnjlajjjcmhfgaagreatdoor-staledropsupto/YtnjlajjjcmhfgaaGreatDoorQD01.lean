import Derived.Test.YtnjlajjjcmhfgaaGreatDoorQD00
namespace Go.Proofs.YtnjlajjjcmhfgaaGreatDoor
open Go.RowKit
open Mm (Turn gr RM valV errV Byts setV RowAt)
set_option linter.unusedVariables false
set_option linter.unusedSimpArgs false
attribute [local go_sem] Oper.semAt_some
def cnA2 : Code → Code
  | .cond _ a _ => a
  | c => c
def sq12 : Code → Code
  | .seq x _ => x
  | c => c
def drI (f : Func) : Code := sq2 (sq2 (cnA2 (sq2 (sq12 (sq2 (sq2 (sq2 (drM f))))))))
theorem Pst.k_mem {K : List Blo} {k : Nat} {b : Blo} (h : K[k]? = some b) : b ∈ K := List.mem_of_getElem? h
set_option maxRecDepth 1000000 in
set_option maxHeartbeats 16000000 in
theorem drops_in {Q : Exit → Act → World → Prop} {v0 v1 v2 v3 v5 v6 v7 v8 v9 v10 v12 v13 v14 v15 v16 v19 v20 v21 v22 v23 v24 v25 v26 v27 v28 v29 v30 v31 v32 v33 v34 v35 v36 v37 v38 v39 v40 v41 v42 v43 v44 v45 v46 v47 v48 v49 v50 v51 v52 v53 v54 v55 v56 v57 v58 v59 v60 v61 v62 v63 v64 v65 v66 v67 v68 v69 v70 v71 v72 v73 v74 v75 v76 v77 v78 v79 v80 v81 v82 v83 v84 v85 v86 v87 v88 v89 v90 v91 v92 v93 v94 v95 v96 v97 v98 v99 v100 v101 v102 v103 v104 v105 v106 v107 v108 v109 v110 v111 v112 v113 v114 v115 v116 v117 v118 v119 v120 v121 v122 v123 v124 v125 v126 v127 v128 v129 v130 v131 v132 v133 v134 v135 v136 v137 v138 v139 v140 v141 v142 v143 v144 v145 v146 v147 v148 v149 v150 v151 v152 v153 v154 v155 v156 v157 v158 v159 v160 v161 v162 v163 v164 v165 v166 v167 v168 v169 v170 v171 v172 v173 v174 v175 v176 v177 v178 v179 v180 v181 v182 v183 v184 v185 v186 v187 v188 v189 v190 v191 v192 v193 v194 v195 v196 v197 v198 v199 v200 v201 v202 v203 v204 v205 v206 v207 v208 v209 v210 v211 v212 v213 v214 v215 v216 v217 v218 v219 v220 v221 v222 v223 v224 v225 v226 v227 v228 v229 v230 v231 v232 v233 v234 : Value} (G : Nat → Prop) (W W0 w : World) (x p kb jb : Nat) (wv iv : Value) (f : Int) (vp vw vc : Value) (σ : Pst) (off : Int) (ho : 0 ≤ off ∧ off < 4294967296) (lb lo cl n k : Nat) (b : Blo) (hx : SgX G W0 w x p kb jb wv iv f vp vw vc σ) (hs : Sml σ) (hSl : Sli encB 9 w (.slice (some ⟨lb, lo, none⟩) n cl) σ.K) (hk : σ.K[k]? = some b) (hkn : k < n) (hpan : ∀ {c : List PanicEntry} {a : Act} {d : Option Tmp} {v : Value} {w : World}, Q (.panic c) (a.put d v) w → Q (.panic c) a w)
    (HQ : Hid (∀ {u19 u20 u141 u142 u143 u144 u145 u146 u147 u148 u149 u150 u151 u152 u153 u154 u155 u156 u157 u158 u159 u160 u161 u162 u163 u164 u165 u166 u167 u168 u169 u170 u171 u172 u173 u174 u175 : Value} {w' : World} {τ : Pst}, SgX (fun _ => False) W0 w' x p kb jb wv iv f vp vw vc τ → Sml τ → Q .normal ⟨#[v0, v1, v2, v3, .int .u32 off, v5, v6, v7, v8, v9, v10, .pointer (some ⟨x, 0, none⟩), v12, v13, v14, v15, v16, .slice (some ⟨lb, lo, none⟩) n cl, .int .i64 k, u19, u20, v21, v22, v23, v24, v25, v26, v27, v28, v29, v30, v31, v32, v33, v34, v35, v36, v37, v38, v39, v40, v41, v42, v43, v44, v45, v46, v47, v48, v49, v50, v51, v52, v53, v54, v55, v56, v57, v58, v59, v60, v61, v62, v63, v64, v65, v66, v67, v68, v69, v70, v71, v72, v73, v74, v75, v76, v77, v78, v79, v80, v81, v82, v83, v84, v85, v86, v87, v88, v89, v90, v91, v92, v93, v94, v95, v96, v97, v98, v99, v100, v101, v102, v103, v104, v105, v106, v107, v108, v109, v110, v111, v112, v113, v114, v115, v116, v117, v118, v119, v120, v121, v122, v123, v124, v125, v126, v127, v128, v129, v130, v131, v132, v133, v134, v135, v136, v137, v138, v139, v140, u141, u142, u143, u144, u145, u146, u147, u148, u149, u150, u151, u152, u153, u154, u155, u156, u157, u158, u159, u160, u161, u162, u163, u164, u165, u166, u167, u168, u169, u170, u171, u172, u173, u174, u175, v176, v177, v178, v179, v180, v181, v182, v183, v184, v185, v186, v187, v188, v189, v190, v191, v192, v193, v194, v195, v196, v197, v198, v199, v200, v201, v202, v203, v204, v205, v206, v207, v208, v209, v210, v211, v212, v213, v214, v215, v216, v217, v218, v219, v220, v221, v222, v223, v224, v225, v226, v227, v228, v229, v230, v231, v232, v233, v234], []⟩ w')) :
    (drI Tryz.f4).wp Tryz.prog Q ⟨#[v0, v1, v2, v3, .int .u32 off, v5, v6, v7, v8, v9, v10, .pointer (some ⟨x, 0, none⟩), v12, v13, v14, v15, v16, .slice (some ⟨lb, lo, none⟩) n cl, .int .i64 k, v19, v20, v21, v22, v23, v24, v25, v26, v27, v28, v29, v30, v31, v32, v33, v34, v35, v36, v37, v38, v39, v40, v41, v42, v43, v44, v45, v46, v47, v48, v49, v50, v51, v52, v53, v54, v55, v56, v57, v58, v59, v60, v61, v62, v63, v64, v65, v66, v67, v68, v69, v70, v71, v72, v73, v74, v75, v76, v77, v78, v79, v80, v81, v82, v83, v84, v85, v86, v87, v88, v89, v90, v91, v92, v93, v94, v95, v96, v97, v98, v99, v100, v101, v102, v103, v104, v105, v106, v107, v108, v109, v110, v111, v112, v113, v114, v115, v116, v117, v118, v119, v120, v121, v122, v123, v124, v125, v126, v127, v128, v129, v130, v131, v132, v133, v134, v135, v136, v137, v138, v139, v140, v141, v142, v143, v144, v145, v146, v147, v148, v149, v150, v151, v152, v153, v154, v155, v156, v157, v158, v159, v160, v161, v162, v163, v164, v165, v166, v167, v168, v169, v170, v171, v172, v173, v174, v175, v176, v177, v178, v179, v180, v181, v182, v183, v184, v185, v186, v187, v188, v189, v190, v191, v192, v193, v194, v195, v196, v197, v198, v199, v200, v201, v202, v203, v204, v205, v206, v207, v208, v209, v210, v211, v212, v213, v214, v215, v216, v217, v218, v219, v220, v221, v222, v223, v224, v225, v226, v227, v228, v229, v230, v231, v232, v233, v234], []⟩ w := by
  have hkz : (k : Int) < (n : Int) := by omega
  have hK := hs.ok.ok b (List.mem_of_getElem? hk)
  obtain ⟨b1, o1, e1, _, x0, x1, x2, x3, x4, x5, x6, x7, x8⟩ := hSl.blo (Below.refl _ _) hk
  cases e1
  have hsz : 1 ≤ b.t.size ∧ b.t.size ≤ 4 := by have := hK.sz; omega
  have hby : 4096 ≤ byN b.t.size ∧ byN b.t.size ≤ 16777216 := by
    rcases hK.sz with e | e | e | e <;> rw [e] <;> decide
  have htop := ri_top hK.ri hK.ok.va
  have hr0 := Int.emod_nonneg off (show byN b.t.size ≠ 0 by omega)
  have hr1 := Int.emod_lt_of_pos off (show 0 < byN b.t.size by omega)
  have hva := hK.ok.va
  have HX0 := hidW (hx.more (G' := fun y => y = w.heap.size) (below_new w (.cells ([.int .i64 b.asid, .int .i64 b.t.size, .int .u32 b.t.va, .int .u64 b.t.pa, .int .i64 b.t.dom, .int .i64 b.t.ap, .int .u32 b.t.bits, .bool b.t.ng, .bool b.t.xn]).toArray 45)) (fun y hy => by subst hy; exact .inr ⟨Nat.le_refl _, by simp⟩))
  have HXd := hidW (HX0.out.below (below_drew (Below.refl _ _)))
  have HBx := hidW (Bl.new w 45 ([.int .i64 b.asid, .int .i64 b.t.size, .int .u32 b.t.va, .int .u64 b.t.pa, .int .i64 b.t.dom, .int .i64 b.t.ap, .int .u32 b.t.bits, .bool b.t.ng, .bool b.t.xn]))
  have HBy := hidW (fun ww => lbytes_any ww b hsz)
  have HT1 := hidW (fun n hn => take_page hK hr0 hr1 (n := n) hn)
  have HS := hidW hs
  have HMb := hidW (List.mem_of_getElem? hk)
  have hsa := hK.sa
  clear hx hs hSl hk hK
  generalize hby' : byN b.t.size = y at *
  clear hby'
  have hw1 : IntKind.u64.wrap off = off := by rw [IntKind.wrap_u64]; omega
  have hw2 : IntKind.u32.wrap (off % y) = off % y := by rw [IntKind.wrap_u32]; exact Int.emod_eq_of_lt hr0 (by omega)
  have hw3 : IntKind.u32.wrap (b.t.va + off % y) = b.t.va + off % y := by rw [IntKind.wrap_u32]; exact Int.emod_eq_of_lt (by omega) (by omega)
  have hy0 : 0 < y := by omega
  have hy1 : y ≠ 0 := by omega
  have hy2 : off.tmod y = off % y := Int.tmod_eq_emod_of_nonneg ho.1
  have hm : 0 ≤ off % 256 ∧ off % 256 < 256 := ⟨Int.emod_nonneg _ (by decide), Int.emod_lt_of_pos _ (by decide)⟩
  by_cases hneg : b.asid < 0
  · have HD := hidW (fun ww τ h => SgX.drop (G := fun y => y = w.heap.size) (W := W0) (w := ww) (x := x) (p := p) (kb := kb) (jb := jb) (wv := wv) (iv := iv) (f := f) (vp := vp) (vw := vw) (vc := vc) (σ := τ) h ⟨2, b.t.va + off % y, off % 256⟩ (by dsimp only; omega))
    have HNo : Hid (((drK ⟨2, b.t.va + off % y, off % 256⟩ σ.K).any fun z => z.same b) = false) := by
      refine List.any_eq_false.2 (fun z hz hh => ?_)
      rw [(Blo.same_iff z b).1 hh] at hz
      have h1 := (List.mem_filter.1 hz).2
      rw [HT1.out (off % 256) (by omega)] at h1
      cases h1
    have HSc := hidW (HS.out.drop ⟨2, b.t.va + off % y, off % 256⟩)
    have HH : Hid (∀ (ww : World) τ, SgX (fun y => y = w.heap.size) W0 ww x p kb jb wv iv f vp vw vc τ → Bl ww w.heap.size 45 ([.int .i64 b.asid, .int .i64 b.t.size, .int .u32 b.t.va, .int .u64 b.t.pa, .int .i64 b.t.dom, .int .i64 b.t.ap, .int .u32 b.t.bits, .bool b.t.ng, .bool b.t.xn]) → ww.cell? ⟨x, 4, none⟩ = some (.pointer (some ⟨p, 0, none⟩)) ∧ ww.cell? ⟨w.heap.size, 0, none⟩ = some (.int .i64 b.asid) ∧ ww.cell? ⟨w.heap.size, 1, none⟩ = some (.int .i64 b.t.size) ∧ ww.cell? ⟨w.heap.size, 2, none⟩ = some (.int .u32 b.t.va) ∧ ww.cell? ⟨w.heap.size, 3, none⟩ = some (.int .u64 b.t.pa) ∧ ww.cell? ⟨w.heap.size, 4, none⟩ = some (.int .i64 b.t.dom) ∧ ww.cell? ⟨w.heap.size, 5, none⟩ = some (.int .i64 b.t.ap) ∧ ww.cell? ⟨w.heap.size, 6, none⟩ = some (.int .u32 b.t.bits) ∧ ww.cell? ⟨w.heap.size, 7, none⟩ = some (.bool b.t.ng) ∧ ww.cell? ⟨w.heap.size, 8, none⟩ = some (.bool b.t.xn)) := fun ww τ h1 h2 => ⟨h1.box.cell 4, h2.cell 0, h2.cell 1, h2.cell 2, h2.cell 3, h2.cell 4, h2.cell 5, h2.cell 6, h2.cell 7, h2.cell 8⟩
    have HJ := hidW (HH.out _ _ HXd.out HBx.out.drew)
    simp only [drI, drM, sq2, sq12, cnA2, Tryz.f4, Option.getD]
    go_wp2_with fail
    refine wp_region_held_drew (S := fun ww => ww.cell? ⟨x, 4, none⟩ = some (.pointer (some ⟨p, 0, none⟩)) ∧ ww.cell? ⟨w.heap.size, 0, none⟩ = some (.int .i64 b.asid) ∧ ww.cell? ⟨w.heap.size, 1, none⟩ = some (.int .i64 b.t.size) ∧ ww.cell? ⟨w.heap.size, 2, none⟩ = some (.int .u32 b.t.va) ∧ ww.cell? ⟨w.heap.size, 3, none⟩ = some (.int .u64 b.t.pa) ∧ ww.cell? ⟨w.heap.size, 4, none⟩ = some (.int .i64 b.t.dom) ∧ ww.cell? ⟨w.heap.size, 5, none⟩ = some (.int .i64 b.t.ap) ∧ ww.cell? ⟨w.heap.size, 6, none⟩ = some (.int .u32 b.t.bits) ∧ ww.cell? ⟨w.heap.size, 7, none⟩ = some (.bool b.t.ng) ∧ ww.cell? ⟨w.heap.size, 8, none⟩ = some (.bool b.t.xn)) (by kernel_rfl) ?_ (fun hHeld => ?_)
    · exact HJ.out
    refine wpAnyH_take (i := 0) (oi := { dst := some 152, op := Op.move (Operand.tmp 11), type := 28, pos := _, after := #[], guard := none }) (v := ?_) rfl (by kernel_rfl) (by kernel_rfl) (by kernel_rfl) (fun _ _ _ h => hpan h) (Or.inl ⟨by rfl, ?_⟩) (by assumption) ?_
    rotate_left
    · (intro w hSw; (try dsimp only at hSw); go_simp; try with_reducible rfl)
    simp only [Act.put, List.setIfInBounds_toArray, List.set_cons_zero, List.set_cons_succ]
    refine wpAnyH_take (i := 1) (oi := { dst := some 153, op := Op.nilCheck (Operand.tmp 152), type := 0, pos := _, after := #[{ on := 0, ground := Ground.data }], guard := none }) (v := ?_) rfl (by kernel_rfl) (by kernel_rfl) (by kernel_rfl) (fun _ _ _ h => hpan h) (Or.inl ⟨by rfl, ?_⟩) (by assumption) ?_
    rotate_left
    · (intro w hSw; (try dsimp only at hSw); go_simp; try with_reducible rfl)
    simp only [Act.put, List.setIfInBounds_toArray, List.set_cons_zero, List.set_cons_succ]
    refine wpAnyH_take (i := 2) (oi := { dst := some 154, op := Op.fieldAddr 54 (Operand.tmp 153) 1, type := 0, pos := _, after := #[{ on := 1, ground := Ground.data }], guard := none }) (v := ?_) rfl (by kernel_rfl) (by kernel_rfl) (by kernel_rfl) (fun _ _ _ h => hpan h) (Or.inl ⟨by rfl, ?_⟩) (by assumption) ?_
    rotate_left
    · (intro w hSw; (try dsimp only at hSw); go_simp; try with_reducible rfl)
    simp only [Act.put, List.setIfInBounds_toArray, List.set_cons_zero, List.set_cons_succ]
    refine wpAnyH_take (i := 3) (oi := { dst := some 155, op := Op.load 49 (Operand.tmp 154), type := 49, pos := _, after := #[{ on := 2, ground := Ground.data }], guard := none }) (v := ?_) rfl (by kernel_rfl) (by kernel_rfl) (by kernel_rfl) (fun _ _ _ h => hpan h) (Or.inl ⟨by rfl, ?_⟩) (by assumption) ?_
    rotate_left
    · (intro w hSw; (try dsimp only at hSw); go_simp; try with_reducible rfl)
    simp only [Act.put, List.setIfInBounds_toArray, List.set_cons_zero, List.set_cons_succ]
    refine wpAnyH_take (i := 4) (oi := { dst := some 156, op := Op.fieldAddr 45 (Operand.tmp 19) 1, type := 0, pos := _, after := #[], guard := none }) (v := ?_) rfl (by kernel_rfl) (by kernel_rfl) (by kernel_rfl) (fun _ _ _ h => hpan h) (Or.inl ⟨by rfl, ?_⟩) (by assumption) ?_
    rotate_left
    · (intro w hSw; (try dsimp only at hSw); go_simp; try with_reducible rfl)
    simp only [Act.put, List.setIfInBounds_toArray, List.set_cons_zero, List.set_cons_succ]
    refine wpAnyH_take (i := 5) (oi := { dst := some 157, op := Op.fieldAddr 43 (Operand.tmp 156) 1, type := 0, pos := _, after := #[{ on := 4, ground := Ground.data }], guard := none }) (v := ?_) rfl (by kernel_rfl) (by kernel_rfl) (by kernel_rfl) (fun _ _ _ h => hpan h) (Or.inl ⟨by rfl, ?_⟩) (by assumption) ?_
    rotate_left
    · (intro w hSw; (try dsimp only at hSw); go_simp; try with_reducible rfl)
    simp only [Act.put, List.setIfInBounds_toArray, List.set_cons_zero, List.set_cons_succ]
    refine wpAnyH_take (i := 6) (oi := { dst := some 158, op := Op.load 32 (Operand.tmp 157), type := 32, pos := _, after := #[{ on := 5, ground := Ground.data }], guard := none }) (v := ?_) rfl (by kernel_rfl) (by kernel_rfl) (by kernel_rfl) (fun _ _ _ h => hpan h) (Or.inl ⟨by rfl, ?_⟩) (by assumption) ?_
    rotate_left
    · (intro w hSw; (try dsimp only at hSw); go_simp; try with_reducible rfl)
    simp only [Act.put, List.setIfInBounds_toArray, List.set_cons_zero, List.set_cons_succ]
    refine wpAnyH_take (i := 7) (oi := { dst := some 159, op := Op.move (Operand.tmp 4), type := 32, pos := _, after := #[], guard := none }) (v := ?_) rfl (by kernel_rfl) (by kernel_rfl) (by kernel_rfl) (fun _ _ _ h => hpan h) (Or.inl ⟨by rfl, ?_⟩) (by assumption) ?_
    rotate_left
    · (intro w hSw; (try dsimp only at hSw); go_simp; try with_reducible rfl)
    simp only [Act.put, List.setIfInBounds_toArray, List.set_cons_zero, List.set_cons_succ]
    refine wpAnyH_take (i := 8) (oi := { dst := some 160, op := Op.convert 32 35 (Operand.tmp 159), type := 35, pos := _, after := #[{ on := 7, ground := Ground.data }], guard := none }) (v := ?_) rfl (by kernel_rfl) (by kernel_rfl) (by kernel_rfl) (fun _ _ _ h => hpan h) (Or.inl ⟨by rfl, ?_⟩) (by assumption) ?_
    rotate_left
    · (intro w hSw; (try dsimp only at hSw); go_simp; try with_reducible rfl)
    simp only [Act.put, List.setIfInBounds_toArray, List.set_cons_zero, List.set_cons_succ]
    refine wpAnyH_take (i := 9) (oi := { dst := some 161, op := Op.load 45 (Operand.tmp 19), type := 45, pos := _, after := #[], guard := none }) (v := ?_) rfl (by kernel_rfl) (by kernel_rfl) (by kernel_rfl) (fun _ _ _ h => hpan h) (Or.inl ⟨by rfl, ?_⟩) (by assumption) ?_
    rotate_left
    · (intro w hSw; (try dsimp only at hSw); go_simp; try with_reducible rfl)
    simp only [Act.put, List.setIfInBounds_toArray, List.set_cons_zero, List.set_cons_succ]
    refine wpAnyH_take (i := 14) (oi := { dst := some 166, op := Op.move (Operand.tmp 20), type := 3, pos := _, after := #[], guard := none }) (v := ?_) rfl (by kernel_rfl) (by kernel_rfl) (by kernel_rfl) (fun _ _ _ h => hpan h) (Or.inl ⟨by rfl, ?_⟩) (by assumption) ?_
    rotate_left
    · (intro w hSw; (try dsimp only at hSw); go_simp; try with_reducible rfl)
    simp only [Act.put, List.setIfInBounds_toArray, List.set_cons_zero, List.set_cons_succ]
    refine wpAnyH_ready (rs := [10]) (by kernel_rfl) (by simp) ?_
    refine AllReadyH.cons (o := { dst := some 162, op := Op.call { callee := Callee.value (Operand.func 26), args := #[Operand.tmp 161], argTypes := #[45] }, type := 35, pos := _, after := #[{ on := 9, ground := Ground.data }], guard := none }) rfl (fun K hK => ?_) AllReadyH.nil
    go_simp
    (go_at_call 26; refine (HBy.out _).mono ?_; rintro e wa ⟨rfl, ga⟩; have HXa := hidW (HXd.out.below ga); have HBa := hidW ((HBx.out.drew).below ga); have HJ := hidW (HH.out wa σ HXa.out HBa.out); have HDa := hidW (HD.out wa σ HXa.out (by have := HS.out.known; omega)); clear ga)
    refine hK.out _ _ ?_ (fun hHeld => ?_)
    · ((try dsimp only); with_reducible exact HJ.out)
    clear hK K
    try simp only [Act.put, List.setIfInBounds_toArray, List.set_cons_zero, List.set_cons_succ]
    refine wpAnyH_take (i := 11) (oi := { dst := some 163, op := Op.binOp BinOp.rem 35 (Operand.tmp 160) (Operand.tmp 162) 35, type := 35, pos := _, after := #[{ on := 8, ground := Ground.data }, { on := 10, ground := Ground.data }], guard := none }) (v := ?_) rfl (by kernel_rfl) (by kernel_rfl) (by kernel_rfl) (fun _ _ _ h => hpan h) (Or.inl ⟨by rfl, ?_⟩) (by assumption) ?_
    rotate_left
    · (intro w hSw; (try dsimp only at hSw); go_simp; try with_reducible rfl)
    simp only [Act.put, List.setIfInBounds_toArray, List.set_cons_zero, List.set_cons_succ]
    refine wpAnyH_take (i := 12) (oi := { dst := some 164, op := Op.convert 35 32 (Operand.tmp 163), type := 32, pos := _, after := #[{ on := 11, ground := Ground.data }], guard := none }) (v := ?_) rfl (by kernel_rfl) (by kernel_rfl) (by kernel_rfl) (fun _ _ _ h => hpan h) (Or.inl ⟨by rfl, ?_⟩) (by assumption) ?_
    rotate_left
    · (intro w hSw; (try dsimp only at hSw); go_simp; try with_reducible rfl)
    simp only [Act.put, List.setIfInBounds_toArray, List.set_cons_zero, List.set_cons_succ]
    refine wpAnyH_take (i := 13) (oi := { dst := some 165, op := Op.binOp BinOp.add 32 (Operand.tmp 158) (Operand.tmp 164) 32, type := 32, pos := _, after := #[{ on := 6, ground := Ground.data }, { on := 12, ground := Ground.data }], guard := none }) (v := ?_) rfl (by kernel_rfl) (by kernel_rfl) (by kernel_rfl) (fun _ _ _ h => hpan h) (Or.inl ⟨by rfl, ?_⟩) (by assumption) ?_
    rotate_left
    · (intro w hSw; (try dsimp only at hSw); go_simp; try with_reducible rfl)
    simp only [Act.put, List.setIfInBounds_toArray, List.set_cons_zero, List.set_cons_succ]
    refine wpAnyH_take (i := 15) (oi := { dst := some 167, op := Op.build 34 #[(0, Operand.const (Value.int IntKind.i64 2)), (1, Operand.tmp 165), (2, Operand.tmp 166)], type := 34, pos := _, after := #[{ on := 13, ground := Ground.data }, { on := 14, ground := Ground.data }], guard := none }) (v := ?_) rfl (by kernel_rfl) (by kernel_rfl) (by kernel_rfl) (fun _ _ _ h => hpan h) (Or.inl ⟨by rfl, ?_⟩) (by assumption) ?_
    rotate_left
    · (intro w hSw; (try dsimp only at hSw); go_simp; try with_reducible rfl)
    simp only [Act.put, List.setIfInBounds_toArray, List.set_cons_zero, List.set_cons_succ]
    refine wpAnyH_ready (rs := [16]) (by kernel_rfl) (by simp) ?_
    refine AllReadyH.cons (o := { dst := some 168, op := Op.call { callee := Callee.value (Operand.func 25), args := #[Operand.tmp 155, Operand.tmp 167], argTypes := #[49, 34] }, type := 3, pos := _, after := #[{ on := 3, ground := Ground.data }, { on := 15, ground := Ground.data }, { on := 10, ground := Ground.chain }], guard := none }) rfl (fun K hK => ?_) AllReadyH.nil
    go_simp
    (go_at_call 25; refine HDa.out.mono ?_; rintro e wb ⟨rfl, gb, qb⟩; have HXb := hidW gb; have HBb : Hid (Bl wb w.heap.size 45 ([.int .i64 b.asid, .int .i64 b.t.size, .int .u32 b.t.va, .int .u64 b.t.pa, .int .i64 b.t.dom, .int .i64 b.t.ap, .int .u32 b.t.bits, .bool b.t.ng, .bool b.t.xn])) := (qb _ rfl).trans HBa.out; have HJ := hidW (HH.out wb _ HXb.out HBb.out); clear gb qb)
    refine hK.out _ _ ?_ (fun hHeld => ?_)
    · ((try dsimp only); with_reducible exact HJ.out)
    clear hK K
    try simp only [Act.put, List.setIfInBounds_toArray, List.set_cons_zero, List.set_cons_succ]
    refine wpAnyH_done (by kernel_rfl) ?_ _
    have HXc := hidW (HXb.out.below (below_drew (Below.refl _ wb)))
    have HBc := hidW HBb.out.drew
    have HJ := hidW (HH.out _ _ HXc.out HBc.out)
    go_wp2_with fail
    refine wp_region_held_drew (S := fun ww => ww.cell? ⟨x, 4, none⟩ = some (.pointer (some ⟨p, 0, none⟩)) ∧ ww.cell? ⟨w.heap.size, 0, none⟩ = some (.int .i64 b.asid) ∧ ww.cell? ⟨w.heap.size, 1, none⟩ = some (.int .i64 b.t.size) ∧ ww.cell? ⟨w.heap.size, 2, none⟩ = some (.int .u32 b.t.va) ∧ ww.cell? ⟨w.heap.size, 3, none⟩ = some (.int .u64 b.t.pa) ∧ ww.cell? ⟨w.heap.size, 4, none⟩ = some (.int .i64 b.t.dom) ∧ ww.cell? ⟨w.heap.size, 5, none⟩ = some (.int .i64 b.t.ap) ∧ ww.cell? ⟨w.heap.size, 6, none⟩ = some (.int .u32 b.t.bits) ∧ ww.cell? ⟨w.heap.size, 7, none⟩ = some (.bool b.t.ng) ∧ ww.cell? ⟨w.heap.size, 8, none⟩ = some (.bool b.t.xn)) (by kernel_rfl) ?_ (fun hHeld => ?_)
    · exact HJ.out
    refine wpAnyH_take (i := 0) (oi := { dst := some 169, op := Op.move (Operand.tmp 11), type := 28, pos := _, after := #[], guard := none }) (v := ?_) rfl (by kernel_rfl) (by kernel_rfl) (by kernel_rfl) (fun _ _ _ h => hpan h) (Or.inl ⟨by rfl, ?_⟩) (by assumption) ?_
    rotate_left
    · (intro w hSw; (try dsimp only at hSw); go_simp; try with_reducible rfl)
    simp only [Act.put, List.setIfInBounds_toArray, List.set_cons_zero, List.set_cons_succ]
    refine wpAnyH_take (i := 1) (oi := { dst := some 170, op := Op.nilCheck (Operand.tmp 169), type := 0, pos := _, after := #[{ on := 0, ground := Ground.data }], guard := none }) (v := ?_) rfl (by kernel_rfl) (by kernel_rfl) (by kernel_rfl) (fun _ _ _ h => hpan h) (Or.inl ⟨by rfl, ?_⟩) (by assumption) ?_
    rotate_left
    · (intro w hSw; (try dsimp only at hSw); go_simp; try with_reducible rfl)
    simp only [Act.put, List.setIfInBounds_toArray, List.set_cons_zero, List.set_cons_succ]
    refine wpAnyH_take (i := 2) (oi := { dst := some 171, op := Op.fieldAddr 54 (Operand.tmp 170) 1, type := 0, pos := _, after := #[{ on := 1, ground := Ground.data }], guard := none }) (v := ?_) rfl (by kernel_rfl) (by kernel_rfl) (by kernel_rfl) (fun _ _ _ h => hpan h) (Or.inl ⟨by rfl, ?_⟩) (by assumption) ?_
    rotate_left
    · (intro w hSw; (try dsimp only at hSw); go_simp; try with_reducible rfl)
    simp only [Act.put, List.setIfInBounds_toArray, List.set_cons_zero, List.set_cons_succ]
    refine wpAnyH_take (i := 3) (oi := { dst := some 172, op := Op.load 49 (Operand.tmp 171), type := 49, pos := _, after := #[{ on := 2, ground := Ground.data }], guard := none }) (v := ?_) rfl (by kernel_rfl) (by kernel_rfl) (by kernel_rfl) (fun _ _ _ h => hpan h) (Or.inl ⟨by rfl, ?_⟩) (by assumption) ?_
    rotate_left
    · (intro w hSw; (try dsimp only at hSw); go_simp; try with_reducible rfl)
    simp only [Act.put, List.setIfInBounds_toArray, List.set_cons_zero, List.set_cons_succ]
    refine wpAnyH_take (i := 5) (oi := { dst := some 174, op := Op.load 45 (Operand.tmp 19), type := 45, pos := _, after := #[], guard := none }) (v := ?_) rfl (by kernel_rfl) (by kernel_rfl) (by kernel_rfl) (fun _ _ _ h => hpan h) (Or.inl ⟨by rfl, ?_⟩) (by assumption) ?_
    rotate_left
    · (intro w hSw; (try dsimp only at hSw); go_simp; try with_reducible rfl)
    simp only [Act.put, List.setIfInBounds_toArray, List.set_cons_zero, List.set_cons_succ]
    refine wpAnyH_ready (rs := [4]) (by kernel_rfl) (by simp) ?_
    refine AllReadyH.cons (o := { dst := some 173, op := Op.call { callee := Callee.value (Operand.func 20), args := #[Operand.tmp 172], argTypes := #[49] }, type := 31, pos := _, after := #[{ on := 3, ground := Ground.data }], guard := none }) rfl (fun K hK => ?_) AllReadyH.nil
    go_simp
    (go_at_call 20; refine (HXc.out.tk.known HSc.out.known).mono ?_; rintro e wk ⟨vk, rfl, hLk, gk⟩; have HSk := hidW (Sli.of (k := 9) (fun _ => rfl) hLk); obtain ⟨ak, capk, rfl⟩ := hLk.form; have HXk := hidW (HXc.out.below gk); have HBk := hidW (HBc.out.below gk); have HJ := hidW (HH.out wk _ HXk.out HBk.out); clear gk hLk)
    refine hK.out _ _ ?_ (fun hHeld => ?_)
    · ((try dsimp only); with_reducible exact HJ.out)
    clear hK K
    try simp only [Act.put, List.setIfInBounds_toArray, List.set_cons_zero, List.set_cons_succ]
    refine wpAnyH_ready (rs := [6]) (by kernel_rfl) (by simp) ?_
    refine AllReadyH.cons (o := { dst := some 175, op := Op.call { callee := Callee.value (Operand.func 16), args := #[Operand.tmp 173, Operand.tmp 174], argTypes := #[31, 45] }, type := 4, pos := _, after := #[{ on := 4, ground := Ground.data }, { on := 5, ground := Ground.data }, { on := 4, ground := Ground.chain }], guard := none }) rfl (fun K hK => ?_) AllReadyH.nil
    go_simp
    (go_at_call 16; refine (has_any wk _ _ HSk.out (by have := HSc.out.known; dsimp only at this ⊢; omega) b).mono ?_; rw [HNo.out]; rintro e wh ⟨rfl, gh⟩; have HXh := hidW (HXk.out.below gh); have HBh := hidW (HBk.out.below gh); have HJ := hidW (HH.out wh _ HXh.out HBh.out); clear gh)
    refine hK.out _ _ ?_ (fun hHeld => ?_)
    · ((try dsimp only); with_reducible exact HJ.out)
    clear hK K
    try simp only [Act.put, List.setIfInBounds_toArray, List.set_cons_zero, List.set_cons_succ]
    refine wpAnyH_done (by kernel_rfl) ?_ _
    go_wp2
    exact HQ.out (HXh.out.more (Below.refl _ _) (fun y hy => hy.elim)) HSc.out
  · have HD := hidW (fun ww τ h => SgX.drop (G := fun y => y = w.heap.size) (W := W0) (w := ww) (x := x) (p := p) (kb := kb) (jb := jb) (wv := wv) (iv := iv) (f := f) (vp := vp) (vw := vw) (vc := vc) (σ := τ) h ⟨2, b.t.va + off % y, b.asid⟩ (by dsimp only; omega))
    have HNo : Hid (((drK ⟨2, b.t.va + off % y, b.asid⟩ σ.K).any fun z => z.same b) = false) := by
      refine List.any_eq_false.2 (fun z hz hh => ?_)
      rw [(Blo.same_iff z b).1 hh] at hz
      have h1 := (List.mem_filter.1 hz).2
      rw [HT1.out (b.asid) (by omega)] at h1
      cases h1
    have HSc := hidW (HS.out.drop ⟨2, b.t.va + off % y, b.asid⟩)
    have HH : Hid (∀ (ww : World) τ, SgX (fun y => y = w.heap.size) W0 ww x p kb jb wv iv f vp vw vc τ → Bl ww w.heap.size 45 ([.int .i64 b.asid, .int .i64 b.t.size, .int .u32 b.t.va, .int .u64 b.t.pa, .int .i64 b.t.dom, .int .i64 b.t.ap, .int .u32 b.t.bits, .bool b.t.ng, .bool b.t.xn]) → ww.cell? ⟨x, 4, none⟩ = some (.pointer (some ⟨p, 0, none⟩)) ∧ ww.cell? ⟨w.heap.size, 0, none⟩ = some (.int .i64 b.asid) ∧ ww.cell? ⟨w.heap.size, 1, none⟩ = some (.int .i64 b.t.size) ∧ ww.cell? ⟨w.heap.size, 2, none⟩ = some (.int .u32 b.t.va) ∧ ww.cell? ⟨w.heap.size, 3, none⟩ = some (.int .u64 b.t.pa) ∧ ww.cell? ⟨w.heap.size, 4, none⟩ = some (.int .i64 b.t.dom) ∧ ww.cell? ⟨w.heap.size, 5, none⟩ = some (.int .i64 b.t.ap) ∧ ww.cell? ⟨w.heap.size, 6, none⟩ = some (.int .u32 b.t.bits) ∧ ww.cell? ⟨w.heap.size, 7, none⟩ = some (.bool b.t.ng) ∧ ww.cell? ⟨w.heap.size, 8, none⟩ = some (.bool b.t.xn)) := fun ww τ h1 h2 => ⟨h1.box.cell 4, h2.cell 0, h2.cell 1, h2.cell 2, h2.cell 3, h2.cell 4, h2.cell 5, h2.cell 6, h2.cell 7, h2.cell 8⟩
    have HJ := hidW (HH.out _ _ HXd.out HBx.out.drew)
    simp only [drI, drM, sq2, sq12, cnA2, Tryz.f4, Option.getD]
    go_wp2_with fail
    refine wp_region_held_drew (S := fun ww => ww.cell? ⟨x, 4, none⟩ = some (.pointer (some ⟨p, 0, none⟩)) ∧ ww.cell? ⟨w.heap.size, 0, none⟩ = some (.int .i64 b.asid) ∧ ww.cell? ⟨w.heap.size, 1, none⟩ = some (.int .i64 b.t.size) ∧ ww.cell? ⟨w.heap.size, 2, none⟩ = some (.int .u32 b.t.va) ∧ ww.cell? ⟨w.heap.size, 3, none⟩ = some (.int .u64 b.t.pa) ∧ ww.cell? ⟨w.heap.size, 4, none⟩ = some (.int .i64 b.t.dom) ∧ ww.cell? ⟨w.heap.size, 5, none⟩ = some (.int .i64 b.t.ap) ∧ ww.cell? ⟨w.heap.size, 6, none⟩ = some (.int .u32 b.t.bits) ∧ ww.cell? ⟨w.heap.size, 7, none⟩ = some (.bool b.t.ng) ∧ ww.cell? ⟨w.heap.size, 8, none⟩ = some (.bool b.t.xn)) (by kernel_rfl) ?_ (fun hHeld => ?_)
    · exact HJ.out
    refine wpAnyH_take (i := 0) (oi := { dst := some 152, op := Op.move (Operand.tmp 11), type := 28, pos := _, after := #[], guard := none }) (v := ?_) rfl (by kernel_rfl) (by kernel_rfl) (by kernel_rfl) (fun _ _ _ h => hpan h) (Or.inl ⟨by rfl, ?_⟩) (by assumption) ?_
    rotate_left
    · (intro w hSw; (try dsimp only at hSw); go_simp; try with_reducible rfl)
    simp only [Act.put, List.setIfInBounds_toArray, List.set_cons_zero, List.set_cons_succ]
    refine wpAnyH_take (i := 1) (oi := { dst := some 153, op := Op.nilCheck (Operand.tmp 152), type := 0, pos := _, after := #[{ on := 0, ground := Ground.data }], guard := none }) (v := ?_) rfl (by kernel_rfl) (by kernel_rfl) (by kernel_rfl) (fun _ _ _ h => hpan h) (Or.inl ⟨by rfl, ?_⟩) (by assumption) ?_
    rotate_left
    · (intro w hSw; (try dsimp only at hSw); go_simp; try with_reducible rfl)
    simp only [Act.put, List.setIfInBounds_toArray, List.set_cons_zero, List.set_cons_succ]
    refine wpAnyH_take (i := 2) (oi := { dst := some 154, op := Op.fieldAddr 54 (Operand.tmp 153) 1, type := 0, pos := _, after := #[{ on := 1, ground := Ground.data }], guard := none }) (v := ?_) rfl (by kernel_rfl) (by kernel_rfl) (by kernel_rfl) (fun _ _ _ h => hpan h) (Or.inl ⟨by rfl, ?_⟩) (by assumption) ?_
    rotate_left
    · (intro w hSw; (try dsimp only at hSw); go_simp; try with_reducible rfl)
    simp only [Act.put, List.setIfInBounds_toArray, List.set_cons_zero, List.set_cons_succ]
    refine wpAnyH_take (i := 3) (oi := { dst := some 155, op := Op.load 49 (Operand.tmp 154), type := 49, pos := _, after := #[{ on := 2, ground := Ground.data }], guard := none }) (v := ?_) rfl (by kernel_rfl) (by kernel_rfl) (by kernel_rfl) (fun _ _ _ h => hpan h) (Or.inl ⟨by rfl, ?_⟩) (by assumption) ?_
    rotate_left
    · (intro w hSw; (try dsimp only at hSw); go_simp; try with_reducible rfl)
    simp only [Act.put, List.setIfInBounds_toArray, List.set_cons_zero, List.set_cons_succ]
    refine wpAnyH_take (i := 4) (oi := { dst := some 156, op := Op.fieldAddr 45 (Operand.tmp 19) 1, type := 0, pos := _, after := #[], guard := none }) (v := ?_) rfl (by kernel_rfl) (by kernel_rfl) (by kernel_rfl) (fun _ _ _ h => hpan h) (Or.inl ⟨by rfl, ?_⟩) (by assumption) ?_
    rotate_left
    · (intro w hSw; (try dsimp only at hSw); go_simp; try with_reducible rfl)
    simp only [Act.put, List.setIfInBounds_toArray, List.set_cons_zero, List.set_cons_succ]
    refine wpAnyH_take (i := 5) (oi := { dst := some 157, op := Op.fieldAddr 43 (Operand.tmp 156) 1, type := 0, pos := _, after := #[{ on := 4, ground := Ground.data }], guard := none }) (v := ?_) rfl (by kernel_rfl) (by kernel_rfl) (by kernel_rfl) (fun _ _ _ h => hpan h) (Or.inl ⟨by rfl, ?_⟩) (by assumption) ?_
    rotate_left
    · (intro w hSw; (try dsimp only at hSw); go_simp; try with_reducible rfl)
    simp only [Act.put, List.setIfInBounds_toArray, List.set_cons_zero, List.set_cons_succ]
    refine wpAnyH_take (i := 6) (oi := { dst := some 158, op := Op.load 32 (Operand.tmp 157), type := 32, pos := _, after := #[{ on := 5, ground := Ground.data }], guard := none }) (v := ?_) rfl (by kernel_rfl) (by kernel_rfl) (by kernel_rfl) (fun _ _ _ h => hpan h) (Or.inl ⟨by rfl, ?_⟩) (by assumption) ?_
    rotate_left
    · (intro w hSw; (try dsimp only at hSw); go_simp; try with_reducible rfl)
    simp only [Act.put, List.setIfInBounds_toArray, List.set_cons_zero, List.set_cons_succ]
    refine wpAnyH_take (i := 7) (oi := { dst := some 159, op := Op.move (Operand.tmp 4), type := 32, pos := _, after := #[], guard := none }) (v := ?_) rfl (by kernel_rfl) (by kernel_rfl) (by kernel_rfl) (fun _ _ _ h => hpan h) (Or.inl ⟨by rfl, ?_⟩) (by assumption) ?_
    rotate_left
    · (intro w hSw; (try dsimp only at hSw); go_simp; try with_reducible rfl)
    simp only [Act.put, List.setIfInBounds_toArray, List.set_cons_zero, List.set_cons_succ]
    refine wpAnyH_take (i := 8) (oi := { dst := some 160, op := Op.convert 32 35 (Operand.tmp 159), type := 35, pos := _, after := #[{ on := 7, ground := Ground.data }], guard := none }) (v := ?_) rfl (by kernel_rfl) (by kernel_rfl) (by kernel_rfl) (fun _ _ _ h => hpan h) (Or.inl ⟨by rfl, ?_⟩) (by assumption) ?_
    rotate_left
    · (intro w hSw; (try dsimp only at hSw); go_simp; try with_reducible rfl)
    simp only [Act.put, List.setIfInBounds_toArray, List.set_cons_zero, List.set_cons_succ]
    refine wpAnyH_take (i := 9) (oi := { dst := some 161, op := Op.load 45 (Operand.tmp 19), type := 45, pos := _, after := #[], guard := none }) (v := ?_) rfl (by kernel_rfl) (by kernel_rfl) (by kernel_rfl) (fun _ _ _ h => hpan h) (Or.inl ⟨by rfl, ?_⟩) (by assumption) ?_
    rotate_left
    · (intro w hSw; (try dsimp only at hSw); go_simp; try with_reducible rfl)
    simp only [Act.put, List.setIfInBounds_toArray, List.set_cons_zero, List.set_cons_succ]
    refine wpAnyH_take (i := 14) (oi := { dst := some 166, op := Op.move (Operand.tmp 20), type := 3, pos := _, after := #[], guard := none }) (v := ?_) rfl (by kernel_rfl) (by kernel_rfl) (by kernel_rfl) (fun _ _ _ h => hpan h) (Or.inl ⟨by rfl, ?_⟩) (by assumption) ?_
    rotate_left
    · (intro w hSw; (try dsimp only at hSw); go_simp; try with_reducible rfl)
    simp only [Act.put, List.setIfInBounds_toArray, List.set_cons_zero, List.set_cons_succ]
    refine wpAnyH_ready (rs := [10]) (by kernel_rfl) (by simp) ?_
    refine AllReadyH.cons (o := { dst := some 162, op := Op.call { callee := Callee.value (Operand.func 26), args := #[Operand.tmp 161], argTypes := #[45] }, type := 35, pos := _, after := #[{ on := 9, ground := Ground.data }], guard := none }) rfl (fun K hK => ?_) AllReadyH.nil
    go_simp
    (go_at_call 26; refine (HBy.out _).mono ?_; rintro e wa ⟨rfl, ga⟩; have HXa := hidW (HXd.out.below ga); have HBa := hidW ((HBx.out.drew).below ga); have HJ := hidW (HH.out wa σ HXa.out HBa.out); have HDa := hidW (HD.out wa σ HXa.out (by have := HS.out.known; omega)); clear ga)
    refine hK.out _ _ ?_ (fun hHeld => ?_)
    · ((try dsimp only); with_reducible exact HJ.out)
    clear hK K
    try simp only [Act.put, List.setIfInBounds_toArray, List.set_cons_zero, List.set_cons_succ]
    refine wpAnyH_take (i := 11) (oi := { dst := some 163, op := Op.binOp BinOp.rem 35 (Operand.tmp 160) (Operand.tmp 162) 35, type := 35, pos := _, after := #[{ on := 8, ground := Ground.data }, { on := 10, ground := Ground.data }], guard := none }) (v := ?_) rfl (by kernel_rfl) (by kernel_rfl) (by kernel_rfl) (fun _ _ _ h => hpan h) (Or.inl ⟨by rfl, ?_⟩) (by assumption) ?_
    rotate_left
    · (intro w hSw; (try dsimp only at hSw); go_simp; try with_reducible rfl)
    simp only [Act.put, List.setIfInBounds_toArray, List.set_cons_zero, List.set_cons_succ]
    refine wpAnyH_take (i := 12) (oi := { dst := some 164, op := Op.convert 35 32 (Operand.tmp 163), type := 32, pos := _, after := #[{ on := 11, ground := Ground.data }], guard := none }) (v := ?_) rfl (by kernel_rfl) (by kernel_rfl) (by kernel_rfl) (fun _ _ _ h => hpan h) (Or.inl ⟨by rfl, ?_⟩) (by assumption) ?_
    rotate_left
    · (intro w hSw; (try dsimp only at hSw); go_simp; try with_reducible rfl)
    simp only [Act.put, List.setIfInBounds_toArray, List.set_cons_zero, List.set_cons_succ]
    refine wpAnyH_take (i := 13) (oi := { dst := some 165, op := Op.binOp BinOp.add 32 (Operand.tmp 158) (Operand.tmp 164) 32, type := 32, pos := _, after := #[{ on := 6, ground := Ground.data }, { on := 12, ground := Ground.data }], guard := none }) (v := ?_) rfl (by kernel_rfl) (by kernel_rfl) (by kernel_rfl) (fun _ _ _ h => hpan h) (Or.inl ⟨by rfl, ?_⟩) (by assumption) ?_
    rotate_left
    · (intro w hSw; (try dsimp only at hSw); go_simp; try with_reducible rfl)
    simp only [Act.put, List.setIfInBounds_toArray, List.set_cons_zero, List.set_cons_succ]
    refine wpAnyH_take (i := 15) (oi := { dst := some 167, op := Op.build 34 #[(0, Operand.const (Value.int IntKind.i64 2)), (1, Operand.tmp 165), (2, Operand.tmp 166)], type := 34, pos := _, after := #[{ on := 13, ground := Ground.data }, { on := 14, ground := Ground.data }], guard := none }) (v := ?_) rfl (by kernel_rfl) (by kernel_rfl) (by kernel_rfl) (fun _ _ _ h => hpan h) (Or.inl ⟨by rfl, ?_⟩) (by assumption) ?_
    rotate_left
    · (intro w hSw; (try dsimp only at hSw); go_simp; try with_reducible rfl)
    simp only [Act.put, List.setIfInBounds_toArray, List.set_cons_zero, List.set_cons_succ]
    refine wpAnyH_ready (rs := [16]) (by kernel_rfl) (by simp) ?_
    refine AllReadyH.cons (o := { dst := some 168, op := Op.call { callee := Callee.value (Operand.func 25), args := #[Operand.tmp 155, Operand.tmp 167], argTypes := #[49, 34] }, type := 3, pos := _, after := #[{ on := 3, ground := Ground.data }, { on := 15, ground := Ground.data }, { on := 10, ground := Ground.chain }], guard := none }) rfl (fun K hK => ?_) AllReadyH.nil
    go_simp
    (go_at_call 25; refine HDa.out.mono ?_; rintro e wb ⟨rfl, gb, qb⟩; have HXb := hidW gb; have HBb : Hid (Bl wb w.heap.size 45 ([.int .i64 b.asid, .int .i64 b.t.size, .int .u32 b.t.va, .int .u64 b.t.pa, .int .i64 b.t.dom, .int .i64 b.t.ap, .int .u32 b.t.bits, .bool b.t.ng, .bool b.t.xn])) := (qb _ rfl).trans HBa.out; have HJ := hidW (HH.out wb _ HXb.out HBb.out); clear gb qb)
    refine hK.out _ _ ?_ (fun hHeld => ?_)
    · ((try dsimp only); with_reducible exact HJ.out)
    clear hK K
    try simp only [Act.put, List.setIfInBounds_toArray, List.set_cons_zero, List.set_cons_succ]
    refine wpAnyH_done (by kernel_rfl) ?_ _
    have HXc := hidW (HXb.out.below (below_drew (Below.refl _ wb)))
    have HBc := hidW HBb.out.drew
    have HJ := hidW (HH.out _ _ HXc.out HBc.out)
    go_wp2_with fail
    refine wp_region_held_drew (S := fun ww => ww.cell? ⟨x, 4, none⟩ = some (.pointer (some ⟨p, 0, none⟩)) ∧ ww.cell? ⟨w.heap.size, 0, none⟩ = some (.int .i64 b.asid) ∧ ww.cell? ⟨w.heap.size, 1, none⟩ = some (.int .i64 b.t.size) ∧ ww.cell? ⟨w.heap.size, 2, none⟩ = some (.int .u32 b.t.va) ∧ ww.cell? ⟨w.heap.size, 3, none⟩ = some (.int .u64 b.t.pa) ∧ ww.cell? ⟨w.heap.size, 4, none⟩ = some (.int .i64 b.t.dom) ∧ ww.cell? ⟨w.heap.size, 5, none⟩ = some (.int .i64 b.t.ap) ∧ ww.cell? ⟨w.heap.size, 6, none⟩ = some (.int .u32 b.t.bits) ∧ ww.cell? ⟨w.heap.size, 7, none⟩ = some (.bool b.t.ng) ∧ ww.cell? ⟨w.heap.size, 8, none⟩ = some (.bool b.t.xn)) (by kernel_rfl) ?_ (fun hHeld => ?_)
    · exact HJ.out
    refine wpAnyH_take (i := 0) (oi := { dst := some 169, op := Op.move (Operand.tmp 11), type := 28, pos := _, after := #[], guard := none }) (v := ?_) rfl (by kernel_rfl) (by kernel_rfl) (by kernel_rfl) (fun _ _ _ h => hpan h) (Or.inl ⟨by rfl, ?_⟩) (by assumption) ?_
    rotate_left
    · (intro w hSw; (try dsimp only at hSw); go_simp; try with_reducible rfl)
    simp only [Act.put, List.setIfInBounds_toArray, List.set_cons_zero, List.set_cons_succ]
    refine wpAnyH_take (i := 1) (oi := { dst := some 170, op := Op.nilCheck (Operand.tmp 169), type := 0, pos := _, after := #[{ on := 0, ground := Ground.data }], guard := none }) (v := ?_) rfl (by kernel_rfl) (by kernel_rfl) (by kernel_rfl) (fun _ _ _ h => hpan h) (Or.inl ⟨by rfl, ?_⟩) (by assumption) ?_
    rotate_left
    · (intro w hSw; (try dsimp only at hSw); go_simp; try with_reducible rfl)
    simp only [Act.put, List.setIfInBounds_toArray, List.set_cons_zero, List.set_cons_succ]
    refine wpAnyH_take (i := 2) (oi := { dst := some 171, op := Op.fieldAddr 54 (Operand.tmp 170) 1, type := 0, pos := _, after := #[{ on := 1, ground := Ground.data }], guard := none }) (v := ?_) rfl (by kernel_rfl) (by kernel_rfl) (by kernel_rfl) (fun _ _ _ h => hpan h) (Or.inl ⟨by rfl, ?_⟩) (by assumption) ?_
    rotate_left
    · (intro w hSw; (try dsimp only at hSw); go_simp; try with_reducible rfl)
    simp only [Act.put, List.setIfInBounds_toArray, List.set_cons_zero, List.set_cons_succ]
    refine wpAnyH_take (i := 3) (oi := { dst := some 172, op := Op.load 49 (Operand.tmp 171), type := 49, pos := _, after := #[{ on := 2, ground := Ground.data }], guard := none }) (v := ?_) rfl (by kernel_rfl) (by kernel_rfl) (by kernel_rfl) (fun _ _ _ h => hpan h) (Or.inl ⟨by rfl, ?_⟩) (by assumption) ?_
    rotate_left
    · (intro w hSw; (try dsimp only at hSw); go_simp; try with_reducible rfl)
    simp only [Act.put, List.setIfInBounds_toArray, List.set_cons_zero, List.set_cons_succ]
    refine wpAnyH_take (i := 5) (oi := { dst := some 174, op := Op.load 45 (Operand.tmp 19), type := 45, pos := _, after := #[], guard := none }) (v := ?_) rfl (by kernel_rfl) (by kernel_rfl) (by kernel_rfl) (fun _ _ _ h => hpan h) (Or.inl ⟨by rfl, ?_⟩) (by assumption) ?_
    rotate_left
    · (intro w hSw; (try dsimp only at hSw); go_simp; try with_reducible rfl)
    simp only [Act.put, List.setIfInBounds_toArray, List.set_cons_zero, List.set_cons_succ]
    refine wpAnyH_ready (rs := [4]) (by kernel_rfl) (by simp) ?_
    refine AllReadyH.cons (o := { dst := some 173, op := Op.call { callee := Callee.value (Operand.func 20), args := #[Operand.tmp 172], argTypes := #[49] }, type := 31, pos := _, after := #[{ on := 3, ground := Ground.data }], guard := none }) rfl (fun K hK => ?_) AllReadyH.nil
    go_simp
    (go_at_call 20; refine (HXc.out.tk.known HSc.out.known).mono ?_; rintro e wk ⟨vk, rfl, hLk, gk⟩; have HSk := hidW (Sli.of (k := 9) (fun _ => rfl) hLk); obtain ⟨ak, capk, rfl⟩ := hLk.form; have HXk := hidW (HXc.out.below gk); have HBk := hidW (HBc.out.below gk); have HJ := hidW (HH.out wk _ HXk.out HBk.out); clear gk hLk)
    refine hK.out _ _ ?_ (fun hHeld => ?_)
    · ((try dsimp only); with_reducible exact HJ.out)
    clear hK K
    try simp only [Act.put, List.setIfInBounds_toArray, List.set_cons_zero, List.set_cons_succ]
    refine wpAnyH_ready (rs := [6]) (by kernel_rfl) (by simp) ?_
    refine AllReadyH.cons (o := { dst := some 175, op := Op.call { callee := Callee.value (Operand.func 16), args := #[Operand.tmp 173, Operand.tmp 174], argTypes := #[31, 45] }, type := 4, pos := _, after := #[{ on := 4, ground := Ground.data }, { on := 5, ground := Ground.data }, { on := 4, ground := Ground.chain }], guard := none }) rfl (fun K hK => ?_) AllReadyH.nil
    go_simp
    (go_at_call 16; refine (has_any wk _ _ HSk.out (by have := HSc.out.known; dsimp only at this ⊢; omega) b).mono ?_; rw [HNo.out]; rintro e wh ⟨rfl, gh⟩; have HXh := hidW (HXk.out.below gh); have HBh := hidW (HBk.out.below gh); have HJ := hidW (HH.out wh _ HXh.out HBh.out); clear gh)
    refine hK.out _ _ ?_ (fun hHeld => ?_)
    · ((try dsimp only); with_reducible exact HJ.out)
    clear hK K
    try simp only [Act.put, List.setIfInBounds_toArray, List.set_cons_zero, List.set_cons_succ]
    refine wpAnyH_done (by kernel_rfl) ?_ _
    go_wp2
    exact HQ.out (HXh.out.more (Below.refl _ _) (fun y hy => hy.elim)) HSc.out
end Go.Proofs.YtnjlajjjcmhfgaaGreatDoor
