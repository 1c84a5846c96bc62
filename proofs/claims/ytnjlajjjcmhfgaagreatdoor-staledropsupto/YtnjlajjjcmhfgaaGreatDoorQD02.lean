import Derived.Test.YtnjlajjjcmhfgaaGreatDoorQD01
namespace Go.Proofs.YtnjlajjjcmhfgaaGreatDoor
open Go.RowKit
open Mm (Turn gr RM valV errV Byts setV RowAt)
set_option linter.unusedVariables false
set_option linter.unusedSimpArgs false
attribute [local go_sem] Oper.semAt_some
def putB (I T : Code) : Code → Code
  | .seq a (.seq b (.seq c (.seq (.seq r (.cond t (.seq x (.seq y _)) s)) _))) => .seq a (.seq b (.seq c (.seq (.seq r (.cond t (.seq x (.seq y I)) s)) T)))
  | c => c
theorem drM_eq : drM Tryz.f4 = putB (drI Tryz.f4) (drT Tryz.f4) (drM Tryz.f4) := by kernel_rfl
set_option maxRecDepth 1000000 in
set_option maxHeartbeats 16000000 in
theorem drops_mid {Q : Exit → Act → World → Prop} {v0 v1 v2 v5 v6 v7 v8 v9 v10 v16 v17 v18 v19 v20 v21 v22 v23 v24 v25 v26 v27 v28 v29 v30 v31 v32 v33 v34 v35 v36 v37 v38 v39 v40 v41 v42 v43 v44 v45 v46 v47 v48 v49 v50 v51 v52 v53 v54 v55 v56 v57 v58 v59 v60 v61 v62 v63 v64 v65 v66 v67 v68 v69 v70 v71 v72 v73 v74 v75 v76 v77 v78 v79 v80 v81 v82 v83 v84 v85 v86 v87 v88 v89 v90 v91 v92 v93 v94 v95 v96 v97 v98 v99 v100 v101 v102 v103 v104 v105 v106 v107 v108 v109 v110 v111 v112 v113 v114 v115 v116 v117 v118 v119 v120 v121 v122 v123 v124 v125 v126 v127 v128 v129 v130 v131 v132 v133 v134 v135 v136 v137 v138 v139 v140 v141 v142 v143 v144 v145 v146 v147 v148 v149 v150 v151 v152 v153 v154 v155 v156 v157 v158 v159 v160 v161 v162 v163 v164 v165 v166 v167 v168 v169 v170 v171 v172 v173 v174 v175 v176 v177 v178 v179 v180 v181 v182 v183 v184 v185 v186 v187 v188 v189 v190 v191 v192 v193 v194 v195 v196 v197 v198 v199 v200 v201 v202 v203 v204 v205 v206 v207 v208 v209 v210 v211 v212 v213 v214 v215 v216 v217 v218 v219 v220 v221 v222 v223 v224 v225 v226 v227 v228 v229 v230 v231 v232 v233 v234 : Value} (G : Nat → Prop) (W W0 w : World) (x p kb jb : Nat) (wv iv : Value) (f : Int) (vp vw vc : Value) (σ : Pst) (off wh : Int) (ho : 0 ≤ off ∧ off < 4294967296) (hwh : -9223372036854775808 ≤ wh ∧ wh ≤ 9223372036854775807) (aw ak an : Option Addr) (nw cw nk ck nd nn cn : Nat) (Dw Dn : List Dir) (hx : SgX G W0 w x p kb jb wv iv f vp vw vc σ) (hs : Sml σ)
    (hDw : Sli encD 10 w (.slice aw nw cw) Dw) (hDn : Sli encD 10 w (.slice an nn cn) Dn) (hnw : Dw.length = nw) (hnn : Dn.length = nn) (hl1 : nw ≤ 4611686018427387904) (hl2 : nn ≤ 4611686018427387904) (hsub : ∀ e ∈ Dn, e ∈ Dw) (hnk : σ.K.length + nd = nk) (hl3 : nk ≤ 4611686018427387904)
    (hb : Below W.heap.size W W0) (hq : Q = (bodyPost Tryz.prog Tryz.f4 fun e w' => e = .returned (.bool true) ∧ Below W.heap.size W w')) :
    (drM Tryz.f4).wp Tryz.prog Q ⟨#[v0, v1, v2, .int .i64 wh, .int .u32 off, v5, v6, v7, v8, v9, v10, .pointer (some ⟨x, 0, none⟩), .slice aw nw cw, .slice ak nk ck, .int .i64 nd, .slice an nn cn, v16, v17, v18, v19, v20, v21, v22, v23, v24, v25, v26, v27, v28, v29, v30, v31, v32, v33, v34, v35, v36, v37, v38, v39, v40, v41, v42, v43, v44, v45, v46, v47, v48, v49, v50, v51, v52, v53, v54, v55, v56, v57, v58, v59, v60, v61, v62, v63, v64, v65, v66, v67, v68, v69, v70, v71, v72, v73, v74, v75, v76, v77, v78, v79, v80, v81, v82, v83, v84, v85, v86, v87, v88, v89, v90, v91, v92, v93, v94, v95, v96, v97, v98, v99, v100, v101, v102, v103, v104, v105, v106, v107, v108, v109, v110, v111, v112, v113, v114, v115, v116, v117, v118, v119, v120, v121, v122, v123, v124, v125, v126, v127, v128, v129, v130, v131, v132, v133, v134, v135, v136, v137, v138, v139, v140, v141, v142, v143, v144, v145, v146, v147, v148, v149, v150, v151, v152, v153, v154, v155, v156, v157, v158, v159, v160, v161, v162, v163, v164, v165, v166, v167, v168, v169, v170, v171, v172, v173, v174, v175, v176, v177, v178, v179, v180, v181, v182, v183, v184, v185, v186, v187, v188, v189, v190, v191, v192, v193, v194, v195, v196, v197, v198, v199, v200, v201, v202, v203, v204, v205, v206, v207, v208, v209, v210, v211, v212, v213, v214, v215, v216, v217, v218, v219, v220, v221, v222, v223, v224, v225, v226, v227, v228, v229, v230, v231, v232, v233, v234], []⟩ w := by
  have HQ := hidW hq
  have HB := hidW hb
  have HX := hidW hx
  have HS := hidW hs
  have HW := hidW hDw
  have HN := hidW hDn
  have HLW := hidW hnw
  have HLN := hidW hnn
  have HSub := hidW hsub
  have HLK := hidW hnk
  clear hq hb hx hs hDw hDn hnw hnn hsub
  rw [drM_eq]
  generalize hI : drI Tryz.f4 = I
  generalize hT : drT Tryz.f4 = T
  have HI := hidW hI
  have HT := hidW hT
  clear hI hT
  simp only [putB, drM, sq2, Tryz.f4, Option.getD]
  go_wp2
  go_loopw [16] (fun i wr => ∃ k : Nat, k ≤ nn ∧ i = .int .i64 k ∧ Hid (Below w.heap.size w wr)) (fun i _ => nn - (intOf i).toNat)
  case atStart => exact ⟨0, Nat.zero_le _, rfl, Below.refl _ _⟩
  case round =>
    obtain ⟨k, hk, rfl, HK⟩ := hrel
    by_cases hlt : k < nn
    · obtain ⟨o, hq⟩ : ∃ o, Dn[k]? = some o := ⟨_, List.getElem?_eq_getElem (by rw [HLN.out]; omega)⟩
      have hkz : (k : Int) < (nn : Int) := by omega
      have hKd := below_drew HK.out
      obtain ⟨b1, o1, e1, hb1, _⟩ := HN.out.dir (Below.refl _ _) hq
      subst e1
      have HH : Hid (∀ ww : World, Below w.heap.size w ww → ww.cell? ⟨b1, o1 + k * 10, none⟩ = some (.int .i64 o.asid) ∧ ww.cell? ⟨b1, o1 + k * 10 + 1, none⟩ = some (.int .i64 o.b.asid) ∧ ww.cell? ⟨b1, o1 + k * 10 + 2, none⟩ = some (.int .i64 o.b.t.size) ∧ ww.cell? ⟨b1, o1 + k * 10 + 3, none⟩ = some (.int .u32 o.b.t.va) ∧ ww.cell? ⟨b1, o1 + k * 10 + 4, none⟩ = some (.int .u64 o.b.t.pa) ∧ ww.cell? ⟨b1, o1 + k * 10 + 5, none⟩ = some (.int .i64 o.b.t.dom) ∧ ww.cell? ⟨b1, o1 + k * 10 + 6, none⟩ = some (.int .i64 o.b.t.ap) ∧ ww.cell? ⟨b1, o1 + k * 10 + 7, none⟩ = some (.int .u32 o.b.t.bits) ∧ ww.cell? ⟨b1, o1 + k * 10 + 8, none⟩ = some (.bool o.b.t.ng) ∧ ww.cell? ⟨b1, o1 + k * 10 + 9, none⟩ = some (.bool o.b.t.xn)) := fun ww hww => by
        obtain ⟨b2, o2, e2, _, hc⟩ := HN.out.dir hww hq
        cases e2
        exact hc
      have hany : (Dw.any fun y => y.asid == o.asid && y.b.same o.b) = true := List.any_eq_true.2 ⟨o, HSub.out o (List.mem_of_getElem? hq), by simp [Blo.same_iff]⟩
      have HC := hidW (isDirty_any wr.drew (.slice aw nw cw) Dw (HW.out.below hKd) (by rw [HLW.out]; exact hl1) o.asid o.b)
      rw [hany] at HC
      have HJ := hidW (HH.out _ hKd)
      have HKd := hidW hKd
      clear hq HK hKd hany hb1
      have hq := HQ.out
      subst hq
      go_wp2_with fail
      refine wp_region_held_drew (S := fun ww => ww.cell? ⟨b1, o1 + k * 10, none⟩ = some (.int .i64 o.asid) ∧ ww.cell? ⟨b1, o1 + k * 10 + 1, none⟩ = some (.int .i64 o.b.asid) ∧ ww.cell? ⟨b1, o1 + k * 10 + 2, none⟩ = some (.int .i64 o.b.t.size) ∧ ww.cell? ⟨b1, o1 + k * 10 + 3, none⟩ = some (.int .u32 o.b.t.va) ∧ ww.cell? ⟨b1, o1 + k * 10 + 4, none⟩ = some (.int .u64 o.b.t.pa) ∧ ww.cell? ⟨b1, o1 + k * 10 + 5, none⟩ = some (.int .i64 o.b.t.dom) ∧ ww.cell? ⟨b1, o1 + k * 10 + 6, none⟩ = some (.int .i64 o.b.t.ap) ∧ ww.cell? ⟨b1, o1 + k * 10 + 7, none⟩ = some (.int .u32 o.b.t.bits) ∧ ww.cell? ⟨b1, o1 + k * 10 + 8, none⟩ = some (.bool o.b.t.ng) ∧ ww.cell? ⟨b1, o1 + k * 10 + 9, none⟩ = some (.bool o.b.t.xn)) (by kernel_rfl) ?_ (fun hHeld => ?_)
      · exact HJ.out
      refine wpAnyH_take (i := 0) (oi := { dst := some 103, op := Op.move (Operand.tmp 12), type := 48, pos := _, after := #[], guard := none }) (v := ?_) rfl (by kernel_rfl) (by kernel_rfl) (by kernel_rfl) (fun _ _ _ h => h) (Or.inl ⟨by rfl, ?_⟩) (by assumption) ?_
      rotate_left
      · (intro w hSw; (try dsimp only at hSw); go_simp; try with_reducible rfl)
      simp only [Act.put, List.setIfInBounds_toArray, List.set_cons_zero, List.set_cons_succ]
      refine wpAnyH_take (i := 1) (oi := { dst := some 104, op := Op.move (Operand.tmp 15), type := 48, pos := _, after := #[], guard := none }) (v := ?_) rfl (by kernel_rfl) (by kernel_rfl) (by kernel_rfl) (fun _ _ _ h => h) (Or.inl ⟨by rfl, ?_⟩) (by assumption) ?_
      rotate_left
      · (intro w hSw; (try dsimp only at hSw); go_simp; try with_reducible rfl)
      simp only [Act.put, List.setIfInBounds_toArray, List.set_cons_zero, List.set_cons_succ]
      refine wpAnyH_take (i := 2) (oi := { dst := some 105, op := Op.move (Operand.tmp 16), type := 3, pos := _, after := #[], guard := none }) (v := ?_) rfl (by kernel_rfl) (by kernel_rfl) (by kernel_rfl) (fun _ _ _ h => h) (Or.inl ⟨by rfl, ?_⟩) (by assumption) ?_
      rotate_left
      · (intro w hSw; (try dsimp only at hSw); go_simp; try with_reducible rfl)
      simp only [Act.put, List.setIfInBounds_toArray, List.set_cons_zero, List.set_cons_succ]
      refine wpAnyH_take (i := 3) (oi := { dst := some 106, op := Op.indexAddr 48 (Operand.tmp 104) (Operand.tmp 105), type := 0, pos := _, after := #[{ on := 1, ground := Ground.data }, { on := 2, ground := Ground.data }], guard := none }) (v := ?_) rfl (by kernel_rfl) (by kernel_rfl) (by kernel_rfl) (fun _ _ _ h => h) (Or.inl ⟨by rfl, ?_⟩) (by assumption) ?_
      rotate_left
      · (intro w hSw; (try dsimp only at hSw); go_simp; try with_reducible rfl)
      simp only [Act.put, List.setIfInBounds_toArray, List.set_cons_zero, List.set_cons_succ]
      refine wpAnyH_take (i := 4) (oi := { dst := some 107, op := Op.fieldAddr 74 (Operand.tmp 106) 0, type := 0, pos := _, after := #[{ on := 3, ground := Ground.data }], guard := none }) (v := ?_) rfl (by kernel_rfl) (by kernel_rfl) (by kernel_rfl) (fun _ _ _ h => h) (Or.inl ⟨by rfl, ?_⟩) (by assumption) ?_
      rotate_left
      · (intro w hSw; (try dsimp only at hSw); go_simp; try with_reducible rfl)
      simp only [Act.put, List.setIfInBounds_toArray, List.set_cons_zero, List.set_cons_succ]
      refine wpAnyH_take (i := 5) (oi := { dst := some 108, op := Op.load 3 (Operand.tmp 107), type := 3, pos := _, after := #[{ on := 4, ground := Ground.data }], guard := none }) (v := ?_) rfl (by kernel_rfl) (by kernel_rfl) (by kernel_rfl) (fun _ _ _ h => h) (Or.inl ⟨by rfl, ?_⟩) (by assumption) ?_
      rotate_left
      · (intro w hSw; (try dsimp only at hSw); go_simp; try with_reducible rfl)
      simp only [Act.put, List.setIfInBounds_toArray, List.set_cons_zero, List.set_cons_succ]
      refine wpAnyH_take (i := 6) (oi := { dst := some 109, op := Op.move (Operand.tmp 15), type := 48, pos := _, after := #[], guard := none }) (v := ?_) rfl (by kernel_rfl) (by kernel_rfl) (by kernel_rfl) (fun _ _ _ h => h) (Or.inl ⟨by rfl, ?_⟩) (by assumption) ?_
      rotate_left
      · (intro w hSw; (try dsimp only at hSw); go_simp; try with_reducible rfl)
      simp only [Act.put, List.setIfInBounds_toArray, List.set_cons_zero, List.set_cons_succ]
      refine wpAnyH_take (i := 7) (oi := { dst := some 110, op := Op.move (Operand.tmp 16), type := 3, pos := _, after := #[], guard := none }) (v := ?_) rfl (by kernel_rfl) (by kernel_rfl) (by kernel_rfl) (fun _ _ _ h => h) (Or.inl ⟨by rfl, ?_⟩) (by assumption) ?_
      rotate_left
      · (intro w hSw; (try dsimp only at hSw); go_simp; try with_reducible rfl)
      simp only [Act.put, List.setIfInBounds_toArray, List.set_cons_zero, List.set_cons_succ]
      refine wpAnyH_take (i := 8) (oi := { dst := some 111, op := Op.indexAddr 48 (Operand.tmp 109) (Operand.tmp 110), type := 0, pos := _, after := #[{ on := 6, ground := Ground.data }, { on := 7, ground := Ground.data }], guard := none }) (v := ?_) rfl (by kernel_rfl) (by kernel_rfl) (by kernel_rfl) (fun _ _ _ h => h) (Or.inl ⟨by rfl, ?_⟩) (by assumption) ?_
      rotate_left
      · (intro w hSw; (try dsimp only at hSw); go_simp; try with_reducible rfl)
      simp only [Act.put, List.setIfInBounds_toArray, List.set_cons_zero, List.set_cons_succ]
      refine wpAnyH_take (i := 9) (oi := { dst := some 112, op := Op.fieldAddr 74 (Operand.tmp 111) 1, type := 0, pos := _, after := #[{ on := 8, ground := Ground.data }], guard := none }) (v := ?_) rfl (by kernel_rfl) (by kernel_rfl) (by kernel_rfl) (fun _ _ _ h => h) (Or.inl ⟨by rfl, ?_⟩) (by assumption) ?_
      rotate_left
      · (intro w hSw; (try dsimp only at hSw); go_simp; try with_reducible rfl)
      simp only [Act.put, List.setIfInBounds_toArray, List.set_cons_zero, List.set_cons_succ]
      refine wpAnyH_take (i := 10) (oi := { dst := some 113, op := Op.load 45 (Operand.tmp 112), type := 45, pos := _, after := #[{ on := 9, ground := Ground.data }], guard := none }) (v := ?_) rfl (by kernel_rfl) (by kernel_rfl) (by kernel_rfl) (fun _ _ _ h => h) (Or.inl ⟨by rfl, ?_⟩) (by assumption) ?_
      rotate_left
      · (intro w hSw; (try dsimp only at hSw); go_simp; try with_reducible rfl)
      simp only [Act.put, List.setIfInBounds_toArray, List.set_cons_zero, List.set_cons_succ]
      refine wpAnyH_ready (rs := [11]) (by kernel_rfl) (by simp) ?_
      refine AllReadyH.cons (o := { dst := some 114, op := Op.call { callee := Callee.value (Operand.func 18), args := #[Operand.tmp 103, Operand.tmp 108, Operand.tmp 113], argTypes := #[48, 3, 45] }, type := 4, pos := _, after := #[{ on := 0, ground := Ground.data }, { on := 5, ground := Ground.data }, { on := 10, ground := Ground.data }], guard := none }) rfl (fun K hK => ?_) AllReadyH.nil
      go_simp
      (go_at_call 18; refine HC.out.mono ?_; rintro e wa ⟨rfl, ga⟩; have HKa := hidW (Below.step HKd.out ga); have HJ := hidW (HH.out wa HKa.out); clear ga)
      refine hK.out _ _ ?_ (fun hHeld => ?_)
      · ((try dsimp only); with_reducible exact HJ.out)
      clear hK K
      try simp only [Act.put, List.setIfInBounds_toArray, List.set_cons_zero, List.set_cons_succ]
      refine wpAnyH_take (i := 12) (oi := { dst := some 115, op := Op.unOp UnOp.not 4 (Operand.tmp 114), type := 4, pos := _, after := #[{ on := 11, ground := Ground.data }], guard := none }) (v := ?_) rfl (by kernel_rfl) (by kernel_rfl) (by kernel_rfl) (fun _ _ _ h => h) (Or.inl ⟨by rfl, ?_⟩) (by assumption) ?_
      rotate_left
      · (intro w hSw; (try dsimp only at hSw); go_simp; try with_reducible rfl)
      simp only [Act.put, List.setIfInBounds_toArray, List.set_cons_zero, List.set_cons_succ]
      refine wpAnyH_done (by kernel_rfl) ?_ _
      go_wp2
      go_roundw
      case rel => exact ⟨k + 1, by omega, by go_num, HKa⟩
      case measure => simp [intOf]; omega
    · obtain rfl : k = nn := by omega
      have HX1 := hidW (HX.out.below HK.out)
      have c4 := HX1.out.box.cell 4
      simp only [List.getElem?_cons_succ, List.getElem?_cons_zero] at c4
      have hkl := HLK.out
      clear HX HW HN HSub HK
      go_wp2_with fail
      go_at_call 20
      refine (HX1.out.tk.known HS.out.known).mono ?_
      rintro e w2 ⟨v, rfl, hL, hb2⟩
      have HSl := hidW (Sli.of (k := 9) (fun _ => rfl) hL)
      have HX2 := hidW (HX1.out.below hb2)
      obtain ⟨a, cap, rfl⟩ := hL.form
      clear hL hb2 HX1 c4
      generalize hn : σ.K.length = n at *
      have HKL := hidW hn
      clear hn
      have hsub : IntKind.i64.wrap ((nk : Int) - (nd : Int)) = (n : Int) := by rw [IntKind.wrap_i64]; omega
      have hq := HQ.out
      subst hq
      by_cases hn0 : n = 0
      · subst hn0
        go_wp2_with fail
        rw [← HT.out]
        exact drops_tail _ W W0 _ x p kb jb wv iv f vp vw vc σ off ho HX2.out HS.out HB.out rfl
      · have hz : (0 : Int) < (n : Int) := by omega
        have r1 := rem_wrap (a := wh) hz
        have r2 := rem_rng (a := wh) hz
        have h1 := Int.emod_nonneg wh (show (n : Int) ≠ 0 by omega)
        have h2 := Int.emod_lt_of_pos wh hz
        obtain ⟨j, hj⟩ : ∃ j : Nat, (j : Int) = wh % (n : Int) := ⟨(wh % (n : Int)).toNat, by omega⟩
        have hjn : j < n := by omega
        obtain ⟨b, hb⟩ : ∃ b, σ.K[j]? = some b := ⟨_, List.getElem?_eq_getElem (by rw [HKL.out]; omega)⟩
        obtain ⟨lb, lo, ea, _⟩ := HSl.out.blo (Below.refl _ _) hb
        subst ea
        have HBJ := hidW hb
        clear hb
        rw [← hj] at r1
        clear h1 h2 hj
        generalize hqq : wh.tmod n = q at *
        by_cases hneg : q < 0
        · have e1 : q + n = j := by omega
          clear r1 r2
          go_wp2_with fail
          rw [← HI.out]
          refine drops_in _ W W0 _ x p kb jb wv iv f vp vw vc σ off ho lb lo cap n j b HX2.out HS.out HSl.out HBJ.out hjn (fun {_ _ d _ _} h => by cases d <;> exact h) (hidW ?_)
          intros
          rename_i hx3 hs3
          have HX3 := hidW hx3
          have HS3 := hidW hs3
          clear hx3 hs3
          go_wp2_with fail
          rw [← HT.out]
          exact drops_tail _ W W0 _ x p kb jb wv iv f vp vw vc _ off ho HX3.out HS3.out HB.out rfl
        · have e1 : q = j := by omega
          clear r1 r2
          subst e1
          go_wp2_with fail
          rw [← HI.out]
          refine drops_in _ W W0 _ x p kb jb wv iv f vp vw vc σ off ho lb lo cap n j b HX2.out HS.out HSl.out HBJ.out hjn (fun {_ _ d _ _} h => by cases d <;> exact h) (hidW ?_)
          intros
          rename_i hx3 hs3
          have HX3 := hidW hx3
          have HS3 := hidW hs3
          clear hx3 hs3
          go_wp2_with fail
          rw [← HT.out]
          exact drops_tail _ W W0 _ x p kb jb wv iv f vp vw vc _ off ho HX3.out HS3.out HB.out rfl
end Go.Proofs.YtnjlajjjcmhfgaaGreatDoor
