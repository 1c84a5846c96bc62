import Derived.Test.YtnjlajjjcmhfgaaGreatDoorQE02
namespace Go.Proofs.YtnjlajjjcmhfgaaGreatDoor
open Go.RowKit
open Mm (Turn gr RM valV errV Byts setV RowAt)
set_option linter.unusedVariables false
set_option linter.unusedSimpArgs false
attribute [local go_sem] Oper.semAt_some
def svP (f : Func) : Code := lpC (blkC (sq2 (sq1 (sq2 (sq2 (sq2 (sq2 (sq2 (sq2 (sq2 (sq2 (f.body.getD .skip))))))))))))
set_option maxRecDepth 1000000 in
set_option maxHeartbeats 16000000 in
theorem sv_picks {Q : Exit → Act → World → Prop} {v0 v1 v2 v4 v5 v6 v7 v8 v9 v10 v11 v12 v13 v16 v19 v20 v21 v22 v23 v24 v25 v26 v27 v28 v29 v30 v31 v32 v33 v34 v35 v36 v37 v38 v39 v40 v41 v42 v43 v44 v45 v46 v47 v48 v49 v50 v51 v52 v53 v54 v55 v56 v57 v58 v59 v60 v61 v62 v63 v64 v65 v66 v67 v68 v69 v70 v71 v72 v73 v74 v75 v76 v77 v78 v79 v80 v81 v82 v83 v84 v85 v86 v87 v88 v89 v90 v91 v92 v93 v94 v95 v96 v97 v98 v99 v100 v101 v102 v103 v104 v105 v106 v107 v108 v109 v110 v111 v112 v113 v114 v115 v116 v117 v118 v119 v120 v121 v122 v123 v124 v125 v126 v127 v128 v129 v130 v131 v132 v133 v134 v135 v136 v137 v138 v139 v140 v141 v142 v143 v144 v145 v146 v147 v148 v149 v150 v151 v152 v153 v154 v155 v156 v157 v158 v159 v160 v161 v162 v163 v164 v165 v166 v167 v168 v169 v170 v171 v172 v173 v174 v175 v176 v177 v178 v179 v180 v181 v182 v183 v184 v185 v186 v187 v188 v189 v190 v191 v192 v193 v194 v195 v196 v197 v198 v199 v200 v201 v202 v203 v204 v205 v206 v207 v208 v209 v210 v211 v212 v213 v214 v215 v216 v217 v218 v219 v220 v221 v222 v223 v224 v225 : Value} (w : World) (tp tg n np cp nk ck : Nat) (pa ka : Option Addr) (ps : List Int) (K : List Blo) (L : List Slo) (hp : PT 133 w tp tg L) (hv : Srv K L) (hK : ∀ b ∈ K, KOk b) (HT : Hid (∀ ww, Turn (· = tg) w ww → TR ww)) (HPi : Hid (∀ ww, Turn (· = tg) w ww → Sli eI 1 ww (.slice pa np cp) ps)) (HKn : Hid (∀ ww, Turn (· = tg) w ww → Sli encB 9 ww (.slice ka nk ck) K)) (lp : ps.length = np) (lk : K.length = nk) (hnp : np ≤ 4611686018427387904) (hnk : nk ≤ 4611686018427387904) (rps : ∀ a ∈ ps, -9223372036854775808 ≤ a ∧ a ≤ 9223372036854775807) (hn : 1 ≤ n ∧ n ≤ 64) (hpan : ∀ {c : List PanicEntry} {a : Act} {d : Option Tmp} {v : Value} {w : World}, Q (.panic c) (a.put d v) w → Q (.panic c) a w)
    (HQ : Hid (∀ {u12 u18 u19 u20 u21 u65 u66 u67 u68 u69 u70 u71 u72 u73 u74 u75 u76 u77 u78 u79 u80 u81 u82 u83 u84 u85 u86 u87 u88 u89 u90 u91 u92 u93 u94 u95 u96 u97 u98 u99 u100 u101 u102 u103 u104 u105 u106 : Value} {w' : World} {L' : List Slo}, PT 133 w' tp tg L' → Srv K L' → Turn (· = tg) w w' → Q (.exit 0) ⟨(v0 :: v1 :: v2 :: (.slice pa np cp) :: v4 :: v5 :: v6 :: v7 :: v8 :: v9 :: v10 :: v11 :: u12 :: v13 :: (.int .i64 (n : Int)) :: (.pointer (some ⟨tp, 0, none⟩)) :: v16 :: (.slice ka nk ck) :: u18 :: u19 :: u20 :: u21 :: v22 :: v23 :: v24 :: v25 :: v26 :: v27 :: v28 :: v29 :: v30 :: v31 :: v32 :: v33 :: v34 :: v35 :: v36 :: v37 :: v38 :: v39 :: v40 :: v41 :: v42 :: v43 :: v44 :: v45 :: v46 :: v47 :: v48 :: v49 :: v50 :: v51 :: v52 :: v53 :: v54 :: v55 :: v56 :: v57 :: v58 :: v59 :: v60 :: v61 :: v62 :: v63 :: v64 :: u65 :: u66 :: u67 :: u68 :: u69 :: u70 :: u71 :: u72 :: u73 :: u74 :: u75 :: u76 :: u77 :: u78 :: u79 :: u80 :: u81 :: u82 :: u83 :: u84 :: u85 :: u86 :: u87 :: u88 :: u89 :: u90 :: u91 :: u92 :: u93 :: u94 :: u95 :: u96 :: u97 :: u98 :: u99 :: u100 :: u101 :: u102 :: u103 :: u104 :: u105 :: u106 :: v107 :: v108 :: v109 :: v110 :: v111 :: v112 :: v113 :: v114 :: v115 :: v116 :: v117 :: v118 :: v119 :: v120 :: v121 :: v122 :: v123 :: v124 :: v125 :: v126 :: v127 :: v128 :: v129 :: v130 :: v131 :: v132 :: v133 :: v134 :: v135 :: v136 :: v137 :: v138 :: v139 :: v140 :: v141 :: v142 :: v143 :: v144 :: v145 :: v146 :: v147 :: v148 :: v149 :: v150 :: v151 :: v152 :: v153 :: v154 :: v155 :: v156 :: v157 :: v158 :: v159 :: v160 :: v161 :: v162 :: v163 :: v164 :: v165 :: v166 :: v167 :: v168 :: v169 :: v170 :: v171 :: v172 :: v173 :: v174 :: v175 :: v176 :: v177 :: v178 :: v179 :: v180 :: v181 :: v182 :: v183 :: v184 :: v185 :: v186 :: v187 :: v188 :: v189 :: v190 :: v191 :: v192 :: v193 :: v194 :: v195 :: v196 :: v197 :: v198 :: v199 :: v200 :: v201 :: v202 :: v203 :: v204 :: v205 :: v206 :: v207 :: v208 :: v209 :: v210 :: v211 :: v212 :: v213 :: v214 :: v215 :: v216 :: v217 :: v218 :: v219 :: v220 :: v221 :: v222 :: v223 :: v224 :: v225 :: []).toArray, []⟩ w')) :
    (Code.loop (svP Tryz.f5)).wp Tryz.prog Q ⟨(v0 :: v1 :: v2 :: (.slice pa np cp) :: v4 :: v5 :: v6 :: v7 :: v8 :: v9 :: v10 :: v11 :: v12 :: v13 :: (.int .i64 (n : Int)) :: (.pointer (some ⟨tp, 0, none⟩)) :: v16 :: (.slice ka nk ck) :: (.int .i64 0) :: v19 :: v20 :: v21 :: v22 :: v23 :: v24 :: v25 :: v26 :: v27 :: v28 :: v29 :: v30 :: v31 :: v32 :: v33 :: v34 :: v35 :: v36 :: v37 :: v38 :: v39 :: v40 :: v41 :: v42 :: v43 :: v44 :: v45 :: v46 :: v47 :: v48 :: v49 :: v50 :: v51 :: v52 :: v53 :: v54 :: v55 :: v56 :: v57 :: v58 :: v59 :: v60 :: v61 :: v62 :: v63 :: v64 :: v65 :: v66 :: v67 :: v68 :: v69 :: v70 :: v71 :: v72 :: v73 :: v74 :: v75 :: v76 :: v77 :: v78 :: v79 :: v80 :: v81 :: v82 :: v83 :: v84 :: v85 :: v86 :: v87 :: v88 :: v89 :: v90 :: v91 :: v92 :: v93 :: v94 :: v95 :: v96 :: v97 :: v98 :: v99 :: v100 :: v101 :: v102 :: v103 :: v104 :: v105 :: v106 :: v107 :: v108 :: v109 :: v110 :: v111 :: v112 :: v113 :: v114 :: v115 :: v116 :: v117 :: v118 :: v119 :: v120 :: v121 :: v122 :: v123 :: v124 :: v125 :: v126 :: v127 :: v128 :: v129 :: v130 :: v131 :: v132 :: v133 :: v134 :: v135 :: v136 :: v137 :: v138 :: v139 :: v140 :: v141 :: v142 :: v143 :: v144 :: v145 :: v146 :: v147 :: v148 :: v149 :: v150 :: v151 :: v152 :: v153 :: v154 :: v155 :: v156 :: v157 :: v158 :: v159 :: v160 :: v161 :: v162 :: v163 :: v164 :: v165 :: v166 :: v167 :: v168 :: v169 :: v170 :: v171 :: v172 :: v173 :: v174 :: v175 :: v176 :: v177 :: v178 :: v179 :: v180 :: v181 :: v182 :: v183 :: v184 :: v185 :: v186 :: v187 :: v188 :: v189 :: v190 :: v191 :: v192 :: v193 :: v194 :: v195 :: v196 :: v197 :: v198 :: v199 :: v200 :: v201 :: v202 :: v203 :: v204 :: v205 :: v206 :: v207 :: v208 :: v209 :: v210 :: v211 :: v212 :: v213 :: v214 :: v215 :: v216 :: v217 :: v218 :: v219 :: v220 :: v221 :: v222 :: v223 :: v224 :: v225 :: []).toArray, []⟩ w := by
  have HP := hidW hp
  have HV := hidW hv
  have HKO := hidW hK
  have HLp := hidW lp
  have HLk := hidW lk
  have HR := hidW rps
  clear hp hv hK lp lk rps
  conv => arg 2; arg 1; whnf
  go_loopw [18] (fun i wr => ∃ (k : Nat) (M : List Slo), k ≤ np ∧ i = .int .i64 k ∧ Hid (PT 133 wr tp tg M) ∧ Hid (Srv K M) ∧ Hid (Turn (· = tg) w wr)) (fun i _ => np - (intOf i).toNat)
  case atStart => exact ⟨0, L, Nat.zero_le _, rfl, HP, HV, Turn.refl _ _⟩
  case round =>
    obtain ⟨k, M, hk, rfl, HPr, HVr, HTr⟩ := hrel
    clear HP HV
    by_cases hlt : k < np
    · have hkz : (k : Int) < (np : Int) := by omega
      by_cases hz : nk = 0
      · subst hz
        go_wp2
        exact HQ.out HPr.out HVr.out HTr.out
      · have hz0 : (0 : Int) < (nk : Int) := by omega
        obtain ⟨pk, hq⟩ : ∃ o, ps[k]? = some o := ⟨_, List.getElem?_eq_getElem (by rw [HLp.out]; omega)⟩
        have hrp := HR.out pk (List.mem_of_getElem? hq)
        obtain ⟨pb, po, rfl, _, c0⟩ := (HPi.out _ HTr.out).one (Below.refl _ _) hq (c := .int .i64 pk) rfl
        have HPc : Hid (∀ ww, Turn (· = tg) w ww → ww.cell? ⟨pb, po + k, none⟩ = some (.int .i64 pk)) := fun ww hT => by
          obtain ⟨_, _, e1, _, d1⟩ := (HPi.out ww hT).one (Below.refl _ _) hq (c := .int .i64 pk) rfl
          cases e1
          exact d1
        have r2 := rem_rng (a := pk) hz0
        have hnz : ¬ ((nk : Int) = 0) := by omega
        have hnz2 : ¬ ((n : Int) = 0) := by omega
        clear hq
        generalize hqq : pk.tmod nk = q at *
        by_cases hneg : q < 0
        · obtain ⟨m, hm⟩ : ∃ m : Int, m = -q := ⟨_, rfl⟩
          have hwn : IntKind.i64.wrap (-q) = m := by rw [IntKind.wrap_i64]; omega
          clear r2 hrp hm
          have HE := hidW (evict_any wr tp tg M (m.tmod n) HPr.out)
          have HVe := hidW (HVr.out.evict (m.tmod n))
          clear HPr
          go_wp2_with (first
            | (go_at_call 28; refine HE.out.mono ?_; rintro e w1 ⟨rfl, g1, g2⟩; have HP1 := hidW g1; have HT1 : Hid (Turn (· = tg) w w1) := HTr.out.then g2; clear g1 g2))
          go_roundw
          case rel => exact ⟨k + 1, _, by omega, by go_num, HP1, HVe, HT1⟩
          case measure => simp [intOf]; omega
        · obtain ⟨j, rfl⟩ : ∃ j : Nat, q = (j : Int) := ⟨q.toNat, by omega⟩
          have hjn : (j : Int) < (nk : Int) := by omega
          clear r2 hrp hneg
          obtain ⟨o, ho⟩ : ∃ o, K[j]? = some o := ⟨_, List.getElem?_eq_getElem (by rw [HLk.out]; omega)⟩
          have hmem := List.mem_of_getElem? ho
          have hko := HKO.out o hmem
          obtain ⟨lb, lo, rfl, _, _⟩ := (HKn.out _ HTr.out).blo (Below.refl _ _) ho
          have HH : Hid (∀ ww, Turn (· = tg) w ww → ww.cell? ⟨lb, lo + j * 9, none⟩ = some (.int .i64 o.asid) ∧ ww.cell? ⟨lb, lo + j * 9 + 1, none⟩ = some (.int .i64 o.t.size) ∧ ww.cell? ⟨lb, lo + j * 9 + 2, none⟩ = some (.int .u32 o.t.va) ∧ ww.cell? ⟨lb, lo + j * 9 + 3, none⟩ = some (.int .u64 o.t.pa) ∧ ww.cell? ⟨lb, lo + j * 9 + 4, none⟩ = some (.int .i64 o.t.dom) ∧ ww.cell? ⟨lb, lo + j * 9 + 5, none⟩ = some (.int .i64 o.t.ap) ∧ ww.cell? ⟨lb, lo + j * 9 + 6, none⟩ = some (.int .u32 o.t.bits) ∧ ww.cell? ⟨lb, lo + j * 9 + 7, none⟩ = some (.bool o.t.ng) ∧ ww.cell? ⟨lb, lo + j * 9 + 8, none⟩ = some (.bool o.t.xn) ∧ ww.cell? ⟨pb, po + k, none⟩ = some (.int .i64 pk)) := fun ww hT => by
            obtain ⟨_, _, e1, _, d0, d1, d2, d3, d4, d5, d6, d7, d8⟩ := (HKn.out ww hT).blo (Below.refl _ _) ho
            cases e1
            exact ⟨d0, d1, d2, d3, d4, d5, d6, d7, d8, HPc.out ww hT⟩
          have hTd : Turn (· = tg) w wr.drew := HTr.out.drew
          have HTD := hidW hTd
          have HJ := hidW (HH.out _ hTd)
          have HPu := hidW (put_any wr.drew tp tg M o pk HPr.out.drew (HT.out _ hTd) hko.ok)
          have e0 := puF_err (L := M) hko.r pk
          rw [e0] at HPu
          have HVe := hidW (HVr.out.put hmem pk)
          have HN := hidW (fun w => no_any 0 w)
          clear HPr hko ho hmem hTd e0
          go_wp2_with fail
          refine wp_region_held_drew (S := fun ww => ww.cell? ⟨lb, lo + j * 9, none⟩ = some (.int .i64 o.asid) ∧ ww.cell? ⟨lb, lo + j * 9 + 1, none⟩ = some (.int .i64 o.t.size) ∧ ww.cell? ⟨lb, lo + j * 9 + 2, none⟩ = some (.int .u32 o.t.va) ∧ ww.cell? ⟨lb, lo + j * 9 + 3, none⟩ = some (.int .u64 o.t.pa) ∧ ww.cell? ⟨lb, lo + j * 9 + 4, none⟩ = some (.int .i64 o.t.dom) ∧ ww.cell? ⟨lb, lo + j * 9 + 5, none⟩ = some (.int .i64 o.t.ap) ∧ ww.cell? ⟨lb, lo + j * 9 + 6, none⟩ = some (.int .u32 o.t.bits) ∧ ww.cell? ⟨lb, lo + j * 9 + 7, none⟩ = some (.bool o.t.ng) ∧ ww.cell? ⟨lb, lo + j * 9 + 8, none⟩ = some (.bool o.t.xn) ∧ ww.cell? ⟨pb, po + k, none⟩ = some (.int .i64 pk)) (by kernel_rfl) ?_ (fun hHeld => ?_)
          · exact HJ.out
          refine wpAnyH_take (i := 0) (oi := { dst := some 92, op := Op.move (Operand.tmp 15), type := 78, pos := _, after := #[], guard := none }) (v := ?_) rfl (by kernel_rfl) (by kernel_rfl) (by kernel_rfl) (fun _ _ _ h => hpan h) (Or.inl ⟨by rfl, ?_⟩) (by assumption) ?_
          rotate_left
          · (intro w hSw; (try dsimp only at hSw); go_simp; try with_reducible rfl)
          simp only [Act.put, List.setIfInBounds_toArray, List.set_cons_zero, List.set_cons_succ]
          refine wpAnyH_take (i := 1) (oi := { dst := some 93, op := Op.move (Operand.tmp 17), type := 31, pos := _, after := #[], guard := none }) (v := ?_) rfl (by kernel_rfl) (by kernel_rfl) (by kernel_rfl) (fun _ _ _ h => hpan h) (Or.inl ⟨by rfl, ?_⟩) (by assumption) ?_
          rotate_left
          · (intro w hSw; (try dsimp only at hSw); go_simp; try with_reducible rfl)
          simp only [Act.put, List.setIfInBounds_toArray, List.set_cons_zero, List.set_cons_succ]
          refine wpAnyH_take (i := 2) (oi := { dst := some 94, op := Op.move (Operand.tmp 19), type := 3, pos := _, after := #[], guard := none }) (v := ?_) rfl (by kernel_rfl) (by kernel_rfl) (by kernel_rfl) (fun _ _ _ h => hpan h) (Or.inl ⟨by rfl, ?_⟩) (by assumption) ?_
          rotate_left
          · (intro w hSw; (try dsimp only at hSw); go_simp; try with_reducible rfl)
          simp only [Act.put, List.setIfInBounds_toArray, List.set_cons_zero, List.set_cons_succ]
          refine wpAnyH_take (i := 3) (oi := { dst := some 95, op := Op.indexAddr 31 (Operand.tmp 93) (Operand.tmp 94), type := 0, pos := _, after := #[{ on := 1, ground := Ground.data }, { on := 2, ground := Ground.data }], guard := none }) (v := ?_) rfl (by kernel_rfl) (by kernel_rfl) (by kernel_rfl) (fun _ _ _ h => hpan h) (Or.inl ⟨by rfl, ?_⟩) (by assumption) ?_
          rotate_left
          · (intro w hSw; (try dsimp only at hSw); go_simp; try with_reducible rfl)
          simp only [Act.put, List.setIfInBounds_toArray, List.set_cons_zero, List.set_cons_succ]
          refine wpAnyH_take (i := 4) (oi := { dst := some 96, op := Op.load 45 (Operand.tmp 95), type := 45, pos := _, after := #[{ on := 3, ground := Ground.data }], guard := none }) (v := ?_) rfl (by kernel_rfl) (by kernel_rfl) (by kernel_rfl) (fun _ _ _ h => hpan h) (Or.inl ⟨by rfl, ?_⟩) (by assumption) ?_
          rotate_left
          · (intro w hSw; (try dsimp only at hSw); go_simp; try with_reducible rfl)
          simp only [Act.put, List.setIfInBounds_toArray, List.set_cons_zero, List.set_cons_succ]
          refine wpAnyH_take (i := 5) (oi := { dst := some 97, op := Op.move (Operand.tmp 3), type := 77, pos := _, after := #[], guard := none }) (v := ?_) rfl (by kernel_rfl) (by kernel_rfl) (by kernel_rfl) (fun _ _ _ h => hpan h) (Or.inl ⟨by rfl, ?_⟩) (by assumption) ?_
          rotate_left
          · (intro w hSw; (try dsimp only at hSw); go_simp; try with_reducible rfl)
          simp only [Act.put, List.setIfInBounds_toArray, List.set_cons_zero, List.set_cons_succ]
          refine wpAnyH_take (i := 6) (oi := { dst := some 98, op := Op.move (Operand.tmp 18), type := 3, pos := _, after := #[], guard := none }) (v := ?_) rfl (by kernel_rfl) (by kernel_rfl) (by kernel_rfl) (fun _ _ _ h => hpan h) (Or.inl ⟨by rfl, ?_⟩) (by assumption) ?_
          rotate_left
          · (intro w hSw; (try dsimp only at hSw); go_simp; try with_reducible rfl)
          simp only [Act.put, List.setIfInBounds_toArray, List.set_cons_zero, List.set_cons_succ]
          refine wpAnyH_take (i := 7) (oi := { dst := some 99, op := Op.indexAddr 77 (Operand.tmp 97) (Operand.tmp 98), type := 0, pos := _, after := #[{ on := 5, ground := Ground.data }, { on := 6, ground := Ground.data }], guard := none }) (v := ?_) rfl (by kernel_rfl) (by kernel_rfl) (by kernel_rfl) (fun _ _ _ h => hpan h) (Or.inl ⟨by rfl, ?_⟩) (by assumption) ?_
          rotate_left
          · (intro w hSw; (try dsimp only at hSw); go_simp; try with_reducible rfl)
          simp only [Act.put, List.setIfInBounds_toArray, List.set_cons_zero, List.set_cons_succ]
          refine wpAnyH_take (i := 8) (oi := { dst := some 100, op := Op.load 3 (Operand.tmp 99), type := 3, pos := _, after := #[{ on := 7, ground := Ground.data }], guard := none }) (v := ?_) rfl (by kernel_rfl) (by kernel_rfl) (by kernel_rfl) (fun _ _ _ h => hpan h) (Or.inl ⟨by rfl, ?_⟩) (by assumption) ?_
          rotate_left
          · (intro w hSw; (try dsimp only at hSw); go_simp; try with_reducible rfl)
          simp only [Act.put, List.setIfInBounds_toArray, List.set_cons_zero, List.set_cons_succ]
          refine wpAnyH_ready (rs := [9]) (by kernel_rfl) (by simp) ?_
          refine AllReadyH.cons (o := { dst := some 101, op := Op.call { callee := Callee.value (Operand.func 29), args := #[Operand.tmp 92, Operand.tmp 96, Operand.tmp 100], argTypes := #[78, 45, 3] }, type := 82, pos := _, after := #[{ on := 0, ground := Ground.data }, { on := 4, ground := Ground.data }, { on := 8, ground := Ground.data }], guard := none }) rfl (fun K hK => ?_) AllReadyH.nil
          go_simp
          (go_at_call 29; refine HPu.out.mono ?_; rintro e w1 ⟨rfl, g1, g2⟩; have HP1 := hidW g1; have HT1 : Hid (Turn (· = tg) w w1) := HTD.out.then g2; have HJ := hidW (HH.out _ HT1.out); clear g1 g2)
          refine hK.out _ _ ?_ (fun hHeld => ?_)
          · ((try dsimp only); with_reducible exact HJ.out)
          clear hK K
          try simp only [Act.put, List.setIfInBounds_toArray, List.set_cons_zero, List.set_cons_succ]
          refine wpAnyH_take (i := 10) (oi := { dst := some 91, op := Op.move (Operand.tmp 101), type := 82, pos := _, after := #[{ on := 9, ground := Ground.data }], guard := none }) (v := ?_) rfl (by kernel_rfl) (by kernel_rfl) (by kernel_rfl) (fun _ _ _ h => hpan h) (Or.inl ⟨by rfl, ?_⟩) (by assumption) ?_
          rotate_left
          · (intro w hSw; (try dsimp only at hSw); go_simp; try with_reducible rfl)
          simp only [Act.put, List.setIfInBounds_toArray, List.set_cons_zero, List.set_cons_succ]
          refine wpAnyH_take (i := 11) (oi := { dst := some 102, op := Op.extract (Operand.tmp 91) 0, type := 3, pos := _, after := #[{ on := 10, ground := Ground.data }], guard := none }) (v := ?_) rfl (by kernel_rfl) (by kernel_rfl) (by kernel_rfl) (fun _ _ _ h => hpan h) (Or.inl ⟨by rfl, ?_⟩) (by assumption) ?_
          rotate_left
          · (intro w hSw; (try dsimp only at hSw); go_simp; try with_reducible rfl)
          simp only [Act.put, List.setIfInBounds_toArray, List.set_cons_zero, List.set_cons_succ]
          refine wpAnyH_take (i := 12) (oi := { dst := some 103, op := Op.extract (Operand.tmp 91) 1, type := 68, pos := _, after := #[{ on := 10, ground := Ground.data }, { on := 13, ground := Ground.gcOnly Departure.lateStores }], guard := none }) (v := ?_) rfl (by kernel_rfl) (by kernel_rfl) (by kernel_rfl) (fun _ _ _ h => hpan h) (Or.inl ⟨by rfl, ?_⟩) (by assumption) ?_
          rotate_left
          · (intro w hSw; (try dsimp only at hSw); go_simp; try with_reducible rfl)
          simp only [Act.put, List.setIfInBounds_toArray, List.set_cons_zero, List.set_cons_succ]
          refine wpAnyH_take (i := 13) (oi := { dst := some 20, op := Op.assign (Operand.tmp 102), type := 3, pos := _, after := #[{ on := 11, ground := Ground.data }, { on := 9, ground := Ground.chain }, { on := 0, ground := Ground.phase }, { on := 1, ground := Ground.phase }, { on := 2, ground := Ground.phase }, { on := 3, ground := Ground.phase }, { on := 4, ground := Ground.phase }, { on := 5, ground := Ground.phase }, { on := 6, ground := Ground.phase }, { on := 7, ground := Ground.phase }, { on := 8, ground := Ground.phase }, { on := 9, ground := Ground.phase }, { on := 10, ground := Ground.phase }, { on := 11, ground := Ground.phase }, { on := 12, ground := Ground.textOnly Departure.lateStores }], guard := none }) (v := ?_) rfl (by kernel_rfl) (by kernel_rfl) (by kernel_rfl) (fun _ _ _ h => hpan h) (Or.inl ⟨by rfl, ?_⟩) (by assumption) ?_
          rotate_left
          · (intro w hSw; (try dsimp only at hSw); go_simp; try with_reducible rfl)
          simp only [Act.put, List.setIfInBounds_toArray, List.set_cons_zero, List.set_cons_succ]
          refine wpAnyH_take (i := 14) (oi := { dst := some 21, op := Op.assign (Operand.tmp 103), type := 68, pos := _, after := #[{ on := 12, ground := Ground.data }, { on := 13, ground := Ground.chain }, { on := 0, ground := Ground.phase }, { on := 1, ground := Ground.phase }, { on := 2, ground := Ground.phase }, { on := 3, ground := Ground.phase }, { on := 4, ground := Ground.phase }, { on := 5, ground := Ground.phase }, { on := 6, ground := Ground.phase }, { on := 7, ground := Ground.phase }, { on := 8, ground := Ground.phase }, { on := 9, ground := Ground.phase }, { on := 10, ground := Ground.phase }, { on := 11, ground := Ground.phase }, { on := 12, ground := Ground.phase }, { on := 13, ground := Ground.phase }], guard := none }) (v := ?_) rfl (by kernel_rfl) (by kernel_rfl) (by kernel_rfl) (fun _ _ _ h => hpan h) (Or.inl ⟨by rfl, ?_⟩) (by assumption) ?_
          rotate_left
          · (intro w hSw; (try dsimp only at hSw); go_simp; try with_reducible rfl)
          simp only [Act.put, List.setIfInBounds_toArray, List.set_cons_zero, List.set_cons_succ]
          refine wpAnyH_done (by kernel_rfl) ?_ _
          go_wp2_with (first
            | (go_at_call 21; refine (HN.out _).mono ?_; rintro e w2 ⟨rfl, rfl⟩))
          go_roundw
          case rel => exact ⟨k + 1, _, by omega, by go_num, HP1, HVe, HT1⟩
          case measure => simp [intOf]; omega
    · obtain rfl : k = np := by omega
      go_wp2
      exact HQ.out HPr.out HVr.out HTr.out
end Go.Proofs.YtnjlajjjcmhfgaaGreatDoor
