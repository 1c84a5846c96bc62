import Derived.Test.YtlfgnbjioofplabTi
import Derived.Deep.Cut
namespace Go.Proofs.Ytlfgnbjioofplab
open Go.RowKit
set_option linter.unusedVariables false

set_option maxHeartbeats 16000000 in
set_option maxRecDepth 100000 in
theorem take_any (W : World) (bb : Nat) (v : Nat → Value) (es : List Ent) (hO : BO W bb v (fun k => es.map (proj k))) (hI : ∀ e ∈ es, Inn W e) (gl : Nat) (cl : List Value) (rl : RowAt W gl 5 cl) (hL : cl.length = 64)
    (gt ct nt : Nat) (cu : List Value) (rt : RowAt W gt 3 cu) (hct : ct ≤ 65536) (hnt : nt ≤ ct) (hcu : cu.length = ct) (hn : es.length ≤ 4194304)
    (hgl : ∀ e ∈ es, ∀ k, k < 4 → (proj k e).ownBlock ≠ some gl) (hgt : ∀ e ∈ es, ∀ k, k < 4 → (proj k e).ownBlock ≠ some gt) :
    Calls Try.prog 13 #[.pointer (some ⟨bb, 0, none⟩), .slice (some ⟨gl, 0, none⟩) 64 64, .slice (some ⟨gt, 0, none⟩) nt ct] W fun e W' => e = .returned (.tuple #[]) ∧ ∃ v' en, BO W' bb v' (fun k => (es ++ [en]).map (proj k)) ∧ (∀ e ∈ es ++ [en], Inn W' e) ∧
      Turn (fun b => b = bb ∨ (∃ k, k < 4 ∧ (v k).ownBlock = some b) ∨ b = gl ∨ b = gt) W W' ∧ (∀ k b, k < 4 → (v' k).ownBlock = some b → (v k).ownBlock = some b ∨ W.heap.size ≤ b) ∧ (∀ k b, k < 4 → (proj k en).ownBlock = some b → b = gl ∨ b = gt ∨ W.heap.size ≤ b) := by
  obtain ⟨a0, c0, f0⟩ := hO.form (k := 0) (by omega)
  obtain ⟨a2, c2, f2⟩ := hO.form (k := 2) (by omega)
  have e0 := hO.cell (k := 0) (by omega)
  have e2 := hO.cell (k := 2) (by omega)
  rw [f0, List.length_map] at e0
  rw [f2, List.length_map] at e2
  have HO : Hid (BO W bb v (fun k => es.map (proj k))) := hO
  have HI : Hid (∀ e ∈ es, Inn W e) := hI
  have HR : Hid (RowAt W gl 5 cl ∧ RowAt W gt 3 cu) := ⟨rl, rt⟩
  have hbl : bb ≠ gl := fun e => by subst e; exact absurd (row_ty hO.box rl) (by decide)
  have hbt : bb ≠ gt := fun e => by subst e; exact absurd (row_ty hO.box rt) (by decide)
  have hlt : gl ≠ gt := fun e => by subst e; exact absurd (row_ty rl rt) (by decide)
  have hbW := hO.box.lt
  clear hO hI rl rt
  generalize hne : es.length = n at *
  have HN : Hid (es.length = n) := hne
  clear hne
  go_enter Try.func13, Try.ntmps13
  go_wp2
  have hmz : (0 : Int) ≤ 100 + (n : Int) % 100 ∧ 100 + (n : Int) % 100 < 256 := by omega
  have hm2 : -9223372036854775808 ≤ (-5 : Int) - (n : Int) ∧ (-5 : Int) - (n : Int) ≤ 9223372036854775807 := by omega
  generalize hmk : 100 + (n : Int) % 100 = mk at *
  clear hmk
  go_loopw [7] (fun i wr => ∃ k : Nat, k ≤ 64 ∧ i = .int .i64 k ∧ Hid (Mk wr W (fun b => b = gl) gl 5 (.int .u8 mk) 64 k)) (fun i _ => 64 - (intOf i).toNat)
  case atStart => exact ⟨0, Nat.zero_le _, rfl, Turn.refl _ _, cl, HR.out.1, hL, rfl⟩
  case round =>
    obtain ⟨k, hk, rfl, HM⟩ := hrel
    by_cases hlt2 : k < 64
    · have hkz : (k : Int) < 64 := by omega
      obtain ⟨T, cur, hr, hcl, ht⟩ := HM.out
      obtain ⟨u, hu⟩ : ∃ u, cur[k]? = some u := ⟨_, List.getElem?_eq_getElem (by omega)⟩
      have q1 : wr.cell? ⟨gl, k, none⟩ = some u := by rw [hr.cell]; exact hu
      have q2 := hr.frozen k
      have HM2 : Hid _ := HM.out.next rfl hlt2
      clear T hr hcl ht hu
      go_wp2
      go_roundw
      case rel => exact ⟨k + 1, by omega, by go_num, HM2⟩
      case measure => simp [intOf]; omega
    · have hk4 : k = 64 := by omega
      subst hk4
      clear hlt2
      go_wp2
      generalize wr = wy at *
      have HM0 : Hid (Mk wy W (fun b => b = gl ∨ b = gt) gt 3 (.int .i64 (-5 - (n : Int))) ct 0 ∧ RowAt wy gl 5 (encB (List.replicate 64 mk))) := by
        obtain ⟨T, cur, hr, hcl, ht⟩ := HM.out
        refine ⟨⟨T.mono (fun _ _ h => .inl h), cu, HR.out.2.turn T (fun e => hlt e.symm), hcu, rfl⟩, ?_⟩
        rw [List.take_of_length_le (by omega)] at ht
        rw [encB, List.map_replicate, ← ht]
        exact hr
      clear HM
      go_loopw [8] (fun i wr => ∃ k : Nat, k ≤ nt ∧ i = .int .i64 k ∧ Hid (Mk wr W (fun b => b = gl ∨ b = gt) gt 3 (.int .i64 (-5 - (n : Int))) ct k ∧ RowAt wr gl 5 (encB (List.replicate 64 mk)))) (fun i _ => nt - (intOf i).toNat)
      case atStart => exact ⟨0, Nat.zero_le _, rfl, HM0⟩
      case round =>
        obtain ⟨k, hk, rfl, HM⟩ := hrel
        clear HM0
        by_cases hlt2 : k < nt
        · have hkz : (k : Int) < (nt : Int) := by omega
          obtain ⟨⟨T, cur, hr, hcl, ht⟩, hrl⟩ := HM.out
          obtain ⟨u, hu⟩ : ∃ u, cur[k]? = some u := ⟨_, List.getElem?_eq_getElem (by omega)⟩
          have q1 : wr.cell? ⟨gt, k, none⟩ = some u := by rw [hr.cell]; exact hu
          have q2 := hr.frozen k
          have q3 : wr.cell? ⟨bb, 2, none⟩ = some (.slice a2 n c2) := by rw [T.cell hbW (fun e => e.elim hbl hbt)]; exact e2
          have HM2 : Hid (Mk (wr.setCell ⟨gt, k, none⟩ (.int .i64 (-5 - (n : Int)))) W (fun b => b = gl ∨ b = gt) gt 3 (.int .i64 (-5 - (n : Int))) ct (k + 1) ∧ RowAt (wr.setCell ⟨gt, k, none⟩ (.int .i64 (-5 - (n : Int)))) gl 5 (encB (List.replicate 64 mk))) :=
            ⟨HM.out.1.next (.inr rfl) (by omega), hrl.turn ((Turn.refl (fun b => b = gt) wr).setCell (p := ⟨gt, k, none⟩) (.inl rfl) _) hlt⟩
          clear T hr hcl ht hu hrl
          go_wp2
          go_roundw
          case rel => exact ⟨k + 1, by omega, by go_num, HM2⟩
          case measure => simp [intOf]; omega
        · have hk4 : k = nt := by omega
          subst hk4
          have HT0 : Hid (Turn (fun b => b = gl ∨ b = gt) W wr ∧ RowAt wr gl 5 (encB (List.replicate 64 mk)) ∧ ∃ cur, RowAt wr gt 3 cur ∧ cur.length = ct ∧ cur.take k = encI (List.replicate k (-5 - (n : Int)))) := by
            obtain ⟨⟨T, cur, hr, hcl, ht⟩, hrl⟩ := HM.out
            exact ⟨T, hrl, cur, hr, hcl, by rw [ht]; simp [encI]⟩
          have hTS : TS wr wr bb v v (fun j => es.map (proj j)) es bb bb [(5, .slice (some ⟨gl, 0, none⟩) 64 64, encB (List.replicate 64 mk)), (3, .slice (some ⟨gt, 0, none⟩) k ct, encI (List.replicate k (-5 - (n : Int))))] := by
            obtain ⟨T, hrl, cur, hr, hcl, ht⟩ := HT0.out
            refine ⟨HO.out.keep T (fun e => e.elim hbl hbt) (fun j b hj hb e => ?_), fun e he => (HI.out e he).keep T (fun j b hj hb q => ?_), fun y hy => ?_, Turn.refl _ _, fun j b _ hb => .inl hb⟩
            · rcases e with rfl | rfl
              · obtain ⟨c1, h1⟩ := own_row (HO.out.own j hj) hb
                exact (ty_ne j).2.1 (row_ty h1 HR.out.1)
              · obtain ⟨c1, h1⟩ := own_row (HO.out.own j hj) hb
                exact (ty_ne j).2.2 (row_ty h1 HR.out.2)
            · rcases q with rfl | rfl
              · exact hgl e he j hj hb
              · exact hgt e he j hj hb
            · simp only [List.mem_cons, List.not_mem_nil, or_false] at hy
              rcases hy with rfl | rfl
              · exact ⟨.inl rfl, gl, 64, _, by simp [encB], hrl, by rw [List.take_of_length_le (Nat.le_refl _)]⟩
              · refine ⟨.inr rfl, gt, ct, cur, by simp [encI], hr, ?_⟩
                rw [encI_len, List.length_replicate]
                exact ht
          obtain ⟨b0, d0, g0, hq0⟩ := hTS.form (k := 0) (n := n) (by omega) (by rw [List.length_map]; exact HN.out)
          obtain ⟨a1, c1, w1, hr1, hTS1, k1, k2⟩ := hTS.stp (k := 0) (by omega) (t := 27) (e := 33) rfl rfl g0 (by rw [List.length_map]; exact HN.out) (by omega) (.slice (some ⟨gl, 0, none⟩) 64 64) rfl
          have HT1 : Hid _ := hTS1
          clear hTS1 HM hTS g0
          go_wp2_with (first
            | (at_builtin; refine Lib.wpList_append_run _ rfl _ _ 27 27 rfl _ _ rfl rfl _ _ (hr1 _) ?_; clear hr1)
            | go_in)
          generalize w1.setCell ⟨bb, 0, none⟩ (.slice a1 (n + 1) c1) = x1 at *
          clear k1 k2 hq0
          obtain ⟨b1, d1, g1, hq1⟩ := HT1.out.form (k := 1) (n := n) (by omega) (by rw [up_other _ _ (by omega), List.length_map]; exact HN.out)
          obtain ⟨gc, cc, w2, hr2, hgc, hTS2⟩ := HT1.out.copy 33 5 (.int .u8 0) 1 (.slice (some ⟨gl, 0, none⟩) 64 64) (encB (List.replicate 64 mk)) (n := 64) (by simp [encB]) (by simp) Try.underlying33 info8 rfl (by omega) (encB_one _) (by omega)
          have hq2 := hTS2.bo.cell (k := 1) (by omega)
          rw [g1] at hq2
          obtain ⟨a3, c3, w3, hr3, hTS3, k1, k2⟩ := hTS2.stp (k := 1) (by omega) (t := 27) (e := 33) rfl rfl g1 (by rw [up_other _ _ (by omega), List.length_map]; exact HN.out) (by omega) (.slice (some ⟨gc, 0, none⟩) 64 cc) rfl
          have HT3 : Hid _ := hTS3
          have hbx := World.block_lt_of_cell? x1 _ hq1
          have hbx2 := World.block_lt_of_cell? w2 _ hq2
          have hq1b : (x1.alloc (.cells #[] 5)).cell? ⟨bb, 1, none⟩ = some (.slice b1 n d1) := by rw [((Turn.refl (fun _ => False) x1).alloc _).cell hbx (fun h => h)]; exact hq1
          have hq2b : (w2.alloc (.cells #[.slice (some ⟨gc, 0, none⟩) 64 cc] 33)).cell? ⟨bb, 1, none⟩ = some (.slice b1 n d1) := by rw [((Turn.refl (fun _ => False) w2).alloc _).cell hbx2 (fun h => h)]; exact hq2
          clear hTS2 hTS3 HT1 g1
          go_cut [] from 43 (fun wx => wx = w3.setCell ⟨bb, 1, none⟩ (.slice a3 (n + 1) c3))
          case first =>
            go_region_law ((first
              | (refine step_append (by rfl) _ _ 33 33 (by rfl) _ _ (by simp [Act.eval]) (by simp [Act.eval]) (hr2 _) ?_; clear hr2)
              | (refine step_append (by rfl) _ _ 27 27 (by rfl) _ _ (by simp [Act.eval]) (by simp [Act.eval]) (hr3 _) ?_; clear hr3)))
            all_goals (go_wp2_with fail; go_meet; exact rfl)
          case rest =>
            subst hcut
            clear hr2 hr3 hq1b hq2b hq1 hq2 hbx hbx2 k1 k2
            generalize w3.setCell ⟨bb, 1, none⟩ (.slice a3 (n + 1) c3) = x3 at *
            obtain ⟨b4, d4, g4, hq4⟩ := HT3.out.form (k := 2) (n := n) (by omega) (by rw [up_other _ _ (by omega), up_other _ _ (by omega), List.length_map]; exact HN.out)
            obtain ⟨a4, c4, w4, hr4, hTS4, k1, k2⟩ := HT3.out.stp (k := 2) (by omega) (t := 28) (e := 47) rfl rfl g4 (by rw [up_other _ _ (by omega), up_other _ _ (by omega), List.length_map]; exact HN.out) (by omega) (.slice (some ⟨gt, 0, none⟩) k ct) rfl
            have HT4 : Hid _ := hTS4
            clear hTS4 g4 HT3
            go_wp2_with (first
              | (at_builtin; refine Lib.wpList_append_run _ rfl _ _ 28 28 rfl _ _ rfl rfl _ _ (hr4 _) ?_; clear hr4)
              | go_in)
            generalize w4.setCell ⟨bb, 2, none⟩ (.slice a4 (n + 1) c4) = x4 at *
            clear k1 k2 hq4
            obtain ⟨b5, d5, g5, hq5⟩ := HT4.out.form (k := 3) (n := n) (by omega) (by rw [up_other _ _ (by omega), up_other _ _ (by omega), up_other _ _ (by omega), List.length_map]; exact HN.out)
            obtain ⟨ge, ce, w6, hr6, hge, hTS6⟩ := HT4.out.copy 47 3 (.int .i64 0) 8 (.slice (some ⟨gt, 0, none⟩) k ct) (encI (List.replicate k (-5 - (n : Int)))) (n := k) (by simp [encI]) (by simp) Try.underlying47 infoI rfl (by omega) (encI_one _) (by omega)
            have hq6 := hTS6.bo.cell (k := 3) (by omega)
            rw [g5] at hq6
            obtain ⟨a7, c7, w7, hr7, hTS7, k1, k2⟩ := hTS6.stp (k := 3) (by omega) (t := 28) (e := 47) rfl rfl g5 (by rw [up_other _ _ (by omega), up_other _ _ (by omega), up_other _ _ (by omega), List.length_map]; exact HN.out) (by omega) (.slice (some ⟨ge, 0, none⟩) k ce) rfl
            have HT7 : Hid _ := hTS7
            have hbx := World.block_lt_of_cell? x4 _ hq5
            have hbx2 := World.block_lt_of_cell? w6 _ hq6
            have hq5b : (x4.alloc (.cells #[] 3)).cell? ⟨bb, 3, none⟩ = some (.slice b5 n d5) := by rw [((Turn.refl (fun _ => False) x4).alloc _).cell hbx (fun h => h)]; exact hq5
            have hq6b : (w6.alloc (.cells #[.slice (some ⟨ge, 0, none⟩) k ce] 47)).cell? ⟨bb, 3, none⟩ = some (.slice b5 n d5) := by rw [((Turn.refl (fun _ => False) w6).alloc _).cell hbx2 (fun h => h)]; exact hq6
            clear hTS6 hTS7 HT4 g5
            go_cut [] from 43 (fun wx => wx = w7.setCell ⟨bb, 3, none⟩ (.slice a7 (n + 1) c7))
            case first =>
              go_region_law ((first
                | (refine step_append (by rfl) _ _ 47 47 (by rfl) _ _ (by simp [Act.eval]) (by simp [Act.eval]) (hr6 _) ?_; clear hr6)
                | (refine step_append (by rfl) _ _ 28 28 (by rfl) _ _ (by simp [Act.eval]) (by simp [Act.eval]) (hr7 _) ?_; clear hr7)))
              all_goals (go_wp2_with fail; go_meet; exact rfl)
            case rest =>
              subst hcut
              clear hr6 hr7 hq5b hq6b hq5 hq6 hbx hbx2 k1 k2
              generalize w7.setCell ⟨bb, 3, none⟩ (.slice a7 (n + 1) c7) = x7 at *
              go_wp2
              have HL0 : Hid (L3 x7 x7 gl gt k ct (encB (List.replicate 64 mk)) (encI (List.replicate k (-5 - (n : Int)))) 0 0 (.slice (some ⟨gl, 0, none⟩) 64 64) (.slice (some ⟨gt, 0, none⟩) k ct)) := by
                obtain ⟨T, hrl, cur, hr, hcl, ht⟩ := HT0.out
                have hil := (HT7.out.ins (5, .slice (some ⟨gl, 0, none⟩) 64 64, encB (List.replicate 64 mk)) (by simp)).2
                have hit := (HT7.out.ins (3, .slice (some ⟨gt, 0, none⟩) k ct, encI (List.replicate k (-5 - (n : Int)))) (by simp)).2
                have hnb : ∀ g, g = gl ∨ g = gt → ¬ (g = bb ∨ (∃ k, k < 4 ∧ (v k).ownBlock = some g) ∨ g = bb ∨ g = bb) := fun g hg hq => by
                  have hne : g ≠ bb := by rcases hg with rfl | rfl; exact Ne.symm hbl; exact Ne.symm hbt
                  rcases hq with hq | ⟨j, hj, hq⟩ | hq | hq
                  · exact hne hq
                  · obtain ⟨c9, h9⟩ := own_row (HO.out.own j hj) hq
                    rcases hg with rfl | rfl
                    · exact (ty_ne j).2.1 (row_ty h9 HR.out.1)
                    · exact (ty_ne j).2.2 (row_ty h9 HR.out.2)
                  · exact hne hq
                  · exact hne hq
                refine ⟨Turn.refl _ _, hil, hit, ⟨_, own_of_row (hrl.turn HT7.out.trn (hnb gl (.inl rfl))) (Nat.zero_le _) (Nat.le_refl _) (by unfold maxLen; omega) (by simp [encB]) rfl, ?_⟩, ⟨_, own_of_row (hr.turn HT7.out.trn (hnb gt (.inr rfl))) (Nat.zero_le _) (by omega) (by unfold maxLen; omega) (by rw [hcl, Nat.mul_one]) rfl, ?_⟩, fun g hg => by cases hg; exact .inl rfl, fun g hg => by cases hg; exact .inl rfl⟩
                · simp [encB]
                · rw [Nat.mul_one, List.take_take, Nat.min_self]; exact ht
              have HB : Hid (gl < W.heap.size ∧ gt < W.heap.size ∧ wr.heap.size ≤ gc ∧ wr.heap.size ≤ ge) := ⟨HR.out.1.lt, HR.out.2.lt, hgc, hge⟩
              clear hgc hge hlt2
              generalize wr = w0 at *
              go_loopw [1, 2, 9] (fun lv tv i wr => ∃ j : Nat, j ≤ 64 ∧ i = .int .i64 j ∧ Hid (L3 x7 wr gl gt k ct (encB (List.replicate 64 mk)) (encI (List.replicate k (-5 - (n : Int)))) j j lv tv)) (fun _ _ i _ => 64 - (intOf i).toNat)
              case atStart => exact ⟨0, Nat.zero_le _, rfl, HL0⟩
              case round =>
                obtain ⟨j, hj, rfl, HL⟩ := hrel
                clear HL0
                by_cases hj2 : j < 64
                · have hjz : (j : Int) < 64 := by omega
                  obtain ⟨la, lc, rfl⟩ := HL.out.formL
                  obtain ⟨ta, tc, rfl⟩ := HL.out.formT
                  obtain ⟨l5, m5, w8, hr8, hL8⟩ := HL.out.stepL (by omega)
                  obtain ⟨l6, m6, w9, hr9, hL9⟩ := hL8.stepT (by omega) (by omega)
                  have HL9 : Hid _ := hL9
                  clear hL8 hL9 HL
                  go_wp2_with (first
                    | (at_builtin; refine Lib.wpList_append_run _ rfl _ _ 33 33 rfl _ _ rfl rfl _ _ (hr8 _) ?_; clear hr8)
                    | (at_builtin; refine Lib.wpList_append_run _ rfl _ _ 47 47 rfl _ _ rfl rfl _ _ (hr9 _) ?_; clear hr9)
                    | go_in)
                  go_roundw
                  case rel => exact ⟨j + 1, by omega, by go_num, HL9⟩
                  case measure => simp [intOf]; omega
                · go_wp2
                  refine bodyPost_end (results_none Try.results13 _ _ _) rfl ⟨rfl, ?_⟩
                  exact take_fin HT0.out.1 HT7.out HL.out hgl hgt hbl hbt HB.out.1 HB.out.2.1 HB.out.2.2.1 HB.out.2.2.2 (by omega) (by simp [up]) (by simp [up]) (by simp [up]) (by simp [up])
end Go.Proofs.Ytlfgnbjioofplab
