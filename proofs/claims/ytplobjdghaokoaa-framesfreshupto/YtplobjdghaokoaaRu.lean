import Derived.Test.YtplobjdghaokoaaLx
namespace Go.Proofs.Ytplobjdghaokoaa
open Go.RowKit
set_option linter.unusedVariables false

theorem infoR : (Try.prog.info? 42).map (fun i => (i.zero, i.size, i.bytes)) = some (some (.agg #[.int .i64 0, .int .i64 0]), 2, 16) := by kernel_rfl
/-- append of one run onto a list that is owned. -/
theorem app_run {W : World} {lo : Nat} {v : Value} {A : List (Nat × Nat)} (h : W.ownsRow lo 42 2 v A.length (A.flatMap encR)) (x : Nat × Nat) (hlo : lo ≤ W.heap.size) (hl : A.length ≤ 8796093022200) :
    ∃ v' w', (∀ ty, (Builtin.append_ #[39, 39] ty #[v, .slice (some ⟨W.heap.size, 0, none⟩) 1 1]).run Try.prog (W.alloc (.cells #[.int .i64 (x.1 : Int), .int .i64 (x.2 : Int)] 42)) = .ok v' w') ∧ w'.ownsRow lo 42 2 v' (A ++ [x]).length ((A ++ [x]).flatMap encR) ∧ Turn (fun b => lo ≤ b) W w' := by
  obtain ⟨i0, hi, hz0, hz1, hz2⟩ := info_parts infoR
  have T0 : Turn (fun _ => False) W (W.alloc (.cells #[.int .i64 (x.1 : Int), .int .i64 (x.2 : Int)] 42)) := (Turn.refl _ W).alloc _
  have hrow := row_new W [.int .i64 (x.1 : Int), .int .i64 (x.2 : Int)] 42
  have hown := own_turn h T0 (fun _ _ h => h)
  have hsz : (W.alloc (.cells #[.int .i64 (x.1 : Int), .int .i64 (x.2 : Int)] 42)).heap.size = W.heap.size + 1 := by simp
  have hsrc : Src Try.prog 2 39 (.slice (some ⟨W.heap.size, 0, none⟩) 1 1) 1 [.int .i64 (x.1 : Int), .int .i64 (x.2 : Int)] (W.alloc (.cells #[.int .i64 (x.1 : Int), .int .i64 (x.2 : Int)] 42)) :=
    Src.ofSlice _ Try.underlying39 ⟨W.heap.size, 0, none⟩ 1 1 _ rfl (fun j u hj => by rw [Addr.add_lit, Nat.zero_add]; exact (hrow.cell j).trans hj) (fun u hu => by simp at hu; rcases hu with rfl | rfl <;> rfl)
  obtain ⟨v', w', hr, ho, hg, hb⟩ := append_any (P := Try.prog) (W.alloc (.cells #[.int .i64 (x.1 : Int), .int .i64 (x.2 : Int)] 42)) 39 42 i0 _ Try.underlying39 hi hz0 (by rw [hz1]; rfl) lo A.length 1 v (.slice (some ⟨W.heap.size, 0, none⟩) 1 1) (A.flatMap encR) [.int .i64 (x.1 : Int), .int .i64 (x.2 : Int)] (by rw [hz1]; exact hown) (by rw [hz1]; exact hsrc) (by omega) (by unfold maxLen; omega) (by rw [hz2]; omega)
  rw [hz1] at ho
  refine ⟨v', w', hr, ?_, T0.mono (fun _ _ h => h.elim) |>.trans (Turn.grown (S := fun b => lo ≤ b) hg (fun k hk => ?_)) (fun b hb => .inl hb)⟩
  · rw [List.length_append, List.flatMap_append]
    exact ho
  · exact .inl (own_block_new hown hk).1
/-- The last run is one longer. -/
theorem bump_run {W : World} {lo g cap : Nat} {l : List (Nat × Nat)} {a c : Nat} (h : W.ownsRow lo 42 2 (.slice (some ⟨g, 0, none⟩) (l.length + 1) cap) (l ++ [(a, c)]).length ((l ++ [(a, c)]).flatMap encR)) (x : Int) (hx : x = (c : Int) + 1) :
    (W.setCell ⟨g, l.length * 2 + 1, none⟩ (.int .i64 x)).ownsRow lo 42 2 (.slice (some ⟨g, 0, none⟩) (l.length + 1) cap) (l ++ [(a, c + 1)]).length ((l ++ [(a, c + 1)]).flatMap encR) := by
  subst hx
  rcases row_of_own h with ⟨e, _, _⟩ | ⟨g', cap', cur, e, h2, h3, h4, h5, h6, h7⟩
  · cases e
  · have el : (l ++ [(a, c)]).length = l.length + 1 := by simp
    have el' : (l ++ [(a, c + 1)]).length = l.length + 1 := by simp
    rw [el] at e h4 h7
    cases e
    rw [el']
    refine own_of_row (h3.set _ _) h2 h4 h5 (by rw [List.length_set]; exact h6) ?_
    rw [List.take_set, h7, List.flatMap_append, List.flatMap_append, List.set_append_right _ _ (by rw [cat_len encR 2 (fun _ => rfl)]; omega), cat_len encR 2 (fun _ => rfl), show l.length * 2 + 1 - l.length * 2 = 1 by omega]
    rfl
theorem runsTo_val {f0 : Nat} {u : List Nat} {k : Nat} (hk : k ≤ u.length) {i a c : Nat} (h : (runsTo f0 u k)[i]? = some (a, c)) : c ≤ k := by
  obtain ⟨h1, h2, h3, h4⟩ := (runsOK_to f0 u k hk).each i a c h
  omega

set_option maxHeartbeats 8000000 in
set_option maxRecDepth 100000 in
theorem runs_any (W : World) (p ub f0 : Nat) (u : List Nat) (hP : PP W p ub f0 u) :
    Calls Try.prog 17 #[.pointer (some ⟨p, 0, none⟩)] W fun e W' => ∃ v, e = .returned v ∧ W'.ownsRow W.heap.size 42 2 v (runs f0 u).length ((runs f0 u).flatMap encR) ∧ Turn (fun _ => False) W W' := by
  obtain ⟨low, h⟩ := hP
  have n1 := h.n1
  have n2 := h.n2
  have HP : Hid (PPx W p ub f0 u low) := h
  have c1 := h.c1
  clear h
  generalize hn : u.length = n at *
  have HN : Hid (u.length = n) := hn
  clear hn
  go_enter Try.func17, Try.ntmps17
  go_wp2
  go_loopw [3, 11] (fun s3 s11 wr => ∃ k : Nat, k ≤ n ∧ s11 = .int .i64 k ∧ Hid (wr.ownsRow W.heap.size 42 2 s3 (runsTo f0 u k).length ((runsTo f0 u k).flatMap encR)) ∧ Hid (Turn (fun _ => False) W wr)) (fun _ s11 _ => n - (intOf s11).toNat)
  case atStart => exact ⟨0, Nat.zero_le _, rfl, World.ownsRow_nil _ _ _ _, Turn.refl _ _⟩
  case round =>
    obtain ⟨k, hk, rfl, HO, HT⟩ := hrel
    obtain ⟨va, vc, hv⟩ := slice_form HO.out
    subst hv
    have hpr := HP.out.keep HT.out (fun h => h) (fun h => h)
    have c0 := hpr.c0
    have c1' := hpr.c1
    rw [HN.out] at c1'
    have hrl := runsTo_len f0 u k
    by_cases hlt : k < n
    · obtain ⟨x, hx⟩ : ∃ x, u[k]? = some x := ⟨_, List.getElem?_eq_getElem (by rw [HN.out]; omega)⟩
      have hcx := hpr.cu hx
      by_cases hx0 : x = 0
      · subst hx0
        by_cases hk0 : 0 < k
        · obtain ⟨y, hy⟩ : ∃ y, u[k - 1]? = some y := ⟨_, List.getElem?_eq_getElem (by rw [HN.out]; omega)⟩
          have hcy := hpr.cu hy
          by_cases hy0 : y = 0
          · subst hy0
            obtain ⟨l, a, c, e⟩ := runsTo_last f0 u k hk0 hy
            have e2 : runsTo f0 u (k + 1) = l ++ [(a, c + 1)] := by
              show (if u[k]? ≠ some 0 then _ else _) = _
              rw [if_neg (by simp [hx]), if_pos ⟨hk0, hy⟩, e, bump_snoc]
            have hcv := runsTo_val (f0 := f0) (u := u) (k := k) (by rw [HN.out]; exact hk) (show (runsTo f0 u k)[l.length]? = some (a, c) by rw [e]; simp)
            have ho := HO.out
            have el : (l ++ [(a, c)]).length = l.length + 1 := by simp
            rw [e, el] at ho
            obtain ⟨g, hg⟩ : ∃ g, va = some ⟨g, 0, none⟩ := by
              rcases row_of_own ho with ⟨_, h1, _⟩ | ⟨g, _, _, h1, _⟩
              · omega
              · cases h1; exact ⟨g, rfl⟩
            subst hg
            have hrat : wr.cell? ⟨g, l.length * 2 + 1, none⟩ = some (.int .i64 (c : Int)) := by
              have := cat_at encR 2 (fun _ => rfl) (show (l ++ [(a, c)])[l.length]? = some (a, c) by simp) 1 (by omega)
              rw [World.ownsRow.cellAt ho (l.length * 2 + 1) (by omega), this]
              rfl
            have hfz : ∀ o, wr.frozen? ⟨g, o, none⟩ = false := by
              rcases row_of_own ho with ⟨_, h1, _⟩ | ⟨g', _, _, h1, _, hr, _⟩
              · omega
              · cases h1; exact hr.frozen
            have hgl : W.heap.size ≤ g := (own_block_new ho rfl).1
            have HS : Hid ((wr.setCell ⟨g, l.length * 2 + 1, none⟩ (.int .i64 ((c : Int) + 1))).ownsRow W.heap.size 42 2 (.slice (some ⟨g, 0, none⟩) (l.length + 1) vc) (runsTo f0 u (k + 1)).length ((runsTo f0 u (k + 1)).flatMap encR) ∧ Turn (fun _ => False) W (wr.setCell ⟨g, l.length * 2 + 1, none⟩ (.int .i64 ((c : Int) + 1)))) := by
              rw [e2]
              rw [← el] at ho
              have := bump_run (l := l) (a := a) (c := c) (g := g) (cap := vc) (by rw [← el]; exact ho) ((c : Int) + 1) rfl
              exact ⟨this, HT.out.setCell (.inr hgl) _⟩
            have erl : (runsTo f0 u k).length = l.length + 1 := by rw [e, el]
            rw [erl] at hrl
            generalize (runsTo f0 u k).length = ml at *
            subst erl
            have hll : l.length ≤ 1048576 := by omega
            generalize hq : l.length = q at *
            have hcb : (c : Int) ≤ 1048576 := by omega
            clear ho hx hy e e2 el HO hpr hgl hcv
            have hkz : decide ((0 : Int) < (k : Int)) = true := decide_eq_true (by omega)
            have hk1 : ((k : Int) - 1).toNat = k - 1 := by omega
            go_wp2
            go_roundw
            case rel => exact ⟨k + 1, by omega, by go_num, HS.out.1, HS.out.2⟩
            case measure => simp [intOf]; omega
          · have e2 : runsTo f0 u (k + 1) = runsTo f0 u k ++ [(f0 + k, 1)] := by
              show (if u[k]? ≠ some 0 then _ else _) = _
              rw [if_neg (by simp [hx]), if_neg (by simp [hy, hy0])]
            obtain ⟨v', w', hr, ho', ht'⟩ := app_run HO.out (f0 + k, 1) HT.out.size (by omega)
            rw [← e2] at ho'
            have HS : Hid (w'.ownsRow W.heap.size 42 2 v' (runsTo f0 u (k + 1)).length ((runsTo f0 u (k + 1)).flatMap encR) ∧ Turn (fun _ => False) W w') := ⟨ho', HT.out.trans ht' (fun b hb => .inr hb)⟩
            have hr' : ∀ ty, (Builtin.append_ #[39, 39] ty #[.slice va (runsTo f0 u k).length vc, .slice (some ⟨wr.heap.size, 0, none⟩) 1 1]).run Try.prog (wr.alloc (.cells #[.int .i64 ((f0 : Int) + (k : Int)), .int .i64 1] 42)) = .ok v' w' := fun ty => by
              have := hr ty
              rw [show (((f0 + k, 1) : Nat × Nat).1 : Int) = (f0 : Int) + (k : Int) by simp, show (((f0 + k, 1) : Nat × Nat).2 : Int) = 1 by simp] at this
              exact this
            generalize (runsTo f0 u k).length = ml at *
            clear HO ho' ht' hr e2 hx hpr hy
            have hyz : ¬ ((y : Int) = 0) := by omega
            have hkz : decide ((0 : Int) < (k : Int)) = true := decide_eq_true (by omega)
            have hk1 : ((k : Int) - 1).toNat = k - 1 := by omega
            go_wp2_with (first
              | (at_builtin; refine Lib.wpList_append_run _ rfl _ _ 39 39 rfl _ _ rfl rfl _ _ (hr' _) ?_; clear hr')
              | go_in)
            go_roundw
            case rel => exact ⟨k + 1, by omega, by go_num, HS.out.1, HS.out.2⟩
            case measure => simp [intOf]; omega
        · have e2 : runsTo f0 u (k + 1) = runsTo f0 u k ++ [(f0 + k, 1)] := by
            show (if u[k]? ≠ some 0 then _ else _) = _
            rw [if_neg (by simp [hx]), if_neg (by simp [hk0])]
          obtain ⟨v', w', hr, ho', ht'⟩ := app_run HO.out (f0 + k, 1) HT.out.size (by omega)
          rw [← e2] at ho'
          have HS : Hid (w'.ownsRow W.heap.size 42 2 v' (runsTo f0 u (k + 1)).length ((runsTo f0 u (k + 1)).flatMap encR) ∧ Turn (fun _ => False) W w') := ⟨ho', HT.out.trans ht' (fun b hb => .inr hb)⟩
          have hr' : ∀ ty, (Builtin.append_ #[39, 39] ty #[.slice va (runsTo f0 u k).length vc, .slice (some ⟨wr.heap.size, 0, none⟩) 1 1]).run Try.prog (wr.alloc (.cells #[.int .i64 ((f0 : Int) + (k : Int)), .int .i64 1] 42)) = .ok v' w' := fun ty => by
            have := hr ty
            rw [show (((f0 + k, 1) : Nat × Nat).1 : Int) = (f0 : Int) + (k : Int) by simp, show (((f0 + k, 1) : Nat × Nat).2 : Int) = 1 by simp] at this
            exact this
          generalize (runsTo f0 u k).length = ml at *
          clear HO ho' ht' hr e2 hx hpr
          have hkz : decide ((0 : Int) < (k : Int)) = false := decide_eq_false (by omega)
          go_wp2_with (first
            | (at_builtin; refine Lib.wpList_append_run _ rfl _ _ 39 39 rfl _ _ rfl rfl _ _ (hr' _) ?_; clear hr')
            | go_in)
          go_roundw
          case rel => exact ⟨k + 1, by omega, by go_num, HS.out.1, HS.out.2⟩
          case measure => simp [intOf]; omega
      · have e2 : runsTo f0 u (k + 1) = runsTo f0 u k := by
          show (if u[k]? ≠ some 0 then _ else _) = _
          rw [if_pos (by simp [hx, hx0])]
        have HE : Hid (runsTo f0 u (k + 1) = runsTo f0 u k) := e2
        have hxz : ¬ ((x : Int) = 0) := by omega
        clear hx e2 hpr
        generalize hml : (runsTo f0 u k).length = ml at *
        have HML : Hid ((runsTo f0 u k).length = ml) := hml
        clear hml
        go_wp2
        go_roundw
        case rel => exact ⟨k + 1, by omega, by go_num, by show World.ownsRow _ _ _ _ _ _ _; rw [HE.out, HML.out]; exact HO.out, HT⟩
        case measure => simp [intOf]; omega
    · obtain rfl : k = n := by omega
      have HO2 : Hid (wr.ownsRow W.heap.size 42 2 (.slice va (runsTo f0 u k).length vc) (runs f0 u).length ((runs f0 u).flatMap encR)) := by
        have := HO.out
        unfold runs
        rw [HN.out]
        exact this
      clear hpr
      generalize (runsTo f0 u k).length = ml at *
      go_wp2
      go_ret
      exact ⟨_, rfl, HO2.out, HT.out⟩

set_option maxHeartbeats 4000000 in
theorem all_any (W : World) (p ub f0 : Nat) (u : List Nat) (hP : PP W p ub f0 u) :
    Calls Try.prog 19 #[.pointer (some ⟨p, 0, none⟩)] W fun e W' => e = .returned (.agg #[.int .i64 f0, .int .i64 u.length]) ∧ Turn (fun _ => False) W W' := by
  obtain ⟨low, h⟩ := hP
  have c0 := h.c0
  have c1 := h.c1
  have hlt := h.box.lt
  clear h
  generalize u.length = n at *
  go_enter Try.func19, Try.ntmps19
  go_wp2
  go_region
  all_goals
    go_wp2
    exact bodyPost_ret (v := .agg #[.int .i64 f0, .int .i64 n]) (by simp [results, Try.results19, go_sem]) rfl ⟨rfl, ((Turn.refl _ _).alloc _).drewN 1⟩
end Go.Proofs.Ytplobjdghaokoaa
