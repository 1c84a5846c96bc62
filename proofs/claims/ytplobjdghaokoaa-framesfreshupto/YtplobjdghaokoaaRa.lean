import Derived.Test.YtplobjdghaokoaaRu
import Derived.Test.YtplobjdghaokoaaSi
namespace Go.Proofs.Ytplobjdghaokoaa
open Go.RowKit
set_option linter.unusedVariables false

/-! ### the reference's pool and slabs -/
structure RP (W : World) (r rb f0 : Nat) (u : List Nat) : Prop where
  box : RowAt W r 95 [.int .i64 f0, .slice (some ⟨rb, 0, none⟩) u.length u.length]
  row : RowAt W rb 3 (encI (intsOf u))
  n1 : u.length ≤ 1048576
  n2 : f0 + u.length ≤ 268435456
  le : ∀ x ∈ u, x ≤ 255
section
variable {W W' : World} {S : Nat → Prop} {r rb f0 : Nat} {u : List Nat}
theorem RP.ne (h : RP W r rb f0 u) : r ≠ rb := h.box.ne h.row (by decide)
theorem RP.c0 (h : RP W r rb f0 u) : W.cell? ⟨r, 0, none⟩ = some (.int .i64 f0) := by rw [h.box.cell]; rfl
theorem RP.c1 (h : RP W r rb f0 u) : W.cell? ⟨r, 1, none⟩ = some (.slice (some ⟨rb, 0, none⟩) u.length u.length) := by rw [h.box.cell]; rfl
theorem RP.cu (h : RP W r rb f0 u) {i x : Nat} (hi : u[i]? = some x) : W.cell? ⟨rb, i, none⟩ = some (.int .i64 (x : Int)) := by rw [h.row.cell]; exact encI_at (intsOf_at hi)
theorem RP.keep (h : RP W r rb f0 u) (T : Turn S W W') (h1 : ¬ S r) (h2 : ¬ S rb) : RP W' r rb f0 u := ⟨h.box.turn T h1, h.row.turn T h2, h.n1, h.n2, h.le⟩
theorem RP.drewN (h : RP W r rb f0 u) (q : Nat) : RP (W.drewN q) r rb f0 u := ⟨h.box, h.row, h.n1, h.n2, h.le⟩
theorem RP.lt (h : RP W r rb f0 u) : r < W.heap.size ∧ rb < W.heap.size := ⟨h.box.lt, h.row.lt⟩
end
structure RS (W : World) (S : Nat → Prop) (t r : Nat) (T : List Int) : Prop where
  ex : ∃ v, RowAt W t 97 [.pointer (some ⟨r, 0, none⟩), v] ∧ W.ownsRow 0 3 1 v T.length (encI T) ∧ ∀ b, v.ownBlock = some b → S b
  St : S t
  lowb : ∀ b, S b → b < W.heap.size
theorem RS.keep {W W' : World} {S S' : Nat → Prop} {t r : Nat} {T : List Int} (h : RS W S t r T) (X : Turn S' W W') (hd : ∀ b, S b → ¬ S' b) : RS W' S t r T := by
  obtain ⟨v, h1, h2, h3⟩ := h.ex
  exact ⟨⟨v, h1.turn X (hd t h.St), own_turn h2 X (fun b hb => hd b (h3 b hb)), h3⟩, h.St, fun b hb => Nat.lt_of_lt_of_le (h.lowb b hb) X.size⟩
theorem RS.mono {W : World} {S S' : Nat → Prop} {t r : Nat} {T : List Int} (h : RS W S t r T) (hS : ∀ b, S b → S' b) (hl : ∀ b, S' b → b < W.heap.size) : RS W S' t r T := by
  obtain ⟨v, h1, h2, h3⟩ := h.ex
  exact ⟨⟨v, h1, h2, fun b hb => hS b (h3 b hb)⟩, hS t h.St, hl⟩

set_option maxHeartbeats 4000000 in
theorem rnew_bad (W : World) (first count : Int) (h : newE first count ≠ 0) :
    Calls Try.prog 38 #[.int .i64 first, .int .i64 count] W fun e W' => e = .returned (.tuple #[.pointer none, .int .i64 (newE first count)]) ∧ W = W' := by
  by_cases h1 : count < 0 ∨ 1048576 < count
  · have he : newE first count = 41 := by unfold newE; rw [if_pos h1]
    rw [he]
    clear he h
    by_cases h2 : count < 0
    · go_enter Try.func38, Try.ntmps38
      go_wp2
      go_ret2
      exact ⟨rfl, rfl⟩
    · have h3 : 1048576 < count := by omega
      clear h1
      go_enter Try.func38, Try.ntmps38
      go_wp2
      go_ret2
      exact ⟨rfl, rfl⟩
  · have h2 : first < 0 ∨ 268435456 - count < first := by
      unfold newE at h
      rw [if_neg h1] at h
      by_cases e : first < 0 ∨ 268435456 - count < first
      · exact e
      · rw [if_neg e] at h; exact absurd rfl h
    have he : newE first count = 40 := by unfold newE; rw [if_neg h1, if_pos h2]
    rw [he]
    clear he h
    have h3 : 0 ≤ count := by omega
    have h4 : count ≤ 1048576 := by omega
    clear h1
    by_cases h5 : first < 0
    · clear h2
      go_enter Try.func38, Try.ntmps38
      go_wp2
      go_ret2
      exact ⟨rfl, rfl⟩
    · have h6 : 268435456 - count < first := by omega
      clear h2
      go_enter Try.func38, Try.ntmps38
      go_wp2
      go_ret2
      exact ⟨rfl, rfl⟩
set_option maxHeartbeats 4000000 in
set_option maxRecDepth 100000 in
theorem rnew_ok (W : World) (f c : Nat) (h1 : c ≤ 1048576) (h2 : f + c ≤ 268435456) :
    Calls Try.prog 38 #[.int .i64 f, .int .i64 c] W fun e W' => e = .returned (.tuple #[.pointer (some ⟨W.heap.size + 1, 0, none⟩), .int .i64 0]) ∧ RP W' (W.heap.size + 1) W.heap.size f (List.replicate c 0) ∧ Turn (fun _ => False) W W' ∧ W'.heap.size = W.heap.size + 2 := by
  have h3 : ¬ ((268435456 : Int) - (c : Int) < (f : Int)) := by omega
  have hmk := makeI W c (by omega)
  have hr1 := zr_row W c (.int .i64 0) 3
  have hr2 := row_new (W.alloc (.cells (zr c (Value.int .i64 0)) 3)) [.int .i64 f, .slice (some ⟨W.heap.size, 0, none⟩) c c] 95
  have e1 : (W.alloc (.cells (zr c (Value.int .i64 0)) 3)).heap.size = W.heap.size + 1 := by simp
  rw [e1] at hr2
  have T1 := (Turn.refl (fun _ => False) W).alloc (.cells (zr c (Value.int .i64 0)) 3)
  have T2 := (Turn.refl (fun _ => False) (W.alloc (.cells (zr c (Value.int .i64 0)) 3))).alloc (.cells #[.int .i64 f, .slice (some ⟨W.heap.size, 0, none⟩) c c] 95)
  have HP : Hid (RP ((W.alloc (.cells (zr c (Value.int .i64 0)) 3)).alloc (.cells #[.int .i64 f, .slice (some ⟨W.heap.size, 0, none⟩) c c] 95)) (W.heap.size + 1) W.heap.size f (List.replicate c 0) ∧ Turn (fun _ => False) W ((W.alloc (.cells (zr c (Value.int .i64 0)) 3)).alloc (.cells #[.int .i64 f, .slice (some ⟨W.heap.size, 0, none⟩) c c] 95)) ∧ ((W.alloc (.cells (zr c (Value.int .i64 0)) 3)).alloc (.cells #[.int .i64 f, .slice (some ⟨W.heap.size, 0, none⟩) c c] 95)).heap.size = W.heap.size + 2) := ⟨⟨by rw [List.length_replicate]; exact hr2, by
    have := hr1.turn T2 (fun h => h)
    rw [show encI (intsOf (List.replicate c 0)) = List.replicate c (Value.int .i64 0) by simp [encI, intsOf]]
    exact this, by rw [List.length_replicate]; exact h1, by rw [List.length_replicate]; exact h2, fun x hx => by rw [List.eq_of_mem_replicate hx]; omega⟩, T1.trans T2 (fun _ h => h.elim), by simp⟩
  clear hr1 hr2 e1 T1 T2
  go_enter Try.func38, Try.ntmps38
  go_wp2
  go_ret2
  exact ⟨rfl, HP.out⟩
theorem rnewSlab_any (W : World) (r : Nat) : Calls Try.prog 39 #[.pointer (some ⟨r, 0, none⟩)] W fun e W' => e = .returned (.tuple #[.pointer (some ⟨W.heap.size, 0, none⟩), .int .i64 0]) ∧ RS W' (· = W.heap.size) W.heap.size r [] ∧ Turn (fun _ => False) W W' ∧ W'.heap.size = W.heap.size + 1 := by
  have hr := row_new W [.pointer (some ⟨r, 0, none⟩), .slice none 0 0] 97
  have HP : Hid (RS (W.alloc (.cells #[.pointer (some ⟨r, 0, none⟩), .slice none 0 0] 97)) (· = W.heap.size) W.heap.size r []) :=
    ⟨⟨_, hr, World.ownsRow_nil _ _ _ _, fun b hb => (by cases hb)⟩, rfl, fun b hb => (by rw [hb]; exact hr.lt)⟩
  clear hr
  go_enter Try.func39, Try.ntmps39
  go_wp2
  go_ret2
  exact ⟨rfl, HP.out, (Turn.refl _ _).alloc _, by simp⟩
set_option maxHeartbeats 4000000 in
theorem rfree_any (W : World) (r rb f0 : Nat) (u : List Nat) (h : RP W r rb f0 u) :
    Calls Try.prog 40 #[.pointer (some ⟨r, 0, none⟩)] W fun e W' => e = .returned (.int .i64 (zeros u)) ∧ W = W' := by
  have n1 := h.n1
  have c1 := h.c1
  have HP : Hid (RP W r rb f0 u) := h
  clear h
  generalize hn : u.length = n at *
  have HN : Hid (u.length = n) := hn
  clear hn
  go_enter Try.func40, Try.ntmps40
  go_wp2
  go_loop [3, 4] (fun s3 s4 => ∃ k : Nat, k ≤ n ∧ s4 = .int .i64 k ∧ s3 = .int .i64 ((zeros (u.take k) : Nat) : Int)) (fun _ s4 => n - (intOf s4).toNat)
  case atStart => exact ⟨0, Nat.zero_le _, rfl, rfl⟩
  case round =>
    obtain ⟨k, hk, rfl, rfl⟩ := hrel
    have hzl : zeros (u.take k) ≤ k := Nat.le_trans (zeros_le _) (List.length_take_le _ _)
    by_cases hlt : k < n
    · obtain ⟨x, hx⟩ : ∃ x, u[k]? = some x := ⟨_, List.getElem?_eq_getElem (by rw [HN.out]; exact hlt)⟩
      have hcx := HP.out.cu hx
      have hzs := zeros_take_succ u k hx
      clear hx
      by_cases hx0 : x = 0
      · subst hx0
        rw [if_pos rfl] at hzs
        have HZS : Hid _ := hzs
        clear hzs
        go_wp2
        go_round
        case rel => exact ⟨k + 1, by omega, by go_num, by rw [HZS.out]; go_num⟩
        case measure => simp [intOf]; omega
      · rw [if_neg hx0] at hzs
        have HZS : Hid _ := hzs
        have hxz : ¬ ((x : Int) = 0) := by omega
        clear hzs
        go_wp2
        go_round
        case rel => exact ⟨k + 1, by omega, by go_num, by rw [HZS.out]; rfl⟩
        case measure => simp [intOf]; omega
    · have HZ : Hid (zeros (u.take k) = zeros u) := by show _ = _; rw [List.take_of_length_le (by rw [HN.out]; omega)]
      go_wp2
      go_ret
      exact ⟨ret_int (by rw [HZ.out]), rfl⟩
set_option maxHeartbeats 8000000 in
set_option maxRecDepth 100000 in
theorem rruns_any (W : World) (r rb f0 : Nat) (u : List Nat) (h : RP W r rb f0 u) :
    Calls Try.prog 41 #[.pointer (some ⟨r, 0, none⟩)] W fun e W' => ∃ v, e = .returned v ∧ W'.ownsRow W.heap.size 42 2 v (runs f0 u).length ((runs f0 u).flatMap encR) ∧ Turn (fun _ => False) W W' := by
  have n1 := h.n1
  have n2 := h.n2
  have HP : Hid (RP W r rb f0 u) := h
  have c1 := h.c1
  clear h
  generalize hn : u.length = n at *
  have HN : Hid (u.length = n) := hn
  clear hn
  go_enter Try.func41, Try.ntmps41
  go_wp2
  go_loopw [3, 4] (fun s3 s11 wr => ∃ k : Nat, k ≤ n ∧ s11 = .int .i64 k ∧ Hid (wr.ownsRow W.heap.size 42 2 s3 (runsTo f0 u k).length ((runsTo f0 u k).flatMap encR)) ∧ Hid (Turn (fun _ => False) W wr)) (fun _ s11 _ => n - (intOf s11).toNat)
  case atStart => exact ⟨0, Nat.zero_le _, rfl, World.ownsRow_nil _ _ _ _, Turn.refl _ _⟩
  case round =>
    obtain ⟨k, hk, rfl, HO, HT⟩ := hrel
    obtain ⟨va, vc, hv⟩ := slice_form HO.out
    subst hv
    have hpr := HP.out.keep HT.out (fun h => h) (fun h => h)
    have c0 := hpr.c0
    have c1' := hpr.c1
    rw [HN.out] at c1'
    have hrl := runsTo_len f0 u k
    by_cases hlt : k < n
    · obtain ⟨x, hx⟩ : ∃ x, u[k]? = some x := ⟨_, List.getElem?_eq_getElem (by rw [HN.out]; omega)⟩
      have hcx := hpr.cu hx
      by_cases hx0 : x = 0
      · subst hx0
        by_cases hk0 : 0 < k
        · obtain ⟨y, hy⟩ : ∃ y, u[k - 1]? = some y := ⟨_, List.getElem?_eq_getElem (by rw [HN.out]; omega)⟩
          have hcy := hpr.cu hy
          by_cases hy0 : y = 0
          · subst hy0
            obtain ⟨l, a, c, e⟩ := runsTo_last f0 u k hk0 hy
            have e2 : runsTo f0 u (k + 1) = l ++ [(a, c + 1)] := by
              show (if u[k]? ≠ some 0 then _ else _) = _
              rw [if_neg (by simp [hx]), if_pos ⟨hk0, hy⟩, e, bump_snoc]
            have hcv := runsTo_val (f0 := f0) (u := u) (k := k) (by rw [HN.out]; exact hk) (show (runsTo f0 u k)[l.length]? = some (a, c) by rw [e]; simp)
            have ho := HO.out
            have el : (l ++ [(a, c)]).length = l.length + 1 := by simp
            rw [e, el] at ho
            obtain ⟨g, hg⟩ : ∃ g, va = some ⟨g, 0, none⟩ := by
              rcases row_of_own ho with ⟨_, h1, _⟩ | ⟨g, _, _, h1, _⟩
              · omega
              · cases h1; exact ⟨g, rfl⟩
            subst hg
            have hrat : wr.cell? ⟨g, l.length * 2 + 1, none⟩ = some (.int .i64 (c : Int)) := by
              have := cat_at encR 2 (fun _ => rfl) (show (l ++ [(a, c)])[l.length]? = some (a, c) by simp) 1 (by omega)
              rw [World.ownsRow.cellAt ho (l.length * 2 + 1) (by omega), this]
              rfl
            have hfz : ∀ o, wr.frozen? ⟨g, o, none⟩ = false := by
              rcases row_of_own ho with ⟨_, h1, _⟩ | ⟨g', _, _, h1, _, hr, _⟩
              · omega
              · cases h1; exact hr.frozen
            have hgl : W.heap.size ≤ g := (own_block_new ho rfl).1
            have HS : Hid ((wr.setCell ⟨g, l.length * 2 + 1, none⟩ (.int .i64 ((c : Int) + 1))).ownsRow W.heap.size 42 2 (.slice (some ⟨g, 0, none⟩) (l.length + 1) vc) (runsTo f0 u (k + 1)).length ((runsTo f0 u (k + 1)).flatMap encR) ∧ Turn (fun _ => False) W (wr.setCell ⟨g, l.length * 2 + 1, none⟩ (.int .i64 ((c : Int) + 1)))) := by
              rw [e2]
              rw [← el] at ho
              have := bump_run (l := l) (a := a) (c := c) (g := g) (cap := vc) (by rw [← el]; exact ho) ((c : Int) + 1) rfl
              exact ⟨this, HT.out.setCell (.inr hgl) _⟩
            have erl : (runsTo f0 u k).length = l.length + 1 := by rw [e, el]
            rw [erl] at hrl
            generalize (runsTo f0 u k).length = ml at *
            subst erl
            have hll : l.length ≤ 1048576 := by omega
            generalize hq : l.length = q at *
            have hcb : (c : Int) ≤ 1048576 := by omega
            clear ho hx hy e e2 el HO hpr hgl hcv
            have hkz : decide ((0 : Int) < (k : Int)) = true := decide_eq_true (by omega)
            have hk1 : ((k : Int) - 1).toNat = k - 1 := by omega
            go_wp2
            go_roundw
            case rel => exact ⟨k + 1, by omega, by go_num, HS.out.1, HS.out.2⟩
            case measure => simp [intOf]; omega
          · have e2 : runsTo f0 u (k + 1) = runsTo f0 u k ++ [(f0 + k, 1)] := by
              show (if u[k]? ≠ some 0 then _ else _) = _
              rw [if_neg (by simp [hx]), if_neg (by simp [hy, hy0])]
            obtain ⟨v', w', hr, ho', ht'⟩ := app_run HO.out (f0 + k, 1) HT.out.size (by omega)
            rw [← e2] at ho'
            have HS : Hid (w'.ownsRow W.heap.size 42 2 v' (runsTo f0 u (k + 1)).length ((runsTo f0 u (k + 1)).flatMap encR) ∧ Turn (fun _ => False) W w') := ⟨ho', HT.out.trans ht' (fun b hb => .inr hb)⟩
            have hr' : ∀ ty, (Builtin.append_ #[39, 39] ty #[.slice va (runsTo f0 u k).length vc, .slice (some ⟨wr.heap.size, 0, none⟩) 1 1]).run Try.prog (wr.alloc (.cells #[.int .i64 ((f0 : Int) + (k : Int)), .int .i64 1] 42)) = .ok v' w' := fun ty => by
              have := hr ty
              rw [show (((f0 + k, 1) : Nat × Nat).1 : Int) = (f0 : Int) + (k : Int) by simp, show (((f0 + k, 1) : Nat × Nat).2 : Int) = 1 by simp] at this
              exact this
            generalize (runsTo f0 u k).length = ml at *
            clear HO ho' ht' hr e2 hx hpr hy
            have hyz : ¬ ((y : Int) = 0) := by omega
            have hkz : decide ((0 : Int) < (k : Int)) = true := decide_eq_true (by omega)
            have hk1 : ((k : Int) - 1).toNat = k - 1 := by omega
            go_wp2_with (first
              | (at_builtin; refine Lib.wpList_append_run _ rfl _ _ 39 39 rfl _ _ rfl rfl _ _ (hr' _) ?_; clear hr')
              | go_in)
            go_roundw
            case rel => exact ⟨k + 1, by omega, by go_num, HS.out.1, HS.out.2⟩
            case measure => simp [intOf]; omega
        · have e2 : runsTo f0 u (k + 1) = runsTo f0 u k ++ [(f0 + k, 1)] := by
            show (if u[k]? ≠ some 0 then _ else _) = _
            rw [if_neg (by simp [hx]), if_neg (by simp [hk0])]
          obtain ⟨v', w', hr, ho', ht'⟩ := app_run HO.out (f0 + k, 1) HT.out.size (by omega)
          rw [← e2] at ho'
          have HS : Hid (w'.ownsRow W.heap.size 42 2 v' (runsTo f0 u (k + 1)).length ((runsTo f0 u (k + 1)).flatMap encR) ∧ Turn (fun _ => False) W w') := ⟨ho', HT.out.trans ht' (fun b hb => .inr hb)⟩
          have hr' : ∀ ty, (Builtin.append_ #[39, 39] ty #[.slice va (runsTo f0 u k).length vc, .slice (some ⟨wr.heap.size, 0, none⟩) 1 1]).run Try.prog (wr.alloc (.cells #[.int .i64 ((f0 : Int) + (k : Int)), .int .i64 1] 42)) = .ok v' w' := fun ty => by
            have := hr ty
            rw [show (((f0 + k, 1) : Nat × Nat).1 : Int) = (f0 : Int) + (k : Int) by simp, show (((f0 + k, 1) : Nat × Nat).2 : Int) = 1 by simp] at this
            exact this
          generalize (runsTo f0 u k).length = ml at *
          clear HO ho' ht' hr e2 hx hpr
          have hkz : decide ((0 : Int) < (k : Int)) = false := decide_eq_false (by omega)
          go_wp2_with (first
            | (at_builtin; refine Lib.wpList_append_run _ rfl _ _ 39 39 rfl _ _ rfl rfl _ _ (hr' _) ?_; clear hr')
            | go_in)
          go_roundw
          case rel => exact ⟨k + 1, by omega, by go_num, HS.out.1, HS.out.2⟩
          case measure => simp [intOf]; omega
      · have e2 : runsTo f0 u (k + 1) = runsTo f0 u k := by
          show (if u[k]? ≠ some 0 then _ else _) = _
          rw [if_pos (by simp [hx, hx0])]
        have HE : Hid (runsTo f0 u (k + 1) = runsTo f0 u k) := e2
        have hxz : ¬ ((x : Int) = 0) := by omega
        clear hx e2 hpr
        generalize hml : (runsTo f0 u k).length = ml at *
        have HML : Hid ((runsTo f0 u k).length = ml) := hml
        clear hml
        go_wp2
        go_roundw
        case rel => exact ⟨k + 1, by omega, by go_num, by show World.ownsRow _ _ _ _ _ _ _; rw [HE.out, HML.out]; exact HO.out, HT⟩
        case measure => simp [intOf]; omega
    · obtain rfl : k = n := by omega
      have HO2 : Hid (wr.ownsRow W.heap.size 42 2 (.slice va (runsTo f0 u k).length vc) (runs f0 u).length ((runs f0 u).flatMap encR)) := by
        have := HO.out
        unfold runs
        rw [HN.out]
        exact this
      clear hpr
      generalize (runsTo f0 u k).length = ml at *
      go_wp2
      go_ret
      exact ⟨_, rfl, HO2.out, HT.out⟩

set_option maxHeartbeats 4000000 in
theorem rall_any (W : World) (r rb f0 : Nat) (u : List Nat) (h : RP W r rb f0 u) :
    Calls Try.prog 42 #[.pointer (some ⟨r, 0, none⟩)] W fun e W' => e = .returned (.agg #[.int .i64 f0, .int .i64 u.length]) ∧ Turn (fun _ => False) W W' := by
  have c0 := h.c0
  have c1 := h.c1
  have hlt := h.box.lt
  clear h
  generalize u.length = n at *
  go_enter Try.func42, Try.ntmps42
  go_wp2
  go_region
  all_goals
    go_wp2
    exact bodyPost_ret (v := .agg #[.int .i64 f0, .int .i64 n]) (by simp [results, Try.results42, go_sem]) rfl ⟨rfl, ((Turn.refl _ _).alloc _).drewN 1⟩
end Go.Proofs.Ytplobjdghaokoaa
