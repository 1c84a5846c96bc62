import Derived.Test.YtplobjdghaokoabRf
namespace Go.Proofs.Ytplobjdghaokoab
open Go.RowKit
set_option linter.unusedVariables false

/-- A table put into a list. -/
def stP (t : Int) (a : List Int × Bool) (x : Int) : List Int × Bool := if a.2 = false ∧ t < x then (a.1 ++ [t] ++ [x], true) else (a.1 ++ [x], a.2)
def putF (T : List Int) (t : Int) : List Int × Bool := T.foldl (stP t) ([], false)
def putL (T : List Int) (t : Int) : List Int := if (putF T t).2 = true then (putF T t).1 else (putF T t).1 ++ [t]
theorem putF_snoc (T : List Int) (t : Int) {k : Nat} {x : Int} (h : T[k]? = some x) : putF (T.take (k + 1)) t = stP t (putF (T.take k) t) x := by
  unfold putF
  rw [take_snoc T h, List.foldl_append]
  rfl
theorem stP_len (t : Int) (a : List Int × Bool) (x : Int) : (stP t a x).1.length ≤ a.1.length + 2 := by
  unfold stP
  split <;> simp
theorem putF_len (T : List Int) (t : Int) (k : Nat) : (putF (T.take k) t).1.length ≤ 2 * k := by
  induction k with
  | zero => simp [putF]
  | succ k ih =>
    by_cases h : k < T.length
    · rw [putF_snoc T t (List.getElem?_eq_getElem h)]
      have := stP_len t (putF (T.take k) t) T[k]
      omega
    · rw [List.take_of_length_le (by omega)]
      rw [List.take_of_length_le (by omega)] at ih
      omega

theorem own_low {W : World} {lo n size : Nat} {e : TypeId} {v : Value} {xs : List Value} (h : W.ownsRow lo e size v n xs) : W.ownsRow 0 e size v n xs := by
  rcases row_of_own h with ⟨rfl, rfl, rfl⟩ | ⟨g, cp, cu, rfl, e2, e3, e4, e5, e6, e7⟩
  · exact World.ownsRow_nil _ _ _ _
  · exact own_of_row e3 (Nat.zero_le _) e4 e5 e6 e7
set_option maxHeartbeats 8000000 in
set_option maxRecDepth 100000 in
theorem rsPut_any (W : World) (S : Nat → Prop) (t r : Nat) (T : List Int) (x0 : Int) (h : RS W S t r T) (hl : T.length ≤ 1073741824) :
    Calls Try.prog 50 #[.pointer (some ⟨t, 0, none⟩), .int .i64 x0] W fun e W' => e = .returned (.tuple #[]) ∧ RS W' (gr S W W') t r (putL T x0) ∧ Turn (· = t) W W' := by
  obtain ⟨a, cap, c1, c0, hi, hS, hfz⟩ := h.view
  have htl := h.lowb t h.St
  have HI : Hid (IAt W a T ∧ RS W S t r T) := ⟨hi, h⟩
  have C1 : Hid (W.cell? ⟨t, 1, none⟩ = some (.slice a T.length cap)) := c1
  clear h hi hS hfz
  generalize hn : T.length = n at *
  have HN : Hid (T.length = n) := hn
  clear hn
  go_enter Try.func50, Try.ntmps50
  go_wp2
  go_loopw [4, 5, 6] (fun s4 s5 s6 wr => ∃ (k : Nat) (b : Bool), k ≤ n ∧ s6 = .int .i64 k ∧ s5 = .bool b ∧ Hid (wr.ownsRow W.heap.size 3 1 s4 (putF (T.take k) x0).1.length (encI (putF (T.take k) x0).1) ∧ Turn (fun _ => False) W wr ∧ (putF (T.take k) x0).2 = b)) (fun _ _ s6 _ => n - (intOf s6).toNat)
  case atStart => exact ⟨0, false, Nat.zero_le _, rfl, rfl, World.ownsRow_nil _ _ _ _, Turn.refl _ _, rfl⟩
  case round =>
    obtain ⟨k, b, hk, rfl, rfl, HO⟩ := hrel
    have d1 : wr.cell? ⟨t, 1, none⟩ = some (.slice a n cap) := by rw [HO.out.2.1.cell htl (fun h => h)]; exact C1.out
    have hfl := putF_len T x0 k
    obtain ⟨va, vc, hv⟩ := slice_form HO.out.1
    subst hv
    by_cases hlt : k < n
    · obtain ⟨x, hx⟩ : ∃ x, T[k]? = some x := ⟨_, List.getElem?_eq_getElem (by rw [HN.out]; exact hlt)⟩
      obtain ⟨g, rfl, hg, hcx⟩ := (HI.out.1.turn HO.out.2.1 (fun _ _ h => h)) k x hx
      have hps := putF_snoc T x0 hx
      by_cases hc : b = false ∧ x0 < x
      · obtain ⟨rfl, hxx⟩ := hc
        have e2 : putF (T.take (k + 1)) x0 = ((putF (T.take k) x0).1 ++ [x0] ++ [x], true) := by rw [hps]; unfold stP; rw [if_pos ⟨HO.out.2.2, hxx⟩]
        obtain ⟨v1, w1, r1, o1, t1, b1⟩ := app_int2 HO.out.1 x0 HO.out.2.1.size (by omega)
        have T1 : Turn (fun _ => False) W w1 := HO.out.2.1.trans t1 (fun b hb => .inr (own_row HO.out.1 hb).choose_spec.2)
        obtain ⟨v2, w2, r2, o2, t2, b2⟩ := app_int2 o1 x T1.size (by rw [List.length_append]; simp; omega)
        have T2 : Turn (fun _ => False) W w2 := T1.trans t2 (fun b hb => .inr (own_row o1 hb).choose_spec.2)
        have HS : Hid (w2.ownsRow W.heap.size 3 1 v2 (putF (T.take (k + 1)) x0).1.length (encI (putF (T.take (k + 1)) x0).1) ∧ Turn (fun _ => False) W w2 ∧ (putF (T.take (k + 1)) x0).2 = true) := by rw [e2]; exact ⟨o2, T2, rfl⟩
        have d1' : w1.cell? ⟨t, 1, none⟩ = some (.slice (some ⟨g, 0, none⟩) n cap) := by rw [T1.cell htl (fun h => h)]; exact C1.out
        obtain ⟨g', eg, _, hcx'⟩ := (HI.out.1.turn T1 (fun _ _ h => h)) k x hx
        cases eg
        obtain ⟨va1, vc1, hv1⟩ := slice_form o1
        subst hv1
        clear hps e2 o1 o2 t1 t2 b1 b2 T1 T2 hx
        generalize hml : (putF (T.take k) x0).1.length = ml at *
        have eml : ((putF (T.take k) x0).1 ++ [x0]).length = ml + 1 := by rw [List.length_append, hml]; rfl
        rw [eml] at r1 r2
        clear hml eml
        go_wp2_with (first
          | (at_builtin; refine Lib.wpList_append_run _ rfl _ _ 61 61 rfl _ _ rfl rfl _ _ (r1 _) ?_; clear r1)
          | (at_builtin; refine Lib.wpList_append_run _ rfl _ _ 61 61 rfl _ _ rfl rfl _ _ (r2 _) ?_; clear r2)
          | go_in)
        go_roundw
        case rel => exact ⟨k + 1, true, by omega, by go_num, rfl, HS⟩
        case measure => simp [intOf]; omega
      · have e2 : putF (T.take (k + 1)) x0 = ((putF (T.take k) x0).1 ++ [x], b) := by rw [hps]; unfold stP; rw [HO.out.2.2, if_neg hc]
        obtain ⟨v1, w1, r1, o1, t1, b1⟩ := app_int2 HO.out.1 x HO.out.2.1.size (by omega)
        have T1 : Turn (fun _ => False) W w1 := HO.out.2.1.trans t1 (fun b hb => .inr (own_row HO.out.1 hb).choose_spec.2)
        have HS : Hid (w1.ownsRow W.heap.size 3 1 v1 (putF (T.take (k + 1)) x0).1.length (encI (putF (T.take (k + 1)) x0).1) ∧ Turn (fun _ => False) W w1 ∧ (putF (T.take (k + 1)) x0).2 = b) := by rw [e2]; exact ⟨o1, T1, rfl⟩
        clear hps e2 o1 t1 b1 T1 hx
        generalize (putF (T.take k) x0).1.length = ml at *
        cases b with
        | true =>
          go_wp2_with (first
            | (at_builtin; refine Lib.wpList_append_run _ rfl _ _ 61 61 rfl _ _ rfl rfl _ _ (r1 _) ?_; clear r1)
            | go_in)
          go_roundw
          case rel => exact ⟨k + 1, true, by omega, by go_num, rfl, HS⟩
          case measure => simp [intOf]; omega
        | false =>
          have hxx : ¬ (x0 < x) := fun e => hc ⟨rfl, e⟩
          clear hc
          go_wp2_with (first
            | (at_builtin; refine Lib.wpList_append_run _ rfl _ _ 61 61 rfl _ _ rfl rfl _ _ (r1 _) ?_; clear r1)
            | go_in)
          go_roundw
          case rel => exact ⟨k + 1, false, by omega, by go_num, rfl, HS⟩
          case measure => simp [intOf]; omega
    · obtain rfl : k = n := by omega
      have hfin : ∀ v' w', w'.ownsRow W.heap.size 3 1 v' (putL T x0).length (encI (putL T x0)) → Turn (fun _ => False) W w' → RS (w'.setCell ⟨t, 1, none⟩ v') (gr S W (w'.setCell ⟨t, 1, none⟩ v')) t r (putL T x0) ∧ Turn (· = t) W (w'.setCell ⟨t, 1, none⟩ v') ∧ w'.frozen? ⟨t, 1, none⟩ = false ∧ (∃ u, w'.cell? ⟨t, 1, none⟩ = some u) := fun v' w' ho hT => by
        obtain ⟨v0, q1, q2, q3⟩ := HI.out.2.ex
        have q1' := q1.turn hT (fun h => h)
        have T2 : Turn (· = t) w' (w'.setCell ⟨t, 1, none⟩ v') := (Turn.refl (· = t) w').setCell (p := ⟨t, 1, none⟩) (.inl rfl) _
        refine ⟨⟨⟨v', q1'.set 1 v', ?_, fun b hb => ?_⟩, .inl HI.out.2.St, fun b hb => ?_⟩, (hT.mono (S' := (· = t)) (fun _ _ h => h.elim)).trans T2 (fun b hb => .inl hb), q1'.frozen 1, ⟨v0, by rw [q1'.cell]; rfl⟩⟩
        · have := own_turn ho T2 (fun b hb e => by have := (own_block_new ho hb).1; have e' : b = t := e; omega)
          exact own_low this
        · obtain ⟨g1, g2⟩ := own_block_new ho hb
          refine .inr ⟨g1, ?_⟩
          simpa [World.setCell] using g2
        · rcases hb with hb | hb
          · exact Nat.lt_of_lt_of_le (HI.out.2.lowb b hb) (Nat.le_trans hT.size T2.size)
          · exact hb.2
      have htk : T.take k = T := List.take_of_length_le (by rw [HN.out]; omega)
      cases b with
      | true =>
        have hpl : putL T x0 = (putF (T.take k) x0).1 := by have h2 := HO.out.2.2; rw [htk] at h2 ⊢; unfold putL; rw [if_pos h2]
        obtain ⟨f1, f2, f3, u0, f4⟩ := hfin (.slice va (putF (T.take k) x0).1.length vc) wr (by rw [hpl]; exact HO.out.1) HO.out.2.1
        have HF : Hid _ := (⟨f1, f2⟩ : _ ∧ _)
        clear hfin f1 f2 hpl htk
        generalize (putF (T.take k) x0).1.length = ml at *
        go_wp2
        exact bodyPost_end (results_none Try.results50 _ _ _) rfl ⟨rfl, HF.out⟩
      | false =>
        have hpl : putL T x0 = (putF (T.take k) x0).1 ++ [x0] := by have h2 := HO.out.2.2; rw [htk] at h2 ⊢; unfold putL; rw [if_neg (by rw [h2]; simp)]
        obtain ⟨v1, w1, r1, o1, t1, b1⟩ := app_int2 HO.out.1 x0 HO.out.2.1.size (by omega)
        have T1 : Turn (fun _ => False) W w1 := HO.out.2.1.trans t1 (fun b hb => .inr (own_row HO.out.1 hb).choose_spec.2)
        obtain ⟨f1, f2, f3, u0, f4⟩ := hfin v1 w1 (by rw [hpl]; exact o1) T1
        have HF : Hid _ := (⟨f1, f2⟩ : _ ∧ _)
        obtain ⟨va1, vc1, hv1⟩ := slice_form o1
        subst hv1
        clear hfin f1 f2 hpl htk t1 b1 T1
        generalize hml : (putF (T.take k) x0).1.length = ml at *
        have eml : ((putF (T.take k) x0).1 ++ [x0]).length = ml + 1 := by rw [List.length_append, hml]; rfl
        rw [eml] at r1 HF
        clear hml o1
        go_wp2_with (first
          | (at_builtin; refine Lib.wpList_append_run _ rfl _ _ 61 61 rfl _ _ rfl rfl _ _ (r1 _) ?_; clear r1)
          | go_in)
        exact bodyPost_end (results_none Try.results50 _ _ _) rfl ⟨rfl, HF.out⟩
end Go.Proofs.Ytplobjdghaokoab
