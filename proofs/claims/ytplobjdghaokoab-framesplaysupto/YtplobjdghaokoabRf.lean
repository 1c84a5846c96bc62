import Derived.Test.YtplobjdghaokoabRe
namespace Go.Proofs.Ytplobjdghaokoab
open Go.RowKit
set_option linter.unusedVariables false

theorem RS.view {W : World} {S : Nat → Prop} {t r : Nat} {T : List Int} (h : RS W S t r T) : ∃ a cap, W.cell? ⟨t, 1, none⟩ = some (.slice a T.length cap) ∧ W.cell? ⟨t, 0, none⟩ = some (.pointer (some ⟨r, 0, none⟩)) ∧ IAt W a T ∧ (∀ g, a = some ⟨g, 0, none⟩ → S g) ∧ (∀ o, W.frozen? ⟨t, o, none⟩ = false) := by
  obtain ⟨v, h1, h2, h3⟩ := h.ex
  obtain ⟨a, cap, rfl, h4, h5⟩ := own_iat h2
  exact ⟨a, cap, by rw [h1.cell]; rfl, by rw [h1.cell]; rfl, h4, fun g hg => h3 g (by rw [hg]; rfl), h1.frozen⟩

set_option maxHeartbeats 2000000 in
theorem rsHas_any (W : World) (S : Nat → Prop) (t r : Nat) (T : List Int) (x : Int) (h : RS W S t r T) (hl : T.length ≤ 1073741824) :
    Calls Try.prog 49 #[.pointer (some ⟨t, 0, none⟩), .int .i64 x] W fun e W' => e = .returned (.bool (decide (x ∈ T))) ∧ W = W' := by
  obtain ⟨a, cap, c1, c0, hi, hS, _⟩ := h.view
  have HI : Hid (IAt W a T) := hi
  clear h hi hS
  generalize hn : T.length = n at *
  have HN : Hid (T.length = n) := hn
  clear hn
  go_enter Try.func49, Try.ntmps49
  go_wp2
  go_loop [5] (fun s5 => ∃ k : Nat, k ≤ n ∧ s5 = .int .i64 k ∧ Hid (x ∉ T.take k)) (fun s5 => n - (intOf s5).toNat)
  case atStart => exact ⟨0, Nat.zero_le _, rfl, by intro hb; simp at hb⟩
  case round =>
    obtain ⟨k, hk, rfl, HZ⟩ := hrel
    by_cases hlt : k < n
    · obtain ⟨y, hy⟩ : ∃ y, T[k]? = some y := ⟨_, List.getElem?_eq_getElem (by rw [HN.out]; exact hlt)⟩
      obtain ⟨g, rfl, _, hc⟩ := HI.out k y hy
      have HY : Hid (T[k]? = some y) := hy
      clear hy
      by_cases hxy : y = x
      · subst hxy
        go_wp2
        go_ret
        exact ⟨ret_bool (decide_eq_true (List.mem_of_getElem? HY.out)).symm, rfl⟩
      · go_wp2
        go_round
        case rel =>
          refine ⟨k + 1, by omega, by go_num, ?_⟩
          intro hb
          rw [take_snoc T HY.out] at hb
          rcases List.mem_append.1 hb with h | h
          · exact HZ.out h
          · simp at h; exact hxy h.symm
        case measure => simp [intOf]; omega
    · have hz := HZ.out
      rw [List.take_of_length_le (by rw [HN.out]; omega)] at hz
      have HZZ : Hid (x ∉ T) := hz
      clear hz HZ
      go_wp2
      go_ret
      exact ⟨ret_bool (decide_eq_false HZZ.out).symm, rfl⟩

/-- The frames of tables, one behind the other. -/
def stF (acc : List Int) (x : Int) : List Int := if acc.getLast? = some (x / 4) then acc else acc ++ [x / 4]
def fsL (T : List Int) : List Int := T.foldl stF []
theorem fsL_snoc (T : List Int) {k : Nat} {x : Int} (h : T[k]? = some x) : fsL (T.take (k + 1)) = stF (fsL (T.take k)) x := by
  unfold fsL
  rw [take_snoc T h, List.foldl_append]
  rfl
theorem stF_len (acc : List Int) (x : Int) : (stF acc x).length ≤ acc.length + 1 := by
  unfold stF
  split <;> simp
theorem fsL_len (T : List Int) (k : Nat) : (fsL (T.take k)).length ≤ k := by
  induction k with
  | zero => simp [fsL]
  | succ k ih =>
    by_cases h : k < T.length
    · rw [fsL_snoc T (List.getElem?_eq_getElem h)]
      have := stF_len (fsL (T.take k)) T[k]
      omega
    · rw [List.take_of_length_le (by omega)]
      rw [List.take_of_length_le (by omega)] at ih
      omega

set_option maxHeartbeats 8000000 in
set_option maxRecDepth 100000 in
theorem rsFrames_any (W : World) (S : Nat → Prop) (t r : Nat) (T : List Int) (h : RS W S t r T) (hl : T.length ≤ 1073741824) (hp : ∀ x ∈ T, 0 ≤ x ∧ x ≤ 1073741824) :
    Calls Try.prog 31 #[.pointer (some ⟨t, 0, none⟩)] W fun e W' => ∃ v, e = .returned v ∧ W'.ownsRow W.heap.size 3 1 v (fsL T).length (encI (fsL T)) ∧ Turn (fun _ => False) W W' := by
  obtain ⟨a, cap, c1, c0, hi, hS, _⟩ := h.view
  have htl := h.lowb t h.St
  have HI : Hid (IAt W a T ∧ ∀ x ∈ T, 0 ≤ x ∧ x ≤ 1073741824) := ⟨hi, hp⟩
  have C1 : Hid (W.cell? ⟨t, 1, none⟩ = some (.slice a T.length cap)) := c1
  clear h hi hS hp
  generalize hn : T.length = n at *
  have HN : Hid (T.length = n) := hn
  clear hn
  go_enter Try.func31, Try.ntmps31
  go_wp2
  go_loopw [3, 4] (fun s3 s4 wr => ∃ k : Nat, k ≤ n ∧ s4 = .int .i64 k ∧ Hid (wr.ownsRow W.heap.size 3 1 s3 (fsL (T.take k)).length (encI (fsL (T.take k))) ∧ Turn (fun _ => False) W wr)) (fun _ s4 _ => n - (intOf s4).toNat)
  case atStart => exact ⟨0, Nat.zero_le _, rfl, World.ownsRow_nil _ _ _ _, Turn.refl _ _⟩
  case round =>
    obtain ⟨k, hk, rfl, HO⟩ := hrel
    have d1 : wr.cell? ⟨t, 1, none⟩ = some (.slice a n cap) := by rw [HO.out.2.cell htl (fun h => h)]; exact C1.out
    have hfl := fsL_len T k
    obtain ⟨va, vc, hv⟩ := slice_form HO.out.1
    subst hv
    by_cases hlt : k < n
    · obtain ⟨x, hx⟩ : ∃ x, T[k]? = some x := ⟨_, List.getElem?_eq_getElem (by rw [HN.out]; exact hlt)⟩
      obtain ⟨g, rfl, hg, hcx⟩ := (HI.out.1.turn HO.out.2 (fun _ _ h => h)) k x hx
      have hxb := HI.out.2 x (List.mem_of_getElem? hx)
      have hfs := fsL_snoc T hx
      obtain ⟨hx0, hx1⟩ := hxb
      by_cases hlast : (fsL (T.take k)).getLast? = some (x / 4)
      · have e2 : fsL (T.take (k + 1)) = fsL (T.take k) := by rw [hfs]; unfold stF; rw [if_pos hlast]
        have HE : Hid _ := e2
        have hne : fsL (T.take k) ≠ [] := fun e => by rw [e] at hlast; cases hlast
        have hpos := List.length_pos_iff.2 hne
        have hlx : (fsL (T.take k))[(fsL (T.take k)).length - 1]? = some (x / 4) := by rw [← List.getLast?_eq_getElem?]; exact hlast
        obtain ⟨va', vc', ev, hia, _⟩ := own_iat HO.out.1
        cases ev
        obtain ⟨g2, hg2, _, hc2⟩ := hia _ _ hlx
        subst hg2
        clear hfs e2 hlast hlx hia hne hx
        generalize hml : (fsL (T.take k)).length = ml at *
        have HML : Hid ((fsL (T.take k)).length = ml) := hml
        clear hml
        have hmz : ¬ ((ml : Int) = 0) := by omega
        have hm1 : ((ml : Int) - 1).toNat = ml - 1 := by omega
        go_wp2
        go_roundw
        case rel => exact ⟨k + 1, by omega, by go_num, by show _ ∧ _; rw [HE.out, HML.out]; exact HO.out⟩
        case measure => simp [intOf]; omega
      · have e2 : fsL (T.take (k + 1)) = fsL (T.take k) ++ [x / 4] := by rw [hfs]; unfold stF; rw [if_neg hlast]
        obtain ⟨v', w', hr, ho', ht', hb'⟩ := app_int2 HO.out.1 (x / 4) HO.out.2.size (by omega)
        rw [← e2] at ho'
        have HS : Hid (w'.ownsRow W.heap.size 3 1 v' (fsL (T.take (k + 1))).length (encI (fsL (T.take (k + 1)))) ∧ Turn (fun _ => False) W w') :=
          ⟨ho', HO.out.2.trans ht' (fun b hb => .inr (own_row HO.out.1 hb).choose_spec.2)⟩
        by_cases hem : fsL (T.take k) = []
        · have hml0 : (fsL (T.take k)).length = 0 := by rw [hem]; rfl
          clear hfs e2 hlast ho' ht' hb' hx hem
          generalize (fsL (T.take k)).length = ml at *
          subst hml0
          go_wp2_with (first
            | (at_builtin; refine Lib.wpList_append_run _ rfl _ _ 61 61 rfl _ _ rfl rfl _ _ (hr _) ?_; clear hr)
            | go_in)
          go_roundw
          case rel => exact ⟨k + 1, by omega, by go_num, HS⟩
          case measure => simp [intOf]; omega
        · have hpos := List.length_pos_iff.2 hem
          obtain ⟨y, hy⟩ : ∃ y, (fsL (T.take k))[(fsL (T.take k)).length - 1]? = some y := ⟨_, List.getElem?_eq_getElem (by omega)⟩
          have hyx : ¬ (y = x / 4) := fun e => hlast (by rw [List.getLast?_eq_getElem?, hy, e])
          obtain ⟨va', vc', ev, hia, _⟩ := own_iat HO.out.1
          cases ev
          obtain ⟨g2, hg2, _, hc2⟩ := hia _ _ hy
          subst hg2
          clear hfs e2 hlast ho' ht' hb' hx hem hy hia
          generalize (fsL (T.take k)).length = ml at *
          have hmz : ¬ ((ml : Int) = 0) := by omega
          have hm1 : ((ml : Int) - 1).toNat = ml - 1 := by omega
          have hyb : (y != x / 4) = true := by simp [hyx]
          go_wp2_with (first
            | (at_builtin; refine Lib.wpList_append_run _ rfl _ _ 61 61 rfl _ _ rfl rfl _ _ (hr _) ?_; clear hr)
            | go_in)
          go_roundw
          case rel => exact ⟨k + 1, by omega, by go_num, HS⟩
          case measure => simp [intOf]; omega
    · obtain rfl : k = n := by omega
      have HO2 : Hid (wr.ownsRow W.heap.size 3 1 (.slice va (fsL (T.take k)).length vc) (fsL T).length (encI (fsL T)) ∧ Turn (fun _ => False) W wr) := by
        have := HO.out
        rw [List.take_of_length_le (by rw [HN.out]; omega)] at this ⊢
        exact this
      generalize (fsL (T.take k)).length = ml at *
      go_wp2
      go_ret
      exact ⟨_, rfl, HO2.out⟩
end Go.Proofs.Ytplobjdghaokoab
