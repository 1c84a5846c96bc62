import Derived.Test.YtplobjdghaokoaaPb
namespace Go.Proofs.Ytplobjdghaokoaa
open Go.RowKit
set_option linter.unusedVariables false

/-- A pool with the same box but for the lists. -/
theorem PPx.with {W W' : World} {p ub f0 low low' : Nat} {u u' : List Nat} (h : PPx W p ub f0 u low) (hl : u'.length = u.length) (hb : RowAt W' p 73 [.int .i64 f0, .slice (some ⟨ub, 0, none⟩) u.length u.length, .int .i64 (zeros u'), .int .i64 low']) (hr : RowAt W' ub 5 (encU u'))
    (hlow : low' ≤ u.length ∧ ∀ i, i < low' → u'[i]? ≠ some 0) (hle : ∀ x ∈ u', x ≤ 255) : PPx W' p ub f0 u' low' :=
  ⟨by rw [hl]; exact hb, hr, by rw [hl]; exact hlow, hle, by rw [hl]; exact h.n1, by rw [hl]; exact h.n2⟩
theorem nz_mdr {f : Nat → Nat} {u : List Nat} {a k low : Nat} (hf : ∀ x, f x ≠ 0) (h : ∀ i, i < low → u[i]? ≠ some 0) : ∀ i, i < low → (mdr f u a k)[i]? ≠ some 0 := by
  intro i hi e
  rw [mdr_at] at e
  cases hu : u[i]? with
  | none => rw [hu] at e; cases e
  | some x =>
    rw [hu] at e
    simp only [Option.map_some, Option.some.injEq] at e
    split at e
    · exact hf x e
    · subst e; exact h i hi hu

set_option maxHeartbeats 4000000 in
theorem share_any (W : World) (p ub f0 : Nat) (u : List Nat) (f n : Int) (hP : PP W p ub f0 u) (hf1 : -9223372036854775808 ≤ f) (hf2 : f ≤ 9223372036854775807) :
    Calls Try.prog 34 #[.pointer (some ⟨p, 0, none⟩), .int .i64 f, .int .i64 n] W fun e W' => e = .returned (.int .i64 (shareR f0 u f n).1) ∧ PP W' p ub f0 (shareR f0 u f n).2 ∧ Turn (Two p ub) W W' := by
  obtain ⟨low, h⟩ := hP
  have hi := inUse_any W p ub f0 low u f n h hf1 hf2
  by_cases h0 : nameE f0 u f n = 0
  · rw [if_pos h0, h0] at hi
    obtain ⟨a, k, rfl, rfl, hk1, hak, e1, e2, hnz⟩ := nameE_ok h0
    have n1 := h.n1
    have c1 := fun q => (h.drewN q).c1
    have hz := fun q c => mem_anyB 255 u a k (h.drewN q) hak c
    rw [mem_anyM] at hz
    have htn : ((a : Int) + (k : Int)).toNat = a + k := by omega
    have hs1 : a + k - a = k := by omega
    have hb2 : ¬ (u.length = a) := by omega
    have haa : (f0 : Int) + (a : Int) - (f0 : Int) = a := by omega
    rw [haa] at hi
    unfold shareR
    rw [if_neg (by simp [h0]), e1, e2]
    have HP : Hid (PPx W p ub f0 u low) := h
    have HNZ : Hid _ := hnz
    clear hf1 hf2 e1 e2 hnz h h0
    cases hany : anyM u a k with
    | true =>
      rw [hany] at hz
      rw [if_pos rfl]
      generalize u.length = m at *
      go_enter Try.func34, Try.ntmps34
      go_wp2_with (first
        | (go_at_call 37; refine hi.mono ?_; rintro e w' ⟨rfl, q, rfl⟩)
        | (go_at_call 50; refine (hz _ _).mono ?_; rintro e w' ⟨rfl, rfl⟩))
      go_ret
      exact ⟨rfl, ⟨low, HP.out.drewN _⟩, (Turn.refl _ _).drewN _⟩
    | false =>
      rw [hany] at hz
      rw [if_neg (by simp)]
      have HM : Hid _ := anyM_false.1 hany
      clear hany
      generalize hm : u.length = m at *
      have HLM : Hid (u.length = m) := hm
      clear hm
      go_enter Try.func34, Try.ntmps34
      go_wp2_with (first
        | (go_at_call 37; refine hi.mono ?_; rintro e w' ⟨rfl, q, rfl⟩)
        | (go_at_call 50; refine (hz _ _).mono ?_; rintro e w' ⟨rfl, rfl⟩))
      go_loopw [34] (fun c wr => ∃ j : Nat, j ≤ k ∧ c = .int .i64 j ∧ Hid (RowAt wr ub 5 (encU (mdr (· + 1) u a j))) ∧ Hid (Turn (· = ub) W wr)) (fun c _ => k - (intOf c).toNat)
      case atStart => exact ⟨0, Nat.zero_le _, rfl, by rw [mdr_zero]; exact HP.out.row.drewN _, (Turn.refl _ _).drewN _⟩
      case round =>
        obtain ⟨j, hj, rfl, HR, HT⟩ := hrel
        by_cases hlt : j < k
        · obtain ⟨x, hx, hx0⟩ := HNZ.out j hlt
          have hx255 : x ≠ 255 := fun e => HM.out j hlt (by rw [hx, e])
          have hxle := HP.out.le x (List.mem_of_getElem? hx)
          have hcx : wr.cell? ⟨ub, a + j, none⟩ = some (.int .u8 x) := by rw [HR.out.cell]; exact encU_at (by rw [mdr_out _ _ _ _ _ (by omega)]; exact hx)
          have hfz := HR.out.frozen
          have HS : Hid (RowAt (wr.setCell ⟨ub, a + j, none⟩ (.int .u8 ((x : Int) + 1))) ub 5 (encU (mdr (· + 1) u a (j + 1)))) := by
            show RowAt _ _ _ _
            rw [mdr_succ _ u a j hx, ← encU_set]
            exact HR.out.set _ _
          clear hx
          go_wp2
          go_roundw
          case rel => exact ⟨j + 1, by omega, by go_num, HS, HT.out.setCell (.inl rfl) _⟩
          case measure => simp [intOf]; omega
        · obtain rfl : j = k := by omega
          have hp2 : PPx wr p ub f0 (mdr (· + 1) u a j) low := by
            have hne := HP.out.ne
            refine HP.out.with (mdr_len _ _ _ _) ?_ HR.out ⟨HP.out.lows.1, nz_mdr (fun _ => by omega) HP.out.lows.2⟩ (mdr_le255 HP.out.le (fun i x hi hx => ?_))
            · rw [zeros_add u a j HNZ.out]
              exact HP.out.box.turn HT.out hne
            · have := HP.out.le x (List.mem_of_getElem? hx)
              have : x ≠ 255 := fun e => HM.out i hi (by rw [hx, e])
              show x + 1 ≤ 255
              omega
          have HP2 : Hid _ := hp2
          clear hp2
          go_wp2
          go_ret
          exact ⟨rfl, ⟨low, HP2.out⟩, HT.out.mono (fun x _ hx => .inr hx)⟩
  · rw [if_neg h0] at hi
    have he : shareR f0 u f n = (nameE f0 u f n, u) := by unfold shareR; rw [if_pos h0]
    rw [he]
    have HP : Hid (PPx W p ub f0 u low) := h
    clear he h
    generalize nameE f0 u f n = er at *
    go_enter Try.func34, Try.ntmps34
    go_wp2_with (first
      | (go_at_call 37; refine hi.mono ?_; rintro e w' ⟨rfl, q, rfl⟩))
    go_ret
    exact ⟨rfl, ⟨low, HP.out.drewN _⟩, (Turn.refl _ _).drewN _⟩

set_option maxHeartbeats 4000000 in
theorem uses_any (W : World) (p ub f0 : Nat) (u : List Nat) (f : Int) (hP : PP W p ub f0 u) (hf1 : -9223372036854775808 ≤ f) (hf2 : f ≤ 9223372036854775807) :
    Calls Try.prog 25 #[.pointer (some ⟨p, 0, none⟩), .int .i64 f] W fun e W' => e = .returned (.int .i64 (usesR f0 u f)) ∧ ∃ q, W' = W.drewN q := by
  obtain ⟨low, h⟩ := hP
  have hh := has_any W p ub f0 low u f 1 h hf1 hf2
  have n1 := h.n1
  have n2 := h.n2
  unfold usesR
  cases h2 : hasB f0 u f 1 with
  | false =>
    rw [h2] at hh
    rw [if_neg (by simp)]
    clear h h2
    go_enter Try.func25, Try.ntmps25
    go_wp2_with (go_at_call 43; refine hh.mono ?_; rintro e w' ⟨rfl, q, rfl⟩)
    go_ret
    exact ⟨rfl, _, rfl⟩
  | true =>
    rw [h2] at hh
    rw [if_pos rfl]
    have h2' := h2
    unfold hasB at h2'
    simp at h2'
    obtain ⟨a, ha⟩ := Int.eq_ofNat_of_zero_le (show 0 ≤ f - f0 by omega)
    obtain rfl : f = (f0 : Int) + a := by omega
    have e1 : (((f0 : Int) + a) - f0).toNat = a := by omega
    rw [e1]
    have hal : a < u.length := by omega
    obtain ⟨x, hx⟩ : ∃ x, u[a]? = some x := ⟨_, List.getElem?_eq_getElem hal⟩
    have hxle := h.le x (List.mem_of_getElem? hx)
    have c0 := fun q => (h.drewN q).c0
    have c1 := fun q => (h.drewN q).c1
    have cx := fun q => (h.drewN q).cu hx
    have haa : (f0 : Int) + (a : Int) - (f0 : Int) = a := by omega
    rw [hx]
    clear hx h h2 h2' hf1 hf2 e1 ha
    simp only [Option.getD_some]
    generalize u.length = m at *
    go_enter Try.func25, Try.ntmps25
    go_wp2_with (go_at_call 43; refine hh.mono ?_; rintro e w' ⟨rfl, q, rfl⟩)
    go_quiet (fail)
    go_wp2
    go_ret
    exact ⟨rfl, q + nq, World.drewN_drewN _ _ _⟩

theorem free_any (W : World) (p ub f0 : Nat) (u : List Nat) (hP : PP W p ub f0 u) :
    Calls Try.prog 18 #[.pointer (some ⟨p, 0, none⟩)] W fun e W' => e = .returned (.int .i64 (zeros u)) ∧ W = W' := by
  obtain ⟨low, h⟩ := hP
  have c2 := h.c2
  clear h
  go_enter Try.func18, Try.ntmps18
  go_wp2
  go_ret
  exact ⟨rfl, rfl⟩
end Go.Proofs.Ytplobjdghaokoaa
