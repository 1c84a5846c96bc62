import Derived.Test.YtplobjdghaokoabRc
namespace Go.Proofs.Ytplobjdghaokoab
open Go.RowKit
set_option linter.unusedVariables false

/-- While the reference turns its uses. -/
structure RI (W wr : World) (r rb f0 m : Nat) (cur : List Nat) : Prop where
  box : RowAt wr r 68 [.int .i64 f0, .slice (some ⟨rb, 0, none⟩) m m]
  row : RowAt wr rb 3 (encI (intsOf cur))
  trn : Turn (· = rb) W wr
theorem RI.next {W wr : World} {r rb f0 m : Nat} {cur : List Nat} (h : RI W wr r rb f0 m cur) (i x : Nat) (v : Int) (hv : v = (x : Int)) (q : Nat) : RI W ((wr.drewN q).setCell ⟨rb, i, none⟩ (.int .i64 v)) r rb f0 m (cur.set i x) := by
  subst hv
  have hne := h.box.ne h.row (by decide)
  refine ⟨(h.box.drewN q).setO hne _ _, ?_, (h.trn.drewN q).setCell (.inl rfl) _⟩
  rw [← encI_set']
  exact (h.row.drewN q).set _ _
theorem RI.c0 {W wr : World} {r rb f0 m : Nat} {cur : List Nat} (h : RI W wr r rb f0 m cur) : wr.cell? ⟨r, 0, none⟩ = some (.int .i64 f0) := by rw [h.box.cell]; rfl
theorem RI.c1 {W wr : World} {r rb f0 m : Nat} {cur : List Nat} (h : RI W wr r rb f0 m cur) : wr.cell? ⟨r, 1, none⟩ = some (.slice (some ⟨rb, 0, none⟩) m m) := by rw [h.box.cell]; rfl
theorem RI.cu {W wr : World} {r rb f0 m : Nat} {cur : List Nat} (h : RI W wr r rb f0 m cur) {i x : Nat} (hi : cur[i]? = some x) : wr.cell? ⟨rb, i, none⟩ = some (.int .i64 (x : Int)) := by rw [h.row.cell]; exact encI_at (intsOf_at hi)
theorem RI.done {W wr : World} {r rb f0 m : Nat} {u cur : List Nat} (h : RI W wr r rb f0 m cur) (h0 : RP W r rb f0 u) (hl : cur.length = u.length) (hle : ∀ x ∈ cur, x ≤ 255) : RP wr r rb f0 cur ∧ Turn (Two r rb) W wr :=
  ⟨h0.with hl h.row h.trn hle, h.trn.mono (fun b _ hb => .inr hb)⟩

set_option maxHeartbeats 8000000 in
theorem rtake_any (W : World) (r rb f0 : Nat) (u : List Nat) (n al : Int) (h : RP W r rb f0 u) (hn : n ≤ 9223372036854775807) :
    Calls Try.prog 18 #[.pointer (some ⟨r, 0, none⟩), .int .i64 n, .int .i64 al] W fun e W' => e = .returned (.tuple #[.int .i64 (takeR f0 u n al).1, .int .i64 (takeR f0 u n al).2.1]) ∧ RP W' r rb f0 (takeR f0 u n al).2.2 ∧ Turn (Two r rb) W W' := by
  have HP : Hid (RP W r rb f0 u) := h
  by_cases h1 : n < 1
  · have he : takeR f0 u n al = (0, 41, u) := by unfold takeR; rw [if_pos (.inl h1)]
    rw [he]
    clear he h
    go_enter Try.func18, Try.ntmps18
    go_wp2
    go_ret2
    exact ⟨rfl, HP.out, Turn.refl _ _⟩
  · have hal := aligned_any W al
    cases h2 : isAl al with
    | false =>
      have he : takeR f0 u n al = (0, 41, u) := by unfold takeR; rw [if_pos (.inr h2)]
      rw [he]
      rw [h2] at hal
      clear he h h2
      go_enter Try.func18, Try.ntmps18
      go_wp2_with (first | (go_at_call 44; refine hal.mono ?_; rintro e w' ⟨rfl, rfl⟩) | go_in)
      go_ret2
      exact ⟨rfl, HP.out, Turn.refl _ _⟩
    | true =>
      rw [h2] at hal
      obtain ⟨a1, a2⟩ := isAl_pos h2
      obtain ⟨k, rfl⟩ := Int.eq_ofNat_of_zero_le (show 0 ≤ n by omega)
      obtain ⟨a, rfl⟩ := Int.eq_ofNat_of_zero_le (show 0 ≤ al by omega)
      have n1 := h.n1
      have n2 := h.n2
      have c0 := h.c0
      have c1 := h.c1
      have hhas : ∀ q t, Calls Try.prog 33 #[.pointer (some ⟨r, 0, none⟩), .int .i64 ((f0 : Int) + (t : Nat)), .int .i64 k] (W.drewN q) fun e W' => e = .returned (.bool (decide (t + k ≤ u.length))) ∧ ∃ q, W' = W.drewN q := fun q t => by
        refine (rhas_any (W.drewN q) r rb f0 u _ k (h.drewN q) (by omega) (by omega)).mono ?_
        rintro e w' ⟨rfl, q', rfl⟩
        refine ⟨ret_bool ?_, q + q', World.drewN_drewN _ _ _⟩
        unfold hasB
        exact decide_eq_decide.2 (by omega)
      have hfre : ∀ q t, t + k ≤ u.length → Calls Try.prog 45 #[.pointer (some ⟨r, 0, none⟩), .int .i64 ((f0 : Int) + (t : Nat)), .int .i64 k] (W.drewN q) fun e W' => e = .returned (.bool (frB u t k)) ∧ ∃ q, W' = W.drewN q := fun q t ht => by
        refine (rfreeAt_any (W.drewN q) r rb f0 u t k (h.drewN q) ht).mono ?_
        rintro e w' ⟨rfl, q', rfl⟩
        exact ⟨rfl, q + q', World.drewN_drewN _ _ _⟩
      have htk : takeR f0 u k a = match tk f0 u k a with | none => (0, 42, u) | some t => (((f0 + t : Nat) : Int), 0, mdr (fun _ => 1) u t k) := by
        unfold takeR
        rw [if_neg (by rw [h2]; simp; omega), Int.toNat_natCast, Int.toNat_natCast]
        cases tk f0 u k a <;> rfl
      have HTK1 : Hid (∀ t, tk f0 u k a = some t → takeR f0 u k a = (((f0 + t : Nat) : Int), 0, mdr (fun _ => 1) u t k)) := fun t e => by rw [htk, e]
      have HTK0 : Hid (tk f0 u k a = none → takeR f0 u k a = (0, 42, u)) := fun e => by rw [htk, e]
      clear htk h h2
      generalize hm : u.length = m at *
      have HM : Hid (u.length = m) := hm
      clear hm
      go_enter Try.func18, Try.ntmps18
      go_wp2_with (first | (go_at_call 44; refine hal.mono ?_; rintro e w' ⟨rfl, rfl⟩) | go_in)
      clear hal
      go_loopw [8] (fun s8 wr => ∃ t : Nat, t ≤ m ∧ s8 = .int .i64 ((f0 + t : Nat) : Int) ∧ (∃ q, wr = W.drewN q) ∧ Hid (∀ j, j < t → ¬ Fit f0 u k a j)) (fun s8 _ => f0 + m - (intOf s8).toNat)
      case atStart => exact ⟨0, Nat.zero_le _, by go_num, ⟨0, rfl⟩, fun j hj => by omega⟩
      case round =>
        obtain ⟨t, ht, rfl, ⟨q, rfl⟩, HN⟩ := hrel
        by_cases htm : t < m
        · have htz : (f0 : Int) + (t : Int) < (f0 : Int) + (m : Int) := by omega
          have hmod : ((f0 : Int) + (t : Int)) % (a : Int) = ((f0 + t) % a : Nat) := by rw [Int.natCast_emod]; rfl
          have hno : ¬ Fit f0 u k a t → ∀ j, j < t + 1 → ¬ Fit f0 u k a j := fun hf j hj => by
            by_cases e : j = t
            · rw [e]; exact hf
            · exact HN.out j (by omega)
          by_cases m0 : (f0 + t) % a = 0
          · rw [m0] at hmod
            have hh := fun q => hhas q t
            by_cases h3 : t + k ≤ m
            · rw [decide_eq_true h3] at hh
              have hf := fun q => hfre q t h3
              cases h4 : frB u t k with
              | true =>
                rw [h4] at hf
                have HFT : Hid (tk f0 u k a = some t) := tk_some.2 ⟨⟨m0, by rw [HM.out]; exact h3, frB_iff.1 h4⟩, HN.out⟩
                have HZ : Hid (∀ i, i < k → u[t + i]? = some 0) := frB_iff.1 h4
                clear h4 hno hhas hfre
                go_wp2
                go_quiet (fail)
                go_wp2_with (first
                  | (go_at_call 33; refine (hh _).mono ?_; rintro e w' ⟨rfl, q1, rfl⟩)
                  | (go_at_call 45; refine (hf _).mono ?_; rintro e w' ⟨rfl, q2, rfl⟩)
                  | go_in)
                have HI0 : Hid (∀ q, RI W (W.drewN q) r rb f0 m (mdr (fun _ => 1) u t 0)) := fun q => by
                  rw [mdr_zero]
                  have hb := HP.out.box
                  rw [HM.out] at hb
                  exact ⟨hb.drewN q, HP.out.row.drewN q, (Turn.refl _ _).drewN q⟩
                have hrr : ¬ r = rb := HP.out.ne
                have hrr' : ¬ rb = r := fun e => hrr e.symm
                go_loopw [9] (fun s9 wr => ∃ j : Nat, j ≤ k ∧ s9 = .int .i64 j ∧ Hid (RI W wr r rb f0 m (mdr (fun _ => 1) u t j))) (fun s9 _ => k - (intOf s9).toNat)
                case atStart => exact ⟨0, Nat.zero_le _, rfl, HI0.out _⟩
                case round =>
                  obtain ⟨j, hj, rfl, HI⟩ := hrel
                  clear c0 c1
                  by_cases hjk : j < k
                  · have c0 := HI.out.c0
                    have c1 := HI.out.c1
                    have hx := HZ.out j hjk
                    have cx := HI.out.cu (i := t + j) (x := 0) (by rw [mdr_out _ _ _ _ _ (by omega)]; exact hx)
                    have hfz := HI.out.row.frozen
                    have HS : Hid (∀ q, RI W ((wr.drewN q).setCell ⟨rb, t + j, none⟩ (.int .i64 1)) r rb f0 m (mdr (fun _ => 1) u t (j + 1))) := fun q => by
                      have := HI.out.next (t + j) 1 1 rfl q
                      rw [← mdr_succ _ u t j hx] at this
                      exact this
                    have hix : (f0 : Int) + (t : Int) - (f0 : Int) + (j : Int) = ((t + j : Nat) : Int) := by omega
                    have hix2 : (f0 : Int) + (t : Int) - (f0 : Int) = (t : Int) := by omega
                    have hjz : (j : Int) < (k : Int) := by omega
                    clear hx
                    go_wp2
                    go_region
                    go_wp2
                    go_roundw
                    case rel => exact ⟨j + 1, by omega, by go_num, HS.out 1⟩
                    case measure => simp [intOf]; omega
                  · obtain rfl : j = k := by omega
                    have hjz : ¬ ((j : Int) < (j : Int)) := by omega
                    have HD : Hid _ := HI.out.done HP.out (mdr_len _ _ _ _) (mdr_le255 HP.out.le (fun i x hi hx => (by show 1 ≤ 255; omega)))
                    go_wp2
                    go_ret2
                    rw [HTK1.out t HFT.out]
                    exact ⟨ret_ii (by omega) rfl, HD.out⟩
              | false =>
                rw [h4] at hf
                have HNF : Hid _ := hno (fun e => by have := frB_iff.2 e.2.2; rw [h4] at this; cases this)
                clear h4 hno hhas hfre
                go_wp2
                go_quiet (fail)
                go_wp2_with (first
                  | (go_at_call 33; refine (hh _).mono ?_; rintro e w' ⟨rfl, q1, rfl⟩)
                  | (go_at_call 45; refine (hf _).mono ?_; rintro e w' ⟨rfl, q2, rfl⟩)
                  | go_in)
                go_roundw
                case rel => exact ⟨t + 1, by omega, by go_num, ⟨_, rfl⟩, HNF⟩
                case measure => simp [intOf]; omega
            · rw [decide_eq_false h3] at hh
              have HNF : Hid _ := hno (fun e => h3 (by have := e.2.1; rw [HM.out] at this; exact this))
              clear hno hhas hfre
              go_wp2
              go_quiet (fail)
              go_wp2_with (first
                | (go_at_call 33; refine (hh _).mono ?_; rintro e w' ⟨rfl, q1, rfl⟩)
                | go_in)
              go_roundw
              case rel => exact ⟨t + 1, by omega, by go_num, ⟨_, rfl⟩, HNF⟩
              case measure => simp [intOf]; omega
          · have HNF : Hid _ := hno (fun e => m0 e.1)
            have hmm : ¬ ((f0 : Int) + (t : Int)) % (a : Int) = 0 := by rw [hmod]; generalize (f0 + t) % a = z at *; omega
            have hab : (1 : Int) ≤ (a : Int) := a1
            clear hno hhas hfre hmod
            go_wp2
            go_quiet (fail)
            go_wp2
            go_roundw
            case rel => exact ⟨t + 1, by omega, by go_num, ⟨_, rfl⟩, HNF⟩
            case measure => simp [intOf]; omega
        · obtain rfl : t = m := by omega
          have HT : Hid (tk f0 u k a = none) := by
            show _ = _
            rw [tk_none]
            intro j hf
            by_cases h : j < t
            · exact HN.out j h hf
            · have := hf.2.1; rw [HM.out] at this; omega
          have htz : ¬ ((f0 : Int) + (t : Int) < (f0 : Int) + (t : Int)) := by omega
          have HR : Hid (∀ q, RP (W.drewN q) r rb f0 u ∧ Turn (Two r rb) W (W.drewN q)) := fun q => ⟨HP.out.drewN q, (Turn.refl _ _).drewN q⟩
          go_wp2
          go_quiet (fail)
          go_wp2
          go_ret2
          rw [HTK0.out HT.out, World.drewN_drewN]
          have hh := HR.out
          exact ⟨rfl, hh _⟩
end Go.Proofs.Ytplobjdghaokoab
