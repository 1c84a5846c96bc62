import Derived.Test.YtplobjdghaokoabRd
namespace Go.Proofs.Ytplobjdghaokoab
open Go.RowKit
set_option linter.unusedVariables false

theorem RP.toRI {W : World} {r rb f0 m : Nat} {u : List Nat} (h : RP W r rb f0 u) (hm : u.length = m) (q : Nat) : RI W (W.drewN q) r rb f0 m u := by
  have hb := h.box
  rw [hm] at hb
  exact ⟨hb.drewN q, h.row.drewN q, (Turn.refl _ _).drewN q⟩
set_option maxHeartbeats 8000000 in
set_option maxRecDepth 100000 in
theorem rshare_any (W : World) (r rb f0 : Nat) (u : List Nat) (f n : Int) (h : RP W r rb f0 u) (hn2 : n ≤ 9223372036854775807) :
    Calls Try.prog 20 #[.pointer (some ⟨r, 0, none⟩), .int .i64 f, .int .i64 n] W fun e W' => e = .returned (.int .i64 (shareR f0 u f n).1) ∧ RP W' r rb f0 (shareR f0 u f n).2 ∧ Turn (Two r rb) W W' := by
  have hi := named_any W r rb f0 u f n h hn2
  have HP : Hid (RP W r rb f0 u) := h
  by_cases h0 : nameE f0 u f n = 0
  · rw [h0] at hi
    obtain ⟨a, k, rfl, rfl, hk1, hak, e1, e2, hnz⟩ := nameE_ok h0
    have n1 := h.n1
    have n2 := h.n2
    have c0 := h.c0
    have c1 := h.c1
    have HS44 : Hid (anyM u a k = true → shareR f0 u ((f0 : Int) + a) k = (44, u)) := fun e => by
      unfold shareR
      rw [if_neg (by simp [h0]), e1, e2, if_pos e]
    have HS0 : Hid (anyM u a k = false → shareR f0 u ((f0 : Int) + a) k = (0, mdr (· + 1) u a k)) := fun e => by
      unfold shareR
      rw [if_neg (by simp [h0]), e1, e2, if_neg (by simp [e])]
    have HNZ : Hid _ := hnz
    clear e1 e2 hnz h h0
    have hrr : ¬ r = rb := HP.out.ne
    have hrr' : ¬ rb = r := fun e => hrr e.symm
    generalize hm : u.length = m at *
    have HM : Hid (u.length = m) := hm
    clear hm
    go_enter Try.func20, Try.ntmps20
    go_wp2_with (first | (go_at_call 48; refine hi.mono ?_; clear hi; rintro e w' ⟨rfl, q, rfl⟩) | go_in)
    go_loopw [8] (fun s8 wr => ∃ j : Nat, j ≤ k ∧ s8 = .int .i64 j ∧ (∃ q, wr = W.drewN q) ∧ Hid (∀ i, i < j → u[a + i]? ≠ some 255)) (fun s8 _ => k - (intOf s8).toNat)
    case atStart => exact ⟨0, Nat.zero_le _, rfl, ⟨_, rfl⟩, fun i hi => by omega⟩
    case round =>
      obtain ⟨j, hj, rfl, ⟨q, rfl⟩, HZ⟩ := hrel
      by_cases hlt : j < k
      · obtain ⟨x, hx, hx0⟩ := HNZ.out j hlt
        have cx := HP.out.cu hx
        have hxle := HP.out.le x (List.mem_of_getElem? hx)
        have HX : Hid (u[a + j]? = some x) := hx
        clear hx
        have hix : (f0 : Int) + (a : Int) - (f0 : Int) + (j : Int) = ((a + j : Nat) : Int) := by omega
        have hix2 : (f0 : Int) + (a : Int) - (f0 : Int) = (a : Int) := by omega
        have hkz : (j : Int) < (k : Int) := by omega
        by_cases h255 : x = 255
        · have HA : Hid (shareR f0 u ((f0 : Int) + a) k = (44, u)) := HS44.out (anyM_true.2 ⟨j, hlt, (by rw [← h255]; exact HX.out)⟩)
          have hxz : (255 : Int) ≤ (x : Int) := by omega
          clear h255
          have HR : Hid (∀ q, RP (W.drewN q) r rb f0 u ∧ Turn (Two r rb) W (W.drewN q)) := fun q => ⟨HP.out.drewN q, (Turn.refl _ _).drewN q⟩
          go_wp2
          go_quiet (fail)
          go_wp2
          go_ret
          rw [HA.out, World.drewN_drewN]
          have hh := HR.out
          exact ⟨rfl, hh _⟩
        · have hxz : ¬ (255 ≤ (x : Int)) := by omega
          go_wp2
          go_quiet (fail)
          go_wp2
          go_roundw
          case rel => exact ⟨j + 1, by omega, by go_num, ⟨_, rfl⟩, fun i hi => by
            by_cases e : i = j
            · rw [e]; have := HX.out; rw [this]; simpa using h255
            · exact HZ.out i (by omega)⟩
          case measure => simp [intOf]; omega
      · obtain rfl : j = k := by omega
        have HA : Hid (shareR f0 u ((f0 : Int) + a) j = (0, mdr (· + 1) u a j)) := HS0.out (anyM_false.2 HZ.out)
        have hkz : ¬ ((j : Int) < (j : Int)) := by omega
        have HI0 : Hid (RI W (W.drewN q) r rb f0 m (mdr (· + 1) u a 0)) := by rw [mdr_zero]; exact HP.out.toRI HM.out q
        go_wp2
        clear c0 c1
        go_loopw [9] (fun s9 wr => ∃ i : Nat, i ≤ j ∧ s9 = .int .i64 i ∧ Hid (RI W wr r rb f0 m (mdr (· + 1) u a i))) (fun s9 _ => j - (intOf s9).toNat)
        case atStart => exact ⟨0, Nat.zero_le _, rfl, HI0⟩
        case round =>
          obtain ⟨i, hi, rfl, HI⟩ := hrel
          by_cases hij : i < j
          · obtain ⟨x, hx, hx0⟩ := HNZ.out i hij
            have hxle := HP.out.le x (List.mem_of_getElem? hx)
            have c0 := HI.out.c0
            have c1 := HI.out.c1
            have cx := HI.out.cu (i := a + i) (x := x) (by rw [mdr_out _ _ _ _ _ (by omega)]; exact hx)
            have hfz := HI.out.row.frozen
            have HS : Hid (∀ q, RI W ((wr.drewN q).setCell ⟨rb, a + i, none⟩ (.int .i64 ((x : Int) + 1))) r rb f0 m (mdr (· + 1) u a (i + 1))) := fun q => by
              have := HI.out.next (a + i) (x + 1) ((x : Int) + 1) (by omega) q
              rw [← mdr_succ (· + 1) u a i hx] at this
              exact this
            have hix : (f0 : Int) + (a : Int) - (f0 : Int) + (i : Int) = ((a + i : Nat) : Int) := by omega
            have hix2 : (f0 : Int) + (a : Int) - (f0 : Int) = (a : Int) := by omega
            have hjz : (i : Int) < (j : Int) := by omega
            clear hx
            go_wp2
            go_region
            go_wp2
            go_roundw
            case rel => exact ⟨i + 1, by omega, by go_num, HS.out 1⟩
            case measure => simp [intOf]; omega
          · obtain rfl : i = j := by omega
            have HD : Hid _ := HI.out.done HP.out (mdr_len _ _ _ _) (mdr_le255 HP.out.le (fun q x hq hx => by
              have h1 := HP.out.le x (List.mem_of_getElem? hx)
              have h2 : x ≠ 255 := fun e => HZ.out q hq (by rw [hx, e])
              show x + 1 ≤ 255
              omega))
            go_wp2
            go_ret
            rw [HA.out]
            exact ⟨rfl, HD.out⟩
  · have he : shareR f0 u f n = (nameE f0 u f n, u) := by unfold shareR; rw [if_pos h0]
    rw [he]
    clear he h
    generalize nameE f0 u f n = er at *
    go_enter Try.func20, Try.ntmps20
    go_wp2_with (first | (go_at_call 48; refine hi.mono ?_; rintro e w' ⟨rfl, q, rfl⟩) | go_in)
    go_ret
    exact ⟨rfl, HP.out.drewN _, (Turn.refl _ _).drewN _⟩

set_option maxHeartbeats 8000000 in
theorem rdrop_any (W : World) (r rb f0 : Nat) (u : List Nat) (f n : Int) (h : RP W r rb f0 u) (hn2 : n ≤ 9223372036854775807) :
    Calls Try.prog 23 #[.pointer (some ⟨r, 0, none⟩), .int .i64 f, .int .i64 n] W fun e W' => e = .returned (.tuple #[.int .i64 (dropR f0 u f n).1, .int .i64 (dropR f0 u f n).2.1]) ∧ RP W' r rb f0 (dropR f0 u f n).2.2 ∧ Turn (Two r rb) W W' := by
  have hi := named_any W r rb f0 u f n h hn2
  have HP : Hid (RP W r rb f0 u) := h
  by_cases h0 : nameE f0 u f n = 0
  · rw [h0] at hi
    obtain ⟨a, k, rfl, rfl, hk1, hak, e1, e2, hnz⟩ := nameE_ok h0
    have n1 := h.n1
    have n2 := h.n2
    have HA : Hid (dropR f0 u ((f0 : Int) + a) k = ((frd u a k : Int), 0, mdr (· - 1) u a k)) := by
      show _ = _
      unfold dropR
      rw [if_neg (by simp [h0]), e1, e2]
    have HNZ : Hid _ := hnz
    clear e1 e2 hnz h h0
    have hrr : ¬ r = rb := HP.out.ne
    have hrr' : ¬ rb = r := fun e => hrr e.symm
    generalize hm : u.length = m at *
    have HM : Hid (u.length = m) := hm
    clear hm
    go_enter Try.func23, Try.ntmps23
    go_wp2_with (first | (go_at_call 48; refine hi.mono ?_; clear hi; rintro e w' ⟨rfl, q, rfl⟩) | go_in)
    have HI0 : Hid (RI W (W.drewN q) r rb f0 m (mdr (· - 1) u a 0)) := by rw [mdr_zero]; exact HP.out.toRI HM.out q
    go_loopw [9, 10] (fun s9 s10 wr => ∃ i : Nat, i ≤ k ∧ s10 = .int .i64 i ∧ s9 = .int .i64 (frd u a i) ∧ Hid (RI W wr r rb f0 m (mdr (· - 1) u a i))) (fun _ s10 _ => k - (intOf s10).toNat)
    case atStart => exact ⟨0, Nat.zero_le _, rfl, by rw [frd_zero]; rfl, HI0⟩
    case round =>
      obtain ⟨i, hi, rfl, rfl, HI⟩ := hrel
      have hfl := frd_le u a i
      by_cases hij : i < k
      · obtain ⟨x, hx, hx0⟩ := HNZ.out i hij
        have hxle := HP.out.le x (List.mem_of_getElem? hx)
        have c0 := HI.out.c0
        have c1 := HI.out.c1
        have cx := HI.out.cu (i := a + i) (x := x) (by rw [mdr_out _ _ _ _ _ (by omega)]; exact hx)
        have hfz := HI.out.row.frozen
        have hS : ∀ q, RI W ((wr.drewN q).setCell ⟨rb, a + i, none⟩ (.int .i64 ((x : Int) - 1))) r rb f0 m (mdr (· - 1) u a (i + 1)) := fun q => by
          have := HI.out.next (a + i) (x - 1) ((x : Int) - 1) (by omega) q
          rw [← mdr_succ (· - 1) u a i hx] at this
          exact this
        have hlx : a + i < (mdr (· - 1) u a (i + 1)).length := by rw [mdr_len]; exact (List.getElem?_eq_some_iff.1 hx).1
        have hnx : (mdr (· - 1) u a (i + 1))[a + i]? = some (x - 1) := mdr_in _ _ _ _ _ x hx (by omega) (by omega)
        have HS : Hid (RI W (wr.setCell ⟨rb, a + i, none⟩ (.int .i64 ((x : Int) - 1))) r rb f0 m (mdr (· - 1) u a (i + 1))) := by have := hS 0; rw [World.drewN_zero] at this; exact this
        have hfs := frd_succ u a i hx
        have hix : (f0 : Int) + (a : Int) - (f0 : Int) + (i : Int) = ((a + i : Nat) : Int) := by omega
        have hix2 : (f0 : Int) + (a : Int) - (f0 : Int) = (a : Int) := by omega
        have hjz : (i : Int) < (k : Int) := by omega
        clear hx hnx hS hlx
        by_cases hx1 : x = 1
        · subst hx1
          rw [if_pos rfl] at hfs
          have HFS : Hid _ := hfs
          clear hfs
          have HS : Hid (RI W (wr.setCell ⟨rb, a + i, none⟩ (.int .i64 0)) r rb f0 m (mdr (· - 1) u a (i + 1))) := HS
          go_wp2
          go_region
          go_wp2
          go_quiet (fail)
          go_wp2
          go_roundw
          case rel => exact ⟨i + 1, by omega, by go_num, by rw [HFS.out]; go_num, ⟨HS.out.box.drewN _, HS.out.row.drewN _, HS.out.trn.drewN _⟩⟩
          case measure => simp [intOf]; omega
        · rw [if_neg hx1] at hfs
          have HFS : Hid _ := hfs
          have hx2 : ¬ ((x : Int) - 1 = 0) := by omega
          clear hfs
          go_wp2
          go_region
          go_wp2
          go_quiet (fail)
          go_wp2
          go_roundw
          case rel => exact ⟨i + 1, by omega, by go_num, by rw [HFS.out]; rfl, ⟨HS.out.box.drewN _, HS.out.row.drewN _, HS.out.trn.drewN _⟩⟩
          case measure => simp [intOf]; omega
      · obtain rfl : i = k := by omega
        have HD : Hid _ := HI.out.done HP.out (mdr_len _ _ _ _) (mdr_le255 HP.out.le (fun q x hq hx => by
          have h1 := HP.out.le x (List.mem_of_getElem? hx)
          show x - 1 ≤ 255
          omega))
        go_wp2
        go_ret2
        rw [HA.out]
        exact ⟨rfl, HD.out⟩
  · have he : dropR f0 u f n = (0, nameE f0 u f n, u) := by unfold dropR; rw [if_pos h0]
    rw [he]
    clear he h
    generalize nameE f0 u f n = er at *
    go_enter Try.func23, Try.ntmps23
    go_wp2_with (first | (go_at_call 48; refine hi.mono ?_; rintro e w' ⟨rfl, q, rfl⟩) | go_in)
    go_ret2
    exact ⟨rfl, HP.out.drewN _, (Turn.refl _ _).drewN _⟩
end Go.Proofs.Ytplobjdghaokoab
