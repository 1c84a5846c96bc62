import Derived.Test.YtplobjdghaokoaaPc
namespace Go.Proofs.Ytplobjdghaokoaa
open Go.RowKit
set_option linter.unusedVariables false

/-- While frames are dropped. -/
structure Dr (W wr : World) (p ub f0 a j : Nat) (u : List Nat) (low : Nat) : Prop where
  box : RowAt wr p 73 [.int .i64 f0, .slice (some ⟨ub, 0, none⟩) u.length u.length, .int .i64 (zeros u), .int .i64 low]
  row : RowAt wr ub 5 (encU (mdr (· - 1) u a j))
  lows : low ≤ u.length ∧ ∀ i, i < low → (mdr (· - 1) u a j)[i]? ≠ some 0
  trn : Turn (Two p ub) W wr
theorem Dr.next {W wr : World} {p ub f0 a j : Nat} {u : List Nat} {low x : Nat} (h : Dr W wr p ub f0 a j u low) (hx : u[a + j]? = some x) (h0 : x ≠ 0) (h1 : x ≠ 1) (v : Int) (hv : v = (x : Int) - 1) : Dr W (wr.setCell ⟨ub, a + j, none⟩ (.int .u8 v)) p ub f0 a (j + 1) u low := by
  have hne : p ≠ ub := h.box.ne h.row (by decide)
  subst hv
  refine ⟨h.box.setO hne _ _, ?_, ⟨h.lows.1, fun i hi => ?_⟩, h.trn.setCell (.inl (.inr rfl)) _⟩
  · rw [mdr_succ _ u a j hx, ← encU_set, show ((x - 1 : Nat) : Int) = (x : Int) - 1 by omega]
    exact h.row.set _ _
  · rw [mdr_succ _ u a j hx]
    by_cases e : i = a + j
    · subst e
      have hl : a + j < u.length := (List.getElem?_eq_some_iff.1 hx).1
      rw [List.getElem?_set_self (by rw [mdr_len]; exact hl)]
      simp
      omega
    · rw [List.getElem?_set_ne (Ne.symm e)]
      exact h.lows.2 i hi
theorem Dr.next0 {W wr : World} {p ub f0 a j : Nat} {u : List Nat} {low : Nat} (h : Dr W wr p ub f0 a j u low) (hx : u[a + j]? = some 1) (m : Nat) (hm : m = min low (a + j)) : Dr W ((wr.setCell ⟨ub, a + j, none⟩ (.int .u8 0)).setCell ⟨p, 3, none⟩ (.int .i64 m)) p ub f0 a (j + 1) u m := by
  have hne : p ≠ ub := h.box.ne h.row (by decide)
  have hl : a + j < u.length := (List.getElem?_eq_some_iff.1 hx).1
  refine ⟨(h.box.setO hne _ _).set 3 _, ?_, ⟨by have := h.lows.1; omega, fun i hi => ?_⟩, (h.trn.setCell (.inl (.inr rfl)) _).setCell (.inl (.inl rfl)) _⟩
  · rw [mdr_succ _ u a j hx, ← encU_set]
    exact (h.row.set _ _).setO (Ne.symm hne) _ _
  · rw [mdr_succ _ u a j hx, List.getElem?_set_ne (by omega)]
    exact h.lows.2 i (by omega)

set_option maxHeartbeats 8000000 in
theorem drop_any (W : World) (p ub f0 : Nat) (u : List Nat) (f n : Int) (hP : PP W p ub f0 u) (hf1 : -9223372036854775808 ≤ f) (hf2 : f ≤ 9223372036854775807) :
    Calls Try.prog 20 #[.pointer (some ⟨p, 0, none⟩), .int .i64 f, .int .i64 n] W fun e W' => e = .returned (.tuple #[.int .i64 (dropR f0 u f n).1, .int .i64 (dropR f0 u f n).2.1]) ∧ PP W' p ub f0 (dropR f0 u f n).2.2 ∧ Turn (Two p ub) W W' := by
  obtain ⟨low, h⟩ := hP
  have hi := inUse_any W p ub f0 low u f n h hf1 hf2
  by_cases h0 : nameE f0 u f n = 0
  · rw [if_pos h0, h0] at hi
    obtain ⟨a, k, rfl, rfl, hk1, hak, e1, e2, hnz⟩ := nameE_ok h0
    have n1 := h.n1
    have haa : (f0 : Int) + (a : Int) - (f0 : Int) = a := by omega
    rw [haa] at hi
    unfold dropR
    rw [if_neg (by simp [h0]), e1, e2]
    have HP : Hid (PPx W p ub f0 u low) := h
    have HNZ : Hid _ := hnz
    clear hf1 hf2 e1 e2 hnz h h0
    generalize hm : u.length = m at *
    have HLM : Hid (u.length = m) := hm
    clear hm
    go_enter Try.func20, Try.ntmps20
    go_wp2_with (first
      | (go_at_call 37; refine hi.mono ?_; rintro e w' ⟨rfl, q, rfl⟩))
    go_loopw [10, 11] (fun d c wr => ∃ (j lw : Nat), j ≤ k ∧ c = .int .i64 ((a + j : Nat) : Int) ∧ d = .int .i64 (frd u a j) ∧ Hid (Dr W wr p ub f0 a j u lw)) (fun _ c _ => a + k - (intOf c).toNat)
    case atStart => exact ⟨0, low, Nat.zero_le _, by go_num, by rw [frd_zero]; rfl, ⟨HP.out.box.drewN _, by rw [mdr_zero]; exact HP.out.row.drewN _, by rw [mdr_zero]; exact HP.out.lows, (Turn.refl _ _).drewN _⟩⟩
    case round =>
      obtain ⟨j, lw, hj, rfl, rfl, HD⟩ := hrel
      have hfl := frd_le u a j
      by_cases hlt : j < k
      · obtain ⟨x, hx, hx0⟩ := HNZ.out j hlt
        have hxle := HP.out.le x (List.mem_of_getElem? hx)
        have hcx : wr.cell? ⟨ub, a + j, none⟩ = some (.int .u8 x) := by rw [HD.out.row.cell]; exact encU_at (by rw [mdr_out _ _ _ _ _ (by omega)]; exact hx)
        have hfz := HD.out.row.frozen
        have hfp := HD.out.box.frozen
        have c1 : wr.cell? ⟨p, 1, none⟩ = some (.slice (some ⟨ub, 0, none⟩) m m) := by rw [HD.out.box.cell, HLM.out]; rfl
        have c3 : wr.cell? ⟨p, 3, none⟩ = some (.int .i64 lw) := by rw [HD.out.box.cell]; rfl
        have hne : p ≠ ub := HP.out.ne
        have hne' : ¬ ub = p := fun e => hne e.symm
        have hlw := HD.out.lows.1
        rw [HLM.out] at hlw
        have HF := frd_succ u a j hx
        by_cases hx1 : x = 1
        · subst hx1
          have HN : Hid (∀ mm : Nat, mm = min lw (a + j) → Dr W ((wr.setCell ⟨ub, a + j, none⟩ (.int .u8 0)).setCell ⟨p, 3, none⟩ (.int .i64 mm)) p ub f0 a (j + 1) u mm) := fun mm => HD.out.next0 hx mm
          rw [if_pos rfl] at HF
          have HFF : Hid _ := HF
          clear HF hx
          by_cases hmn : lw ≤ a + j
          · have hmz : (lw : Int) ≤ (a : Int) + (j : Int) := by omega
            have hmz2 : ¬ ((a : Int) + (j : Int) < (lw : Int)) := by omega
            go_wp2
            go_roundw
            case rel => exact ⟨j + 1, lw, by omega, by go_num, by rw [HFF.out]; go_num, HN.out lw (by omega)⟩
            case measure => simp [intOf]; omega
          · have hmz : ¬ (lw : Int) ≤ (a : Int) + (j : Int) := by omega
            have hmz2 : ((a : Int) + (j : Int) < (lw : Int)) := by omega
            go_wp2
            go_roundw
            case rel => exact ⟨j + 1, a + j, by omega, by go_num, by rw [HFF.out]; go_num, HN.out (a + j) (by omega)⟩
            case measure => simp [intOf]; omega
        · have HN : Hid (∀ v : Int, v = (x : Int) - 1 → Dr W (wr.setCell ⟨ub, a + j, none⟩ (.int .u8 v)) p ub f0 a (j + 1) u lw) := fun v => HD.out.next hx hx0 hx1 v
          rw [if_neg hx1] at HF
          have HFF : Hid _ := HF
          clear HF hx
          have hxz : ¬ ((x : Int) - 1 = 0) := by omega
          go_wp2
          go_roundw
          case rel => exact ⟨j + 1, lw, by omega, by go_num, by rw [HFF.out]; rfl, HN.out _ rfl⟩
          case measure => simp [intOf]; omega
      · obtain rfl : j = k := by omega
        have hzs := zeros_sub u a j HNZ.out
        have hzl := zeros_le u
        have hp2 : PPx (wr.setCell ⟨p, 2, none⟩ (.int .i64 ((zeros u : Int) + (frd u a j : Int)))) p ub f0 (mdr (· - 1) u a j) lw := by
          have hne := HP.out.ne
          refine HP.out.with (mdr_len _ _ _ _) ?_ (HD.out.row.setO (Ne.symm hne) _ _) HD.out.lows (mdr_le255 HP.out.le (fun i x hi hx => ?_))
          · have := HD.out.box.set 2 (.int .i64 ((zeros u : Int) + (frd u a j : Int)))
            rw [hzs, show ((zeros u + frd u a j : Nat) : Int) = (zeros u : Int) + (frd u a j : Int) by omega]
            exact this
          · have := HP.out.le x (List.mem_of_getElem? hx)
            show x - 1 ≤ 255
            omega
        have HP2 : Hid _ := hp2
        have HT : Hid _ := HD.out.trn.setCell (p := ⟨p, 2, none⟩) (.inl (.inl rfl)) (.int .i64 ((zeros u : Int) + (frd u a j : Int)))
        have c2 : wr.cell? ⟨p, 2, none⟩ = some (.int .i64 (zeros u)) := by rw [HD.out.box.cell]; rfl
        have hfp := HD.out.box.frozen
        rw [HLM.out] at hzl
        clear hp2 hzs
        go_wp2
        go_ret2
        exact ⟨rfl, ⟨_, HP2.out⟩, HT.out⟩
  · rw [if_neg h0] at hi
    have he : dropR f0 u f n = (0, nameE f0 u f n, u) := by unfold dropR; rw [if_pos h0]
    rw [he]
    have HP : Hid (PPx W p ub f0 u low) := h
    clear he h
    generalize nameE f0 u f n = er at *
    go_enter Try.func20, Try.ntmps20
    go_wp2_with (first
      | (go_at_call 37; refine hi.mono ?_; rintro e w' ⟨rfl, q, rfl⟩))
    go_ret2
    exact ⟨rfl, ⟨low, HP.out.drewN _⟩, (Turn.refl _ _).drewN _⟩
end Go.Proofs.Ytplobjdghaokoaa
