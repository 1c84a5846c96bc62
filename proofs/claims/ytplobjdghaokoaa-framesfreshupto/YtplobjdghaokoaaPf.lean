import Derived.Test.YtplobjdghaokoaaPe
namespace Go.Proofs.Ytplobjdghaokoaa
open Go.RowKit
set_option linter.unusedVariables false

set_option maxHeartbeats 8000000 in
theorem take_any (W : World) (p ub f0 : Nat) (u : List Nat) (n al : Int) (hP : PP W p ub f0 u) (hn : n ≤ 9223372036854775807) :
    Calls Try.prog 14 #[.pointer (some ⟨p, 0, none⟩), .int .i64 n, .int .i64 al] W fun e W' => e = .returned (.tuple #[.int .i64 (takeR f0 u n al).1, .int .i64 (takeR f0 u n al).2.1]) ∧ PP W' p ub f0 (takeR f0 u n al).2.2 ∧ Turn (Two p ub) W W' := by
  by_cases h1 : n < 1
  · have he : takeR f0 u n al = (0, 41, u) := by unfold takeR; rw [if_pos (.inl h1)]
    rw [he]
    have HP : Hid _ := hP
    clear hP he
    go_enter Try.func14, Try.ntmps14
    go_wp2
    go_ret2
    exact ⟨rfl, HP.out, Turn.refl _ _⟩
  · have hal := isAlign_any W al
    cases h2 : isAl al with
    | false =>
      have he : takeR f0 u n al = (0, 41, u) := by unfold takeR; rw [if_pos (.inr h2)]
      rw [he]
      rw [h2] at hal
      have HP : Hid _ := hP
      clear hP he h2
      go_enter Try.func14, Try.ntmps14
      go_wp2_with (go_at_call 35; refine hal.mono ?_; rintro e w' ⟨rfl, rfl⟩)
      go_ret2
      exact ⟨rfl, HP.out, Turn.refl _ _⟩
    | true =>
      rw [h2] at hal
      obtain ⟨a1, a2⟩ := isAl_pos h2
      obtain ⟨low, h⟩ := hP
      obtain ⟨k, rfl⟩ := Int.eq_ofNat_of_zero_le (show 0 ≤ n by omega)
      obtain ⟨a, rfl⟩ := Int.eq_ofNat_of_zero_le (show 0 ≤ al by omega)
      have hf := findRun_any W p ub f0 low u k a h (by omega) (by omega) (by omega) (by omega)
      have n1 := h.n1
      have n2 := h.n2
      unfold takeR
      rw [if_neg (by rw [h2]; simp; omega), Int.toNat_natCast, Int.toNat_natCast]
      clear h h2
      rcases tk_cases f0 u k a with ⟨t, ht, hfit, hno⟩ | ⟨ht, hno⟩
      · rw [ht] at hf ⊢
        have hf' : Calls Try.prog 36 #[.pointer (some ⟨p, 0, none⟩), .int .i64 k, .int .i64 a] W fun e W' => e = .returned (.tuple #[.int .i64 (t : Nat), .bool true]) ∧ PP W' p ub f0 u ∧ Turn (· = p) W W' := by
          refine hf.mono ?_
          rintro e w' ⟨⟨t', h1, rfl⟩ | ⟨h1, _⟩, h2⟩
          · cases h1; exact ⟨rfl, h2⟩
          · cases h1
        clear hf ht hno
        have HF : Hid _ := hfit
        have htk := hfit.2.1
        clear hfit
        generalize hm : u.length = m at *
        have HLM : Hid (u.length = m) := hm
        clear hm
        simp only
        go_enter Try.func14, Try.ntmps14
        go_wp2_with (first
          | (go_at_call 35; refine hal.mono ?_; rintro e w' ⟨rfl, rfl⟩)
          | (go_at_call 36; refine hf'.mono ?_; clear hf'; rintro e w1 ⟨rfl, ⟨lw, hp1⟩, ht1⟩; have HP : Hid (PPx w1 p ub f0 u lw ∧ Turn (· = p) W w1) := ⟨hp1, ht1⟩; clear hp1 ht1))
        clear hal
        go_loopw [28] (fun c wr => ∃ j : Nat, j ≤ k ∧ c = .int .i64 j ∧ Hid (RowAt wr ub 5 (encU (mdr (fun _ => 1) u t j))) ∧ Hid (Turn (· = ub) w1 wr)) (fun c _ => k - (intOf c).toNat)
        case atStart => exact ⟨0, Nat.zero_le _, rfl, by rw [mdr_zero]; exact HP.out.1.row, Turn.refl _ _⟩
        case round =>
          obtain ⟨j, hj, rfl, HR, HT⟩ := hrel
          have hne := HP.out.1.ne
          have hbx := HP.out.1.box.turn HT.out hne
          have c1 : wr.cell? ⟨p, 1, none⟩ = some (.slice (some ⟨ub, 0, none⟩) m m) := by rw [hbx.cell, HLM.out]; rfl
          have HBX : Hid (RowAt wr p 73 [.int .i64 f0, .slice (some ⟨ub, 0, none⟩) u.length u.length, .int .i64 (zeros u), .int .i64 lw]) := hbx
          clear hbx
          by_cases hlt : j < k
          · have hx := HF.out.2.2 j hlt
            have hcx : wr.cell? ⟨ub, t + j, none⟩ = some (.int .u8 0) := by rw [HR.out.cell]; exact encU_at (by rw [mdr_out _ _ _ _ _ (by omega)]; exact hx)
            have hfz := HR.out.frozen
            have HS : Hid (RowAt (wr.setCell ⟨ub, t + j, none⟩ (.int .u8 1)) ub 5 (encU (mdr (fun _ => 1) u t (j + 1)))) := by
              show RowAt _ _ _ _
              rw [mdr_succ _ u t j hx, ← encU_set]
              exact HR.out.set _ _
            clear hx
            go_wp2
            go_roundw
            case rel => exact ⟨j + 1, by omega, by go_num, HS, HT.out.setCell (.inl rfl) _⟩
            case measure => simp [intOf]; omega
          · obtain rfl : j = k := by omega
            have hz := zeros_take_one u t j HF.out.2.2
            have hzl := zeros_le u
            rw [HLM.out] at hzl
            have hzl2 := zeros_le (mdr (fun _ => 1) u t j)
            rw [mdr_len, HLM.out] at hzl2
            have hjz : (j : Int) ≤ (zeros u : Int) := by omega
            have hp2 : PPx (wr.setCell ⟨p, 2, none⟩ (.int .i64 ((zeros u : Int) - (j : Int)))) p ub f0 (mdr (fun _ => 1) u t j) lw := by
              refine HP.out.1.with (mdr_len _ _ _ _) ?_ (HR.out.setO (Ne.symm hne) _ _) ⟨HP.out.1.lows.1, nz_mdr (fun _ => by omega) HP.out.1.lows.2⟩ (mdr_le255 HP.out.1.le (fun i x hi hx => by show 1 ≤ 255; omega))
              have := HBX.out.set 2 (.int .i64 ((zeros u : Int) - (j : Int)))
              rw [hz]
              exact this
            have HP2 : Hid _ := hp2
            have HTT : Hid (Turn (Two p ub) W (wr.setCell ⟨p, 2, none⟩ (.int .i64 ((zeros u : Int) - (j : Int))))) := (((HP.out.2.mono (S' := Two p ub) (fun x _ h => .inl h)).trans HT.out (fun x h => .inl (.inr h))).setCell (.inl (.inl rfl)) _)
            have c2 : wr.cell? ⟨p, 2, none⟩ = some (.int .i64 (zeros u)) := by rw [HBX.out.cell]; rfl
            have c0 : wr.cell? ⟨p, 0, none⟩ = some (.int .i64 f0) := by rw [HBX.out.cell]; rfl
            have hfp := HBX.out.frozen
            clear hp2 hz
            go_wp2
            go_ret2
            exact ⟨ret_ii (by omega) rfl, ⟨lw, HP2.out⟩, HTT.out⟩
      · rw [ht] at hf ⊢
        have hf' : Calls Try.prog 36 #[.pointer (some ⟨p, 0, none⟩), .int .i64 k, .int .i64 a] W fun e W' => e = .returned (.tuple #[.int .i64 0, .bool false]) ∧ PP W' p ub f0 u ∧ Turn (· = p) W W' := by
          refine hf.mono ?_
          rintro e w' ⟨⟨t', h1, rfl⟩ | ⟨h1, rfl⟩, h2⟩
          · cases h1
          · exact ⟨rfl, h2⟩
        clear hf ht hno
        simp only
        go_enter Try.func14, Try.ntmps14
        go_wp2_with (first
          | (go_at_call 35; refine hal.mono ?_; rintro e w' ⟨rfl, rfl⟩)
          | (go_at_call 36; refine hf'.mono ?_; clear hf'; rintro e w1 ⟨rfl, hp1, ht1⟩; have HP : Hid (PP w1 p ub f0 u ∧ Turn (· = p) W w1) := ⟨hp1, ht1⟩; clear hp1 ht1))
        go_ret2
        exact ⟨rfl, HP.out.1, HP.out.2.mono (fun x _ h => .inl h)⟩

/-! ### New -/
def newE (first count : Int) : Int := if count < 0 ∨ 1048576 < count then 41 else if first < 0 ∨ 268435456 - count < first then 40 else 0
set_option maxHeartbeats 4000000 in
theorem new_bad (W : World) (first count : Int) (h : newE first count ≠ 0) :
    Calls Try.prog 33 #[.int .i64 first, .int .i64 count] W fun e W' => e = .returned (.tuple #[.pointer none, .int .i64 (newE first count)]) ∧ W = W' := by
  by_cases h1 : count < 0 ∨ 1048576 < count
  · have he : newE first count = 41 := by unfold newE; rw [if_pos h1]
    rw [he]
    clear he h
    by_cases h2 : count < 0
    · go_enter Try.func33, Try.ntmps33
      go_wp2
      go_ret2
      exact ⟨rfl, rfl⟩
    · have h3 : 1048576 < count := by omega
      clear h1
      go_enter Try.func33, Try.ntmps33
      go_wp2
      go_ret2
      exact ⟨rfl, rfl⟩
  · have h2 : first < 0 ∨ 268435456 - count < first := by
      unfold newE at h
      rw [if_neg h1] at h
      by_cases e : first < 0 ∨ 268435456 - count < first
      · exact e
      · rw [if_neg e] at h; exact absurd rfl h
    have he : newE first count = 40 := by unfold newE; rw [if_neg h1, if_pos h2]
    rw [he]
    clear he h
    have h3 : 0 ≤ count := by omega
    have h4 : count ≤ 1048576 := by omega
    clear h1
    by_cases h5 : first < 0
    · clear h2
      go_enter Try.func33, Try.ntmps33
      go_wp2
      go_ret2
      exact ⟨rfl, rfl⟩
    · have h6 : 268435456 - count < first := by omega
      clear h2
      go_enter Try.func33, Try.ntmps33
      go_wp2
      go_ret2
      exact ⟨rfl, rfl⟩
theorem newE_ok {first count : Int} (h : newE first count = 0) : ∃ f c : Nat, first = f ∧ count = c ∧ c ≤ 1048576 ∧ f + c ≤ 268435456 := by
  unfold newE at h
  split at h
  · cases h
  · split at h
    · cases h
    · exact ⟨first.toNat, count.toNat, by omega, by omega, by omega, by omega⟩
theorem madeCells_one (z : Value) (n : Nat) : madeCells #[z] n = (List.replicate n z).toArray := by
  apply Array.ext
  · simp [size_madeCells]
  · intro i h1 h2
    have h3 : i % 1 = 0 := Nat.mod_one i
    simp [madeCells, h3]
theorem info8 : (Try.prog.info? 5).map (fun i => (i.zero, i.size, i.bytes)) = some (some (.int .u8 0), 1, 1) := by kernel_rfl
theorem infoI : (Try.prog.info? 3).map (fun i => (i.zero, i.size, i.bytes)) = some (some (.int .i64 0), 1, 8) := by kernel_rfl
def zr (n : Nat) (z : Value) : Array Value := (List.replicate n z).toArray
theorem zr_row (W : World) (n : Nat) (z : Value) (e : TypeId) : RowAt (W.alloc (.cells (zr n z) e)) W.heap.size e (List.replicate n z) := row_new W _ e
theorem make8 (W : World) (n : Nat) (hn : n ≤ 281474976710656) : (Instr.makeSlice 71 (.int .i64 (n : Int)) (.int .i64 (n : Int))).run Try.prog W = .ok (.slice (some ⟨W.heap.size, 0, none⟩) n n) (W.alloc (.cells (zr n (Value.int .u8 0)) 5)) := by
  obtain ⟨i0, hi, hz0, hz1, hz2⟩ := info_parts info8
  have := run_make (P := Try.prog) W 71 5 i0 _ Try.underlying71 hi hz0 .i64 .i64 n n (by omega) (Int.le_refl _) (by rw [hz2]; omega) (by omega)
  rw [this, hz1, Nat.mul_one, Int.toNat_natCast, show (Value.int .u8 0).cells = #[Value.int .u8 0] from rfl, madeCells_one]
  rfl
theorem makeI (W : World) (n : Nat) (hn : n ≤ 4194304) : (Instr.makeSlice 32 (.int .i64 (n : Int)) (.int .i64 (n : Int))).run Try.prog W = .ok (.slice (some ⟨W.heap.size, 0, none⟩) n n) (W.alloc (.cells (zr n (Value.int .i64 0)) 3)) := by
  obtain ⟨i0, hi, hz0, hz1, hz2⟩ := info_parts infoI
  have := run_make (P := Try.prog) W 32 3 i0 _ Try.underlying32 hi hz0 .i64 .i64 n n (by omega) (by omega) (by rw [hz2]; omega) (by omega)
  rw [this, hz1, Nat.mul_one, Int.toNat_natCast, show (Value.int .i64 0).cells = #[Value.int .i64 0] from rfl, madeCells_one]
  rfl
theorem makeI0 (W : World) (n : Nat) (hn : n ≤ 4194304) : (Instr.makeSlice 32 (.int .i64 0) (.int .i64 (n : Int))).run Try.prog W = .ok (.slice (some ⟨W.heap.size, 0, none⟩) 0 n) (W.alloc (.cells (zr n (Value.int .i64 0)) 3)) := by
  obtain ⟨i0, hi, hz0, hz1, hz2⟩ := info_parts infoI
  have := run_make (P := Try.prog) W 32 3 i0 _ Try.underlying32 hi hz0 .i64 .i64 0 n (by omega) (by omega) (by rw [hz2]; omega) (by omega)
  rw [this, hz1, Nat.mul_one, Int.toNat_natCast, show (Value.int .i64 0).cells = #[Value.int .i64 0] from rfl, madeCells_one]
  rfl
theorem zeros_rep (c : Nat) : zeros (List.replicate c 0) = c := by unfold zeros; rw [List.countP_replicate]; simp
set_option maxHeartbeats 4000000 in
set_option maxRecDepth 100000 in
theorem new_ok (W : World) (f c : Nat) (h1 : c ≤ 1048576) (h2 : f + c ≤ 268435456) :
    Calls Try.prog 33 #[.int .i64 f, .int .i64 c] W fun e W' => e = .returned (.tuple #[.pointer (some ⟨W.heap.size + 1, 0, none⟩), .int .i64 0]) ∧ PP W' (W.heap.size + 1) W.heap.size f (List.replicate c 0) ∧ Turn (fun _ => False) W W' ∧ W'.heap.size = W.heap.size + 2 := by
  have h3 : ¬ ((268435456 : Int) - (c : Int) < (f : Int)) := by omega
  have hmk := make8 W c (by omega)
  have hr1 := zr_row W c (.int .u8 0) 5
  have hr2 := row_new (W.alloc (.cells (zr c (Value.int .u8 0)) 5)) [.int .i64 f, .slice (some ⟨W.heap.size, 0, none⟩) c c, .int .i64 c, .int .i64 0] 73
  have e1 : (W.alloc (.cells (zr c (Value.int .u8 0)) 5)).heap.size = W.heap.size + 1 := by simp
  rw [e1] at hr2
  have T1 := (Turn.refl (fun _ => False) W).alloc (.cells (zr c (Value.int .u8 0)) 5)
  have T2 := (Turn.refl (fun _ => False) (W.alloc (.cells (zr c (Value.int .u8 0)) 5))).alloc (.cells #[.int .i64 f, .slice (some ⟨W.heap.size, 0, none⟩) c c, .int .i64 c, .int .i64 0] 73)
  have HP : Hid (PP ((W.alloc (.cells (zr c (Value.int .u8 0)) 5)).alloc (.cells #[.int .i64 f, .slice (some ⟨W.heap.size, 0, none⟩) c c, .int .i64 c, .int .i64 0] 73)) (W.heap.size + 1) W.heap.size f (List.replicate c 0) ∧ Turn (fun _ => False) W ((W.alloc (.cells (zr c (Value.int .u8 0)) 5)).alloc (.cells #[.int .i64 f, .slice (some ⟨W.heap.size, 0, none⟩) c c, .int .i64 c, .int .i64 0] 73)) ∧ ((W.alloc (.cells (zr c (Value.int .u8 0)) 5)).alloc (.cells #[.int .i64 f, .slice (some ⟨W.heap.size, 0, none⟩) c c, .int .i64 c, .int .i64 0] 73)).heap.size = W.heap.size + 2) := ⟨⟨0, ⟨by rw [List.length_replicate, zeros_rep]; exact hr2, by
    have := hr1.turn T2 (fun h => h)
    unfold encU
    rw [List.map_replicate]
    exact this, ⟨Nat.zero_le _, fun i hi => by omega⟩, fun x hx => by rw [List.eq_of_mem_replicate hx]; omega, by rw [List.length_replicate]; exact h1, by rw [List.length_replicate]; exact h2⟩⟩, T1.trans T2 (fun _ h => h.elim), by simp⟩
  clear hr1 hr2 e1 T1 T2
  go_enter Try.func33, Try.ntmps33
  go_wp2
  go_ret2
  exact ⟨rfl, HP.out⟩
end Go.Proofs.Ytplobjdghaokoaa
