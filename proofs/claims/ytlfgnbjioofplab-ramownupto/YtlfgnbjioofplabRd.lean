import Derived.Test.YtlfgnbjioofplabRc
import Derived.Test.YtlfgnbjioofplabPf
namespace Go.Proofs.Ytlfgnbjioofplab
open Go.RowKit
set_option linter.unusedVariables false

theorem errV_bus {N : Nat} {pa : Nat} {w : Nat} (h : pa % w = 0) (hb : N * 4096 ≤ pa) : errV N pa w = 30 := by
  rw [errV_else h, if_pos (by omega)]
theorem errV_fine {N : Nat} {pa : Nat} {w : Nat} (h : pa % w = 0) (hb : pa < N * 4096) : errV N pa w = 0 := by
  rw [errV_else h, if_neg (by omega)]

theorem pow256 {k : Nat} (h : k ≤ 3) : (256 : Int) ^ k ≤ 256 ^ 3 := by
  rcases (show k = 0 ∨ k = 1 ∨ k = 2 ∨ k = 3 by omega) with rfl | rfl | rfl | rfl <;> decide

set_option maxHeartbeats 8000000 in
set_option maxRecDepth 100000 in
theorem rGet_some (W : World) (S : Nat → Prop) (r N : Nat) (m : Nat → Int) (pa w : Nat) (v : Value) (fs : List (Nat × Nat)) (h : RMx W S r N m v fs) (hw : w = 1 ∨ w = 2 ∨ w = 4) (ha : pa % w = 0) (hb : pa < N * 4096) (i : Nat) (x : Nat × Nat) (hx : fs[i]? = some x) (hxn : x.1 = pa / 4096) :
    Calls Try.prog 33 #[.pointer (some ⟨r, 0, none⟩), .int .u64 pa, .int .i64 w] W fun e W' => e = .returned (.tuple #[.int .u64 (num m pa w), .int .i64 0]) ∧ W = W' := by
  have hN := h.n2
  have hz : (pa : Int) % (w : Int) = 0 := by rw [← Int.natCast_emod, ha]; rfl
  have hen := rend_any W r N h.cell0 hN
  have hbz : (pa : Int) < (N : Int) * 4096 := by omega
  have hq : (pa : Int) / 4096 = ((pa / 4096 : Nat) : Int) := by omega
  have hr : (pa : Int) % 4096 = ((pa % 4096 : Nat) : Int) := by omega
  have hqr : pa / 4096 * 4096 + pa % 4096 = pa := by omega
  have hat4 : pa % 4096 + w ≤ 4096 := by rcases hw with rfl | rfl | rfl <;> omega
  have hat := at_some W S r N m v fs h (pa / 4096) i x hx hxn
  obtain ⟨a, cap, rfl, hcells⟩ := h.view
  obtain ⟨gb, rfl, _, e0, e1⟩ := hcells i x hx
  have hc1 := h.cell1
  have hlen := h.len
  obtain ⟨f1, f2, f3⟩ := h.frm x (List.mem_of_getElem? hx)
  have hin : (i : Int) < (fs.length : Int) := by have := (List.getElem?_eq_some_iff.1 hx).1; omega
  have HC : Hid (∀ k, k < w → W.cell? ⟨x.2, pa % 4096 + k, none⟩ = some (.int .u8 (m (pa + k)))) := fun k hk => by
    rw [f2.cell, List.getElem?_map, fr_at _ _ (by omega), hxn]
    show some _ = some _
    congr 3
    omega
  have hw1 : 1 ≤ w := by omega
  have hw2 : w ≤ 4 := by omega
  have HBt : Hid (Byts m) := h.byts
  clear hcells hx hxn h f1 f2 f3 hqr ha
  generalize pa / 4096 = q at *
  generalize pa % 4096 = o at *
  go_enter Try.func33, Try.ntmps33
  go_wp2_with (first
    | (go_at_call 29; refine hen.mono ?_; rintro e w1 ⟨rfl, rfl⟩)
    | (go_at_call 46; refine hat.mono ?_; rintro e w1 ⟨rfl, rfl⟩)
    | go_in)
  go_loop [9, 10] (fun y c => ∃ k : Nat, k ≤ w ∧ c = .int .i64 ((k : Int) - 1) ∧ y = .int .u64 (num m (pa + k) (w - k))) (fun _ c => (intOf c + 1).toNat)
  case atStart => exact ⟨w, Nat.le_refl _, rfl, by rw [Nat.sub_self]; rfl⟩
  case round =>
    obtain ⟨k, hk, rfl, rfl⟩ := hrel
    cases k with
    | zero =>
      go_wp2
      go_ret2
      exact ⟨rfl, rfl⟩
    | succ k =>
      have hc := HC.out k (by omega)
      have hk1 : ((k + 1 : Nat) : Int) - 1 = (k : Int) := by omega
      have hbb := HBt.out (pa + k)
      have hnb := num_bd HBt.out (w - (k + 1)) (pa + (k + 1))
      have hpw : (256 : Int) ^ (w - (k + 1)) ≤ 256 ^ 3 := pow256 (by omega)
      have HS : Hid (num m (pa + k) (w - k) = m (pa + k) + 256 * num m (pa + (k + 1)) (w - (k + 1))) := by
        show _ = _
        rw [show w - k = (w - (k + 1)) + 1 by omega, num]
        rfl
      simp only [Int.reducePow] at hpw
      have hlt : num m (pa + (k + 1)) (w - (k + 1)) < 16777216 := by omega
      have hge := hnb.1
      rw [hk1]
      clear hk1 hnb hpw
      generalize num m (pa + (k + 1)) (w - (k + 1)) = y at *
      generalize m (pa + k) = b at *
      obtain ⟨hb0, hb1⟩ := hbb
      go_wp2
      go_round
      case rel => exact ⟨k, by omega, rfl, by rw [HS.out]; congr 1; omega⟩
      case measure => simp [intOf]

set_option maxHeartbeats 8000000 in
set_option maxRecDepth 100000 in
theorem rGet_none (W : World) (S : Nat → Prop) (r N : Nat) (m : Nat → Int) (pa w : Nat) (v : Value) (fs : List (Nat × Nat)) (h : RMx W S r N m v fs) (hw : w = 1 ∨ w = 2 ∨ w = 4) (ha : pa % w = 0) (hb : pa < N * 4096) (hno : ∀ x ∈ fs, x.1 ≠ pa / 4096) :
    Calls Try.prog 33 #[.pointer (some ⟨r, 0, none⟩), .int .u64 pa, .int .i64 w] W fun e W' => e = .returned (.tuple #[.int .u64 (num m pa w), .int .i64 0]) ∧ W = W' := by
  have hN := h.n2
  have hz : (pa : Int) % (w : Int) = 0 := by rw [← Int.natCast_emod, ha]; rfl
  have hen := rend_any W r N h.cell0 hN
  have hbz : (pa : Int) < (N : Int) * 4096 := by omega
  have hq : (pa : Int) / 4096 = ((pa / 4096 : Nat) : Int) := by omega
  have hat := at_none W S r N m v fs h (pa / 4096) hno
  have hzz := cnt_fr_zero.1 (h.out (pa / 4096) (by omega) hno)
  have hnum : num m pa w = 0 := by
    have hm : ∀ k, k < w → m (pa + k) = 0 := fun k hk => by
      have := hzz (pa % 4096 + k) (by rcases hw with rfl | rfl | rfl <;> omega)
      rwa [show pa / 4096 * 4096 + (pa % 4096 + k) = pa + k by omega] at this
    have h0 := hm 0 (by omega)
    simp only [Nat.add_zero] at h0
    rcases hw with rfl | rfl | rfl
    · rw [num1, h0]
    · rw [num2, h0, hm 1 (by omega)]; rfl
    · rw [num4, h0, hm 1 (by omega), hm 2 (by omega), hm 3 (by omega)]; rfl
  rw [hnum]
  have hw1 : 1 ≤ w := by omega
  have hw2 : w ≤ 4 := by omega
  clear h ha hzz hno hnum
  generalize pa / 4096 = q at *
  go_enter Try.func33, Try.ntmps33
  go_wp2_with (first
    | (go_at_call 29; refine hen.mono ?_; rintro e w1 ⟨rfl, rfl⟩)
    | (go_at_call 46; refine hat.mono ?_; rintro e w1 ⟨rfl, rfl⟩)
    | go_in)
  go_ret2
  exact ⟨rfl, rfl⟩
set_option maxHeartbeats 8000000 in
theorem rGet_err (W : World) (r N : Nat) (pa w : Nat) (h0 : W.cell? ⟨r, 0, none⟩ = some (.int .i64 N)) (hN : N ≤ 65536) (hw : w = 1 ∨ w = 2 ∨ w = 4) (hp : pa < 18446744073709551616) (he : errV N pa w ≠ 0) :
    Calls Try.prog 33 #[.pointer (some ⟨r, 0, none⟩), .int .u64 pa, .int .i64 w] W fun e W' => e = .returned (.tuple #[.int .u64 0, .int .i64 (errV N pa w)]) ∧ W = W' := by
  have hen := rend_any W r N h0 hN
  have hw1 : 1 ≤ w := by omega
  have hw2 : w ≤ 4 := by omega
  by_cases ha : pa % w = 0
  · have hz : (pa : Int) % (w : Int) = 0 := by rw [← Int.natCast_emod, ha]; rfl
    have hb : N * 4096 ≤ pa := by
      apply Nat.le_of_not_lt
      intro hlt
      exact he (errV_fine ha hlt)
    rw [errV_bus ha hb]
    have hbz : (N : Int) * 4096 ≤ (pa : Int) := by omega
    clear he ha
    go_enter Try.func33, Try.ntmps33
    go_wp2_with (first
      | (go_at_call 29; refine hen.mono ?_; rintro e w1 ⟨rfl, rfl⟩)
      | go_in)
    go_ret2
    exact ⟨rfl, rfl⟩
  · have hz : ¬ (pa : Int) % (w : Int) = 0 := by rw [← Int.natCast_emod]; omega
    rw [errV_align ha]
    clear he ha
    go_enter Try.func33, Try.ntmps33
    go_wp2
    go_ret2
    exact ⟨rfl, rfl⟩
theorem rGet_any (W : World) (S : Nat → Prop) (r N : Nat) (m : Nat → Int) (pa w : Nat) (h : RM W S r N m) (hw : w = 1 ∨ w = 2 ∨ w = 4) (hp : pa < 18446744073709551616) :
    Calls Try.prog 33 #[.pointer (some ⟨r, 0, none⟩), .int .u64 pa, .int .i64 w] W fun e W' => e = .returned (.tuple #[.int .u64 (valV N m pa w), .int .i64 (errV N pa w)]) ∧ W = W' := by
  obtain ⟨v, fs, h⟩ := h
  unfold valV
  by_cases he : errV N pa w = 0
  · rw [if_pos he, he]
    obtain ⟨ha, hb⟩ := errV_ok hw he
    rcases h.parted (pa / 4096) with ⟨i, x, hx, hxn⟩ | hno
    · exact rGet_some W S r N m pa w v fs h hw ha (by omega) i x hx hxn
    · exact rGet_none W S r N m pa w v fs h hw ha (by omega) hno
  · rw [if_neg he]
    exact rGet_err W r N pa w h.cell0 h.n2 hw hp he
set_option maxHeartbeats 4000000 in
theorem rWord_any (W : World) (S : Nat → Prop) (r N : Nat) (m : Nat → Int) (pa : Nat) (h : RM W S r N m) (hp : pa < 18446744073709551616) :
    Calls Try.prog 36 #[.pointer (some ⟨r, 0, none⟩), .int .u64 pa] W fun e W' => e = .returned (.tuple #[.int .u32 (valV N m pa 4), .int .i64 (errV N pa 4)]) ∧ W = W' := by
  have hv : Calls Try.prog 33 #[.pointer (some ⟨r, 0, none⟩), .int .u64 pa, .int .i64 4] W fun e W' => e = .returned (.tuple #[.int .u64 (valV N m pa 4), .int .i64 (errV N pa 4)]) ∧ W = W' := rGet_any W S r N m pa 4 h (by omega) hp
  have hb := valV_bd (N := N) h.byts pa 4
  simp only [Int.reducePow] at hb
  obtain ⟨hb0, hb1⟩ := hb
  generalize valV N m pa 4 = x at *
  generalize errV N pa 4 = er at *
  clear h
  go_enter Try.func36, Try.ntmps36
  go_wp2_with (first
    | (go_at_call 33; refine hv.mono ?_; rintro e w1 ⟨rfl, rfl⟩)
    | go_in)
  go_ret2
  exact ⟨rfl, rfl⟩

/-! ### Set -/
set_option maxHeartbeats 8000000 in
theorem rSet_err (W : World) (r N : Nat) (pa w : Nat) (v : Int) (h0 : W.cell? ⟨r, 0, none⟩ = some (.int .i64 N)) (hN : N ≤ 65536) (hw : w = 1 ∨ w = 2 ∨ w = 4) (hp : pa < 18446744073709551616) (he : errV N pa w ≠ 0) :
    Calls Try.prog 38 #[.pointer (some ⟨r, 0, none⟩), .int .u64 pa, .int .i64 w, .int .u64 v] W fun e W' => e = .returned (.int .i64 (errV N pa w)) ∧ W = W' := by
  have hen := rend_any W r N h0 hN
  have hw1 : 1 ≤ w := by omega
  have hw2 : w ≤ 4 := by omega
  by_cases ha : pa % w = 0
  · have hz : (pa : Int) % (w : Int) = 0 := by rw [← Int.natCast_emod, ha]; rfl
    have hb : N * 4096 ≤ pa := by
      apply Nat.le_of_not_lt
      intro hlt
      exact he (errV_fine ha hlt)
    rw [errV_bus ha hb]
    have hbz : (N : Int) * 4096 ≤ (pa : Int) := by omega
    clear he ha
    go_enter Try.func38, Try.ntmps38
    go_wp2_with (first
      | (go_at_call 29; refine hen.mono ?_; rintro e w1 ⟨rfl, rfl⟩)
      | go_in)
    go_ret
    exact ⟨rfl, rfl⟩
  · have hz : ¬ (pa : Int) % (w : Int) = 0 := by rw [← Int.natCast_emod]; omega
    rw [errV_align ha]
    clear he ha
    go_enter Try.func38, Try.ntmps38
    go_wp2
    go_ret
    exact ⟨rfl, rfl⟩
set_option maxHeartbeats 8000000 in
set_option maxRecDepth 100000 in
theorem rSet_ok (W : World) (S : Nat → Prop) (r N : Nat) (m : Nat → Int) (pa w : Nat) (v : Int) (h : RM W S r N m) (hw : w = 1 ∨ w = 2 ∨ w = 4) (ha : pa % w = 0) (hb : pa + w ≤ N * 4096) (hv0 : 0 ≤ v) (hv1 : v < 18446744073709551616) :
    Calls Try.prog 38 #[.pointer (some ⟨r, 0, none⟩), .int .u64 pa, .int .i64 w, .int .u64 v] W fun e W' => e = .returned (.int .i64 0) ∧ RM W' (gr S W W') r N (wrs m pa (byt v w)) ∧ Turn S W W' := by
  have hN := h.n2
  have hz : (pa : Int) % (w : Int) = 0 := by rw [← Int.natCast_emod, ha]; rfl
  have hen := rend_any W r N h.cell0 hN
  have hw1 : 1 ≤ w := by omega
  have hw2 : w ≤ 4 := by omega
  have hbz : (pa : Int) < (N : Int) * 4096 := by omega
  have hlow := h.low
  have HH : Hid (RM W S r N m) := h
  clear h ha
  have hbl : (byt v w).length = w := byt_len v w
  have HBL : Hid ((byt v w).length = w) := hbl
  clear hbl
  have HBB : Hid (∀ x ∈ byt v w, 0 ≤ x ∧ x < 256) := byt_bytes v w
  have HV : Hid (byt v w = byt v w) := rfl
  generalize hL : byt v w = L at HBL HBB HV ⊢
  have HL : Hid (byt v w = L) := hL
  clear hL HV
  go_enter Try.func38, Try.ntmps38
  go_wp2_with (first
    | (go_at_call 29; refine hen.mono ?_; rintro e w1 ⟨rfl, rfl⟩)
    | go_in)
  clear hen
  go_loopw [3, 9] (fun y c wr => ∃ (k : Nat) (vk : Int), k ≤ w ∧ c = .int .i64 k ∧ y = .int .u64 vk ∧ 0 ≤ vk ∧ vk < 18446744073709551616 ∧ Hid (byt vk (w - k) = L.drop k) ∧ Hid (RM wr (gr S W wr) r N (wrs m pa (L.take k))) ∧ Hid (Turn S W wr)) (fun _ c _ => w - (intOf c).toNat)
  case atStart => exact ⟨0, v, Nat.zero_le _, rfl, rfl, hv0, hv1, by show _ = _; rw [← HL.out]; rfl, by show RM _ _ _ _ _; rw [List.take_zero, wrs_nil]; exact HH.out.gr hlow (Nat.le_refl _), Turn.refl _ _⟩
  case round =>
    obtain ⟨k, vk, hk, rfl, rfl, hk0, hk1, HK, HR, HT⟩ := hrel
    by_cases hlt : k < w
    · have hkk := HK.out
      rw [show w - k = (w - (k + 1)) + 1 by omega, byt] at hkk
      have hg : L[k]? = some (vk % 256) := by
        have := congrArg (fun l => l[0]?) hkk
        simp at this
        exact this.symm
      have HK2 : Hid (byt (vk / 256) (w - (k + 1)) = L.drop (k + 1)) := by
        have := congrArg List.tail hkk
        rw [List.tail_cons, List.tail_drop] at this
        exact this
      have HS : Hid (wrs m pa (L.take (k + 1)) = upd (wrs m pa (L.take k)) (pa + k) (vk % 256)) := wrs_take m pa L hg
      have hput : Calls Try.prog 43 #[.pointer (some ⟨r, 0, none⟩), .int .u64 ((pa : Int) + (k : Int)), .int .u8 (vk % 256)] wr fun e W' => e = .returned (.tuple #[]) ∧ RM W' (gr (gr S W wr) wr W') r N (upd (wrs m pa (L.take k)) (pa + k) (vk % 256)) ∧ Turn (gr S W wr) wr W' := by
        have := rput_any wr (gr S W wr) r N (wrs m pa (L.take k)) (pa + k) (vk % 256) HR.out (by omega) (by omega)
        rwa [Int.natCast_add] at this
      clear hkk hg
      go_wp2_with (first
        | (go_at_call 43; refine hput.mono ?_; rintro e w2 ⟨rfl, hp2, ht2⟩)
        | go_in)
      go_roundw
      case rel => exact ⟨k + 1, vk / 256, by omega, by go_num, rfl, by omega, by omega, HK2, by show RM _ _ _ _ _; rw [HS.out]; exact hp2.mono (gr_gr HT.out.size ht2.size) (gr_low hlow (Nat.le_trans HT.out.size ht2.size)), HT.out.trans ht2 (fun x hx => by
          rcases hx with hx | ⟨hx, _⟩
          · exact .inl hx
          · exact .inr hx)⟩
      case measure => simp [intOf]; omega
    · have hr := HR.out
      rw [List.take_of_length_le (by rw [HBL.out]; omega)] at hr
      have HRR : Hid (RM wr (gr S W wr) r N (wrs m pa L)) := hr
      clear hr HR
      go_wp2
      go_ret
      exact ⟨rfl, HRR.out, HT.out⟩
theorem rSet_any (W : World) (S : Nat → Prop) (r N : Nat) (m : Nat → Int) (pa w : Nat) (v : Int) (h : RM W S r N m) (hw : w = 1 ∨ w = 2 ∨ w = 4) (hp : pa < 18446744073709551616) (hv0 : 0 ≤ v) (hv1 : v < 18446744073709551616) :
    Calls Try.prog 38 #[.pointer (some ⟨r, 0, none⟩), .int .u64 pa, .int .i64 w, .int .u64 v] W fun e W' => e = .returned (.int .i64 (errV N pa w)) ∧ RM W' (gr S W W') r N (setV N m pa w v) ∧ Turn S W W' := by
  unfold setV
  by_cases he : errV N pa w = 0
  · rw [if_pos he, he]
    obtain ⟨ha, hb⟩ := errV_ok hw he
    exact rSet_ok W S r N m pa w v h hw ha hb hv0 hv1
  · rw [if_neg he]
    refine (rSet_err W r N pa w v h.cell0 h.n2 hw hp he).mono ?_
    rintro e W' ⟨rfl, rfl⟩
    exact ⟨rfl, h.gr h.low (Nat.le_refl _), Turn.refl _ _⟩
set_option maxHeartbeats 4000000 in
theorem rSetWord_any (W : World) (S : Nat → Prop) (r N : Nat) (m : Nat → Int) (pa : Nat) (v : Int) (h : RM W S r N m) (hp : pa < 18446744073709551616) (hv0 : 0 ≤ v) (hv1 : v < 4294967296) :
    Calls Try.prog 41 #[.pointer (some ⟨r, 0, none⟩), .int .u64 pa, .int .u32 v] W fun e W' => e = .returned (.int .i64 (errV N pa 4)) ∧ RM W' (gr S W W') r N (setV N m pa 4 v) ∧ Turn S W W' := by
  have hv : Calls Try.prog 38 #[.pointer (some ⟨r, 0, none⟩), .int .u64 pa, .int .i64 4, .int .u64 v] W fun e W' => e = .returned (.int .i64 (errV N pa 4)) ∧ RM W' (gr S W W') r N (setV N m pa 4 v) ∧ Turn S W W' := rSet_any W S r N m pa 4 v h (by omega) hp (by omega) (by omega)
  generalize setV N m pa 4 v = x at *
  generalize errV N pa 4 = er at *
  clear h
  go_enter Try.func41, Try.ntmps41
  go_wp2_with (first
    | (go_at_call 38; refine hv.mono ?_; rintro e w1 ⟨rfl, h1, h2⟩)
    | go_in)
  go_ret
  exact ⟨rfl, h1, h2⟩

/-! ### Write -/
theorem rwrite_bus (W : World) (r N : Nat) (pa n : Nat) (a : Option Addr) (cap : Nat) (hc0 : W.cell? ⟨r, 0, none⟩ = some (.int .i64 N)) (hN : N ≤ 65536) (hn1 : n ≤ 9223372036854775807) (hp : pa < 18446744073709551616) (hb : N * 4096 < pa + n) :
    Calls Try.prog 20 #[.pointer (some ⟨r, 0, none⟩), .int .u64 pa, .slice a n cap] W fun e W' => e = .returned (.int .i64 30) ∧ W = W' := by
  have hen := rend_any W r N hc0 hN
  by_cases hc : (pa : Int) ≤ (N : Int) * 4096
  · have hd : (N : Int) * 4096 - pa < n := by omega
    go_enter Try.func20, Try.ntmps20
    go_wp2_with (first
      | (go_at_call 29; refine hen.mono ?_; rintro e w1 ⟨rfl, rfl⟩)
      | go_in)
    go_ret
    exact ⟨rfl, rfl⟩
  · have hc' : (N : Int) * 4096 < pa := by omega
    go_enter Try.func20, Try.ntmps20
    go_wp2_with (first
      | (go_at_call 29; refine hen.mono ?_; rintro e w1 ⟨rfl, rfl⟩)
      | go_in)
    go_ret
    exact ⟨rfl, rfl⟩
set_option maxHeartbeats 8000000 in
set_option maxRecDepth 100000 in
theorem rwrite_ok (W : World) (S : Nat → Prop) (r N : Nat) (m : Nat → Int) (pa : Nat) (bs : List Int) (a : Option Addr) (cap : Nat) (h : RM W S r N m) (hp : pa + bs.length ≤ N * 4096)
    (hb : ∀ i b, bs[i]? = some b → ∃ g o, a = some ⟨g, o, none⟩ ∧ ¬ S g ∧ g < W.heap.size ∧ W.cell? ⟨g, o + i, none⟩ = some (.int .u8 b)) (hbb : ∀ v ∈ bs, 0 ≤ v ∧ v < 256) :
    Calls Try.prog 20 #[.pointer (some ⟨r, 0, none⟩), .int .u64 pa, .slice a bs.length cap] W fun e W' => e = .returned (.int .i64 0) ∧ RM W' (gr S W W') r N (wrs m pa bs) ∧ Turn S W W' := by
  have hN := h.n2
  have hen := rend_any W r N h.cell0 hN
  have hlow := h.low
  generalize hn : bs.length = n at *
  have HN : Hid (bs.length = n) := hn
  clear hn
  have hpn : (pa : Int) + n ≤ (N : Int) * 4096 := by omega
  have hpa : (pa : Int) ≤ (N : Int) * 4096 := by omega
  have hpd : (n : Int) ≤ (N : Int) * 4096 - pa := by omega
  have HH : Hid (RM W S r N m) := h
  have HB : Hid (∀ i b, bs[i]? = some b → ∃ g o, a = some ⟨g, o, none⟩ ∧ ¬ S g ∧ g < W.heap.size ∧ W.cell? ⟨g, o + i, none⟩ = some (.int .u8 b)) := hb
  have HBB : Hid (∀ v ∈ bs, 0 ≤ v ∧ v < 256) := hbb
  clear h hb hbb
  go_enter Try.func20, Try.ntmps20
  go_wp2_with (first
    | (go_at_call 29; refine hen.mono ?_; rintro e w1 ⟨rfl, rfl⟩)
    | go_in)
  clear hen
  go_loopw [7] (fun i wr => ∃ k : Nat, k ≤ n ∧ i = .int .i64 k ∧ Hid (RM wr (gr S W wr) r N (wrs m pa (bs.take k))) ∧ Hid (Turn S W wr)) (fun i _ => n - (intOf i).toNat)
  case atStart => exact ⟨0, Nat.zero_le _, rfl, by show RM _ _ _ _ _; rw [List.take_zero, wrs_nil]; exact HH.out.gr hlow (Nat.le_refl _), Turn.refl _ _⟩
  case round =>
    obtain ⟨k, hk, rfl, HR, HT⟩ := hrel
    by_cases hlt : k < n
    · obtain ⟨b, hb⟩ : ∃ b, bs[k]? = some b := ⟨_, List.getElem?_eq_getElem (by rw [HN.out]; omega)⟩
      obtain ⟨gb, o, rfl, hgS, hgl, hc⟩ := HB.out k b hb
      have HS : Hid (wrs m pa (bs.take (k + 1)) = upd (wrs m pa (bs.take k)) (pa + k) b) := wrs_take m pa bs hb
      have hbr := HBB.out b (List.mem_of_getElem? hb)
      rw [← HT.out.cell hgl hgS] at hc
      have hput : Calls Try.prog 43 #[.pointer (some ⟨r, 0, none⟩), .int .u64 ((pa : Int) + (k : Int)), .int .u8 b] wr fun e W' => e = .returned (.tuple #[]) ∧ RM W' (gr (gr S W wr) wr W') r N (upd (wrs m pa (bs.take k)) (pa + k) b) ∧ Turn (gr S W wr) wr W' := by
        have := rput_any wr (gr S W wr) r N (wrs m pa (bs.take k)) (pa + k) b HR.out (by omega) hbr
        rwa [Int.natCast_add] at this
      clear hb
      go_wp2_with (first
        | (go_at_call 43; refine hput.mono ?_; rintro e w2 ⟨rfl, hp2, ht2⟩)
        | go_in)
      go_roundw
      case rel => exact ⟨k + 1, by omega, by go_num, by show RM _ _ _ _ _; rw [HS.out]; exact hp2.mono (gr_gr HT.out.size ht2.size) (gr_low hlow (Nat.le_trans HT.out.size ht2.size)), HT.out.trans ht2 (fun x hx => by
          rcases hx with hx | ⟨hx, _⟩
          · exact .inl hx
          · exact .inr hx)⟩
      case measure => simp [intOf]; omega
    · have hr := HR.out
      rw [List.take_of_length_le (by rw [HN.out]; omega)] at hr
      have HRR : Hid (RM wr (gr S W wr) r N (wrs m pa bs)) := hr
      clear hr HR
      go_wp2
      go_ret
      exact ⟨rfl, HRR.out, HT.out⟩
end Go.Proofs.Ytlfgnbjioofplab
