import Derived.Test.YtlfgnbjioofplabMem
import Derived.WalkKit
import Derived.Deep.RegionHeld3
namespace Go.Proofs.Ytlfgnbjioofplab
open Go.RowKit
set_option linter.unusedVariables false

theorem ret_int {k : IntKind} {a b : Int} (h : a = b) : Ending.returned (.int k a) = .returned (.int k b) := by rw [h]
theorem ret_bool {a b : Bool} (h : a = b) : Ending.returned (.bool a) = .returned (.bool b) := by rw [h]
theorem ret_ii {k k' : IntKind} {a b a' b' : Int} (h : a = b) (h' : a' = b') : Ending.returned (.tuple #[.int k a, .int k' a']) = .returned (.tuple #[.int k b, .int k' b']) := by rw [h, h']
theorem split_any (W : World) (pa : Nat) (hp : pa < 18446744073709551616) :
    Calls Try.prog 27 #[.int .u64 pa] W fun e W' => e = .returned (.tuple #[.int .i64 ((pa / 4096 : Nat) : Int), .int .i64 ((pa % 4096 : Nat) : Int)]) ∧ W = W' := by
  go_enter Try.func27, Try.ntmps27
  go_wp2
  go_ret2
  exact ⟨ret_ii (by omega) (by omega), rfl⟩

set_option maxHeartbeats 1000000 in
theorem has_any (W : World) (p N : Nat) (n : Int) (pa : Nat) (h0 : W.cell? ⟨p, 0, none⟩ = some (.int .i64 N)) (hN : N ≤ 65536) (hn0 : 0 ≤ n) (hn1 : n ≤ 9223372036854775807) (hp : pa < 18446744073709551616) :
    Calls Try.prog 26 #[.pointer (some ⟨p, 0, none⟩), .int .u64 pa, .int .i64 n] W fun e W' => e = .returned (.bool (decide ((pa : Int) + n ≤ (N : Int) * 4096))) ∧ W = W' := by
  by_cases hc : (pa : Int) ≤ (N : Int) * 4096
  · go_enter Try.func26, Try.ntmps26
    go_wp2
    go_ret
    exact ⟨ret_bool (decide_eq_decide.2 (by omega)), rfl⟩
  · have hc' : (N : Int) * 4096 < (pa : Int) := by omega
    go_enter Try.func26, Try.ntmps26
    go_wp2
    go_ret
    exact ⟨ret_bool (decide_eq_false (by omega)).symm, rfl⟩

theorem errV_align {N : Nat} {pa : Nat} {w : Nat} (h : ¬ pa % w = 0) : errV N pa w = 2 := by
  unfold errV
  rw [if_pos]
  intro e
  apply h
  have : ((pa % w : Nat) : Int) = 0 := by rw [Int.natCast_emod]; exact e
  omega
theorem errV_else {N : Nat} {pa : Nat} {w : Nat} (h : pa % w = 0) : errV N pa w = if (N : Int) * 4096 ≤ pa then 30 else 0 := by
  unfold errV
  rw [if_neg]
  intro e
  apply e
  rw [← Int.natCast_emod, h]; rfl
theorem errV_vals (N : Nat) (pa : Nat) (w : Nat) : errV N pa w = 2 ∨ errV N pa w = 30 ∨ errV N pa w = 0 := by
  unfold errV
  split
  · exact .inl rfl
  · split
    · exact .inr (.inl rfl)
    · exact .inr (.inr rfl)
theorem errV_ok {N : Nat} {pa : Nat} {w : Nat} (hw : w = 1 ∨ w = 2 ∨ w = 4) (h : errV N pa w = 0) : pa % w = 0 ∧ pa + w ≤ N * 4096 := by
  by_cases h1 : pa % w = 0
  · rw [errV_else h1] at h
    split at h
    · cases h
    · rcases hw with rfl | rfl | rfl <;> omega
  · rw [errV_align h1] at h
    cases h

set_option maxHeartbeats 1000000 in
theorem check_any (W : World) (p N w : Nat) (pa : Nat) (h0 : W.cell? ⟨p, 0, none⟩ = some (.int .i64 N)) (hN : N ≤ 65536) (hw : w = 1 ∨ w = 2 ∨ w = 4) (hp : pa < 18446744073709551616) :
    Calls Try.prog 62 #[.pointer (some ⟨p, 0, none⟩), .int .u64 pa, .int .i64 w] W fun e W' => e = .returned (.int .i64 (errV N pa w)) ∧ W = W' := by
  have hw1 : 1 ≤ w := by omega
  have hw2 : w ≤ 4 := by omega
  by_cases h : pa % w = 0
  · have hz : (pa : Int) % (w : Int) = 0 := by rw [← Int.natCast_emod, h]; rfl
    have HE : Hid (errV N pa w = if (N : Int) * 4096 ≤ pa then 30 else 0) := errV_else h
    have HH := has_any W p N w pa h0 hN (by omega) (by omega) hp
    by_cases hc : (pa : Int) + (w : Int) ≤ (N : Int) * 4096
    · rw [decide_eq_true hc] at HH
      go_enter Try.func62, Try.ntmps62
      go_wp2_with (go_at_call 26; refine HH.mono ?_; rintro e w' ⟨rfl, rfl⟩)
      go_ret
      exact ⟨ret_int (by rw [HE.out, if_neg (by omega)]), rfl⟩
    · rw [decide_eq_false hc] at HH
      have hcc : (N : Int) * 4096 ≤ pa := by
        rcases hw with rfl | rfl | rfl <;> omega
      go_enter Try.func62, Try.ntmps62
      go_wp2_with (go_at_call 26; refine HH.mono ?_; rintro e w' ⟨rfl, rfl⟩)
      go_ret
      exact ⟨ret_int (by rw [HE.out, if_pos hcc]), rfl⟩
  · have hz : (pa : Int) % (w : Int) ≠ 0 := by rw [← Int.natCast_emod]; omega
    have HE : Hid (errV N pa w = 2) := errV_align h
    go_enter Try.func62, Try.ntmps62
    go_wp2
    go_ret
    exact ⟨ret_int HE.out.symm, rfl⟩

set_option maxHeartbeats 1000000 in
theorem allZero_any (W : World) (a : Option Addr) (cap : Nat) (bs : List Int) (hb : ∀ i b, bs[i]? = some b → ∃ g o, a = some ⟨g, o, none⟩ ∧ W.cell? ⟨g, o + i, none⟩ = some (.int .u8 b)) (hl : bs.length ≤ 140737488355328) :
    Calls Try.prog 49 #[.slice a bs.length cap] W fun e W' => e = .returned (.bool (decide (cnt bs = 0))) ∧ W = W' := by
  have HB : Hid (∀ i b, bs[i]? = some b → ∃ g o, a = some ⟨g, o, none⟩ ∧ W.cell? ⟨g, o + i, none⟩ = some (.int .u8 b)) := hb
  clear hb
  generalize hn : bs.length = n at *
  have HN : Hid (bs.length = n) := hn
  clear hn
  go_enter Try.func49, Try.ntmps49
  go_wp2
  go_loop [7] (fun i => ∃ k : Nat, k ≤ n ∧ i = .int .i64 k ∧ Hid (∀ b ∈ bs.take k, b = 0)) (fun i => n - (intOf i).toNat)
  case atStart => exact ⟨0, Nat.zero_le _, rfl, by intro b hb; simp at hb⟩
  case round =>
    obtain ⟨k, hk, rfl, HZ⟩ := hrel
    by_cases hlt : k < n
    · obtain ⟨b, hb⟩ : ∃ b, bs[k]? = some b := ⟨_, List.getElem?_eq_getElem (by rw [HN.out]; omega)⟩
      obtain ⟨g, o, rfl, hc⟩ := HB.out k b hb
      have HBB : Hid (bs[k]? = some b) := hb
      clear hb
      by_cases hbz : b = 0
      · subst hbz
        go_wp2
        go_round
        case rel =>
          refine ⟨k + 1, by omega, by go_num, ?_⟩
          intro b hb
          rw [take_snoc bs HBB.out] at hb
          rcases List.mem_append.1 hb with h | h
          · exact HZ.out b h
          · simpa using h
        case measure => simp [intOf]; omega
      · go_wp2
        go_ret
        exact ⟨ret_bool (decide_eq_false (fun e => hbz (cnt_zero.1 e b (List.mem_of_getElem? HBB.out)))).symm, rfl⟩
    · go_wp2
      go_ret
      exact ⟨ret_bool (decide_eq_true (cnt_zero.2 (by have := HZ.out; rwa [List.take_of_length_le (by rw [HN.out]; omega)] at this))).symm, rfl⟩

/-! ### a frame -/
def encC (l : List Int) (c : Int) : List Value := l.map (Value.int .u8) ++ [.int .i64 c]
theorem encF_eq (l : List Int) : encF l = encC l (cnt l) := rfl
theorem encC_len (l : List Int) (c : Int) : (encC l c).length = l.length + 1 := by simp [encC]
theorem encC_set (l : List Int) (c : Int) {o : Nat} (v : Int) (h : o < l.length) : (encC l c).set o (.int .u8 v) = encC (l.set o v) c := by
  unfold encC
  rw [List.set_append_left _ _ (by simpa using h), List.map_set]
theorem encC_cnt (l : List Int) (c c' : Int) (n : Nat) (h : l.length = n) : (encC l c).set n (.int .i64 c') = encC l c' := by
  unfold encC
  rw [List.set_append_right _ _ (by simp [h])]
  simp [h]
theorem encC_at (l : List Int) (c : Int) {o : Nat} {v : Int} (h : l[o]? = some v) : (encC l c)[o]? = some (.int .u8 v) := by
  unfold encC
  rw [List.getElem?_append_left (by simpa using (List.getElem?_eq_some_iff.1 h).1), List.getElem?_map, h]; rfl
theorem encC_last (l : List Int) (c : Int) (n : Nat) (h : l.length = n) : (encC l c)[n]? = some (.int .i64 c) := by
  unfold encC
  rw [List.getElem?_append_right (by simp [h])]
  simp [h]
theorem RowAt.set {W : World} {g : Nat} {e : TypeId} {cur : List Value} (h : RowAt W g e cur) (j : Nat) (v : Value) : RowAt (W.setCell ⟨g, j, none⟩ v) g e (cur.set j v) := by
  show (W.heap.modify g _)[g]? = _
  rw [Array.getElem?_modify, if_pos rfl, show W.heap[g]? = _ from h]
  simp

theorem fset0 {W : World} {fb o : Nat} {e : TypeId} {l : List Int} {b : Int} (h : RowAt W fb e (encF l)) (hl : l.length = 4096) (ho : o < 4096) (hc : (cnt (l.set o b) : Int) = cnt l) : RowAt (W.setCell ⟨fb, o, none⟩ (.int .u8 b)) fb e (encF (l.set o b)) := by
  have := h.set o (.int .u8 b)
  rw [encF_eq, encC_set _ _ _ (by omega), ← hc] at this
  exact this
theorem fset1 {W : World} {fb o : Nat} {e : TypeId} {l : List Int} {b c : Int} (h : RowAt W fb e (encF l)) (hl : l.length = 4096) (ho : o < 4096) (hc : (cnt (l.set o b) : Int) = c) : RowAt ((W.setCell ⟨fb, 4096, none⟩ (.int .i64 c)).setCell ⟨fb, o, none⟩ (.int .u8 b)) fb e (encF (l.set o b)) := by
  have := (h.set 4096 (.int .i64 c)).set o (.int .u8 b)
  rw [encF_eq, encC_cnt _ _ _ _ hl, encC_set _ _ _ (by omega), ← hc] at this
  rw [← hc]
  exact this
theorem fset2 {W : World} {fb o : Nat} {e : TypeId} {l : List Int} {b c c0 : Int} (h : RowAt W fb e (encF l)) (hl : l.length = 4096) (ho : o < 4096) (hc : (cnt (l.set o b) : Int) = c) : RowAt (((W.setCell ⟨fb, 4096, none⟩ (.int .i64 c0)).setCell ⟨fb, 4096, none⟩ (.int .i64 c)).setCell ⟨fb, o, none⟩ (.int .u8 b)) fb e (encF (l.set o b)) := by
  have := ((h.set 4096 (.int .i64 c0)).set 4096 (.int .i64 c)).set o (.int .u8 b)
  rw [encF_eq, encC_cnt _ _ _ _ hl, encC_cnt _ _ _ _ hl, encC_set _ _ _ (by omega), ← hc] at this
  rw [← hc]
  exact this

set_option maxHeartbeats 4000000 in
set_option maxRecDepth 100000 in
theorem fset_any (W : World) (fb at_ n : Nat) (m : Nat → Int) (a : Option Addr) (cap : Nat) (bs : List Int) (hf : RowAt W fb 74 (encF (fr m n)))
    (hb : ∀ i b, bs[i]? = some b → ∃ g o, a = some ⟨g, o, none⟩ ∧ g ≠ fb ∧ g < W.heap.size ∧ W.cell? ⟨g, o + i, none⟩ = some (.int .u8 b)) (hl : at_ + bs.length ≤ 4096) :
    Calls Try.prog 50 #[.pointer (some ⟨fb, 0, none⟩), .int .i64 at_, .slice a bs.length cap] W fun e W' => e = .returned (.tuple #[]) ∧ RowAt W' fb 74 (encF (fr (wrs m (n * 4096 + at_) bs) n)) ∧ Turn (· = fb) W W' := by
  have HB : Hid (∀ i b, bs[i]? = some b → ∃ g o, a = some ⟨g, o, none⟩ ∧ g ≠ fb ∧ g < W.heap.size ∧ W.cell? ⟨g, o + i, none⟩ = some (.int .u8 b)) := hb
  have HF : Hid (RowAt W fb 74 (encF (fr m n))) := hf
  clear hb hf
  generalize hn : bs.length = q at *
  have HN : Hid (bs.length = q) := hn
  clear hn
  go_enter Try.func50, Try.ntmps50
  go_wp2
  go_loopw [10] (fun i wr => ∃ k : Nat, k ≤ q ∧ i = .int .i64 k ∧ Hid (RowAt wr fb 74 (encF (fr (wrs m (n * 4096 + at_) (bs.take k)) n))) ∧ Hid (Turn (· = fb) W wr)) (fun i _ => q - (intOf i).toNat)
  case atStart => exact ⟨0, Nat.zero_le _, rfl, by rw [List.take_zero, wrs_nil]; exact HF, Turn.refl _ _⟩
  case round =>
    obtain ⟨k, hk, rfl, HR, HT⟩ := hrel
    by_cases hlt : k < q
    · obtain ⟨b, hb⟩ : ∃ b, bs[k]? = some b := ⟨_, List.getElem?_eq_getElem (by rw [HN.out]; omega)⟩
      obtain ⟨g, o, rfl, hgf, hgl, hc⟩ := HB.out k b hb
      have HS := wrs_take m (n * 4096 + at_) bs hb
      clear hb
      rw [← HT.out.cell hgl hgf] at hc
      generalize hm1 : wrs m (n * 4096 + at_) (bs.take k) = m1 at *
      have HM : Hid (wrs m (n * 4096 + at_) (bs.take (k + 1)) = upd m1 (n * 4096 + (at_ + k)) b) := by show _ = _; rw [HS, Nat.add_assoc]
      clear HS hm1
      have ho : at_ + k < 4096 := by omega
      obtain ⟨u, hu⟩ : ∃ u, (fr m1 n)[at_ + k]? = some u := ⟨_, fr_at m1 n ho⟩
      have hu1 : wr.cell? ⟨fb, at_ + k, none⟩ = some (.int .u8 u) := by rw [HR.out.cell, encF_eq]; exact encC_at _ _ hu
      have hu2 : wr.cell? ⟨fb, 4096, none⟩ = some (.int .i64 (cnt (fr m1 n))) := by rw [HR.out.cell, encF_eq]; exact encC_last _ _ _ (fr_len _ _)
      have hz1 : ∀ o, wr.frozen? ⟨fb, o, none⟩ = false := HR.out.frozen
      have HC : Hid ((cnt ((fr m1 n).set (at_ + k) b) : Int) = (cnt (fr m1 n) : Int) - (if u ≠ 0 then 1 else 0) + (if b ≠ 0 then 1 else 0)) := cnt_set (fr m1 n) (at_ + k) b u hu
      have hcl := cnt_le (fr m1 n)
      rw [fr_len] at hcl
      have HT1 : ∀ v, Turn (· = fb) W (wr.setCell ⟨fb, at_ + k, none⟩ v) := fun v => HT.out.setCell (.inl rfl) v
      have HT2 : ∀ c v, Turn (· = fb) W ((wr.setCell ⟨fb, 4096, none⟩ c).setCell ⟨fb, at_ + k, none⟩ v) := fun c v => (HT.out.setCell (.inl rfl) c).setCell (.inl rfl) v
      have HT3 : ∀ c0 c v, Turn (· = fb) W (((wr.setCell ⟨fb, 4096, none⟩ c0).setCell ⟨fb, 4096, none⟩ c).setCell ⟨fb, at_ + k, none⟩ v) := fun c0 c v => ((HT.out.setCell (.inl rfl) c0).setCell (.inl rfl) c).setCell (.inl rfl) v
      clear hu
      by_cases hu0 : u = 0
      · subst hu0
        by_cases hb0 : b = 0
        · subst hb0
          go_wp2
          go_roundw
          case rel => exact ⟨k + 1, by omega, by go_num, by show RowAt _ _ _ _; rw [HM.out, fr_upd _ _ _ _ ho]; exact fset0 HR.out (fr_len _ _) ho (by rw [HC.out]; simp), HT1 _⟩
          case measure => simp [intOf]; omega
        · go_wp2
          go_roundw
          case rel => exact ⟨k + 1, by omega, by go_num, by show RowAt _ _ _ _; rw [HM.out, fr_upd _ _ _ _ ho]; exact fset1 HR.out (fr_len _ _) ho (by rw [HC.out, if_pos hb0]; simp), HT2 _ _⟩
          case measure => simp [intOf]; omega
      · by_cases hb0 : b = 0
        · subst hb0
          go_wp2
          go_roundw
          case rel => exact ⟨k + 1, by omega, by go_num, by show RowAt _ _ _ _; rw [HM.out, fr_upd _ _ _ _ ho]; exact fset1 HR.out (fr_len _ _) ho (by rw [HC.out, if_pos hu0]; simp), HT2 _ _⟩
          case measure => simp [intOf]; omega
        · go_wp2
          go_roundw
          case rel => exact ⟨k + 1, by omega, by go_num, by show RowAt _ _ _ _; rw [HM.out, fr_upd _ _ _ _ ho]; exact fset2 HR.out (fr_len _ _) ho (by rw [HC.out, if_pos hu0, if_pos hb0]; omega), HT3 _ _ _⟩
          case measure => simp [intOf]; omega
    · have hr := HR.out
      rw [List.take_of_length_le (by rw [HN.out]; omega)] at hr
      have HRR : Hid (RowAt wr fb 74 (encF (fr (wrs m (n * 4096 + at_) bs) n))) := hr
      clear hr HR
      go_wp2
      exact bodyPost_end (results_none Try.results50 _ _ _) rfl ⟨rfl, HRR.out, HT.out⟩
end Go.Proofs.Ytlfgnbjioofplab
