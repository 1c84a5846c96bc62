import Derived.Test.YtlfgnbjioofplabRd
namespace Go.Proofs.Ytlfgnbjioofplab
open Go.RowKit
set_option linter.unusedVariables false

theorem rread_neg (W : World) (r : Nat) (pa n : Int) (hn : n < 0) :
    Calls Try.prog 9 #[.pointer (some ⟨r, 0, none⟩), .int .u64 pa, .int .i64 n] W fun e W' => e = .returned (.tuple #[.slice none 0 0, .int .i64 1]) ∧ W = W' := by
  go_enter Try.func9, Try.ntmps9
  go_wp2
  go_ret2
  exact ⟨rfl, rfl⟩
theorem rread_bus (W : World) (r N : Nat) (pa : Nat) (n : Int) (hc0 : W.cell? ⟨r, 0, none⟩ = some (.int .i64 N)) (hN : N ≤ 65536) (hn : 0 ≤ n) (hn1 : n ≤ 9223372036854775807) (hp : pa < 18446744073709551616) (hb : (N : Int) * 4096 < pa + n) :
    Calls Try.prog 9 #[.pointer (some ⟨r, 0, none⟩), .int .u64 pa, .int .i64 n] W fun e W' => e = .returned (.tuple #[.slice none 0 0, .int .i64 30]) ∧ W = W' := by
  have hen := rend_any W r N hc0 hN
  by_cases hc : (pa : Int) ≤ (N : Int) * 4096
  · have hd : (N : Int) * 4096 - pa < n := by omega
    go_enter Try.func9, Try.ntmps9
    go_wp2_with (first
      | (go_at_call 29; refine hen.mono ?_; rintro e w1 ⟨rfl, rfl⟩)
      | go_in)
    go_ret2
    exact ⟨rfl, rfl⟩
  · have hc' : (N : Int) * 4096 < pa := by omega
    go_enter Try.func9, Try.ntmps9
    go_wp2_with (first
      | (go_at_call 29; refine hen.mono ?_; rintro e w1 ⟨rfl, rfl⟩)
      | go_in)
    go_ret2
    exact ⟨rfl, rfl⟩

/-- append of one cell to a list of bytes of the call's own. -/
theorem app8 (wr : World) (lo k : Nat) (v : Value) (l : List Int) (b : Int) (h : wr.ownsRow lo 5 1 v k (encB l)) (hlo : lo ≤ wr.heap.size) (hk : k ≤ 268435456) :
    ∃ v' w', (∀ ty, (Builtin.append_ #[33, 33] ty #[v, .slice (some ⟨wr.heap.size, 0, none⟩) 1 1]).run Try.prog (wr.alloc (.cells #[.int .u8 b] 5)) = .ok v' w') ∧ w'.ownsRow lo 5 1 v' (k + 1) (encB (l ++ [b])) ∧ Turn (fun x => lo ≤ x) wr w' := by
  obtain ⟨i0, hi, hz0, hz1, hz2⟩ := info_parts info8
  have hB := row_new wr [.int .u8 b] 5
  have ho := own_turn h (((Turn.refl (fun _ => False) wr).alloc (.cells #[.int .u8 b] 5))) (fun _ _ h => h)
  obtain ⟨v', w', hr, ho', hg, hb⟩ := append_any (P := Try.prog) (wr.alloc (.cells #[.int .u8 b] 5)) 33 5 i0 _ Try.underlying33 hi hz0 (by rw [hz1]; rfl) lo k 1 v (.slice (some ⟨wr.heap.size, 0, none⟩) 1 1) (encB l) [.int .u8 b] (by rw [hz1]; exact ho)
    (by rw [hz1]; exact Src.ofSlice _ Try.underlying33 ⟨wr.heap.size, 0, none⟩ 1 1 _ rfl (fun j u hj => by rw [Addr.add_lit, Nat.zero_add]; exact (hB.cell j).trans hj) (fun u hu => by simp at hu; subst hu; rfl)) (by simp; omega) (by unfold maxLen; omega) (by rw [hz2]; omega)
  refine ⟨v', w', hr, ?_, ?_⟩
  · rw [hz1] at ho'
    simpa [encB] using ho'
  · exact ((Turn.refl (fun x => lo ≤ x) wr).alloc _).trans (S' := fun x => lo ≤ x) (Turn.grown hg (fun x hx => .inl (World.ownsRow.lt h x hx).1)) (fun x hx => .inl hx)

set_option maxHeartbeats 8000000 in
set_option maxRecDepth 100000 in
theorem rread_ok (W : World) (S : Nat → Prop) (r N : Nat) (m : Nat → Int) (pa n : Nat) (h : RM W S r N m) (hp : pa + n ≤ N * 4096) :
    Calls Try.prog 9 #[.pointer (some ⟨r, 0, none⟩), .int .u64 pa, .int .i64 n] W fun e W' => ∃ v, e = .returned (.tuple #[v, .int .i64 0]) ∧ W'.ownsRow W.heap.size 5 1 v n (encB (rd m pa n)) ∧ Turn (fun _ => False) W W' := by
  have hN := h.n2
  have hen := rend_any W r N h.cell0 hN
  have hpn : (pa : Int) + n ≤ (N : Int) * 4096 := by omega
  have hpa : (pa : Int) ≤ (N : Int) * 4096 := by omega
  have hpd : (n : Int) ≤ (N : Int) * 4096 - pa := by omega
  have HH : Hid (RM W S r N m) := h
  clear h
  go_enter Try.func9, Try.ntmps9
  go_wp2_with (first
    | (go_at_call 29; refine hen.mono ?_; rintro e w1 ⟨rfl, rfl⟩)
    | go_in)
  clear hen
  go_loopw [8, 9] (fun v i wr => ∃ k : Nat, k ≤ n ∧ i = .int .i64 k ∧ Hid (wr.ownsRow W.heap.size 5 1 v k (encB (rd m pa k))) ∧ Hid (Turn (fun _ => False) W wr)) (fun _ i _ => n - (intOf i).toNat)
  case atStart => exact ⟨0, Nat.zero_le _, rfl, World.ownsRow_nil _ _ _ _, Turn.refl _ _⟩
  case round =>
    rename_i v0 _
    obtain ⟨k, hk, rfl, HR, HT⟩ := hrel
    by_cases hlt : k < n
    · have hget : Calls Try.prog 30 #[.pointer (some ⟨r, 0, none⟩), .int .u64 ((pa : Int) + (k : Int))] wr fun e W' => e = .returned (.int .u8 (m (pa + k))) ∧ wr = W' := by
        have := rget_any wr S r N m (pa + k) (HH.out.keep HT.out (fun _ _ h => h)) (by omega)
        rwa [Int.natCast_add] at this
      obtain ⟨v', w', hr, ho, ht⟩ := app8 wr W.heap.size k _ (rd m pa k) (m (pa + k)) HR.out HT.out.size (by omega)
      rw [← rd_snoc] at ho
      have HO : Hid (w'.ownsRow W.heap.size 5 1 v' (k + 1) (encB (rd m pa (k + 1)))) := ho
      have HT2 : Hid (Turn (fun _ => False) W w') := HT.out.trans ht (fun x hx => .inr hx)
      clear ho ht
      go_wp2_with (first
        | (go_at_call 30; refine hget.mono ?_; rintro e w1 ⟨rfl, rfl⟩)
        | (at_builtin; refine Lib.wpList_append_run _ rfl _ _ 33 33 rfl _ _ rfl rfl _ _ (hr _) ?_)
        | go_in)
      go_roundw
      case rel => exact ⟨k + 1, by omega, by go_num, HO, HT2⟩
      case measure => simp [intOf]; omega
    · have hkn : k = n := by omega
      subst hkn
      go_wp2
      go_ret2
      exact ⟨_, rfl, HR.out, HT.out⟩

set_option maxHeartbeats 1000000 in
theorem rzero_any (W : World) (a : Option Addr) (cap : Nat) (bs : List Int) (hb : ∀ i b, bs[i]? = some b → ∃ g o, a = some ⟨g, o, none⟩ ∧ W.cell? ⟨g, o + i, none⟩ = some (.int .u8 b)) (hl : bs.length ≤ 140737488355328) :
    Calls Try.prog 31 #[.slice a bs.length cap] W fun e W' => e = .returned (.bool (decide (cnt bs = 0))) ∧ W = W' := by
  have HB : Hid (∀ i b, bs[i]? = some b → ∃ g o, a = some ⟨g, o, none⟩ ∧ W.cell? ⟨g, o + i, none⟩ = some (.int .u8 b)) := hb
  clear hb
  generalize hn : bs.length = n at *
  have HN : Hid (bs.length = n) := hn
  clear hn
  go_enter Try.func31, Try.ntmps31
  go_wp2
  go_loop [3] (fun i => ∃ k : Nat, k ≤ n ∧ i = .int .i64 k ∧ Hid (∀ b ∈ bs.take k, b = 0)) (fun i => n - (intOf i).toNat)
  case atStart => exact ⟨0, Nat.zero_le _, rfl, by intro b hb; simp at hb⟩
  case round =>
    obtain ⟨k, hk, rfl, HZ⟩ := hrel
    by_cases hlt : k < n
    · obtain ⟨b, hb⟩ : ∃ b, bs[k]? = some b := ⟨_, List.getElem?_eq_getElem (by rw [HN.out]; omega)⟩
      obtain ⟨g, o, rfl, hc⟩ := HB.out k b hb
      have HBB : Hid (bs[k]? = some b) := hb
      clear hb
      by_cases hbz : b = 0
      · subst hbz
        go_wp2
        go_round
        case rel =>
          refine ⟨k + 1, by omega, by go_num, ?_⟩
          intro b hb
          rw [take_snoc bs HBB.out] at hb
          rcases List.mem_append.1 hb with h | h
          · exact HZ.out b h
          · simpa using h
        case measure => simp [intOf]; omega
      · go_wp2
        go_ret
        exact ⟨ret_bool (decide_eq_false (fun e => hbz (cnt_zero.1 e b (List.mem_of_getElem? HBB.out)))).symm, rfl⟩
    · go_wp2
      go_ret
      exact ⟨ret_bool (decide_eq_true (cnt_zero.2 (by have := HZ.out; rwa [List.take_of_length_le (by rw [HN.out]; omega)] at this))).symm, rfl⟩

/-! ### Wipe -/
/-- append of one frame to a list of the call's own. -/
theorem appF (wr : World) (lo : Nat) (v : Value) (l : List (Nat × Nat)) (x : Nat × Nat) (h : wr.ownsRow lo 83 2 v l.length (l.flatMap encR)) (hlo : lo ≤ wr.heap.size) (hk : l.length ≤ 268435456) :
    ∃ v' w', (∀ ty, (Builtin.append_ #[78, 78] ty #[v, .slice (some ⟨wr.heap.size, 0, none⟩) 1 1]).run Try.prog (wr.alloc (.cells #[.int .i64 (x.1 : Int), .slice (some ⟨x.2, 0, none⟩) 4096 4096] 83)) = .ok v' w') ∧ w'.ownsRow lo 83 2 v' (l ++ [x]).length ((l ++ [x]).flatMap encR) ∧ Turn (fun b => lo ≤ b) wr w' ∧ Turn (fun b => v.ownBlock = some b) wr w' := by
  obtain ⟨i0, hi, hz0, hz1, hz2⟩ := info_parts infoF
  have hB := row_new wr [.int .i64 (x.1 : Int), .slice (some ⟨x.2, 0, none⟩) 4096 4096] 83
  have ho := own_turn h (((Turn.refl (fun _ => False) wr).alloc (.cells #[.int .i64 (x.1 : Int), .slice (some ⟨x.2, 0, none⟩) 4096 4096] 83))) (fun _ _ h => h)
  obtain ⟨v', w', hr, ho', hg, hb⟩ := append_any (P := Try.prog) (wr.alloc (.cells #[.int .i64 (x.1 : Int), .slice (some ⟨x.2, 0, none⟩) 4096 4096] 83)) 78 83 i0 _ Try.underlying78 hi hz0 (by rw [hz1]; rfl) lo l.length 1 v (.slice (some ⟨wr.heap.size, 0, none⟩) 1 1) (l.flatMap encR) [.int .i64 (x.1 : Int), .slice (some ⟨x.2, 0, none⟩) 4096 4096] (by rw [hz1]; exact ho)
    (by rw [hz1]; exact Src.ofSlice _ Try.underlying78 ⟨wr.heap.size, 0, none⟩ 1 1 _ rfl (fun j u hj => by rw [Addr.add_lit, Nat.zero_add]; exact (hB.cell j).trans hj) (fun u hu => by
      simp at hu
      rcases hu with rfl | rfl <;> rfl)) (by simp; omega) (by unfold maxLen; omega) (by rw [hz2]; omega)
  refine ⟨v', w', hr, ?_, ?_⟩
  · rw [hz1] at ho'
    rw [List.length_append, List.flatMap_append]
    exact ho'
  · exact ⟨((Turn.refl (fun x => lo ≤ x) wr).alloc _).trans (S' := fun x => lo ≤ x) (Turn.grown hg (fun x hx => .inl (World.ownsRow.lt h x hx).1)) (fun x hx => .inl hx), ((Turn.refl (fun b => v.ownBlock = some b) wr).alloc _).trans (S' := fun b => v.ownBlock = some b) (Turn.grown hg (fun x hx => .inl hx)) (fun x hx => .inl hx)⟩

theorem own_low {W : World} {lo n size : Nat} {e : TypeId} {v : Value} {xs : List Value} (h : W.ownsRow lo e size v n xs) : W.ownsRow 0 e size v n xs := by
  rcases row_of_own h with ⟨rfl, rfl, rfl⟩ | ⟨g, cap, cur, rfl, a, b, c, d, e1, f⟩
  · exact World.ownsRow_nil _ _ _ _
  · exact own_of_row b (Nat.zero_le _) c d e1 f
theorem slice_form {W : World} {lo n size : Nat} {e : TypeId} {v : Value} {xs : List Value} (h : W.ownsRow lo e size v n xs) : ∃ a cap, v = .slice a n cap := by
  rcases row_of_own h with ⟨rfl, rfl, _⟩ | ⟨g, cap, cur, rfl, _⟩
  · exact ⟨none, 0, rfl⟩
  · exact ⟨_, _, rfl⟩

/-- The frames but one. -/
def butF (f : Nat) (l : List (Nat × Nat)) : List (Nat × Nat) := l.filter (fun x => decide (x.1 ≠ f))
theorem butF_snoc (f : Nat) (l : List (Nat × Nat)) (x : Nat × Nat) : butF f (l ++ [x]) = if x.1 ≠ f then butF f l ++ [x] else butF f l := by
  unfold butF
  rw [List.filter_append]
  by_cases h : x.1 = f <;> simp [h]
theorem RMx.wiped {W W' : World} {S : Nat → Prop} {r N : Nat} {m : Nat → Int} {v v' : Value} {fs : List (Nat × Nat)} (h : RMx W S r N m v fs) (f : Nat) (T : Turn (fun _ => False) W W') (ho : W'.ownsRow W.heap.size 83 2 v' (butF f fs).length ((butF f fs).flatMap encR)) :
    RMx (W'.setCell ⟨r, 1, none⟩ v') (gr S W W') r N (wipe m f) v' (butF f fs) ∧ Turn S W (W'.setCell ⟨r, 1, none⟩ v') := by
  have hrl := h.lt
  have hbox : W'.heap[r]? = some (.cells #[.int .i64 N, v] 80 (0, 0)) := by rw [T.block r h.lt (fun h => h)]; exact h.box
  have hboxR : RowAt W' r 80 [.int .i64 N, v] := hbox
  have T4 : Turn (fun b => b = r) W' (W'.setCell ⟨r, 1, none⟩ v') := (Turn.refl (fun b => b = r) W').setCell (p := ⟨r, 1, none⟩) (.inl rfl) _
  have hvl : ∀ b, v'.ownBlock = some b → W.heap.size ≤ b ∧ b < W'.heap.size := fun b hb => World.ownsRow.lt ho b hb
  have hsame : (W'.setCell ⟨r, 1, none⟩ v').heap.size = W'.heap.size := by simp [World.setCell]
  refine ⟨⟨hboxR.set 1 v', ?_, fun b hb => .inr (hvl b hb), ?_, ?_, ?_, ?_, .inl h.Sr, wipe_byts h.byts f, h.n1, h.n2, ?_⟩, (T.mono (fun _ _ h => h.elim)).trans T4 (fun x hx => .inl (by rw [hx]; exact h.Sr))⟩
  · have := own_turn ho T4 (fun b hb e => by have := (hvl b hb).1; omega)
    exact own_low this
  · intro x hx
    obtain ⟨h1, h2⟩ := List.mem_filter.1 hx
    simp at h2
    obtain ⟨f1, f2, f3⟩ := h.frm x h1
    refine ⟨f1, ?_, .inl f3⟩
    rw [fr_wipe_other _ _ _ h2]
    exact (f2.turn T (fun h => h)).turn T4 (h.xne h1).1
  · exact h.nod1.sublist (List.Sublist.map _ List.filter_sublist)
  · exact h.nod2.sublist (List.Sublist.map _ List.filter_sublist)
  · intro n hn hno
    by_cases e : n = f
    · subst e
      rw [fr_wipe, cnt_zero]
      intro v hv
      exact (List.mem_replicate.1 hv).2
    · rw [fr_wipe_other _ _ _ e]
      refine h.out n hn (fun x hx e2 => hno x (List.mem_filter.2 ⟨hx, by simp; omega⟩) e2)
  · intro b hb
    rw [hsame]
    exact gr_low h.low T.size b hb

set_option maxHeartbeats 8000000 in
set_option maxRecDepth 100000 in
theorem rwipe_ok (W : World) (S : Nat → Prop) (r N : Nat) (m : Nat → Int) (f : Nat) (h : RM W S r N m) (hf : f < N) :
    Calls Try.prog 22 #[.pointer (some ⟨r, 0, none⟩), .int .i64 f] W fun e W' => e = .returned (.int .i64 0) ∧ RM W' (gr S W W') r N (wipe m f) ∧ Turn S W W' := by
  obtain ⟨v, fs, h⟩ := h
  have hN := h.n2
  have hc0 := h.cell0
  have hlen := h.len
  have hrl := h.lt
  obtain ⟨a, cap, rfl, hcells⟩ := h.view
  have hc1 := h.cell1
  have hfz : (f : Int) < (N : Int) := by omega
  have hd1 : decide (N ≤ f) = false := decide_eq_false (by omega)
  have hd2 : decide ((f : Int) < 0) = false := decide_eq_false (by omega)
  have HC : Hid (∀ i x, fs[i]? = some x → ∃ gb, a = some ⟨gb, 0, none⟩ ∧ S gb ∧ W.cell? ⟨gb, i * 2, none⟩ = some (.int .i64 (x.1 : Int)) ∧ W.cell? ⟨gb, i * 2 + 1, none⟩ = some (.slice (some ⟨x.2, 0, none⟩) 4096 4096)) := hcells
  have HH : Hid _ := h
  have hlow := h.low
  clear hcells h
  generalize hq : fs.length = q at *
  have HQ : Hid (fs.length = q) := hq
  clear hq
  go_enter Try.func22, Try.ntmps22
  go_wp2
  go_loopw [5, 6] (fun v i wr => ∃ k : Nat, k ≤ q ∧ i = .int .i64 k ∧ Hid (wr.ownsRow W.heap.size 83 2 v (butF f (fs.take k)).length ((butF f (fs.take k)).flatMap encR)) ∧ Hid (Turn (fun _ => False) W wr)) (fun _ i _ => q - (intOf i).toNat)
  case atStart => exact ⟨0, Nat.zero_le _, rfl, World.ownsRow_nil _ _ _ _, Turn.refl _ _⟩
  case round =>
    obtain ⟨k, hk, rfl, HR, HT⟩ := hrel
    have hc1w : wr.cell? ⟨r, 1, none⟩ = some (.slice a q cap) := by rw [HT.out.cell hrl (fun h => h)]; exact hc1
    by_cases hlt : k < q
    · have hkz : (k : Int) < (q : Int) := by omega
      obtain ⟨x, hx⟩ : ∃ x, fs[k]? = some x := ⟨_, List.getElem?_eq_getElem (by rw [HQ.out]; omega)⟩
      obtain ⟨gb, rfl, hgS, e0, e1⟩ := HC.out k x hx
      have hgl := hlow gb hgS
      rw [← HT.out.cell hgl (fun h => h)] at e0 e1
      have hts := take_snoc fs hx
      have hbs := butF_snoc f (fs.take k) x
      rw [← hts] at hbs
      by_cases hxf : x.1 = f
      · rw [if_neg (by simp [hxf])] at hbs
        have HB : Hid (butF f (fs.take (k + 1)) = butF f (fs.take k)) := hbs
        have hxi : (x.1 : Int) = (f : Int) := by omega
        clear hbs hts hx
        go_wp2
        go_roundw
        case rel => exact ⟨k + 1, by omega, by go_num, by show World.ownsRow _ _ _ _ _ _ _; rw [HB.out]; exact HR.out, HT⟩
        case measure => simp [intOf]; omega
      · rw [if_pos hxf] at hbs
        have hxi : ¬ (x.1 : Int) = (f : Int) := by omega
        have hbl : (butF f (fs.take k)).length ≤ 268435456 := by
          have h1 := List.length_filter_le (fun x : Nat × Nat => decide (x.1 ≠ f)) (fs.take k)
          have h2 := List.length_take_le k fs
          unfold butF
          omega
        obtain ⟨v', w', hr, ho, ht, _⟩ := appF wr W.heap.size _ (butF f (fs.take k)) x HR.out HT.out.size hbl
        rw [← hbs] at ho
        have HO : Hid (w'.ownsRow W.heap.size 83 2 v' (butF f (fs.take (k + 1))).length ((butF f (fs.take (k + 1))).flatMap encR)) := ho
        have HT2 : Hid (Turn (fun _ => False) W w') := HT.out.trans ht (fun x hx => .inr hx)
        clear ho ht hbs hts hx
        go_wp2_with (first
          | (at_builtin; refine Lib.wpList_append_run _ rfl _ _ 78 78 rfl _ _ rfl rfl _ _ (hr _) ?_)
          | go_in)
        go_roundw
        case rel => exact ⟨k + 1, by omega, by go_num, HO, HT2⟩
        case measure => simp [intOf]; omega
    · have hR := HR.out
      rw [List.take_of_length_le (by rw [HQ.out]; omega)] at hR
      obtain ⟨h1, h2⟩ := HH.out.wiped f HT.out hR
      have HF : Hid _ := h1
      have HT3 : Hid _ := h2
      obtain ⟨a2, c2, rfl⟩ := slice_form hR
      have hfz2 : wr.frozen? ⟨r, 1, none⟩ = false := by rw [HT.out.frozen hrl (fun h => h)]; exact HH.out.frozen1
      clear hR HR h1 h2
      go_wp2
      go_ret
      exact ⟨rfl, ⟨_, _, HF.out.mono (fun b hb => by
        rcases hb with hb | ⟨h1, h2⟩
        · exact .inl hb
        · exact .inr ⟨h1, by simpa [World.setCell] using h2⟩) (gr_low hlow HT3.out.size)⟩, HT3.out⟩
theorem rwipe_any (W : World) (S : Nat → Prop) (r N : Nat) (m : Nat → Int) (f : Int) (h : RM W S r N m) :
    Calls Try.prog 22 #[.pointer (some ⟨r, 0, none⟩), .int .i64 f] W fun e W' => e = .returned (.int .i64 (errW N f)) ∧ RM W' (gr S W W') r N (wipV N m f) ∧ Turn S W W' := by
  unfold errW wipV
  by_cases hf : f < 0 ∨ (N : Int) ≤ f
  · rw [if_pos hf, if_pos hf]
    have hc0 := h.cell0
    rcases hf with hf | hf
    · go_enter Try.func22, Try.ntmps22
      go_wp2
      go_ret
      exact ⟨rfl, h.gr h.low (Nat.le_refl _), Turn.refl _ _⟩
    · have hf0 : 0 ≤ f := by omega
      go_enter Try.func22, Try.ntmps22
      go_wp2
      go_ret
      exact ⟨rfl, h.gr h.low (Nat.le_refl _), Turn.refl _ _⟩
  · rw [if_neg hf, if_neg hf]
    obtain ⟨n, rfl⟩ := Int.eq_ofNat_of_zero_le (show 0 ≤ f by omega)
    rw [Int.toNat_natCast]
    exact rwipe_ok W S r N m n h (by omega)
end Go.Proofs.Ytlfgnbjioofplab
