import Derived.Test.YtlfgnbjioofplabPe
namespace Go.Proofs.Ytlfgnbjioofplab
open Go.RowKit
set_option linter.unusedVariables false

theorem write_bus (W : World) (p N : Nat) (pa n : Nat) (a : Option Addr) (cap : Nat) (hc0 : W.cell? ⟨p, 0, none⟩ = some (.int .i64 N)) (hN : N ≤ 65536) (hn1 : n ≤ 9223372036854775807) (hp : pa < 18446744073709551616) (hb : N * 4096 < pa + n) :
    Calls Try.prog 19 #[.pointer (some ⟨p, 0, none⟩), .int .u64 pa, .slice a n cap] W fun e W' => e = .returned (.int .i64 30) ∧ W = W' := by
  have hh := has_any W p N n pa hc0 hN (by omega) (by omega) hp
  rw [decide_eq_false (by omega)] at hh
  go_enter Try.func19, Try.ntmps19
  go_wp2_with (first
    | (go_at_call 26; refine hh.mono ?_; rintro e w1 ⟨rfl, rfl⟩)
    | go_in)
  go_ret
  exact ⟨rfl, rfl⟩

theorem gr_gr {S : Nat → Prop} {W W1 W2 : World} (h1 : W.heap.size ≤ W1.heap.size) (h2 : W1.heap.size ≤ W2.heap.size) : ∀ b, gr (gr S W W1) W1 W2 b → gr S W W2 b := fun b hb => by
  rcases hb with (h | ⟨h, h'⟩) | ⟨h, h'⟩
  · exact .inl h
  · exact .inr ⟨h, by omega⟩
  · exact .inr ⟨by omega, h'⟩

set_option maxHeartbeats 8000000 in
set_option maxRecDepth 100000 in
theorem write_ok (W : World) (S : Nat → Prop) (p N : Nat) (m : Nat → Int) (pa : Nat) (bs : List Int) (a : Option Addr) (cap : Nat) (h : PM W S p N m) (hp : pa + bs.length ≤ N * 4096) (hcap : bs.length ≤ cap)
    (hb : ∀ i b, bs[i]? = some b → ∃ g o, a = some ⟨g, o, none⟩ ∧ ¬ S g ∧ g < W.heap.size ∧ W.cell? ⟨g, o + i, none⟩ = some (.int .u8 b)) (hbb : ∀ v ∈ bs, 0 ≤ v ∧ v < 256) :
    Calls Try.prog 19 #[.pointer (some ⟨p, 0, none⟩), .int .u64 pa, .slice a bs.length cap] W fun e W' => e = .returned (.int .i64 0) ∧ PM W' (gr S W W') p N (wrs m pa bs) ∧ Turn S W W' := by
  have hc0 := h.cell0
  have hN := h.n2
  have hlow := h.low
  generalize hn : bs.length = n at *
  have HN : Hid (bs.length = n) := hn
  clear hn
  have hh := has_any W p N n pa hc0 hN (by omega) (by omega) (by omega)
  rw [decide_eq_true (by omega)] at hh
  have hpn : (pa : Int) + n ≤ (N : Int) * 4096 := by omega
  have HH : Hid (PM W S p N m) := h
  have HB : Hid (∀ i b, bs[i]? = some b → ∃ g o, a = some ⟨g, o, none⟩ ∧ ¬ S g ∧ g < W.heap.size ∧ W.cell? ⟨g, o + i, none⟩ = some (.int .u8 b)) := hb
  have HBB : Hid (∀ v ∈ bs, 0 ≤ v ∧ v < 256) := hbb
  clear h hb hbb
  go_enter Try.func19, Try.ntmps19
  go_wp2_with (first
    | (go_at_call 26; refine hh.mono ?_; rintro e w1 ⟨rfl, rfl⟩)
    | go_in)
  clear hh hc0
  go_loopw [7] (fun i wr => ∃ k : Nat, k ≤ n ∧ i = .int .i64 k ∧ Hid (PM wr (gr S W wr) p N (wrs m pa (bs.take k))) ∧ Hid (Turn S W wr)) (fun i _ => n - (intOf i).toNat)
  case atStart => exact ⟨0, Nat.zero_le _, rfl, by show PM _ _ _ _ _; rw [List.take_zero, wrs_nil]; exact HH.out.gr hlow (Nat.le_refl _), Turn.refl _ _⟩
  case round =>
    obtain ⟨k, hk, rfl, HR, HT⟩ := hrel
    by_cases hlt : k < n
    · obtain ⟨t, ht1, ht2⟩ : ∃ t : Nat, t = min (n - k) (4096 - (pa + k) % 4096) ∧ 0 < t := ⟨_, rfl, by omega⟩
      have hsp : Calls Try.prog 27 #[.int .u64 ((pa : Int) + (k : Int))] wr fun e W' => e = .returned (.tuple #[.int .i64 (((pa + k) / 4096 : Nat) : Int), .int .i64 (((pa + k) % 4096 : Nat) : Int)]) ∧ wr = W' := by
        have := split_any wr (pa + k) (by omega)
        rwa [Int.natCast_add] at this
      have hqN : (pa + k) / 4096 < N := by omega
      have hrt : (pa + k) % 4096 + t ≤ 4096 := by omega
      have hkt : k + t ≤ n := by omega
      have hqr : (pa + k) / 4096 * 4096 + (pa + k) % 4096 = pa + k := by omega
      have hmin : (if (4096 : Int) - (((pa + k) % 4096 : Nat) : Int) < (n : Int) - (k : Int) then (4096 : Int) - (((pa + k) % 4096 : Nat) : Int) else (n : Int) - (k : Int)) = (t : Int) := by split <;> omega
      generalize (pa + k) / 4096 = q at *
      generalize (pa + k) % 4096 = r at *
      clear ht1
      obtain ⟨b0, hb0⟩ : ∃ b, bs[k]? = some b := ⟨_, List.getElem?_eq_getElem (by rw [HN.out]; omega)⟩
      obtain ⟨gb, o, rfl, hgS, hgl, _⟩ := HB.out k b0 hb0
      have hlen : ((bs.drop k).take t).length = t := by rw [List.length_take, List.length_drop, HN.out]; omega
      have hput := put_any wr (gr S W wr) p N (wrs m pa (bs.take k)) q r (some ⟨gb, o + k, none⟩) (cap - k) ((bs.drop k).take t) HR.out hqN (fun i b hi => by
        rw [List.getElem?_take] at hi
        split at hi
        · rw [List.getElem?_drop] at hi
          obtain ⟨gb', o', e, h1, h2, h3⟩ := HB.out (k + i) b hi
          cases e
          refine ⟨gb, o + k, rfl, ?_, Nat.lt_of_lt_of_le hgl HT.out.size, ?_⟩
          · rintro (hx | ⟨hx, _⟩)
            · exact hgS hx
            · omega
          · rw [HT.out.cell hgl hgS, Nat.add_assoc]; exact h3
        · cases hi) (by rw [hlen]; exact hrt) (fun v hv => HBB.out v (List.mem_of_mem_drop (List.mem_of_mem_take hv)))
      rw [hlen, hqr] at hput
      have HW : Hid (wrs (wrs m pa (bs.take k)) (pa + k) ((bs.drop k).take t) = wrs m pa (bs.take (k + t))) := by
        show _ = _
        rw [List.take_add, wrs_append, List.length_take, HN.out, Nat.min_eq_left hk]
      have hck : ¬ cap = k := by omega
      clear hb0 HR hqr
      go_wp2_with (first
        | (go_at_call 27; refine hsp.mono ?_; rintro e w1 ⟨rfl, rfl⟩)
        | (go_at_call 42; refine hput.mono ?_; rintro e w2 ⟨rfl, hp2, ht2'⟩)
        | go_in)
      go_roundw
      case rel => exact ⟨k + t, hkt, by go_num, by show PM _ _ _ _ _; rw [← HW.out]; exact hp2.mono (gr_gr HT.out.size ht2'.size) (gr_low hlow (Nat.le_trans HT.out.size ht2'.size)), HT.out.trans ht2' (fun x hx => by
          rcases hx with hx | ⟨hx, _⟩
          · exact .inl hx
          · exact .inr hx)⟩
      case measure => simp [intOf]; omega
    · have hr := HR.out
      rw [List.take_of_length_le (by rw [HN.out]; omega)] at hr
      have HRR : Hid (PM wr (gr S W wr) p N (wrs m pa bs)) := hr
      clear hr HR
      go_wp2
      go_ret
      exact ⟨rfl, HRR.out, HT.out⟩
end Go.Proofs.Ytlfgnbjioofplab
