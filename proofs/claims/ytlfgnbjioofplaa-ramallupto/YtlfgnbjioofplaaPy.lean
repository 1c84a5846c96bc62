import Derived.Test.YtlfgnbjioofplaaSt
import Derived.Test.YtlfgnbjioofplaaBe
import Derived.Test.YtlfgnbjioofplaaOp
namespace Go.Proofs.Ytlfgnbjioofplaa
open Go.RowKit
set_option linter.unusedVariables false

set_option maxHeartbeats 8000000 in
set_option maxRecDepth 100000 in
theorem play_bad (W : World) (f lo hi : Int) (a : Option Addr) (n cap : Nat) (hf : f < 1 ∨ 65536 < f) :
    Calls Try.prog 25 #[.int .i64 f, .slice a n cap, .int .i64 lo, .int .i64 hi] W fun e W' => e = .returned (.bool true) ∧ Below W.heap.size W W' := by
  have hb := begin_bad W f hf
  clear hf
  go_enter Try.func25, Try.ntmps25
  go_wp2_with (first
    | (go_at_call 18; refine hb.mono ?_; rintro e w1 ⟨rfl, ht⟩)
    | go_in)
  go_ret
  exact ⟨rfl, ht.to (fun _ h => h.elim) (Nat.le_refl _)⟩

theorem KS.below {W w : World} {s : St} {tb : Nat} {xs : List (Nat × TypeId × List Value)} (h : KS W w W.heap.size tb s xs) : Below W.heap.size W w := h.trn.to (fun _ h => h) (Nat.le_refl _)

set_option maxHeartbeats 8000000 in
set_option maxRecDepth 100000 in
theorem play_ok (W : World) (N : Nat) (lo hi : Int) (a : Option Addr) (cap : Nat) (ops : List Op3) (h1 : 1 ≤ N) (h2 : N ≤ 65536) (hs : Scr W a ops) (hl : ops.length ≤ 140737488355328) :
    Calls Try.prog 25 #[.int .i64 N, .slice a ops.length cap, .int .i64 lo, .int .i64 hi] W fun e W' => e = .returned (.bool true) ∧ Below W.heap.size W W' := by
  have hb := begin_ok W N h1 h2
  have HS : Hid (Scr W a ops) := hs
  clear hs
  generalize hn : ops.length = n at *
  have HN : Hid (ops.length = n) := hn
  clear hn
  go_enter Try.func25, Try.ntmps25
  go_wp2_with (first
    | (go_at_call 18; refine hb.mono ?_; rintro e w1 ⟨rfl, s1, hK1, hg1, hz1⟩; have HK1 : Hid (KS W w1 W.heap.size W.heap.size s1 [] ∧ s1.good ∧ W.heap.size ≤ w1.heap.size) := ⟨hK1, hg1, hz1⟩; clear hK1 hg1 hz1)
    | go_in)
  clear hb
  go_loopw [11] (fun c wr => ∃ (k : Nat) (s : St), k ≤ n ∧ c = .int .i64 k ∧ Hid (KS W wr W.heap.size W.heap.size s [] ∧ s.good ∧ W.heap.size ≤ wr.heap.size)) (fun c _ => n - (intOf c).toNat)
  case atStart => exact ⟨0, s1, Nat.zero_le _, rfl, HK1⟩
  case round =>
    obtain ⟨k, s, hk, rfl, HX⟩ := hrel
    clear HK1
    by_cases hlt : k < n
    · have hkz : (k : Int) < (n : Int) := by omega
      obtain ⟨o, ho⟩ : ∃ o, ops[k]? = some o := ⟨_, List.getElem?_eq_getElem (by rw [HN.out]; omega)⟩
      obtain ⟨b, off, rfl, hbl, e0, e1, e2, e3, e4, e5⟩ := HS.out.lies k o ho
      have hok := HS.out.oks o (List.mem_of_getElem? ho)
      have T := HX.out.1.trn
      rw [← T.cell hbl (by omega)] at e0 e1 e2 e3 e4 e5
      have hst := step_any W wr W.heap.size W.heap.size s o HX.out.1 HX.out.2.2 HX.out.2.1 hok
      have e0' : ∀ w', KS W w' W.heap.size W.heap.size s [] → True := fun _ _ => trivial
      have HC : Hid (∀ w' s', KS W w' W.heap.size W.heap.size s' [] → w'.cell? ⟨b, off + k * 6, none⟩ = some (.int .i64 o.kind)) := fun w' s' hk' => by
        rw [hk'.trn.cell hbl (by omega), ← T.cell hbl (by omega)]; exact e0
      clear T hok ho e0'
      go_wp2_with (first
        | (go_at_call 19; refine hst.mono ?_; clear hst; rintro e w2 ⟨rfl, s', hK2, hg2, hz2⟩;
           have f0 := HC.out w2 s' hK2;
           have HK2 : Hid (KS W w2 W.heap.size W.heap.size s' [] ∧ s'.good ∧ W.heap.size ≤ w2.heap.size) := ⟨hK2, hg2, Nat.le_trans HX.out.2.2 hz2⟩;
           clear hK2 hg2 hz2)
        | go_in)
      all_goals
        go_roundw
        case rel => exact ⟨k + 1, s', by omega, by go_num, HK2⟩
        case measure => simp [intOf]; omega
    · go_wp2
      go_ret
      exact ⟨rfl, HX.out.1.below⟩
theorem play_any (W : World) (f lo hi : Int) (a : Option Addr) (cap : Nat) (ops : List Op3) (hs : Scr W a ops) (hl : ops.length ≤ 140737488355328) :
    Calls Try.prog 25 #[.int .i64 f, .slice a ops.length cap, .int .i64 lo, .int .i64 hi] W fun e W' => e = .returned (.bool true) ∧ Below W.heap.size W W' := by
  by_cases hf : f < 1 ∨ 65536 < f
  · exact play_bad W f lo hi a ops.length cap hf
  · obtain ⟨N, rfl⟩ := Int.eq_ofNat_of_zero_le (show 0 ≤ f by omega)
    exact play_ok W N lo hi a cap ops (by omega) (by omega) hs hl

set_option maxHeartbeats 4000000 in
theorem law_words (W : World) (f : Int) (a : Option Addr) (cap : Nat) (ops : List Op3) (hs : Scr W a ops) (hl : ops.length ≤ 140737488355328) :
    Calls Try.prog 6 #[.int .i64 f, .slice a ops.length cap] W fun e W' => e = .returned (.bool true) ∧ Below W.heap.size W W' := by
  have hp := play_any W f 1 6 a cap ops hs hl
  generalize ops.length = n at *
  clear hs
  go_enter Try.func6, Try.ntmps6
  go_wp2_with (first
    | (go_at_call 25; refine hp.mono ?_; rintro e w1 ⟨rfl, hb⟩)
    | go_in)
  go_ret
  exact ⟨rfl, hb⟩

set_option maxHeartbeats 4000000 in
theorem law_blocks (W : World) (f : Int) (a : Option Addr) (cap : Nat) (ops : List Op3) (hs : Scr W a ops) (hl : ops.length ≤ 140737488355328) :
    Calls Try.prog 7 #[.int .i64 f, .slice a ops.length cap] W fun e W' => e = .returned (.bool true) ∧ Below W.heap.size W W' := by
  have hp := play_any W f 7 8 a cap ops hs hl
  generalize ops.length = n at *
  clear hs
  go_enter Try.func7, Try.ntmps7
  go_wp2_with (first
    | (go_at_call 25; refine hp.mono ?_; rintro e w1 ⟨rfl, hb⟩)
    | go_in)
  go_ret
  exact ⟨rfl, hb⟩

set_option maxHeartbeats 4000000 in
theorem law_wipes (W : World) (f : Int) (a : Option Addr) (cap : Nat) (ops : List Op3) (hs : Scr W a ops) (hl : ops.length ≤ 140737488355328) :
    Calls Try.prog 8 #[.int .i64 f, .slice a ops.length cap] W fun e W' => e = .returned (.bool true) ∧ Below W.heap.size W W' := by
  have hp := play_any W f 9 10 a cap ops hs hl
  generalize ops.length = n at *
  clear hs
  go_enter Try.func8, Try.ntmps8
  go_wp2_with (first
    | (go_at_call 25; refine hp.mono ?_; rintro e w1 ⟨rfl, hb⟩)
    | go_in)
  go_ret
  exact ⟨rfl, hb⟩
end Go.Proofs.Ytlfgnbjioofplaa
