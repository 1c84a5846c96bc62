import Derived.Test.YtplobjdghaokoabDd
import Derived.Test.YtplobjdghaokoabOp
namespace Go.Proofs.Ytplobjdghaokoab
open Go.RowKit
set_option linter.unusedVariables false

theorem begin_ok2 (W : World) (f c : Nat) (h1 : c ≤ 1048576) (h2 : f + c ≤ 268435456) :
    Calls Try.prog 4 #[.int .i64 f, .int .i64 c] W fun e w' => ∃ cB : BC, e = .returned (.tuple #[.pointer (some ⟨cB.bb, 0, none⟩), .bool true]) ∧ PL W w' cB (List.replicate c 0) (fun _ => []) := by
  refine (begin_ok W f c h1 h2).mono ?_
  rintro e w' ⟨rfl, cB, h3, h4, h5⟩
  refine ⟨cB, by rw [h3], h5, And.intro (fun i _ d hd => ?_) (fun d hd => ?_)⟩
  · cases hd
  · cases hd
theorem PL.keep {W0 w w' : World} {c : BC} {u : List Nat} {cs : Nat → List Cut} (h : PL W0 w c u cs) (X : Turn (fun _ => False) w w') : PL W0 w' c u cs := ⟨h.1.keep X, h.2⟩
theorem PL.drewN {W0 w : World} {c : BC} {u : List Nat} {cs : Nat → List Cut} (h : PL W0 w c u cs) (q : Nat) : PL W0 (w.drewN q) c u cs := ⟨h.1.drewN q, h.2⟩

set_option maxHeartbeats 16000000 in
set_option maxRecDepth 100000 in
theorem law_plays (W : World) (first count : Int) (a : Option Addr) (cap : Nat) (ops : List Op4) (hs : Scr W a ops) (hl : ops.length ≤ 140737488355328) (b0 : i64 first) (b1 : i64 count) :
    Calls Try.prog 3 #[.int .i64 first, .int .i64 count, .slice a ops.length cap] W fun e W' => e = .returned (.bool true) ∧ Below W.heap.size W W' := by
  by_cases hn : newE first count = 0
  · obtain ⟨fn, cn, rfl, rfl, h1, h2⟩ := newE_ok hn
    have hb := begin_ok2 W fn cn h1 h2
    have HS : Hid (Scr W a ops) := hs
    clear hn hs b0 b1
    generalize hln : ops.length = ln at *
    have HLN : Hid (ops.length = ln) := hln
    clear hln
    go_enter Try.func3, Try.ntmps3
    go_wp2_with (first
      | (go_at_call 4; refine hb.mono ?_; clear hb; rintro e w1 ⟨cB, rfl, hB1⟩; have hlv := live_any w1; have HB1 : Hid (PL W w1 cB (List.replicate cn 0) (fun _ => [])) := hB1; clear hB1)
      | (go_at_call 5; refine hlv.mono ?_; clear hlv; rintro e w2 ⟨rfl, ht2⟩; have HB2 : Hid (PL W w2 cB (List.replicate cn 0) (fun _ => [])) := HB1.out.keep ht2; clear ht2)
      | go_in)
    go_loopw [9] (fun s9 wr => ∃ (k : Nat) (u : List Nat) (cs : Nat → List Cut), k ≤ ln ∧ s9 = .int .i64 k ∧ Hid (PL W wr cB u cs)) (fun s9 _ => ln - (intOf s9).toNat)
    case atStart => exact ⟨0, _, _, Nat.zero_le _, rfl, HB2⟩
    case round =>
      obtain ⟨k, u, cs, hk, rfl, HX⟩ := hrel
      clear HB1 HB2
      by_cases hkl : k < ln
      · obtain ⟨o, hok⟩ : ∃ o, ops[k]? = some o := ⟨_, List.getElem?_eq_getElem (by rw [HLN.out]; exact hkl)⟩
        obtain ⟨sb, off, rfl, hsb, e0, e1, e2, e3, e4⟩ := HS.out.lies k o hok
        have hT := HX.out.1.trn
        rw [← hT.cell hsb (fun h => h)] at e0 e1 e2 e3 e4
        have hdo := does_any W wr cB u cs o HX.out (HS.out.oks o (List.mem_of_getElem? hok))
        obtain ⟨kind, of, n, al, wh⟩ := o
        clear hT hok
        simp only at e0 e1 e2 e3 e4
        unfold Op4.val at hdo
        simp only at hdo
        have hkz : (k : Int) < (ln : Int) := by omega
        go_wp2_with (first
          | (go_at_call 6; refine hdo.mono ?_; clear hdo; rintro e w3 ⟨rfl, u', cs', h3⟩; have HX3 : Hid (PL W w3 cB u' cs') := h3; clear h3)
          | go_in)
        go_roundw
        case rel => exact ⟨k + 1, u', cs', by omega, by go_num, HX3⟩
        case measure => simp [intOf]; omega
      · obtain rfl : k = ln := by omega
        go_wp2
        go_loopw [10] (fun s10 wq => ∃ i : Nat, i ≤ cn ∧ i ≤ 300 ∧ s10 = .int .i64 i ∧ Hid (PL W wq cB u cs)) (fun s10 _ => 300 - (intOf s10).toNat)
        case atStart => exact ⟨0, by omega, by omega, rfl, HX⟩
        case round =>
          obtain ⟨i, hi1, hi2, rfl, HY⟩ := hrel
          by_cases hc : i < cn ∧ i < 300
          · obtain ⟨hc1, hc2⟩ := hc
            have hz1 : (i : Int) < (cn : Int) := by omega
            have hz2 : (i : Int) < 300 := by omega
            have q1 := HY.out.1.c0
            have q2 := HY.out.1.c1
            have hP : ∀ (q : Nat) (f : Int), -9223372036854775808 ≤ f → f ≤ 9223372036854775807 → Calls Try.prog 7 #[.pointer (some ⟨cB.p, 0, none⟩), .int .i64 f] (wr.drewN q) fun e W' => e = .returned (.int .i64 (usesR cB.f0 u f)) ∧ ∃ m, W' = (wr.drewN q).drewN m := fun q f g1 g2 => uses_any _ cB.p cB.ub cB.f0 u f (HY.out.drewN q).1.pp g1 g2
            have hR : ∀ (q : Nat) (f : Int), Calls Try.prog 8 #[.pointer (some ⟨cB.r, 0, none⟩), .int .i64 f] (wr.drewN q) fun e W' => e = .returned (.int .i64 (usesR cB.f0 u f)) ∧ ∃ m, W' = (wr.drewN q).drewN m := fun q f => ruses_any _ cB.r cB.rb cB.f0 u f (HY.out.drewN q).1.rp
            go_wp2
            go_quiet ((first | (go_at_call 7; exact Calls.quiet_of (hP _ _ (by omega) (by omega))) | (go_at_call 8; exact Calls.quiet_of (hR _ _))))
            go_wp2
            go_roundw
            case rel => exact ⟨i + 1, by omega, by omega, by go_num, HY.out.drewN _⟩
            case measure => simp [intOf]; omega
          · have hlk := looks_any W wr cB u cs _ HY.out.1
            have HI : Hid (Inv cB.f0 u cs) := HY.out.2
            by_cases hc1 : i < cn
            · have hc2 : ¬ ((i : Int) < 300) := by omega
              have hz1 : (i : Int) < (cn : Int) := by omega
              clear hc
              go_wp2_with (first
                | (go_at_call 9; refine hlk.mono ?_; clear hlk; rintro e w4 ⟨rfl, hB4⟩; have hd1 := do_lists W w4 cB u cs 0 0 0 0 ⟨hB4, HI.out⟩; clear hB4)
                | (go_at_call 6; refine hd1.mono ?_; clear hd1; rintro e w5 ⟨rfl, hB5⟩; have hd2 := do_lists W w5 cB u cs 0 0 0 1 hB5; clear hB5)
                | (go_at_call 6; refine hd2.mono ?_; clear hd2; rintro e w6 ⟨rfl, hB6⟩; have HB6 : Hid (PL W w6 cB u cs) := hB6; clear hB6)
                | go_in)
              go_ret
              exact ⟨rfl, HB6.out.1.trn.to (fun _ h => h.elim) (Nat.le_refl _)⟩
            · have hz1 : ¬ ((i : Int) < (cn : Int)) := by omega
              clear hc
              go_wp2_with (first
                | (go_at_call 9; refine hlk.mono ?_; clear hlk; rintro e w4 ⟨rfl, hB4⟩; have hd1 := do_lists W w4 cB u cs 0 0 0 0 ⟨hB4, HI.out⟩; clear hB4)
                | (go_at_call 6; refine hd1.mono ?_; clear hd1; rintro e w5 ⟨rfl, hB5⟩; have hd2 := do_lists W w5 cB u cs 0 0 0 1 hB5; clear hB5)
                | (go_at_call 6; refine hd2.mono ?_; clear hd2; rintro e w6 ⟨rfl, hB6⟩; have HB6 : Hid (PL W w6 cB u cs) := hB6; clear hB6)
                | go_in)
              go_ret
              exact ⟨rfl, HB6.out.1.trn.to (fun _ h => h.elim) (Nat.le_refl _)⟩
  · have hb := begin_bad W first count hn
    have hlv := live_any W
    clear hn hs
    go_enter Try.func3, Try.ntmps3
    go_wp2_with (first
      | (go_at_call 4; refine hb.mono ?_; clear hb; rintro e w1 ⟨rfl, rfl⟩)
      | (go_at_call 5; refine hlv.mono ?_; clear hlv; rintro e w2 ⟨rfl, ht2⟩; have HT2 : Hid (Turn (fun _ => False) W w2) := ht2; clear ht2)
      | go_in)
    go_ret
    exact ⟨rfl, HT2.out.to (fun _ h => h.elim) (Nat.le_refl _)⟩
end Go.Proofs.Ytplobjdghaokoab
