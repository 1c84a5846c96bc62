import Derived.Test.YtplobjdghaokoaaMo
import Derived.BigQuiet
namespace Go.Proofs.Ytplobjdghaokoaa
open Go.RowKit
set_option linter.unusedVariables false

set_option maxHeartbeats 2000000 in
theorem within_any (W : World) (a : Option Addr) (ca : Nat) (A : List Int) (x : Int) (ha : IAt W a A) (hl : A.length ≤ 140737488355328) :
    Calls Try.prog 46 #[.slice a A.length ca, .int .i64 x] W fun e W' => e = .returned (.bool (decide (x ∈ A))) ∧ W = W' := by
  have HA : Hid (IAt W a A) := ha
  clear ha
  generalize hn : A.length = n at *
  have HN : Hid (A.length = n) := hn
  clear hn
  go_enter Try.func46, Try.ntmps46
  go_wp2
  go_loop [5] (fun i => ∃ k : Nat, k ≤ n ∧ i = .int .i64 k ∧ Hid (x ∉ A.take k)) (fun i => n - (intOf i).toNat)
  case atStart => exact ⟨0, Nat.zero_le _, rfl, by show _ ∉ _; simp⟩
  case round =>
    obtain ⟨k, hk, rfl, HE⟩ := hrel
    by_cases hlt : k < n
    · obtain ⟨y, hy⟩ : ∃ y, A[k]? = some y := ⟨_, List.getElem?_eq_getElem (by rw [HN.out]; omega)⟩
      obtain ⟨g, rfl, _, hc⟩ := HA.out k y hy
      have HY : Hid (A[k]? = some y) := hy
      clear hy
      have hkz : (k : Int) < (n : Int) := by omega
      by_cases hxy : y = x
      · subst hxy
        go_wp2
        go_ret
        exact ⟨ret_bool (decide_eq_true (List.mem_of_getElem? HY.out)).symm, rfl⟩
      · go_wp2
        go_round
        case rel =>
          refine ⟨k + 1, by omega, by go_num, ?_⟩
          show x ∉ _
          rw [take_snoc A HY.out, List.mem_append]
          rintro (h | h)
          · exact HE.out h
          · simp at h; exact hxy h.symm
        case measure => simp [intOf]; omega
    · have HF : Hid (x ∉ A) := by
        have := HE.out
        rw [List.take_of_length_le (by rw [HN.out]; omega)] at this
        exact this
      go_wp2
      go_ret
      exact ⟨ret_bool (decide_eq_false HF.out).symm, rfl⟩

set_option maxHeartbeats 16000000 in
set_option maxRecDepth 100000 in
theorem fitted_any (W : World) (a b : Option Addr) (ca cb : Nat) (cs : List Cut) (ha : IAt W a (framesL cs)) (hb : IAt W b (tabsL cs)) (hs : Srt cs) (hany : ∀ c ∈ cs, c.any = true) (hfb : ∀ c ∈ cs, c.f < 268435456) :
    Calls Try.prog 29 #[.slice a (framesL cs).length ca, .slice b (tabsL cs).length cb] W fun e W' => e = .returned (.bool true) ∧ ∃ q, W' = W.drewN q := by
  have HA : Hid (IAt W a (framesL cs)) := ha
  have HB : Hid (IAt W b (tabsL cs)) := hb
  have HC : Hid (Srt cs ∧ (∀ c ∈ cs, c.any = true) ∧ ∀ c ∈ cs, c.f < 268435456) := ⟨hs, hany, hfb⟩
  have hlen := srt_len hs hfb
  have htl : (tabsL cs).length ≤ 1073741824 := by have := tabsL_len cs; omega
  clear ha hb hs hany hfb
  rw [framesL_len]
  generalize hn : cs.length = n at *
  have HN : Hid (cs.length = n) := hn
  generalize hm : (tabsL cs).length = m at *
  have HM : Hid ((tabsL cs).length = m) := hm
  clear hn hm
  go_enter Try.func29, Try.ntmps29
  go_wp2
  go_loopw [5] (fun i wr => ∃ k : Nat, (k = 0 ∨ k + 1 ≤ m) ∧ i = .int .i64 ((k : Int) + 1) ∧ ∃ q, wr = W.drewN q) (fun i _ => m - (intOf i).toNat)
  case atStart => exact ⟨0, .inl rfl, rfl, 0, rfl⟩
  case round =>
    obtain ⟨k, hk, rfl, q, rfl⟩ := hrel
    by_cases hlt : k + 1 < m
    · obtain ⟨x, hx⟩ : ∃ x, (tabsL cs)[k]? = some x := ⟨_, List.getElem?_eq_getElem (by rw [HM.out]; omega)⟩
      obtain ⟨y, hy⟩ : ∃ y, (tabsL cs)[k + 1]? = some y := ⟨_, List.getElem?_eq_getElem (by rw [HM.out]; omega)⟩
      obtain ⟨g, rfl, _, hc⟩ := HB.out k x hx
      obtain ⟨g', hgg, _, hc'⟩ := HB.out (k + 1) y hy
      cases hgg
      have hxy : x < y := inc_at (inc_tabsL HC.out.1) hx hy (by omega)
      have hxn : ¬ (y ≤ x) := by omega
      clear hx hy
      have hkz : (k : Int) + 1 < (m : Int) := by omega
      go_wp2
      go_quiet (fail)
      go_wp2
      go_roundw
      case rel => exact ⟨k + 1, .inr (by omega), by go_num, _, rfl⟩
      case measure => simp [intOf]; omega
    · have hkz : ¬ ((k : Int) + 1 < (m : Int)) := by omega
      clear hk hlt
      go_wp2
      go_loopw [6, 7] (fun s6 s7 wr => ∃ i : Nat, i ≤ n ∧ s7 = .int .i64 i ∧ (∃ j : Nat, s6 = .int .i64 j ∧ Hid (j = (tabsL (cs.take i)).length)) ∧ ∃ q, wr = W.drewN q) (fun s6 s7 _ => n - (intOf s7).toNat)
      case atStart => exact ⟨0, Nat.zero_le _, rfl, ⟨0, rfl, by show _ = _; simp [tabsL]⟩, q, rfl⟩
      case round =>
        obtain ⟨i, hi, rfl, ⟨j, rfl, HJ⟩, q, rfl⟩ := hrel
        clear hkz
        by_cases hlt : i < n
        · obtain ⟨c, hc⟩ : ∃ c, cs[i]? = some c := ⟨_, List.getElem?_eq_getElem (by rw [HN.out]; omega)⟩
          have HCI : Hid (cs[i]? = some c) := hc
          obtain ⟨g, rfl, _, hcf⟩ := HA.out i _ (framesL_at hc)
          have hfb := HC.out.2.2 c (List.mem_of_getElem? hc)
          have hiz : (i : Int) < (n : Int) := by omega
          have hjm : j ≤ m := by rw [HJ.out, ← HM.out]; exact fit_le i
          have HR : Hid (∀ i0 : Nat, i = i0 + 1 → ∃ f' : Nat, W.cell? ⟨g, i0, none⟩ = some (.int .i64 (f' : Int)) ∧ f' < c.f) := fun i0 e => by
            subst e
            obtain ⟨d, hd⟩ : ∃ d, cs[i0]? = some d := ⟨_, List.getElem?_eq_getElem (by rw [HN.out]; omega)⟩
            obtain ⟨g2, e2, _, hd2⟩ := HA.out i0 _ (framesL_at hd)
            cases e2
            exact ⟨d.f, hd2, srt_at HC.out.1 hd hc (by omega)⟩
          clear hc
          have key : ∀ q : Nat, True := fun _ => trivial
          clear key
          have hcase : (¬ ((0 : Int) < (i : Int))) ∨ ∃ i0 : Nat, (i : Int) = (i0 : Int) + 1 ∧ ((0 : Int) < (i : Int)) ∧ i = i0 + 1 := by
            rcases Nat.eq_zero_or_pos i with h | h
            · left; omega
            · right; exact ⟨i - 1, by omega, by omega, by omega⟩
          rcases hcase with h0 | ⟨i0, hi1, h0, hi2⟩
          have hd1 : decide ((0 : Int) < (i : Int)) = false := decide_eq_false h0
          have hd2 : decide (0 < i) = false := decide_eq_false (by omega)
          clear HR
          go_wp2
          go_quiet (fail)
          go_wp2
          clear hd1 hd2 h0
          rotate_left
          obtain ⟨f', hf1, hf2⟩ := HR.out i0 hi2
          have hf3 : ¬ ((c.f : Int) ≤ (f' : Int)) := by omega
          have hw : IntKind.i64.wrap ((i : Int) - 1) = (i0 : Int) := by rw [IntKind.wrap_i64] <;> omega
          have hd1 : decide ((0 : Int) < (i : Int)) = true := decide_eq_true h0
          have hd2 : decide (0 < i) = true := decide_eq_true (by omega)
          have hi0n : (i0 : Int) < (n : Int) := by omega
          clear HR hi1 hi2
          go_wp2
          go_quiet (fail)
          go_wp2
          clear hd1 hd2 hi0n hw hf3 hf1 hf2 h0
          rotate_left
          all_goals
            go_loopw [6, 8] (fun s6 s8 wr => ∃ t jj : Nat, s8 = .int .i64 t ∧ s6 = .int .i64 jj ∧ t ≤ 4 ∧ jj ≤ m ∧ Hid (jj = j + t ∧ t ≤ c.tabs.length) ∧ ∃ q, wr = W.drewN q) (fun s6 _ _ => m - (intOf s6).toNat)
            case atStart => exact ⟨0, j, rfl, rfl, by omega, hjm, ⟨rfl, Nat.zero_le _⟩, _, World.drewN_drewN _ _ _⟩
            case round =>
              obtain ⟨t, jj, rfl, rfl, ht4, hjjm, HT, q2, rfl⟩ := hrel
              by_cases htt : t < c.tabs.length
              · obtain ⟨y, hy, hy4⟩ := fit_in HCI.out htt
                rw [← HJ.out, ← HT.out.1] at hy
                obtain ⟨gb, rfl, _, hcy⟩ := HB.out jj y hy
                have hjz : jj < m := by have := (List.getElem?_eq_some_iff.1 hy).1; rw [HM.out] at this; exact this
                have ht4 : t < 4 := by have := tabsTo_len c 4; unfold Cut.tabs at htt; omega
                obtain ⟨y1, y2⟩ := tabsL_bd HC.out.2.2 y (List.mem_of_getElem? hy)
                have hjd : decide ((jj : Int) < (m : Int)) = true := decide_eq_true (by omega)
                have hjd2 : decide (jj < m) = true := decide_eq_true hjz
                have HTT : Hid (t < c.tabs.length) := htt
                clear hy htt
                go_wp2
                go_quiet (fail)
                go_wp2
                go_roundw
                case rel => exact ⟨t + 1, jj + 1, by go_num, by go_num, by omega, by omega, ⟨by have := HT.out.1; omega, HTT.out⟩, _, rfl⟩
                case measure => simp [intOf]; omega
              · have hte : t = c.tabs.length := by have := HT.out.2; omega
                have HJ2 : Hid (jj = (tabsL (cs.take (i + 1))).length) := by
                  show _ = _
                  rw [base_succ HCI.out, ← HJ.out, ← hte]
                  exact HT.out.1
                have ht0 : t ≠ 0 := by
                  intro e
                  rw [e] at hte
                  exact tabs_ne (HC.out.2.1 c (List.mem_of_getElem? HCI.out)) (List.length_eq_zero_iff.1 hte.symm)
                have ht0z : ¬ ((t : Int) = 0) := by omega
                have HTE : Hid (t = c.tabs.length) := hte
                clear htt hte
                by_cases hjz : jj < m
                · obtain ⟨y, hy⟩ : ∃ y, (tabsL cs)[jj]? = some y := ⟨_, List.getElem?_eq_getElem (by rw [HM.out]; omega)⟩
                  have hy4 : ¬ (y / 4 = (c.f : Int)) := fit_out HC.out.1 HCI.out (by rw [← HJ.out, ← HTE.out, ← HT.out.1]; exact hy)
                  obtain ⟨gb, rfl, _, hcy⟩ := HB.out jj y hy
                  obtain ⟨y1, y2⟩ := tabsL_bd HC.out.2.2 y (List.mem_of_getElem? hy)
                  have hjd : decide ((jj : Int) < (m : Int)) = true := decide_eq_true (by omega)
                  have hjd2 : decide (jj < m) = true := decide_eq_true hjz
                  clear hy
                  go_wp2
                  go_quiet (fail)
                  go_wp2
                  go_roundw
                  case rel => exact ⟨i + 1, by omega, by go_num, ⟨jj, rfl, HJ2⟩, _, rfl⟩
                  case measure => simp [intOf]; omega
                · have hjd : decide ((jj : Int) < (m : Int)) = false := decide_eq_false (by omega)
                  have hjd2 : decide (jj < m) = false := decide_eq_false hjz
                  go_wp2
                  go_quiet (fail)
                  go_wp2
                  go_roundw
                  case rel => exact ⟨i + 1, by omega, by go_num, ⟨jj, rfl, HJ2⟩, _, rfl⟩
                  case measure => simp [intOf]; omega
        · obtain rfl : i = n := by omega
          have hjm : j = m := by
            have := HJ.out
            rw [List.take_of_length_le (by rw [HN.out]; omega), HM.out] at this
            exact this
          subst hjm
          go_wp2
          go_ret
          exact ⟨rfl, _, rfl⟩
end Go.Proofs.Ytplobjdghaokoaa
