import Derived.Test.YtfgfjodajjfbaaaDoorNuB
namespace Go.Proofs.YtfgfjodajjfbaaaDoor
open Go.RowKit
set_option linter.unusedVariables false

set_option maxRecDepth 100000 in
set_option maxHeartbeats 2000000 in
theorem refNumber_10a (s : ByteArray) (w : World) (hs : s.size ≤ 4611686018427387904) (hne : 0 < s.size) (h1 : s.size < 2) :
    Calls Tryd.prog 65 #[.string s] w fun e w' => e = .returned (.tuple #[.int .u64 (numV (numB s 10)), .int .i64 (numE (numB s 10))]) ∧ Below w.heap.size w w' := by
  have hne' : ((s.size : Int) == 0) = false := beq_eq_false_iff_ne.2 (by omega)
  have hd2 : decide ((2 : Int) ≤ (s.size : Int)) = false := by simp; omega
  go_enter Tryd.func65, Tryd.ntmps65
  go_wp2
  clear h1 hd2
  go_loopw [5, 6, 7] (fun x y _ w' => ∃ (pos f : Nat) (v : Int) (b : Bool), Below w.heap.size w w' ∧ x = .int .i64 v ∧ y = .int .i64 pos ∧ numFrom s 10 f pos v b = numB s 10 ∧ s.size ≤ pos + f ∧ pos ≤ s.size ∧ 0 ≤ v ∧ v < 1099511627776 ∧ (b = true → 0 < pos ∧ dg (bt s (pos - 1)) < 10) ∧ (b = false → pos = 0 ∨ (pos < s.size ∧ dg (bt s pos) < 10))) (fun _ y _ _ => s.size - (intOf y).toNat)
  case atStart => exact ⟨0, s.size, 0, false, Below.refl _ _, rfl, rfl, rfl, by omega, by omega, by omega, by omega, by simp, by simp⟩
  case round =>
    obtain ⟨pos, f, v, b, hB, rfl, rfl, hc, hf, hle, hv0, hv1, hb1, hb2⟩ := hrel
    have HC : Hid (_ = _) := hc
    have HB1 : Hid (b = true → 0 < pos ∧ dg (bt s (pos - 1)) < 10) := hb1
    have HB2 : Hid (b = false → pos = 0 ∨ (pos < s.size ∧ dg (bt s pos) < 10)) := hb2
    clear hc hb1 hb2
    by_cases hp : pos < s.size
    · have hbt := bt_get s pos hp
      have hbl := bt_lt s pos
      have hdb := dg_bd (bt s pos)
      by_cases h95 : bt s pos = 95
      · have h9 : ((bt s pos : Int) == 95) = true := by simp; omega
        have H95 : Hid (_ = _) := h95
        clear h95
        rcases Nat.eq_zero_or_pos pos with hz | hz
        · subst hz
          have hbf : b = false := by cases b with | false => rfl | true => exact absurd (HB1.out rfl).1 (by omega)
          subst hbf
          have HN : Hid (_ = _) := numFrom_bad (s := s) (v := v) (base := 10) (b := false) hp hf (by simp) (by rw [H95.out]; decide)
          go_wp2
          go_ret2
          exact ⟨ret_num (by rw [← HC.out, HN.out]; rfl) (by rw [← HC.out, HN.out]; rfl), hB⟩
        · have hbf : b = true := by
            cases b with
            | true => rfl
            | false =>
              rcases HB2.out rfl with h | h
              · omega
              · have := h.2; rw [H95.out] at this; exact absurd this (by decide)
          subst hbf
          obtain ⟨k, rfl⟩ : ∃ k, pos = k + 1 := ⟨pos - 1, by omega⟩
          have hprev := (HB1.out rfl).2
          rw [Nat.add_sub_cancel] at hprev
          have hbt0 := bt_get s k (by omega)
          have hbl0 := bt_lt s k
          have hdb0 := dg_bd (bt s k)
          have HW0 : Hid (wo (bt s k) 10 = dg (bt s k)) := if_neg (by omega)
          have hi0 : (((k : Int) + 1) == 0) = false := beq_eq_false_iff_ne.2 (by omega)
          by_cases hlast : k + 1 = s.size - 1
          · have hi1 : (((k : Int) + 1) == (s.size : Int) - 1) = true := beq_iff_eq.2 (by omega)
            have HN : Hid (numFrom s 10 f (k + 1) v true = none) := by
              obtain ⟨g, rfl, hg⟩ := numFrom_under (v := v) (base := 10) hp hf H95.out
              show _ = _
              rw [hg, numFrom_end _ _ _ _ _ _ (by omega)]
              rfl
            clear hlast
            go_wp2_with (go_at_call 72; refine (worth_any _ _ _ (by omega) (by omega) (by omega)).mono ?_; rintro e w' ⟨rfl, rfl⟩)
            go_ret2
            exact ⟨ret_num (by rw [← HC.out, HN.out]; rfl) (by rw [← HC.out, HN.out]; rfl), hB⟩
          · have hi1 : (((k : Int) + 1) == (s.size : Int) - 1) = false := beq_eq_false_iff_ne.2 (by omega)
            have hin2 : k + 2 < s.size := by omega
            have hbt2 := bt_get s (k + 2) hin2
            have hbl2 := bt_lt s (k + 2)
            have hdb2 := dg_bd (bt s (k + 2))
            have j0 : (0 : Int) ≤ (k : Int) + 1 - 1 := by omega
            have j2 : (k : Int) + 1 + 1 < (s.size : Int) := by omega
            clear hlast
            by_cases hn2 : 10 ≤ dg (bt s (k + 2))
            · have HN : Hid (numFrom s 10 f (k + 1) v true = none) := by
                obtain ⟨g, rfl, hg⟩ := numFrom_under (v := v) (base := 10) hp hf H95.out
                show _ = _
                rw [hg, numFrom_bad (by omega) (by omega) (by simp) hn2]
              have HW2 : Hid (wo (bt s (k + 2)) 10 = -1) := if_pos hn2
              go_wp2_with fail
              refine (worth_any _ _ _ (by omega) (by omega) (by omega)).mono ?_
              rintro e w' ⟨rfl, rfl⟩
              rw [HW0.out]
              go_wp2_with fail
              refine (worth_any _ _ _ (by omega) (by omega) (by omega)).mono ?_
              rintro e w' ⟨rfl, rfl⟩
              rw [HW2.out]
              go_wp2
              go_ret2
              exact ⟨ret_num (by rw [← HC.out, HN.out]; rfl) (by rw [← HC.out, HN.out]; rfl), hB⟩
            · have HW2 : Hid (wo (bt s (k + 2)) 10 = dg (bt s (k + 2))) := if_neg hn2
              go_wp2_with fail
              refine (worth_any _ _ _ (by omega) (by omega) (by omega)).mono ?_
              rintro e w' ⟨rfl, rfl⟩
              rw [HW0.out]
              go_wp2_with fail
              refine (worth_any _ _ _ (by omega) (by omega) (by omega)).mono ?_
              rintro e w' ⟨rfl, rfl⟩
              rw [HW2.out]
              go_wp2
              go_roundw
              case rel =>
                obtain ⟨g, rfl, hg⟩ := numFrom_under (v := v) (base := 10) hp hf H95.out
                exact ⟨k + 2, g, v, false, hB, rfl, by go_num, by rw [← hg]; exact HC.out, by omega, by omega, by omega, by omega, by simp, fun _ => .inr ⟨by omega, by omega⟩⟩
              case measure =>
                simp [intOf]
                omega
      · have h9 : ((bt s pos : Int) == 95) = false := by simp; omega
        by_cases hd : 10 ≤ dg (bt s pos)
        · have HN : Hid (_ = _) := numFrom_bad (s := s) (v := v) (base := 10) (b := b) hp hf (fun x => h95 x.1) hd
          have HW : Hid (wo (bt s pos) 10 = -1) := if_pos hd
          go_wp2_with (go_at_call 72; refine (worth_any _ _ _ (by omega) (by omega) (by omega)).mono ?_; rintro e w' ⟨rfl, rfl⟩; rw [HW.out])
          go_ret2
          exact ⟨ret_num (by rw [← HC.out, HN.out]; rfl) (by rw [← HC.out, HN.out]; rfl), hB⟩
        · have HW : Hid (wo (bt s pos) 10 = dg (bt s pos)) := if_neg hd
          by_cases hv : 1099511627776 ≤ v * 10 + dg (bt s pos)
          · have HN : Hid (_ = _) := numFrom_big (s := s) (v := v) (base := 10) (b := b) hp hf h95 hd hv
            go_wp2_with (go_at_call 72; refine (worth_any _ _ _ (by omega) (by omega) (by omega)).mono ?_; rintro e w' ⟨rfl, rfl⟩; rw [HW.out])
            go_ret2
            exact ⟨ret_num (by rw [← HC.out, HN.out]; rfl) (by rw [← HC.out, HN.out]; rfl), hB⟩
          · go_wp2_with (go_at_call 72; refine (worth_any _ _ _ (by omega) (by omega) (by omega)).mono ?_; rintro e w' ⟨rfl, rfl⟩; rw [HW.out])
            go_roundw
            case rel =>
              obtain ⟨g, rfl, hg⟩ := numFrom_step (s := s) (v := v) (base := 10) (b := b) hp hf h95 (by omega) (by omega)
              exact ⟨pos + 1, g, _, true, hB, rfl, by go_num, by rw [← hg]; exact HC.out, by omega, by omega, by omega, by omega, fun _ => ⟨by omega, by rw [Nat.add_sub_cancel]; omega⟩, by simp⟩
            case measure =>
              simp [intOf]
              omega
    · have hbf : b = true := by
        cases b with
        | true => rfl
        | false =>
          rcases HB2.out rfl with h | h
          · omega
          · omega
      subst hbf
      have HN : Hid (_ = _) := numFrom_end s 10 f pos v true hp
      go_wp2
      go_ret2
      exact ⟨ret_num (by rw [← HC.out, HN.out]; rfl) (by rw [← HC.out, HN.out]; rfl), hB⟩

set_option maxRecDepth 100000 in
set_option maxHeartbeats 2000000 in
theorem refNumber_10b (s : ByteArray) (w : World) (hs : s.size ≤ 4611686018427387904) (hne : 0 < s.size) (h2 : 2 ≤ s.size) (h0 : ¬ bt s 0 = 48) :
    Calls Tryd.prog 65 #[.string s] w fun e w' => e = .returned (.tuple #[.int .u64 (numV (numB s 10)), .int .i64 (numE (numB s 10))]) ∧ Below w.heap.size w w' := by
  have hne' : ((s.size : Int) == 0) = false := beq_eq_false_iff_ne.2 (by omega)
  have hb0 := bt_get s 0 (by omega)
  have g0 : ((bt s 0 : Int) == 48) = false := beq_eq_false_iff_ne.2 (by omega)
  go_enter Tryd.func65, Tryd.ntmps65
  go_wp2
  clear h2 h0 hb0 g0
  go_loopw [5, 6, 7] (fun x y _ w' => ∃ (pos f : Nat) (v : Int) (b : Bool), Below w.heap.size w w' ∧ x = .int .i64 v ∧ y = .int .i64 pos ∧ numFrom s 10 f pos v b = numB s 10 ∧ s.size ≤ pos + f ∧ pos ≤ s.size ∧ 0 ≤ v ∧ v < 1099511627776 ∧ (b = true → 0 < pos ∧ dg (bt s (pos - 1)) < 10) ∧ (b = false → pos = 0 ∨ (pos < s.size ∧ dg (bt s pos) < 10))) (fun _ y _ _ => s.size - (intOf y).toNat)
  case atStart => exact ⟨0, s.size, 0, false, Below.refl _ _, rfl, rfl, rfl, by omega, by omega, by omega, by omega, by simp, by simp⟩
  case round =>
    obtain ⟨pos, f, v, b, hB, rfl, rfl, hc, hf, hle, hv0, hv1, hb1, hb2⟩ := hrel
    have HC : Hid (_ = _) := hc
    have HB1 : Hid (b = true → 0 < pos ∧ dg (bt s (pos - 1)) < 10) := hb1
    have HB2 : Hid (b = false → pos = 0 ∨ (pos < s.size ∧ dg (bt s pos) < 10)) := hb2
    clear hc hb1 hb2
    by_cases hp : pos < s.size
    · have hbt := bt_get s pos hp
      have hbl := bt_lt s pos
      have hdb := dg_bd (bt s pos)
      by_cases h95 : bt s pos = 95
      · have h9 : ((bt s pos : Int) == 95) = true := by simp; omega
        have H95 : Hid (_ = _) := h95
        clear h95
        rcases Nat.eq_zero_or_pos pos with hz | hz
        · subst hz
          have hbf : b = false := by cases b with | false => rfl | true => exact absurd (HB1.out rfl).1 (by omega)
          subst hbf
          have HN : Hid (_ = _) := numFrom_bad (s := s) (v := v) (base := 10) (b := false) hp hf (by simp) (by rw [H95.out]; decide)
          go_wp2
          go_ret2
          exact ⟨ret_num (by rw [← HC.out, HN.out]; rfl) (by rw [← HC.out, HN.out]; rfl), hB⟩
        · have hbf : b = true := by
            cases b with
            | true => rfl
            | false =>
              rcases HB2.out rfl with h | h
              · omega
              · have := h.2; rw [H95.out] at this; exact absurd this (by decide)
          subst hbf
          obtain ⟨k, rfl⟩ : ∃ k, pos = k + 1 := ⟨pos - 1, by omega⟩
          have hprev := (HB1.out rfl).2
          rw [Nat.add_sub_cancel] at hprev
          have hbt0 := bt_get s k (by omega)
          have hbl0 := bt_lt s k
          have hdb0 := dg_bd (bt s k)
          have HW0 : Hid (wo (bt s k) 10 = dg (bt s k)) := if_neg (by omega)
          have hi0 : (((k : Int) + 1) == 0) = false := beq_eq_false_iff_ne.2 (by omega)
          by_cases hlast : k + 1 = s.size - 1
          · have hi1 : (((k : Int) + 1) == (s.size : Int) - 1) = true := beq_iff_eq.2 (by omega)
            have HN : Hid (numFrom s 10 f (k + 1) v true = none) := by
              obtain ⟨g, rfl, hg⟩ := numFrom_under (v := v) (base := 10) hp hf H95.out
              show _ = _
              rw [hg, numFrom_end _ _ _ _ _ _ (by omega)]
              rfl
            clear hlast
            go_wp2_with (go_at_call 72; refine (worth_any _ _ _ (by omega) (by omega) (by omega)).mono ?_; rintro e w' ⟨rfl, rfl⟩)
            go_ret2
            exact ⟨ret_num (by rw [← HC.out, HN.out]; rfl) (by rw [← HC.out, HN.out]; rfl), hB⟩
          · have hi1 : (((k : Int) + 1) == (s.size : Int) - 1) = false := beq_eq_false_iff_ne.2 (by omega)
            have hin2 : k + 2 < s.size := by omega
            have hbt2 := bt_get s (k + 2) hin2
            have hbl2 := bt_lt s (k + 2)
            have hdb2 := dg_bd (bt s (k + 2))
            have j0 : (0 : Int) ≤ (k : Int) + 1 - 1 := by omega
            have j2 : (k : Int) + 1 + 1 < (s.size : Int) := by omega
            clear hlast
            by_cases hn2 : 10 ≤ dg (bt s (k + 2))
            · have HN : Hid (numFrom s 10 f (k + 1) v true = none) := by
                obtain ⟨g, rfl, hg⟩ := numFrom_under (v := v) (base := 10) hp hf H95.out
                show _ = _
                rw [hg, numFrom_bad (by omega) (by omega) (by simp) hn2]
              have HW2 : Hid (wo (bt s (k + 2)) 10 = -1) := if_pos hn2
              go_wp2_with fail
              refine (worth_any _ _ _ (by omega) (by omega) (by omega)).mono ?_
              rintro e w' ⟨rfl, rfl⟩
              rw [HW0.out]
              go_wp2_with fail
              refine (worth_any _ _ _ (by omega) (by omega) (by omega)).mono ?_
              rintro e w' ⟨rfl, rfl⟩
              rw [HW2.out]
              go_wp2
              go_ret2
              exact ⟨ret_num (by rw [← HC.out, HN.out]; rfl) (by rw [← HC.out, HN.out]; rfl), hB⟩
            · have HW2 : Hid (wo (bt s (k + 2)) 10 = dg (bt s (k + 2))) := if_neg hn2
              go_wp2_with fail
              refine (worth_any _ _ _ (by omega) (by omega) (by omega)).mono ?_
              rintro e w' ⟨rfl, rfl⟩
              rw [HW0.out]
              go_wp2_with fail
              refine (worth_any _ _ _ (by omega) (by omega) (by omega)).mono ?_
              rintro e w' ⟨rfl, rfl⟩
              rw [HW2.out]
              go_wp2
              go_roundw
              case rel =>
                obtain ⟨g, rfl, hg⟩ := numFrom_under (v := v) (base := 10) hp hf H95.out
                exact ⟨k + 2, g, v, false, hB, rfl, by go_num, by rw [← hg]; exact HC.out, by omega, by omega, by omega, by omega, by simp, fun _ => .inr ⟨by omega, by omega⟩⟩
              case measure =>
                simp [intOf]
                omega
      · have h9 : ((bt s pos : Int) == 95) = false := by simp; omega
        by_cases hd : 10 ≤ dg (bt s pos)
        · have HN : Hid (_ = _) := numFrom_bad (s := s) (v := v) (base := 10) (b := b) hp hf (fun x => h95 x.1) hd
          have HW : Hid (wo (bt s pos) 10 = -1) := if_pos hd
          go_wp2_with (go_at_call 72; refine (worth_any _ _ _ (by omega) (by omega) (by omega)).mono ?_; rintro e w' ⟨rfl, rfl⟩; rw [HW.out])
          go_ret2
          exact ⟨ret_num (by rw [← HC.out, HN.out]; rfl) (by rw [← HC.out, HN.out]; rfl), hB⟩
        · have HW : Hid (wo (bt s pos) 10 = dg (bt s pos)) := if_neg hd
          by_cases hv : 1099511627776 ≤ v * 10 + dg (bt s pos)
          · have HN : Hid (_ = _) := numFrom_big (s := s) (v := v) (base := 10) (b := b) hp hf h95 hd hv
            go_wp2_with (go_at_call 72; refine (worth_any _ _ _ (by omega) (by omega) (by omega)).mono ?_; rintro e w' ⟨rfl, rfl⟩; rw [HW.out])
            go_ret2
            exact ⟨ret_num (by rw [← HC.out, HN.out]; rfl) (by rw [← HC.out, HN.out]; rfl), hB⟩
          · go_wp2_with (go_at_call 72; refine (worth_any _ _ _ (by omega) (by omega) (by omega)).mono ?_; rintro e w' ⟨rfl, rfl⟩; rw [HW.out])
            go_roundw
            case rel =>
              obtain ⟨g, rfl, hg⟩ := numFrom_step (s := s) (v := v) (base := 10) (b := b) hp hf h95 (by omega) (by omega)
              exact ⟨pos + 1, g, _, true, hB, rfl, by go_num, by rw [← hg]; exact HC.out, by omega, by omega, by omega, by omega, fun _ => ⟨by omega, by rw [Nat.add_sub_cancel]; omega⟩, by simp⟩
            case measure =>
              simp [intOf]
              omega
    · have hbf : b = true := by
        cases b with
        | true => rfl
        | false =>
          rcases HB2.out rfl with h | h
          · omega
          · omega
      subst hbf
      have HN : Hid (_ = _) := numFrom_end s 10 f pos v true hp
      go_wp2
      go_ret2
      exact ⟨ret_num (by rw [← HC.out, HN.out]; rfl) (by rw [← HC.out, HN.out]; rfl), hB⟩

end Go.Proofs.YtfgfjodajjfbaaaDoor
