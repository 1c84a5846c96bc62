import Derived.Test.YtaahbklganhfkaaFieldsA
namespace Go.Proofs.Ytaahbklganhfkaa
open Go.RowKit
set_option linter.unusedVariables false

theorem rune_ahead (s : ByteArray) (pos : Nat) (h : pos < hpos s) : rl s pos = (Utf8.decode (ahead s) pos).2 ∧ blk (rr s pos) = blk ((Utf8.decode (ahead s) pos).1 : Int) := by
  rw [blk_rr, ahead_dec s pos h]
  exact ⟨rfl, rfl⟩

set_option maxRecDepth 100000 in
set_option maxHeartbeats 2000000 in
/-- atlasref01.Fields. -/
theorem refFields_any (s : ByteArray) (w : World) (hs : s.size ≤ 2097152) :
    Calls Try.prog 16 #[.string s] w fun e w' => ∃ v, e = .returned v ∧ Owns w.heap.size w' v (fieldsB (ahead s)) ∧ Below w.heap.size w w' := by
  obtain ⟨i0, hi, hz0, hz1, hz2⟩ := info_parts info9
  have hhs := hpos_le s
  have hts := ahead_size s
  have HTS : Hid (_ = _) := hts
  clear hts
  go_enter Try.func16, Try.ntmps16
  go_wp2
  go_loopw [3, 4, 5, 6, 7] (fun v y z _ _ w' => ∃ (pos f : Nat) (st : Int) (acc : List ByteArray), Below w.heap.size w w' ∧ Owns w.heap.size w' v acc ∧ y = .int .i64 st ∧ z = .int .i64 pos ∧ acc ++ fieldsFrom (ahead s) f pos st = fieldsB (ahead s) ∧ hpos s ≤ pos + f ∧ acc.length ≤ pos ∧ -1 ≤ st ∧ st ≤ pos ∧ pos ≤ hpos s) (fun _ _ z _ _ _ => hpos s - (intOf z).toNat)
  case atStart => exact ⟨0, hpos s, -1, [], Below.refl _ _, owns_nil _ _, rfl, rfl, by unfold fieldsB; rw [HTS.out]; rfl, by omega, by simp, by omega, by omega, by omega⟩
  case round =>
    obtain ⟨pos, f, st, acc, hB, hown, rfl, rfl, hc, hf, hl, hst0, hst1, hle⟩ := hrel
    have HC : Hid (_ = _) := hc
    clear hc
    by_cases hp : pos < hpos s
    · have hps : pos < s.size := by omega
      have hpt : pos < (ahead s).size := by rw [HTS.out]; exact hp
      have hft : (ahead s).size ≤ pos + f := by rw [HTS.out]; exact hf
      have HPT : Hid (pos < (ahead s).size) := hpt
      have HFT : Hid ((ahead s).size ≤ pos + f) := hft
      have hbt := bt_get s pos hps
      have hne : ((bt s pos : Int) != 35) = true := by have := hpos_ne s pos hp; rw [bne_iff_ne]; omega
      have hwd := rl_bd s pos
      have hra := rune_ahead s pos hp
      have hin : pos + rl s pos ≤ hpos s := by
        have := rl_in (ahead s) pos hpt
        rw [HTS.out] at this
        rw [hra.1]
        exact this
      have HR : Hid (∀ W, RuneSaid s pos W) := fun W => rune_any s pos W hps (by omega)
      unfold RuneSaid at HR
      have HBE : Hid (_ = _) := hra.2
      have HRL : Hid (_ = _) := hra.1
      clear hra hpt hft
      have HD : Hid (∀ {u : World}, (∃ q, u = wr.drewN q) → w.heap.size ≤ u.heap.size ∧ Owns w.heap.size u u3 acc ∧ Below w.heap.size w u) := by
        rintro u ⟨q, rfl⟩
        exact ⟨hB.size, owns_drewN hown q, below_drewN hB q⟩
      cases hb : blk (rr s pos)
      · have HBK : Hid (_ = _) := hb
        have HBD : Hid (blk ((Utf8.decode (ahead s) pos).1 : Int) = false) := HBE.out.symm.trans hb
        clear hb
        by_cases hst : 0 ≤ st
        · go_wp2_with (first | (go_at_call 17; refine (HR.out _).mono ?_; rintro e u ⟨rfl, hdr⟩; have hB2 := HD.out hdr; have hsz2 := hB2.1; have hown2 := hB2.2.1; have hbel2 := hB2.2.2; clear hB2 hdr) | (go_at_call 26; refine (blank_any _ _).mono ?_; rintro e u2 ⟨rfl, rfl⟩; rw [HBK.out]))
          go_roundw
          case rel =>
            obtain ⟨g, rfl, hg⟩ := fields_in HPT.out HFT.out HBD.out hst
            exact ⟨pos + rl s pos, g, st, acc, by assumption, by assumption, rfl, by go_num, by rw [HRL.out, ← hg]; exact HC.out, by omega, by omega, hst0, by omega, hin⟩
          case measure =>
            simp [intOf]
            omega
        · have hstn : st < 0 := by omega
          go_wp2_with (first | (go_at_call 17; refine (HR.out _).mono ?_; rintro e u ⟨rfl, hdr⟩; have hB2 := HD.out hdr; have hsz2 := hB2.1; have hown2 := hB2.2.1; have hbel2 := hB2.2.2; clear hB2 hdr) | (go_at_call 26; refine (blank_any _ _).mono ?_; rintro e u2 ⟨rfl, rfl⟩; rw [HBK.out]))
          go_roundw
          case rel =>
            obtain ⟨g, rfl, hg⟩ := fields_on (st := st) HPT.out HFT.out HBD.out (by omega)
            exact ⟨pos + rl s pos, g, pos, acc, by assumption, by assumption, rfl, by go_num, by rw [HRL.out, ← hg]; exact HC.out, by omega, by omega, by omega, by omega, hin⟩
          case measure =>
            simp [intOf]
            omega
      · have HBK : Hid (_ = _) := hb
        have HBD : Hid (blk ((Utf8.decode (ahead s) pos).1 : Int) = true) := HBE.out.symm.trans hb
        clear hb
        by_cases hst : 0 ≤ st
        · obtain ⟨k, rfl⟩ := Int.eq_ofNat_of_zero_le hst
          have hk1 : (k : Int) ≤ (pos : Int) := hst1
          have hk2 : (pos : Int) ≤ (s.size : Int) := by omega
          go_wp2_with (first | (go_at_call 17; refine (HR.out _).mono ?_; rintro e u ⟨rfl, hdr⟩; have hB2 := HD.out hdr; have hsz2 := hB2.1; have hown2 := hB2.2.1; have hbel2 := hB2.2.2; clear hB2 hdr) | (go_at_call 26; refine (blank_any _ _).mono ?_; rintro e u2 ⟨rfl, rfl⟩; rw [HBK.out]) | (at_builtin; refine wpList_append_own _ rfl _ _ 29 rfl w.heap.size 9 i0 (.string ⟨#[]⟩) 1 16 Try.underlying29 hi hz0 hz1 hz2 rfl (by decide) _ _ _ rfl (World.ownsRow.alloc hown2 _) ⟨u.heap.size, 0, none⟩ 1 1 [.string (s.extract k pos)] rfl rfl ?c1 ?c2 ?c3 ?c4 ?c5 ?_))
          case c1 => exact cell_new u _ _
          case c2 => intro y hy; simp at hy; subst hy; rfl
          case c3 => unfold maxLen; omega
          case c4 => omega
          case c5 => simp; omega
          · intro v' w1 hown3 hgrow _
            obtain ⟨hB3, hsz3, hown4, hkeep⟩ := app_step (Nat.le_refl _) hbel2 hsz2 hown2 hown3 hgrow
            clear hown3 hgrow hkeep hown2
            go_wp2
            go_roundw
            case rel =>
              obtain ⟨g, rfl, hg⟩ := fields_cut HPT.out HFT.out HBD.out hst
              refine ⟨pos + rl s pos, g, -1, acc ++ [s.extract k pos], hB3, hown4, rfl, by go_num, ?_, by omega, by simp; omega, by omega, by omega, hin⟩
              rw [← HC.out, hg, HRL.out, ← ahead_cut s k pos hle]
              simp
            case measure =>
              simp [intOf]
              omega
        · have hstn : st < 0 := by omega
          go_wp2_with (first | (go_at_call 17; refine (HR.out _).mono ?_; rintro e u ⟨rfl, hdr⟩; have hB2 := HD.out hdr; have hsz2 := hB2.1; have hown2 := hB2.2.1; have hbel2 := hB2.2.2; clear hB2 hdr) | (go_at_call 26; refine (blank_any _ _).mono ?_; rintro e u2 ⟨rfl, rfl⟩; rw [HBK.out]))
          go_roundw
          case rel =>
            obtain ⟨g, rfl, hg⟩ := fields_skip (st := st) HPT.out HFT.out HBD.out (by omega)
            exact ⟨pos + rl s pos, g, -1, acc, by assumption, by assumption, by go_num, by go_num, by rw [HRL.out, ← hg]; exact HC.out, by omega, by omega, by omega, by omega, hin⟩
          case measure =>
            simp [intOf]
            omega
    · have heq : pos = hpos s := by omega
      have HE : Hid (_ = _) := fields_end (t := ahead s) (f := f) (st := st) (pos := pos) (by rw [HTS.out]; exact hp)
      have HEQ : Hid (_ = _) := heq
      have hps : pos ≤ s.size := by omega
      have HCUT : Hid (∀ a : Nat, (ahead s).extract a (ahead s).size = s.extract a pos) := fun a => by rw [HTS.out, ahead_cut s a _ (Nat.le_refl _), heq]
      have hsw : (pos < s.size ∧ ((bt s pos : Int) != 35) = false) ∨ ¬ pos < s.size := by
        by_cases hlt : pos < s.size
        · left
          refine ⟨hlt, ?_⟩
          have h35 : bt s pos = 35 := by rw [heq]; exact hpos_at s (by omega)
          rw [h35]
          rfl
        · exact .inr hlt
      clear heq
      rcases hsw with ⟨hlt, h35⟩ | hlt
      · have hbt := bt_get s pos hlt
        by_cases hst : 0 ≤ st
        · obtain ⟨k, rfl⟩ := Int.eq_ofNat_of_zero_le hst
          have hk1 : (k : Int) ≤ (pos : Int) := hst1
          have hk2 : (pos : Int) ≤ (s.size : Int) := by omega
          go_wp2_with (at_builtin; refine wpList_append_own _ rfl _ _ 29 rfl w.heap.size 9 i0 (.string ⟨#[]⟩) 1 16 Try.underlying29 hi hz0 hz1 hz2 rfl (by decide) _ _ _ rfl (World.ownsRow.alloc hown _) ⟨wr.heap.size, 0, none⟩ 1 1 [.string (s.extract k pos)] rfl rfl ?c1 ?c2 ?c3 ?c4 ?c5 ?_)
          case c1 => exact cell_new wr _ _
          case c2 => intro y hy; simp at hy; subst hy; rfl
          case c3 => unfold maxLen; omega
          case c4 => omega
          case c5 => have := hB.size; simp; omega
          · intro v' w1 hown3 hgrow _
            obtain ⟨hB3, hsz3, hown4, hkeep⟩ := app_step (Nat.le_refl _) hB hB.size hown hown3 hgrow
            clear hown3 hgrow hkeep
            go_wp2
            go_ret
            refine ⟨_, rfl, ?_, hB3⟩
            rw [← HC.out, HE.out, if_pos hst, HCUT.out]
            exact hown4
        · have hstn : st < 0 := by omega
          go_wp2
          go_ret
          refine ⟨_, rfl, ?_, hB⟩
          rw [← HC.out, HE.out, if_neg (by omega), List.append_nil]
          exact hown
      · have hd : decide ((pos : Int) < (s.size : Int)) = false := by simp; omega
        by_cases hst : 0 ≤ st
        · obtain ⟨k, rfl⟩ := Int.eq_ofNat_of_zero_le hst
          have hk1 : (k : Int) ≤ (pos : Int) := hst1
          have hk2 : (pos : Int) ≤ (s.size : Int) := by omega
          go_wp2_with (at_builtin; refine wpList_append_own _ rfl _ _ 29 rfl w.heap.size 9 i0 (.string ⟨#[]⟩) 1 16 Try.underlying29 hi hz0 hz1 hz2 rfl (by decide) _ _ _ rfl (World.ownsRow.alloc hown _) ⟨wr.heap.size, 0, none⟩ 1 1 [.string (s.extract k pos)] rfl rfl ?c1 ?c2 ?c3 ?c4 ?c5 ?_)
          case c1 => exact cell_new wr _ _
          case c2 => intro y hy; simp at hy; subst hy; rfl
          case c3 => unfold maxLen; omega
          case c4 => omega
          case c5 => have := hB.size; simp; omega
          · intro v' w1 hown3 hgrow _
            obtain ⟨hB3, hsz3, hown4, hkeep⟩ := app_step (Nat.le_refl _) hB hB.size hown hown3 hgrow
            clear hown3 hgrow hkeep
            go_wp2
            go_ret
            refine ⟨_, rfl, ?_, hB3⟩
            rw [← HC.out, HE.out, if_pos hst, HCUT.out]
            exact hown4
        · have hstn : st < 0 := by omega
          go_wp2
          go_ret
          refine ⟨_, rfl, ?_, hB⟩
          rw [← HC.out, HE.out, if_neg (by omega), List.append_nil]
          exact hown
end Go.Proofs.Ytaahbklganhfkaa
